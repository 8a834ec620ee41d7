import PyProof.Rows.All
import Wide.All
import OpenK.AllK
import Wide.FinOn
import HandS.ForMost
import HandS.Conv
import HandS.DictTup
import HandS.TupLen
import HandS.Walk
import KE.SortData
import KE.DataCmp
import KE.GoesMore
import KE.GoesEnum
import HandS.Zip
import HandS.TupAny
import HandS.IsInst
import HandS.Deep
import HandS.Steps
import HandS.Lambda
import HandS.TupMul
import HandS.ForExc
import KE.DataMinMax
import HandS.SetFor
import KE.KDictSum
import HandS.Style
import HandS.Text
import HandS.SortKw
import PyProof.ReprRoads
import PyProof.ReprLen
import HandS.WordsExc
import HandS.TryMany
import HandS.EndTab
import KE.DatumOrd
import PySem.Challenge.RW_hingemount_k44_owners_and_deals_refused
set_option Elab.async false
set_option maxRecDepth 100000
set_option maxHeartbeats 4000000
namespace HmS
open PySem PySem.Spec PyProof.Rows L2
/-! ### keys as data -/
def kD : Key → PyData
  | .inl i => .int i
  | .inr x => .str x
def keyD (k : List Key) : PyData := .tuple (k.map kD)
section
variable {X : Cx} {pins : List (Addr × Obj)} {σ : L2.St} {H : Hp} {s : Shared}
theorem key_atoms : ∀ {k : List Key} {us : List Value}, Vals (k.map kV) us → ReadsAll s.heap us (k.map kD) []
  | [], _, .nil => .nil
  | x :: k, _, .cons (b := u) r t => by
    have ih := key_atoms (k := k) t
    cases x with
    | inl i =>
      obtain ⟨tk, rfl⟩ := r
      exact ReadsAll.cons (Reads.int i tk) ih
    | inr z =>
      obtain ⟨tk, rfl⟩ := r
      exact ReadsAll.cons (Reads.str z tk) ih
theorem key_reads (I : Inv X pins σ H s) {b : Addr} {k : List Key} (e : H b = some (.tup (k.map kV))) : Reads s.heap (.ref b) (keyD k) [] := by
  obtain ⟨_, its, rv, o, ho, hc, n, hd⟩ := (show ObjOk X.prog X.w H s.heap b (.tup (k.map kV)) from I.hok b _ e)
  exact Reads.tuple ho hc hd (by simpa using key_atoms rv)
theorem each_of {α β : Type} {R : α → β → Prop} (f : β → α) : ∀ (zs : List β), (∀ z ∈ zs, R (f z) z) → PySem.W.EachIs R (zs.map f) zs
  | [], _ => .nil
  | z :: zs, h => .cons (h z List.mem_cons_self) (each_of f zs fun y hy => h y (List.mem_cons_of_mem _ hy))
theorem each_eq {α β : Type} {f : β → α} : ∀ {as : List α} {zs : List β}, PySem.W.EachIs (fun v z => v = f z) as zs → as = zs.map f
  | _, _, .nil => rfl
  | _, _, .cons h t => by rw [List.map_cons, ← each_eq t, h]
/-- sorted(d), d a dict with tuple keys: the key tuples, rising -/
def rSortDT : List V → Hp → VK → Prop := fun xs H Q => ∃ (a : Addr) (kvs : List (List Key × V)), xs = [.ref a] ∧ Rd H a (.dT kvs) ∧ kvs.length ≤ 1000 ∧ PySem.W.AllAlike (kvs.map fun p => keyD p.1) ∧ (∀ p ∈ kvs, p.1 ≠ []) ∧
  ∀ (p : Addr) (bs : List Addr), H p = none → IsKeys H kvs bs → (kvs.map (·.1)).Nodup →
    Q (.ref p) (upd H p (.lst (((bs.zip kvs).mergeSort (PySem.W.dataLe false fun z => keyD z.2.1)).map fun z => V.ref z.1)))
theorem keyD_depth (k : List Key) : (keyD k).depth ≤ 1 := by
  have h : ∀ k : List Key, PyData.depthAll (k.map kD) = 0 := by
    intro k
    induction k with
    | nil => simp [PyData.depthAll]
    | cons x k ih =>
      cases x with
      | inl i => simp [kD, PyData.depthAll, PyData.depth, ih]
      | inr z => simp [kD, PyData.depthAll, PyData.depth, ih]
  unfold keyD
  rw [PyData.depth, h]
  exact Nat.le_refl _
theorem cr_sortDT (hc : X.calm = true) (hu : X.A.units + 64 < cLine) : CallR X (.builtin "sorted") rSortDT := by
  intro pins s σ H xs us Q I r h
  obtain ⟨d, kvs, rfl, hd, hz, hal, hne, q⟩ := h
  obtain ⟨u, rfl, rx⟩ := r.one
  cases rx
  obtain ⟨z, hs, ks, pr, o, es, ep, ho, hx, hdt, he, hn⟩ := (show ObjOk X.prog X.w H s.heap d (.dT kvs) from hd.ok I.hok)
  have l1 : es.size = ks.length := size_of_entries he
  have l2 : kvs.length = ks.length := Paired.length pr
  have hsl := sizeLine_eq
  refine Calls.call_function_entry PyProof.Rows.kind_sorted PyProof.Rows.plain_sorted PyProof.Rows.entry_sorted (PyProof.Rows.args_sorted1 _) ?_
  unfold Builtin.«sorted»
  refine wpAny_bind (m := checkCount "sorted" 1 1 _) (wpAny_pure ?_)
  refine wpAny_bind (PySem.W.kdu_collect (A := X.A.in1) (kdl_raw hs hx hdt) (I.ok.hd hc) ho (by omega) fun h' tk acc kp it => ?_)
  have ea : acc.toList = (ks.map fun x => x.2.1).map Value.ref := by
    have hl : acc.toList.length = ks.length := by
      rw [Array.length_toList, it.1]
      exact l1
    apply List.ext_getElem?
    intro j
    rw [List.getElem?_map, List.getElem?_map]
    cases hj : acc.toList[j]? with
    | none =>
      have h1 := List.getElem?_eq_none_iff.mp hj
      rw [List.getElem?_eq_none (by omega)]
      rfl
    | some v =>
      obtain ⟨en, hen, hv⟩ := it.2 j v (by rw [← Array.getElem?_toList]; exact hj)
      have qe := entry_at he j
      rw [hen] at qe
      cases hb : ks[j]? with
      | none =>
        rw [hb] at qe
        exact nomatch (show some en = none from qe)
      | some b =>
        rw [hb] at qe
        have e2 : en = entryOfKey (tupleKind (mixKind X.prog X.w)) b := Option.some.inj qe
        rw [hv, e2]
        rfl
  generalize hbs : ks.map (fun x => x.2.1) = bs at ea
  have hik : IsKeys H kvs bs := by
    rw [← hbs]
    exact isKeys_of pr
  have lb : bs.length = kvs.length := by rw [← hbs, List.length_map, l2]
  have nk : (kvs.map (·.1)).Nodup := by
    have e : ∀ {kvs : List (List Key × V)} {ks : List (List Key × Addr × Value)}, Paired (fun (p : List Key × V) (q : List Key × Addr × Value) => p.1 = q.1 ∧ H q.2.1 = some (.tup (p.1.map kV)) ∧ RelV p.2 q.2.2) kvs ks → kvs.map (·.1) = ks.map (·.1) := by
      intro kvs ks r
      induction r with
      | nil => rfl
      | cons h t ih => rw [List.map_cons, List.map_cons, ih, h.1]
    rw [e pr]
    exact hn
  have hz2 : ((bs.zip kvs).map fun z => Value.ref z.1) = acc.toList := by
    rw [ea, show (fun z : Addr × List Key × V => Value.ref z.1) = Value.ref ∘ Prod.fst from rfl, ← List.map_map, List.map_fst_zip (by omega)]
  have I1 : Inv X pins σ H { s with heap := h', toks := tk } := I.kept kp
  have lz : (bs.zip kvs).length = kvs.length := by rw [List.length_zip]; omega
  refine wpAny_bind (wpAny_newList ?_ (by rw [← hz2, List.length_map, lz]; omega))
  have hoL : (h'.push (seqObj "list" acc.toList.toArray 0)).get? h'.objs.size = some (seqObj "list" acc.toList.toArray 0) := Heap.get?_push_size _ rfl
  show wpAny (model X.prog X.w) X.A.in1 _ _ _ { s with heap := h'.push (seqObj "list" acc.toList.toArray 0), toks := tk }
  have inz : ∀ z ∈ bs.zip kvs, H z.1 = some (.tup (z.2.1.map kV)) := by
    have e : ∀ {kvs : List (List Key × V)} {bs : List Addr}, IsKeys H kvs bs → ∀ z ∈ bs.zip kvs, H z.1 = some (.tup (z.2.1.map kV)) := by
      intro kvs bs r
      unfold IsKeys at r
      induction r with
      | nil => intro z hz; simp at hz
      | cons h t ih =>
        intro z hz
        rw [List.zip_cons_cons] at hz
        rcases List.mem_cons.mp hz with rfl | hz
        · exact h
        · exact ih z hz
    exact e hik
  have inz2 : ∀ z ∈ bs.zip kvs, z.2 ∈ kvs := fun z hz => (List.of_mem_zip hz).2
  rw [← hz2]
  rw [← hz2] at hoL
  refine wpAny_bind (wpAny_holding (PySem.W.list_sort_data (bs := bs.zip kvs) (enc := fun z => keyD z.2.1) (R := fun v z => v = Value.ref z.1) (s := { s with heap := h'.push (seqObj "list" ((bs.zip kvs).map fun z => Value.ref z.1).toArray 0), toks := tk }) hoL
    (each_of _ _ fun _ _ => rfl) (each_of _ _ fun z hz => ⟨[], PyProof.Rows.Reads.keeps (fun b o e => Heap.get?_push_of_some _ e) (key_reads I1 (inz z hz)), by simp⟩) ?_ ?_ (by rw [lz]; omega) (fun z _ => ?_) fun out ol eo => ?_))
  · intro x hx y hy
    obtain ⟨z1, m1, rfl⟩ := List.mem_map.mp hx
    obtain ⟨z2, m2, rfl⟩ := List.mem_map.mp hy
    exact hal _ (List.mem_map.mpr ⟨z1.2, inz2 _ m1, rfl⟩) _ (List.mem_map.mpr ⟨z2.2, inz2 _ m2, rfl⟩)
  · refine .inl fun x hx => ?_
    obtain ⟨z, m, rfl⟩ := List.mem_map.mp hx
    have nz := hne _ (inz2 _ m)
    cases e : z.2.1 with
    | nil => exact absurd e nz
    | cons k r => exact ⟨kD k, r.map kD, by simp [keyD]⟩
  · have := keyD_depth z.2.1
    show X.A.units + 1 + 1 + (keyD z.2.1).depth < cLine
    omega
  · have eout := each_eq (f := fun z : Addr × List Key × V => Value.ref z.1) eo
    obtain ⟨e', he'⟩ := PyProof.Rows.sortedHeap_at (vs := (bs.zip kvs).map fun z => Value.ref z.1) (out := out.toArray) hoL
    have hperm := List.mergeSort_perm (bs.zip kvs) (PySem.W.dataLe false fun z => keyD z.2.1)
    have hlen : (((bs.zip kvs).mergeSort (PySem.W.dataLe false fun z => keyD z.2.1)).map fun z => V.ref z.1).length ≤ sizeLine := by
      rw [List.length_map, hperm.length_eq, lz]
      omega
    have rv : Vals (((bs.zip kvs).mergeSort (PySem.W.dataLe false fun z => keyD z.2.1)).map fun z => V.ref z.1) out := by
      rw [eout]
      have e : ∀ l : List (Addr × List Key × V), Vals (l.map fun z => V.ref z.1) (l.map fun z => Value.ref z.1) := by
        intro l
        induction l with
        | nil => exact .nil
        | cons z l ih => exact .cons rfl ih
      exact e _
    refine wpAny_pure ⟨_, rfl, .ref h'.objs.size, upd H h'.objs.size (.lst (((bs.zip kvs).mergeSort (PySem.W.dataLe false fun z => keyD z.2.1)).map fun z => V.ref z.1)), I1.laid (t' := tk) (fun b u e => ?_) (Nat.le_refl _)
      (show ObjOk X.prog X.w _ _ _ (.lst _) from ⟨hlen, out, e', rv, by simpa using he'⟩), rfl, q _ bs (I1.hok.fresh (Nat.le_refl _)) hik nk⟩
    have hb : b < h'.objs.size := Heap.lt_size e
    rw [PyProof.Rows.sortedHeap_old (Nat.ne_of_lt hb) (by rw [size_push']; exact Nat.lt_succ_of_lt hb)]
    exact Heap.get?_push_of_some _ e
/-- sorted(d.items()), d a dict with tuple keys and ints: the pairs, rising -/
def encC (c : List Key × Int) : PyData := .tuple [keyD c.1, .int c.2]
def sortC (cs : List (List Key × Int)) : List (List Key × Int) := cs.mergeSort (PySem.W.dataLe false encC)
def rSortIC : List V → Hp → VK → Prop := fun xs H Q => ∃ (v a : Addr) (cs : List (List Key × Int)), xs = [.ref v] ∧ H v = some (DX.itemsO v a) ∧ H a = some (.dT (cs.map fun c => (c.1, V.int c.2))) ∧ cs.length ≤ 1000 ∧
  PySem.W.AllAlike (cs.map encC) ∧ (∀ c ∈ cs, c.1 ≠ []) ∧ ∀ (l : Addr) (H' : Hp) (as : List Addr), Same H H' → H l = none → (cs.map (·.1)).Nodup → H' l = some (.lst (as.map V.ref)) →
    Paired (fun b (c : List Key × Int) => ∃ q, H' b = some (.tup [.ref q, .int c.2]) ∧ H' q = some (.tup (c.1.map kV))) as (sortC cs) → Q (.ref l) H'
theorem encC_depth (c : List Key × Int) : (encC c).depth ≤ 2 := by
  have h := keyD_depth c.1
  unfold encC
  simp only [PyData.depth, PyData.depthAll]
  omega
theorem paired_map {α β γ : Type} {F : γ → β → Prop} (f : α → γ) (g : α → β) : ∀ (zs : List α), (∀ z ∈ zs, F (f z) (g z)) → Paired F (zs.map f) (zs.map g)
  | [], _ => .nil
  | z :: zs, h => .cons (h z List.mem_cons_self) (paired_map f g zs fun y hy => h y (List.mem_cons_of_mem _ hy))
theorem cr_sortIC (hc : X.calm = true) (hu : X.A.units + 64 < cLine) : CallR X (.builtin "sorted") rSortIC := by
  intro pins s σ H xs us Q I r h
  obtain ⟨v, a, cs, rfl, hv, ha, hz, hal, hne, q⟩ := h
  obtain rfl := Vals.ref1 r
  have hsl := sizeLine_eq
  have view : s.heap.IsItemsView v a := (show ObjOk X.prog X.w H s.heap v (DX.itemsO v a) from I.hok v _ hv).1
  obtain ⟨_, hd, ks, rel, o, es, ep, ho, hx, hdat, hes, _, hn⟩ := dt_of I.hok ha
  have l1 : cs.length = ks.length := by
    have e := Paired.length rel
    rw [List.length_map] at e
    exact e
  have l2 : es.size = ks.length := size_of_entries hes
  have nk : (cs.map (·.1)).Nodup := by
    have e : ∀ {cs : List (List Key × Int)} {ks : List (List Key × Addr × Value)}, Paired (fun (p : List Key × V) (q : List Key × Addr × Value) => p.1 = q.1 ∧ H q.2.1 = some (.tup (p.1.map kV)) ∧ RelV p.2 q.2.2) (cs.map fun c => (c.1, V.int c.2)) ks → cs.map (·.1) = ks.map (·.1) := by
      intro cs
      induction cs with
      | nil => intro ks r; cases r; rfl
      | cons c cs ih =>
        intro ks r
        cases r with
        | cons h t => rw [List.map_cons, List.map_cons, ih t, h.1]
    rw [e rel]
    exact hn
  refine DT.sortedI (es := es) (ep := ep) (I.ok.hd hc) view ⟨o, ho, hx, hdat⟩ (by omega) fun h' tk as hk hlt hl hG => ?_
  have la : as.length = cs.length := by omega
  have nd : as.Nodup := List.Pairwise.imp (fun h => Nat.ne_of_lt h) hG.rise
  -- the new pairs, with what they hold
  let bs : List (Addr × Addr × (List Key × Int)) := as.zip ((ks.map fun x => x.2.1).zip cs)
  have lz : ((ks.map fun x => x.2.1).zip cs).length = cs.length := by rw [List.length_zip, List.length_map]; omega
  have lb : bs.length = cs.length := by
    show (as.zip _).length = _
    rw [List.length_zip]
    omega
  have bsA : bs.map (·.1) = as := List.map_fst_zip (by omega)
  have bsC : bs.map (·.2.2) = cs := by
    have e : bs.map (·.2.2) = (bs.map (·.2)).map (·.2) := by rw [List.map_map]; rfl
    rw [e, show bs.map (·.2) = (ks.map fun x => x.2.1).zip cs from List.map_snd_zip (by omega), List.map_snd_zip (by rw [List.length_map]; omega)]
  have I1 : Inv X pins σ H { s with heap := h', toks := tk } := I.kept hk
  have facts : ∀ z ∈ bs, H z.2.1 = some (.tup (z.2.2.1.map kV)) ∧ ∃ t, h'.get? z.1 = some { cls := .type "tuple", data := .seq #[Value.ref z.2.1, Value.int z.2.2.2 t] } := by
    intro z hzm
    obtain ⟨j, hj⟩ := List.mem_iff_getElem?.mp hzm
    obtain ⟨j1, j2⟩ := List.getElem?_zip_eq_some.mp hj
    obtain ⟨j3, j4⟩ := List.getElem?_zip_eq_some.mp j2
    obtain ⟨en, he, hg⟩ := hG.pairs j z.1 j1
    rw [entry_at hes j] at he
    rw [List.getElem?_map] at j3
    cases hxj : ks[j]? with
    | none =>
      rw [hxj] at j3
      cases j3
    | some x =>
      rw [hxj] at he j3
      have een : entryOfKey (tupleKind (mixKind X.prog X.w)) x = en := Option.some.inj he
      have ex : x.2.1 = z.2.1 := Option.some.inj j3
      obtain ⟨e0, he0, _, r2, r3⟩ := DX.pget rel hxj
      rw [List.getElem?_map, j4] at he0
      have ee : (z.2.2.1, V.int z.2.2.2) = e0 := Option.some.inj he0
      rw [← ee] at r2 r3
      obtain ⟨t, r3'⟩ := r3
      refine ⟨by rw [← ex]; exact r2, t, ?_⟩
      rw [hg, ← een, ← ex, ← r3']
      rfl
  have hob : (h'.push (seqObj "list" (as.map Value.ref).toArray 0)).get? h'.objs.size = some (seqObj "list" (as.map Value.ref).toArray 0) := Heap.get?_push_size _ rfl
  have eAs : as.map Value.ref = bs.map fun z => Value.ref z.1 := by rw [← bsA, List.map_map]; rfl
  show wpAny (model X.prog X.w) X.A.in1 (call (.builtin "list.sort") [.ref h'.objs.size]) _ _ { s with heap := h'.push (seqObj "list" (as.map Value.ref).toArray 0), toks := tk }
  rw [eAs] at hob ⊢
  have kb : ∀ b o, h'.get? b = some o → (h'.push (seqObj "list" (bs.map fun z => Value.ref z.1).toArray 0)).get? b = some o := fun b o e => Heap.get?_push_of_some _ e
  refine PySem.W.list_sort_data (bs := bs) (enc := fun z => encC z.2.2) (R := fun v z => v = Value.ref z.1) (s := { s with heap := h'.push (seqObj "list" (bs.map fun z => Value.ref z.1).toArray 0), toks := tk }) hob
    (each_of _ _ fun _ _ => rfl) (each_of _ _ fun z hzm => ?_) ?_ (.inl fun x hx => ?_) (by omega) (fun z _ => ?_) fun out ol eo => ?_
  · obtain ⟨f1, t, f2⟩ := facts z hzm
    refine ⟨[], PyProof.Rows.Reads.keeps kb (Reads.tuple (as := []) f2 rfl rfl ?_), by simp⟩
    exact ReadsAll.cons (as := []) (bs := []) (key_reads I1 f1) (ReadsAll.cons (as := []) (bs := []) (Reads.int _ t) ReadsAll.nil)
  · intro x hx y hy
    have e : bs.map (fun z => encC z.2.2) = cs.map encC := by rw [← bsC, List.map_map]; rfl
    rw [e] at hx hy
    exact hal x hx y hy
  · obtain ⟨z, _, rfl⟩ := List.mem_map.mp hx
    exact ⟨_, _, rfl⟩
  · have := encC_depth z.2.2
    show X.A.units + 1 + 1 + (encC z.2.2).depth < cLine
    omega
  · have eout := each_eq (f := fun z : Addr × Addr × (List Key × Int) => Value.ref z.1) eo
    obtain ⟨e', he'⟩ := PyProof.Rows.sortedHeap_at (vs := bs.map fun z => Value.ref z.1) (out := out.toArray) hob
    generalize hzs : bs.mergeSort (PySem.W.dataLe false fun z => encC z.2.2) = zs at eout
    have hperm : zs.Perm bs := by rw [← hzs]; exact List.mergeSort_perm _ _
    have srt : zs.map (·.2.2) = sortC cs := by
      rw [← hzs, PySem.W.sort_maps (r := PySem.W.dataLe false fun z : Addr × Addr × (List Key × Int) => encC z.2.2) (s := PySem.W.dataLe false encC) (fun z : Addr × Addr × (List Key × Int) => z.2.2) (fun a _ b _ => rfl), bsC]
      rfl
    have hlen : ((zs.map (·.1)).map V.ref).length ≤ sizeLine := by
      rw [List.length_map, List.length_map, hperm.length_eq]
      omega
    have ne0 : ∀ b o, h'.get? b = some o → b ≠ h'.objs.size := fun b o e => Nat.ne_of_lt (Heap.lt_size e)
    have kF : ∀ b o, h'.get? b = some o → (sortedHeap (h'.push (seqObj "list" (bs.map fun z => Value.ref z.1).toArray 0)) h'.objs.size (bs.map fun z => Value.ref z.1) out.toArray).get? b = some o := fun b o e => by
      rw [PyProof.Rows.sortedHeap_old (ne0 b o e) (by rw [size_push']; exact Nat.lt_succ_of_lt (Heap.lt_size e))]
      exact kb b o e
    have rv : Vals ((zs.map (·.1)).map V.ref) out := by
      rw [eout]
      have e : ∀ l : List (Addr × Addr × (List Key × Int)), Vals ((l.map (·.1)).map V.ref) (l.map fun z => Value.ref z.1) := by
        intro l
        induction l with
        | nil => exact .nil
        | cons z l ih => exact .cons rfl ih
      exact e _
    have J1 : Inv X pins σ H { s with heap := sortedHeap (h'.push (seqObj "list" (bs.map fun z => Value.ref z.1).toArray 0)) h'.objs.size (bs.map fun z => Value.ref z.1) out.toArray, toks := tk } := I1.kept (t' := tk) kF
    have hn0 : H h'.objs.size = none := I1.hok.fresh (Nat.le_refl _)
    have J2 : Inv X pins σ (upd H h'.objs.size (.lst ((zs.map (·.1)).map V.ref))) { s with heap := sortedHeap (h'.push (seqObj "list" (bs.map fun z => Value.ref z.1).toArray 0)) h'.objs.size (bs.map fun z => Value.ref z.1) out.toArray, toks := tk } :=
      J1.take (t' := tk) (fun b ob _ e => e) (I.fpOk (Nat.le_of_lt hlt) hn0) ⟨hlen, out, e', rv, by simpa using he'⟩
    obtain ⟨H2, J3, g, qt⟩ := DX.takeT (P := fun b vs => ∃ z ∈ bs, z.1 = b ∧ vs = [V.ref z.2.1, V.int z.2.2.2]) I as _ J2 nd fun b hb => by
      rw [← bsA] at hb
      obtain ⟨z, hzm, rfl⟩ := List.mem_map.mp hb
      obtain ⟨f1, t, f2⟩ := facts z hzm
      have hbl : s.heap.objs.size ≤ z.1 := Nat.le_of_lt (hG.above z.1 (by rw [← bsA]; exact List.mem_map.mpr ⟨z, hzm, rfl⟩))
      refine ⟨hbl, ?_, _, ⟨z, hzm, rfl, rfl⟩, fun H3 => ⟨(by show 2 ≤ sizeLine; decide), [Value.ref z.2.1, Value.int z.2.2.2 t], .cons rfl (.cons ⟨t, rfl⟩ .nil), ⟨_, kF _ _ f2, rfl, 0, rfl⟩⟩⟩
      rw [upd_ne (ne0 _ _ f2)]
      exact I.hok.fresh hbl
    have gr : Same H H2 := fun b o e => g b o (by rw [upd_ne (ne_of_none e hn0)]; exact e)
    refine ⟨.ref h'.objs.size, H2, J3, rfl, q h'.objs.size H2 (zs.map (·.1)) gr hn0 nk (g _ _ upd_same) ?_⟩
    rw [← srt]
    refine paired_map (F := fun b (c : List Key × Int) => ∃ q, H2 b = some (.tup [.ref q, .int c.2]) ∧ H2 q = some (.tup (c.1.map kV))) (fun z : Addr × Addr × (List Key × Int) => z.1) (fun z => z.2.2) zs fun z hzm => ?_
    have hzb := hperm.mem_iff.mp hzm
    obtain ⟨vs, ⟨z2, hz2, e1, e2⟩, hH⟩ := qt z.1 (by rw [← bsA]; exact List.mem_map.mpr ⟨z, hzb, rfl⟩)
    have ez : z2 = z := by
      obtain ⟨i, hi⟩ := List.mem_iff_getElem?.mp hz2
      obtain ⟨j, hj⟩ := List.mem_iff_getElem?.mp hzb
      have i1 : as[i]? = some z.1 := by rw [← bsA, List.getElem?_map, hi, ← e1]; rfl
      have j1 : as[j]? = some z.1 := by rw [← bsA, List.getElem?_map, hj]; rfl
      have eij : i = j := (List.getElem?_inj (List.getElem?_eq_some_iff.mp i1).1 nd).mp (i1.trans j1.symm)
      rw [eij, hj] at hi
      exact (Option.some.inj hi).symm
    rw [ez] at e2
    rw [e2] at hH
    exact ⟨z.2.1, hH, gr _ _ (facts z hzb).1⟩
end
end HmS

set_option Elab.async false
set_option maxRecDepth 100000
set_option maxHeartbeats 4000000
namespace HmS
open PySem PySem.Spec PyProof.Rows L2
open AutoSeq1 (wpAny_loadPart')
/-! ### enumerate(t), t a tuple -/
abbrev tupIt (l : Addr) : Obj := { cls := .type "tuple_iterator", data := .fields #[.ref l, .int 0 0] }
abbrev enumOf (it : Addr) : Obj := { cls := .type "enumerate", data := .fields #[.none, .bool false, .ref it, rawInt 0, .none, .none] }
theorem meets_enumT (l : Addr) (items : Array Value) : Meets (Builtin.«enumerate.__new__» ⟨[.type "enumerate", .ref l], []⟩)
    (fun _ R s => s.heap.IsTuple l items ∧ R (.ok (.ret (.ref (s.heap.push (tupIt l)).objs.size))) { s with heap := (s.heap.push (tupIt l)).push (enumOf s.heap.objs.size) }) :=
  .of_wp fun prog w A R s h => by
    obtain ⟨hp, g, d, tk, os⟩ := s
    obtain ⟨h1, h⟩ := h
    have sub := sub_enumerate
    have q1 : ∀ {A' : Around} {E : Value → Shared → Prop} {Q : Value → Shared → Prop}, Q (.ref hp.objs.size) ⟨hp.push (tupIt l), g, d, tk, os⟩ → wpAny (model prog w) A' (pyIter (.ref l)) Q E ⟨hp, g, d, tk, os⟩ :=
      fun q => (begins_tuple l items).iter prog w _ _ ⟨hp, g, d, tk, os⟩ _ h1 q
    wp_walk using q1
    refine wpAny_stack_any fun st => wpAny_pure ?_
    split
    · rename_i c _ _ _ _ _
      cases (c == Value.type "enumerate") <;> (wp_walk using q1; exact ⟨_, rfl, h⟩)
    · wp_walk using q1
      exact ⟨_, rfl, h⟩
theorem call_enumT {prog : Program} {w : World} {A : Around} {E : Value → Shared → Prop} {s : Shared} {l : Addr} {items : Array Value} {Q : Value → Shared → Prop} (hL : s.heap.IsTuple l items)
    (h : ∀ h', IsEnum h' (s.heap.objs.size + 1) s.heap.objs.size 0 .none → h'.IsTupleIter s.heap.objs.size l 0 → (∀ b o, s.heap.get? b = some o → h'.get? b = some o) → Q (.ref (s.heap.objs.size + 1)) { s with heap := h' }) :
    wpAny (model prog w) A (call (.type "enumerate") [.ref l]) Q E s := by
  refine callType_new F.called_enumerate (by decide) (F.typeCall_enumerate_1 _) (F.newCall_enumerate_1 _) (fun obj => F.args_object_init_2 obj _) F.entry_enumerate_new (meets_enumT l items) ⟨hL, ?_⟩
  have hz : (s.heap.push (tupIt l)).objs.size = s.heap.objs.size + 1 := Heap.size_push ..
  show _ ∧ _
  rw [hz]
  have he : ((s.heap.push (tupIt l)).push (enumOf s.heap.objs.size)).get? (s.heap.objs.size + 1) = some (enumOf s.heap.objs.size) := by
    rw [← hz]
    exact Heap.get?_push_size _ rfl
  exact ⟨⟨_, he, rfl⟩, h _ he ⟨_, Heap.get?_push_of_some _ (Heap.get?_push_size _ rfl), rfl, rfl⟩ fun b o x => Heap.get?_push_of_some _ (Heap.get?_push_of_some _ x)⟩
/-- the tuple at a, each item in a new pair with its place -/
def IteT (K : PySem.W.Frag) (a : Addr) : It :=
  ⟨fun i H => ∃ (xs : List V) (x : V), SqT K H a xs ∧ xs[i]? = some x, fun i H v H' => ∃ T x, v = .ref T ∧ H T = none ∧ H' = upd H T (.tup [.int (i : Nat), x]) ∧ ∀ xs, SqT K H a xs → xs[i]? = some x,
    fun i H => ∃ xs : List V, SqT K H a xs ∧ xs.length ≤ i⟩
theorem tup_ne {h : Heap} {a b : Addr} {items : Array Value} {o : Obj} {T : String} (p : h.IsTuple a items) (e : h.get? b = some o) (c : o.cls = .type T) (n : T ≠ "tuple") : a ≠ b := by
  rintro rfl
  obtain ⟨o', e', c', _⟩ := p
  rw [e] at e'
  cases e'
  rw [c] at c'
  injection c' with z
  exact n z
theorem turn_enumT {P : Program} {w : World} {K : PySem.W.Frag} {elts : List Expr} {kk : Nat} {tpos : Pos} (a e it : Addr) :
    Turn P w K (.Tuple elts kk tpos) (IteT K a) [e, it] e (fun i h => (∃ old, IsEnum h e it ((i : Nat) : Int) old) ∧ h.IsTupleIter it a i ∧ e ≠ it) where
  mem := by simp
  obj := fun i h st b hb => by
    obtain ⟨⟨old, he⟩, ⟨o, ho, hc, hd⟩, _⟩ := st
    rcases (show b = e ∨ b = it by simpa using hb) with z | z
    · rw [z]
      exact ⟨_, he, fun v q => nomatch q⟩
    · rw [z]
      exact ⟨o, ho, fun v q => by rw [hd] at q; cases q⟩
  keep := fun i h h' st k => by
    obtain ⟨⟨old, he⟩, hi, hne⟩ := st
    exact ⟨⟨old, k e (by simp) _ he⟩, hi.at fun o q => k it (by simp) o q, hne⟩
  item := by
    intro X hP hw hK hc i pins s σ H E I hf st hg
    subst hP hw hK
    obtain ⟨⟨old, he⟩, hit, hne⟩ := st
    obtain ⟨xs, x, hq, hx⟩ := hg
    obtain ⟨its, rv, p, hz⟩ := I.tuple hq
    have p' : s.heap.IsTuple a its.toArray := p
    obtain ⟨u, hu, ru⟩ := rv.get hx
    have nit : a ≠ it := by
      obtain ⟨o, ho, ch, _⟩ := id hit
      exact tup_ne p' ho ch (by decide)
    have nea : a ≠ e := tup_ne p' he rfl (by decide)
    have hel : e < s.heap.objs.size := Heap.lt_size he
    have hil : it < s.heap.objs.size := by
      obtain ⟨_, q, _⟩ := id hit
      exact Heap.lt_size q
    have hlt : i < its.toArray.size := by
      have := (List.getElem?_eq_some_iff.mp hu).1
      simpa using this
    refine wpAny_pyNext_enum_itemD (Draws.tuple (A := X.A.in1) (show X.A.in1.handled = none from I.ok.hd hc) it a nit its.toArray) he ⟨hit, p'⟩ hlt hne (by simp [hne, Ne.symm nea]) fun v h' tk hv ho hst hT hsz hk => ?_
    have evu : v = u := by
      have e1 : its[i]? = some v := by simpa using hv
      rw [hu] at e1
      exact (Option.some.inj e1).symm
    subst evu
    refine ⟨_, rfl, wpAny_letOwnedTupleGo_enum (s := { s with heap := h', toks := tk + 1 }) ho fun h2 he2 sb => ?_⟩
    have hT2 : h2.get? s.heap.objs.size = some { cls := .type "tuple", data := .seq #[.int i tk, v] } := (sb.2 _ (Nat.ne_of_gt hel)).trans hT
    have new : ObjOk X.prog X.w (upd H s.heap.objs.size (.tup [.int (i : Nat), x])) h2 s.heap.objs.size (.tup [.int (i : Nat), x]) :=
      ⟨by show 2 ≤ sizeLine; decide, [.int i tk, v], .cons ⟨_, rfl⟩ (.cons ru .nil), ⟨_, hT2, rfl, _, rfl⟩⟩
    have I1 : Inv X pins σ (upd H s.heap.objs.size (.tup [.int (i : Nat), x])) { s with heap := h2, toks := tk + 1 } :=
      I.turnedNew (ch := [e, it]) (fun b ob hb q => (sb.2 b (fun z => hb (by simp [z]))).trans (hk b ob (fun z => hb (by simp [z])) (fun z => hb (by simp [z])) q)) hf (Nat.le_refl _) new
    refine ⟨.ref s.heap.objs.size, _, I1, rfl, ⟨_, x, rfl, I.hok.fresh (Nat.le_refl _), rfl, fun ys hy => by rw [I.tuple_inj hy hq]; exact hx⟩, ⟨⟨v, ?_⟩, hst.1.at fun o q => (sb.2 it (Ne.symm hne)).trans q, hne⟩, fun b hb => ?_⟩
    · have e1 : ((i + 1 : Nat) : Int) = (i : Int) + 1 := by omega
      rw [e1]
      exact he2
    · have hb' : b < s.heap.objs.size := by
        rcases (show b = e ∨ b = it by simpa using hb) with z | z
        · rw [z]
          exact hel
        · rw [z]
          exact hil
      rw [upd_ne (Nat.ne_of_lt hb')]
      exact (hf b hb).1
  done := by
    intro X hP hw hK hc i pins s σ H E I hf st hg
    subst hP hw hK
    obtain ⟨⟨old, he⟩, hit, hne⟩ := st
    obtain ⟨xs, hq, hx⟩ := hg
    obtain ⟨its, rv, p, hz⟩ := I.tuple hq
    have p' : s.heap.IsTuple a its.toArray := p
    have nit : a ≠ it := by
      obtain ⟨o, ho, ch, _⟩ := id hit
      exact tup_ne p' ho ch (by decide)
    obtain ⟨f0, f1, f2, f3, f4, f5⟩ := hf it (by simp)
    have hl := rv.length
    have hdone : Draws X.prog X.w X.A.in1 it [it, a] i (fun _ _ => False) (fun j h => j = i ∧ h.IsTupleIter it a i ∧ h.IsTuple a its.toArray) := {
      live := fun _ _ st => let ⟨o, ho, _⟩ := st.2.1; ⟨o, ho⟩
      frame := fun _ _ _ st hk => ⟨st.1, st.2.1.at fun o e => hk it (by simp) o e, st.2.2.at fun o e => hk a (by simp) o e⟩
      item := fun j s Q E hj st _ => absurd hj (by rw [st.1]; exact Nat.lt_irrefl _)
      done := fun s Q E st hE => wpAny_nextOf_tuple_end (show X.A.in1.handled = none from I.ok.hd hc) st.2.1 st.2.2 (by simp; omega) hE }
    exact wpAny_pyNext_enum_endD hdone he ⟨rfl, hit, p'⟩ fun h' eb => ⟨rfl, I.turned (t' := s.toks) (fun b o hb q => eb b o hb q) f0 f1 f3 f4 f5⟩
  self := fun A i s Q E st h => let ⟨⟨_, he⟩, _⟩ := st; wpAny_pyIter_enum he h
def iEnumT (K : PySem.W.Frag) (ta : TA) : TI := fun σ H R => ta σ H fun vs H1 => ∃ a xs, vs = [.ref a] ∧ SqT K H1 a xs ∧ R (IteT K a) H1
theorem pi_enumT {X : Cx} {e : Expr} {ta : TA} {p pos tpos : Pos} {elts : List Expr} {kk : Nat} (hg : Gl X "enumerate") (hm : X.mg "enumerate" = none) (ha : PA X [e] ta) (hs : starEach [e] X.env = [(false, eval e X.env)] := by rfl) :
    PI X (.Tuple elts kk tpos) (.Call (.Name "enumerate" p) [e] [] pos) (iEnumT X.K ta) := by
  refine ⟨fun pins s σ H R I h => ?_⟩
  refine Call_ (ld_blt I hg hm boot_enumerate (PyProof.Rows.callWith_type1 (thn (ha.run pos pins s σ H _ I h) fun us s1 hq1 => ?_) hs rfl))
  obtain ⟨vs, H1, I1, r1, a, xs, rfl, hq, q⟩ := hq1
  cases r1 with
  | cons r rr =>
    cases rr
    cases r
    obtain ⟨its, rv, p', hz⟩ := I1.tuple hq
    refine call_enumT (show s1.heap.IsTuple a its.toArray from p') fun h' he hit hk => wpAny_pyIter_enum he ?_
    have I2 : Inv X pins σ H1 { s1 with heap := h' } := I1.kept (t' := s1.toks) hk
    refine ⟨s1.heap.objs.size + 1, [s1.heap.objs.size + 1, s1.heap.objs.size], _, _, H1, rfl, I2, turn_enumT a (s1.heap.objs.size + 1) s1.heap.objs.size, ⟨⟨.none, he⟩, hit, Nat.succ_ne_self _⟩, fun b hb => ?_, q⟩
    have hle : s1.heap.objs.size ≤ b := by
      rcases (show b = s1.heap.objs.size + 1 ∨ b = s1.heap.objs.size by simpa using hb) with z | z
      · rw [z]
        exact Nat.le_add_right _ _
      · rw [z]
        exact Nat.le_refl _
    exact I1.fpOk hle (I1.hok.fresh hle)
theorem walk_enumT {K : PySem.W.Frag} {a : Addr} {xs : List V} : Walk (IteT K a) xs.length (fun H => SqT K H a xs) (YPair (fun i => some (.int (i : Nat))) (fun i => xs[i]?)) where
  goes := fun i H hi h => ⟨xs, xs[i], h, by simp [hi]⟩
  stops := fun H h => ⟨xs, h, Nat.le_refl _⟩
  yields := fun i H x H' hi h y => by
    obtain ⟨T, z, e1, e2, e3, e4⟩ := y
    exact ⟨T, _, z, e1, e2, e3, rfl, e4 xs h⟩
end HmS

set_option Elab.async false
set_option maxRecDepth 100000
set_option maxHeartbeats 4000000
set_option linter.all false
namespace Da
open PySem PySem.Spec PyProof.Rows L2
/-! ### data -/
inductive D where
  | non
  | bl (b : Bool)
  | int (i : Int)
  | str (s : Str)
  | tup (xs : List D)
  | lst (xs : List D)
  | dK (ks : List Key) (xs : List D)
  | dT (ks : List (List Key)) (xs : List D)
  | ins (C : Addr) (ns : List Str) (xs : List D)
mutual
/-- v is the data d, all of it in the part F -/
inductive Rep (F : Hp) : V → D → Prop where
  | non : Rep F .non .non
  | bl (b : Bool) : Rep F (.bl b) (.bl b)
  | int (i : Int) : Rep F (.int i) (.int i)
  | str (s : Str) : Rep F (.str s) (.str s)
  | tup {a : Addr} {vs : List V} {ds : List D} : F a = some (.tup vs) → Reps F vs ds → Rep F (.ref a) (.tup ds)
  | lst {a : Addr} {vs : List V} {ds : List D} : F a = some (.lst vs) → Reps F vs ds → Rep F (.ref a) (.lst ds)
  | dK {a : Addr} {kvs : List (Key × V)} {ks : List Key} {ds : List D} : F a = some (.dK kvs) → kvs.map (·.1) = ks → Reps F (kvs.map (·.2)) ds → Rep F (.ref a) (.dK ks ds)
  | dT {a : Addr} {kvs : List (List Key × V)} {ks : List (List Key)} {ds : List D} : F a = some (.dT kvs) → kvs.map (·.1) = ks → Reps F (kvs.map (·.2)) ds → Rep F (.ref a) (.dT ks ds)
  | ins {a C dx : Addr} {fs : List (Str × V)} {ns : List Str} {ds : List D} : F a = some (.ins C dx fs) → fs.map (·.1) = ns → Reps F (fs.map (·.2)) ds → Rep F (.ref a) (.ins C ns ds)
inductive Reps (F : Hp) : List V → List D → Prop where
  | nil : Reps F [] []
  | cons {v : V} {vs : List V} {d : D} {ds : List D} : Rep F v d → Reps F vs ds → Reps F (v :: vs) (d :: ds)
end
theorem Rep.mono {F F' : Hp} (s : Same F F') {v : V} {d : D} (h : Rep F v d) : Rep F' v d :=
  Rep.rec (motive_1 := fun v d _ => Rep F' v d) (motive_2 := fun vs ds _ => Reps F' vs ds) .non .bl .int .str (fun e _ r => .tup (s _ _ e) r) (fun e _ r => .lst (s _ _ e) r) (fun e k _ r => .dK (s _ _ e) k r) (fun e k _ r => .dT (s _ _ e) k r)
    (fun e k _ r => .ins (s _ _ e) k r) .nil (fun _ _ a b => .cons a b) h
theorem Reps.mono {F F' : Hp} (s : Same F F') : ∀ {vs : List V} {ds : List D}, Reps F vs ds → Reps F' vs ds
  | _, _, .nil => .nil
  | _, _, .cons a b => .cons (a.mono s) (Reps.mono s b)
section
variable {F : Hp}
theorem Reps.length : ∀ {vs : List V} {ds : List D}, Reps F vs ds → vs.length = ds.length
  | _, _, .nil => rfl
  | _, _, .cons _ b => by rw [List.length_cons, List.length_cons, Reps.length b]
theorem Reps.get : ∀ {vs : List V} {ds : List D} {i : Nat} {d : D}, Reps F vs ds → ds[i]? = some d → ∃ v, vs[i]? = some v ∧ Rep F v d
  | _, _, i, d, .nil, h => by simp at h
  | _, _, 0, d, .cons a _, h => by
    cases h
    exact ⟨_, rfl, a⟩
  | _, _, i + 1, d, .cons _ b, h => by
    obtain ⟨v, e, r⟩ := Reps.get (i := i) b (by simpa using h)
    exact ⟨v, by simpa using e, r⟩
theorem Reps.getV : ∀ {vs : List V} {ds : List D} {i : Nat} {v : V}, Reps F vs ds → vs[i]? = some v → ∃ d, ds[i]? = some d ∧ Rep F v d
  | _, _, i, d, .nil, h => by simp at h
  | _, _, 0, d, .cons a _, h => by
    cases h
    exact ⟨_, rfl, a⟩
  | _, _, i + 1, d, .cons _ b, h => by
    obtain ⟨v, e, r⟩ := Reps.getV (i := i) b (by simpa using h)
    exact ⟨v, by simpa using e, r⟩
theorem Reps.app : ∀ {vs us : List V} {ds es : List D}, Reps F vs ds → Reps F us es → Reps F (vs ++ us) (ds ++ es)
  | _, _, _, _, .nil, h => h
  | _, _, _, _, .cons a b, h => .cons a (Reps.app b h)
theorem Reps.snoc {vs : List V} {ds : List D} {v : V} {d : D} (h : Reps F vs ds) (r : Rep F v d) : Reps F (vs ++ [v]) (ds ++ [d]) := h.app (.cons r .nil)
theorem Reps.set : ∀ {vs : List V} {ds : List D} {i : Nat} {v : V} {d : D}, Reps F vs ds → Rep F v d → Reps F (vs.set i v) (ds.set i d)
  | _, _, _, _, _, .nil, _ => .nil
  | _, _, 0, _, _, .cons _ b, r => .cons r b
  | _, _, i + 1, _, _, .cons a b, r => .cons a (Reps.set (i := i) b r)
theorem Reps.drop : ∀ {vs : List V} {ds : List D} (n : Nat), Reps F vs ds → Reps F (vs.drop n) (ds.drop n)
  | _, _, 0, h => h
  | _, _, _ + 1, .nil => .nil
  | _, _, n + 1, .cons _ b => Reps.drop n b
theorem Reps.take : ∀ {vs : List V} {ds : List D} (n : Nat), Reps F vs ds → Reps F (vs.take n) (ds.take n)
  | _, _, 0, _ => .nil
  | _, _, _ + 1, .nil => .nil
  | _, _, n + 1, .cons a b => .cons a (Reps.take n b)
theorem Reps.eraseIdx : ∀ {vs : List V} {ds : List D} (n : Nat), Reps F vs ds → Reps F (vs.eraseIdx n) (ds.eraseIdx n)
  | _, _, 0, .nil => .nil
  | _, _, _ + 1, .nil => .nil
  | _, _, 0, .cons _ b => b
  | _, _, n + 1, .cons a b => .cons a (Reps.eraseIdx n b)
theorem Reps.rep {v : V} {d : D} (h : Rep F v d) : ∀ n, Reps F (List.replicate n v) (List.replicate n d)
  | 0 => .nil
  | n + 1 => .cons h (Reps.rep h n)
theorem Reps.ints : ∀ (is : List Int), Reps F (is.map V.int) (is.map D.int)
  | [] => .nil
  | i :: r => .cons (.int i) (Reps.ints r)
theorem Reps.bls : ∀ (is : List Bool), Reps F (is.map V.bl) (is.map D.bl)
  | [] => .nil
  | i :: r => .cons (.bl i) (Reps.bls r)
theorem Reps.of_ints : ∀ {vs : List V} {is : List Int}, Reps F vs (is.map D.int) → vs = is.map V.int
  | _, [], .nil => rfl
  | _, i :: r, .cons a b => by
    cases a
    rw [List.map_cons, ← Reps.of_ints b]
theorem Reps.of_bls : ∀ {vs : List V} {is : List Bool}, Reps F vs (is.map D.bl) → vs = is.map V.bl
  | _, [], .nil => rfl
  | _, i :: r, .cons a b => by
    cases a
    rw [List.map_cons, ← Reps.of_bls b]
theorem Reps.of_strs : ∀ {vs : List V} {is : List Str}, Reps F vs (is.map D.str) → vs = is.map V.str
  | _, [], .nil => rfl
  | _, i :: r, .cons a b => by
    cases a
    rw [List.map_cons, ← Reps.of_strs b]
end
/-- no table of code objects -/
def NT (o : HO) : Prop := ∀ ps, o ≠ .tbl ps
/-- all but the tables stays -/
def NS (H H' : Hp) : Prop := ∀ b o, NT o → H b = some o → H' b = some o
theorem NS.of {H H' : Hp} (s : Same H H') : NS H H' := fun b o _ e => s b o e
theorem NS.refl (H : Hp) : NS H H := fun _ _ _ h => h
theorem NS.trans {H H1 H2 : Hp} (a : NS H H1) (b : NS H1 H2) : NS H H2 := fun c o n h => b c o n (a c o n h)
/-- the tables that a law's defs write -/
class HasT (K : PySem.W.Frag) where
  T : List (Addr × Str)
def TbOk (K : PySem.W.Frag) [t : HasT K] (H : Hp) : Prop := LamX.Tabs t.T H
theorem TbOk.ext {K : PySem.W.Frag} [HasT K] {H H' : Hp} (t : TbOk K H) (s : Same H H') : TbOk K H' := LamX.Tabs.ext t s
/-- nothing changes but at an address of a list or a dict -/
def Plainly (o : HO) : Prop := NT o ∧ ∀ c q, o ≠ LamX.CodeO c q
theorem TbOk.chg {K : PySem.W.Frag} [HasT K] {H H' : Hp} {p : Addr} {o : HO} (t : TbOk K H) (hp : H p = some o) (po : Plainly o) (k : ∀ b, b ≠ p → H' b = H b) : TbOk K H' := fun z hz => by
  obtain ⟨ps, h1, h2, h3⟩ := t z hz
  refine ⟨ps, ?_, h2, fun pos cv hc => ?_⟩
  · rw [k _ (fun e => by rw [e, hp] at h1; cases h1; exact po.1 _ rfl)]
    exact h1
  · obtain ⟨c, e1, e2⟩ := h3 pos cv hc
    refine ⟨c, e1, ?_⟩
    rw [k _ (fun e => by rw [e, hp] at e2; cases e2; exact po.2 _ _ rfl)]
    exact e2
theorem plain_lst (vs : List V) : Plainly (.lst vs) := ⟨fun _ z => (nomatch z), fun c q z => by cases z⟩
theorem plain_dK (vs : List (Key × V)) : Plainly (.dK vs) := ⟨fun _ z => (nomatch z), fun c q z => by cases z⟩
theorem plain_dT (vs : List (List Key × V)) : Plainly (.dT vs) := ⟨fun _ z => (nomatch z), fun c q z => by cases z⟩
theorem nt_tup (vs : List V) : NT (.tup vs) := fun _ z => nomatch z
theorem nt_ins (C dx : Addr) (fs : List (Str × V)) : NT (.ins C dx fs) := fun _ z => nomatch z
/-- no tables within -/
def FN (F : Hp) : Prop := ∀ a o, F a = some o → NT o
/-- nothing, or a tuple -/
def Soft (H : Hp) (a : Addr) : Prop := H a = none ∨ ∃ vs, H a = some (.tup vs)
/-- without its tables -/
def ntH (H : Hp) : Hp := fun a => match H a with
  | some (.tbl _) => none
  | o => o
theorem ntH_some {H : Hp} {a : Addr} {o : HO} (e : ntH H a = some o) : H a = some o ∧ NT o := by
  unfold ntH at e
  cases q : H a with
  | none => rw [q] at e; cases e
  | some u =>
    rw [q] at e
    cases u <;> first | (cases e; exact ⟨rfl, fun _ z => nomatch z⟩) | cases e
theorem ntH_of {H : Hp} {a : Addr} {o : HO} (e : H a = some o) (n : NT o) : ntH H a = some o := by
  unfold ntH
  rw [e]
  cases o <;> first | rfl | exact absurd rfl (n _)
theorem ntH_none {H : Hp} {a : Addr} (e : H a = none) : ntH H a = none := by
  unfold ntH
  rw [e]
theorem soft_nt {H : Hp} {a : Addr} (z : Soft H a) : Soft (ntH H) a := by
  rcases z with z | ⟨vs, z⟩
  · exact .inl (ntH_none z)
  · exact .inr ⟨vs, ntH_of z (nt_tup vs)⟩
/-! a pen: a list of four ints, the last one below its modulus -/
def PenAt (H : Hp) (p : Addr) : Prop := ∃ a b c d : Int, H p = some (.lst [.int a, .int b, .int c, .int d]) ∧ 0 ≤ d ∧ d < 1000000007
theorem PenAt.there {H : Hp} {p : Addr} (x : PenAt H p) : H p ≠ none := by
  obtain ⟨_, _, _, _, e, _⟩ := x
  rw [e]
  exact fun z => nomatch z
theorem PenAt.hard {H : Hp} {p : Addr} (x : PenAt H p) : ¬ Soft H p := by
  obtain ⟨_, _, _, _, e, _⟩ := x
  rintro (z | ⟨vs, z⟩)
  · rw [e] at z; cases z
  · rw [e] at z; cases z
theorem PenAt.pl {H : Hp} {p : Addr} (x : PenAt H p) : ∃ o, H p = some o ∧ Plainly o := by
  obtain ⟨_, _, _, _, e, _⟩ := x
  exact ⟨_, e, plain_lst _⟩
theorem PenAt.of {H H' : Hp} {p : Addr} (x : PenAt H p) (e : H' p = H p) : PenAt H' p := by
  obtain ⟨a, b, c, d, h, r⟩ := x
  exact ⟨a, b, c, d, e.trans h, r⟩
/-! ### what a slot holds -/
inductive En where
  | no
  | d (x : D)
  | lst (xs : List D)
  | dK (ks : List Key) (xs : List D)
  | dT (ks : List (List Key)) (xs : List D)
  | pen
  | scr (ns : List Int)
def En.own : En → Bool
  | .lst _ => true
  | .dK _ _ => true
  | .dT _ _ => true
  | .pen => true
  | _ => false
structure Ct (K : PySem.W.Frag) where
  F0 : Hp
  H0 : Hp
  pn : Option Addr
  sc : Option (Addr × List Int)
  hs : ∀ a ns, sc = some (a, ns) → SqL K H0 a (ns.map V.int) ∧ pn ≠ some a
section
variable {K : PySem.W.Frag}
def Held (c : Ct K) (F H : Hp) : En → V → Prop
  | .no, _ => True
  | .d x, v => Rep F v x
  | .lst ds, v => ∃ a vs, v = .ref a ∧ F a = none ∧ c.H0 a = none ∧ H a = some (.lst vs) ∧ Reps F vs ds
  | .dK ks ds, v => ∃ (a : Addr) (kvs : List (Key × V)), v = .ref a ∧ F a = none ∧ c.H0 a = none ∧ H a = some (.dK kvs) ∧ kvs.map (·.1) = ks ∧ Reps F (kvs.map (·.2)) ds
  | .dT ks ds, v => ∃ (a : Addr) (kvs : List (List Key × V)), v = .ref a ∧ F a = none ∧ c.H0 a = none ∧ H a = some (.dT kvs) ∧ kvs.map (·.1) = ks ∧ Reps F (kvs.map (·.2)) ds
  | .pen, v => ∃ a, v = .ref a ∧ F a = none ∧ (c.H0 a = none ∨ c.pn = some a) ∧ PenAt H a
  | .scr ns, v => ∃ a, v = .ref a ∧ c.sc = some (a, ns)
variable [HasT K]
/-- the state between two steps: F what stays for ever, H all; the slots σ hold Γ -/
structure Is (c : Ct K) (F H : Hp) (σ : L2.St) (Γ : List En) : Prop where
  f0 : Same c.F0 F
  fh : Same F H
  nw : ∀ a o, F a = some o → c.F0 a = some o ∨ Soft c.H0 a
  h0 : ∀ a o, c.pn ≠ some a → c.H0 a = some o → H a = some o
  pp : ∀ p, c.pn = some p → F p = none ∧ PenAt H p ∧ c.H0 p ≠ none
  len : σ.length = Γ.length
  at_ : ∀ (i : Nat) (e : En), Γ[i]? = some e → e ≠ .no → ∃ v, σ[i]? = some (some v) ∧ Held c F H e v
  dis : ∀ (i j : Nat) (a : Addr) (e e' : En), i ≠ j → Γ[i]? = some e → Γ[j]? = some e' → e.own = true → e'.own = true → σ[i]? = some (some (.ref a)) → σ[j]? = some (some (.ref a)) → False
  fn : FN F
  tb : TbOk K H
  hn : ∀ a o, c.H0 a = some o → NT o
variable {c : Ct K} {F F' H H' : Hp} {σ : L2.St} {Γ : List En} {v : V} {e : En}
theorem Is.un (I : Is c F H σ Γ) {a : Addr} (h : H a = none) : c.H0 a = none := by
  cases q : c.H0 a with
  | none => rfl
  | some o =>
    by_cases z : c.pn = some a
    · exact absurd h (I.pp a z).2.1.there
    · rw [I.h0 a o z q] at h
      cases h
theorem Is.soft (I : Is c F H σ Γ) {a : Addr} (h : Soft (ntH H) a) : Soft c.H0 a := by
  cases q : c.H0 a with
  | none => exact .inl q
  | some o =>
    have nt := I.hn a o q
    by_cases z : c.pn = some a
    · obtain ⟨u, h1, h2⟩ := (I.pp a z).2.1.pl
      have hard := (I.pp a z).2.1.hard
      rcases h with h | ⟨vs, h⟩
      · rw [ntH_of h1 h2.1] at h
        cases h
      · exact absurd (.inr ⟨vs, (ntH_some h).1⟩) hard
    · have e := ntH_of (I.h0 a o z q) nt
      rcases h with h | ⟨vs, h⟩
      · rw [e] at h
        cases h
      · rw [e] at h
        cases h
        exact .inr ⟨vs, q⟩
theorem Is.unF (I : Is c F H σ Γ) {a : Addr} (h : H a = none) : F a = none := I.fh.free h
omit [HasT K] in
theorem Held.ref (h : Held c F H e v) (o : e.own = true) : ∃ a u, v = .ref a ∧ F a = none ∧ ¬ Soft (ntH H) a ∧ H a = some u ∧ Plainly u := by
  have hard : ∀ {a : Addr} {o : HO}, H a = some o → NT o → (∀ vs, o ≠ .tup vs) → ¬ Soft (ntH H) a := fun e nt n z => by
    rcases z with z | ⟨vs, z⟩
    · rw [ntH_of e nt] at z; cases z
    · rw [ntH_of e nt] at z; cases z; exact n vs rfl
  cases e with
  | lst ds =>
    obtain ⟨a, vs, rfl, h1, _, h2, _⟩ := h
    exact ⟨a, _, rfl, h1, hard h2 (fun _ z => nomatch z) (fun vs z => nomatch z), h2, plain_lst _⟩
  | dK ks ds =>
    obtain ⟨a, vs, rfl, h1, _, h2, _⟩ := h
    exact ⟨a, _, rfl, h1, hard h2 (fun _ z => nomatch z) (fun vs z => nomatch z), h2, plain_dK _⟩
  | dT ks ds =>
    obtain ⟨a, vs, rfl, h1, _, h2, _⟩ := h
    exact ⟨a, _, rfl, h1, hard h2 (fun _ z => nomatch z) (fun vs z => nomatch z), h2, plain_dT _⟩
  | pen =>
    obtain ⟨a, rfl, h1, _, h2⟩ := h
    obtain ⟨u, h3, h4⟩ := h2.pl
    exact ⟨a, u, rfl, h1, fun z => h2.hard (z.elim (fun w => by rw [ntH_of h3 h4.1] at w; cases w) fun ⟨vs, w⟩ => .inr ⟨vs, (ntH_some w).1⟩), h3, h4⟩
  | no => cases o
  | d x => cases o
  | scr ns => cases o
omit [HasT K] in
/-- an owned thing's place is as it was, all else has grown -/
theorem Held.grow (h : Held c F H e v) (sf : Same F F') (k : ∀ a, v = .ref a → e.own = true → H' a = H a ∨ (e = .pen ∧ PenAt H' a)) (nf : ∀ a, v = .ref a → e.own = true → F' a = none) : Held c F' H' e v := by
  cases e with
  | lst ds =>
    obtain ⟨a, vs, rfl, h1, h0, h2, h3⟩ := h
    exact ⟨a, vs, rfl, nf a rfl rfl, h0, by rw [← h2]; exact (k a rfl rfl).resolve_right (fun z => nomatch z.1), h3.mono sf⟩
  | dK ks ds =>
    obtain ⟨a, vs, rfl, h1, h0, h2, e, h3⟩ := h
    exact ⟨a, vs, rfl, nf a rfl rfl, h0, by rw [← h2]; exact (k a rfl rfl).resolve_right (fun z => nomatch z.1), e, h3.mono sf⟩
  | dT ks ds =>
    obtain ⟨a, vs, rfl, h1, h0, h2, e, h3⟩ := h
    exact ⟨a, vs, rfl, nf a rfl rfl, h0, by rw [← h2]; exact (k a rfl rfl).resolve_right (fun z => nomatch z.1), e, h3.mono sf⟩
  | pen =>
    obtain ⟨a, rfl, h1, h0, h2⟩ := h
    exact ⟨a, rfl, nf a rfl rfl, h0, (k a rfl rfl).elim (fun z => h2.of z) (·.2)⟩
  | no => trivial
  | d x => exact Rep.mono sf h
  | scr ns => exact h
/-- all grows, nothing that was there changes but the tables -/
theorem Is.growN (I : Is c F H σ Γ) (sf : Same F F') (sh : NS H H') (tb : TbOk K H') (fh : Same F' H') (fn : FN F') (nw : ∀ a o, F' a = some o → F a = some o ∨ Soft (ntH H) a) : Is c F' H' σ Γ := by
  have nf : ∀ a, F a = none → ¬ Soft (ntH H) a → F' a = none := fun a h1 h2 => by
    cases q : F' a with
    | none => rfl
    | some o =>
      rcases nw a o q with z | z
      · rw [h1] at z
        cases z
      · exact absurd z h2
  have same : ∀ a o, H a = some o → Plainly o → H' a = H a := fun a o h n => by
    rw [h]
    exact sh a o n.1 h
  refine ⟨I.f0.trans sf, fh, fun a o h => ?_, fun a o p h => sh _ _ (I.hn a o h) (I.h0 a o p h), fun p h => ?_, I.len, fun i e h n => ?_, I.dis, fn, tb, I.hn⟩
  · rcases nw a o h with z | z
    · exact I.nw a o z
    · exact .inr (I.soft z)
  · obtain ⟨h1, h2, h3⟩ := I.pp p h
    obtain ⟨u, h4, h5⟩ := h2.pl
    exact ⟨nf p h1 (fun z => h2.hard (z.elim (fun w => by rw [ntH_of h4 h5.1] at w; cases w) fun ⟨vs, w⟩ => .inr ⟨vs, (ntH_some w).1⟩)), h2.of (same p u h4 h5), h3⟩
  · obtain ⟨v, h1, h2⟩ := I.at_ i e h n
    refine ⟨v, h1, h2.grow sf (fun a ea o => ?_) (fun a ea o => ?_)⟩
    · obtain ⟨a', u, e', _, _, q, pl⟩ := h2.ref o
      rw [ea] at e'
      cases e'
      exact .inl (same a u q pl)
    · obtain ⟨a', u, e', q1, q2, _⟩ := h2.ref o
      rw [ea] at e'
      cases e'
      exact nf a q1 q2
theorem FN.grow {F F' H' : Hp} (fh : Same F' H') (ok : ∀ a o, F' a = some o → F a = some o ∨ NT o) (fn : FN F) : FN F' := fun a o e => (ok a o e).elim (fn a o) id
theorem Is.grow (I : Is c F H σ Γ) (sf : Same F F') (sh : Same H H') (fh : Same F' H') (fn : FN F') (nw : ∀ a o, F' a = some o → F a = some o ∨ Soft H a) : Is c F' H' σ Γ := I.growN sf (.of sh) (I.tb.ext sh) fh fn fun a o e => (nw a o e).imp id soft_nt
/-- the pen alone changes, and tables; all else grows -/
theorem Is.growP (I : Is c F H σ Γ) {i : Nat} {p : Addr} (gi : Γ[i]? = some .pen) (si : σ[i]? = some (some (.ref p))) (sf : Same F F') (k : ∀ a o, a ≠ p → NT o → H a = some o → H' a = some o) (tb : TbOk K H') (pen : PenAt H' p) (fh : Same F' H') (fn : FN F') (nw : ∀ a o, F' a = some o → F a = some o ∨ Soft (ntH H) a) : Is c F' H' σ Γ := by
  obtain ⟨v, hv, p', ev, pf, ph0, pp⟩ := I.at_ i .pen gi (fun z => nomatch z)
  rw [si] at hv
  cases hv
  cases ev
  have nf : ∀ a, F a = none → ¬ Soft (ntH H) a → F' a = none := fun a h1 h2 => by
    cases q : F' a with
    | none => rfl
    | some o =>
      rcases nw a o q with z | z
      · rw [h1] at z
        cases z
      · exact absurd z h2
  have same : ∀ a o, a ≠ p → H a = some o → Plainly o → H' a = H a := fun a o n h pl => by
    rw [h]
    exact k a o n pl.1 h
  refine ⟨I.f0.trans sf, fh, fun a o h => ?_, fun a o q h => ?_, fun q h => ?_, I.len, fun j e h n => ?_, I.dis, fn, tb, I.hn⟩
  · rcases nw a o h with z | z
    · exact I.nw a o z
    · exact .inr (I.soft z)
  · by_cases z : a = p
    · subst z
      rcases ph0 with w | w
      · rw [w] at h
        cases h
      · exact absurd w q
    · exact k a o z (I.hn a o h) (I.h0 a o q h)
  · obtain ⟨h1, h2, h3⟩ := I.pp q h
    obtain ⟨u, h4, h5⟩ := h2.pl
    refine ⟨nf q h1 (fun z => h2.hard (z.elim (fun w => by rw [ntH_of h4 h5.1] at w; cases w) fun ⟨vs, w⟩ => .inr ⟨vs, (ntH_some w).1⟩)), ?_, h3⟩
    by_cases z : q = p
    · rw [z]
      exact pen
    · exact h2.of (same q u z h4 h5)
  · obtain ⟨v, h1, h2⟩ := I.at_ j e h n
    refine ⟨v, h1, h2.grow sf (fun a ea o => ?_) (fun a ea o => ?_)⟩
    · obtain ⟨a', u, e', _, _, q, pl⟩ := h2.ref o
      rw [ea] at e'
      cases e'
      by_cases z : a = p
      · subst z
        by_cases ij : j = i
        · subst ij
          rw [gi] at h
          cases h
          exact .inr ⟨rfl, pen⟩
        · exact absurd (I.dis j i a e .pen ij h gi o rfl (by rw [h1, ea]) si) id
      · exact .inl (same a u z q pl)
    · obtain ⟨a', u, e', q1, q2, _⟩ := h2.ref o
      rw [ea] at e'
      cases e'
      exact nf a q1 q2
/-- what an expression hands on: frozen, or owned by nobody else -/
def Res (c : Ct K) (F H : Hp) (σ : L2.St) (Γ : List En) (v : V) (e : En) : Prop :=
  Held c F H e v ∧ e ≠ .no ∧ (e.own = true → ∀ a, v = .ref a → ∀ (j : Nat) (e' : En), Γ[j]? = some e' → e'.own = true → σ[j]? ≠ some (some (.ref a)))
omit [HasT K] in
theorem Res.d {x : D} (h : Rep F v x) : Res c F H σ Γ v (.d x) := ⟨h, (fun z => nomatch z), (fun z => nomatch z)⟩
/-- a slot is stored -/
theorem Is.set (I : Is c F H σ Γ) (r : Res c F H σ Γ v e) (i : Nat) : Is c F H (σ.set i (some v)) (Γ.set i e) := by
  refine ⟨I.f0, I.fh, I.nw, I.h0, I.pp, by rw [List.length_set, List.length_set]; exact I.len, fun j e' h n => ?_, fun j k a e1 e2 jk h1 h2 o1 o2 s1 s2 => ?_, I.fn, I.tb, I.hn⟩
  · rw [List.getElem?_set] at h
    by_cases z : i = j
    · rw [if_pos z] at h
      split at h
      · rename_i hl
        cases h
        refine ⟨v, ?_, r.1⟩
        rw [← z, List.getElem?_set_self (by rw [I.len]; exact hl)]
      · cases h
    · rw [if_neg z] at h
      obtain ⟨w, h1, h2⟩ := I.at_ j e' h n
      exact ⟨w, by rw [List.getElem?_set_ne z]; exact h1, h2⟩
  · by_cases z1 : i = j
    · subst z1
      have z2 : ¬ i = k := jk
      rw [List.getElem?_set_ne z2] at h2 s2
      have l1 : i < σ.length := by
        have := (List.getElem?_eq_some_iff.mp s1).1
        simpa using this
      rw [List.getElem?_set_self l1] at s1
      rw [List.getElem?_set_self (by rw [← I.len]; exact l1)] at h1
      cases h1
      cases s1
      exact r.2.2 o1 a rfl k e2 h2 o2 s2
    · rw [List.getElem?_set_ne z1] at h1 s1
      by_cases z2 : i = k
      · subst z2
        have l1 : i < σ.length := by
          have := (List.getElem?_eq_some_iff.mp s2).1
          simpa using this
        rw [List.getElem?_set_self l1] at s2
        rw [List.getElem?_set_self (by rw [← I.len]; exact l1)] at h2
        cases h2
        cases s2
        exact r.2.2 o2 a rfl j e1 h1 o1 s1
      · rw [List.getElem?_set_ne z2] at h2 s2
        exact I.dis j k a e1 e2 jk h1 h2 o1 o2 s1 s2
/-- a slot is forgotten -/
theorem Is.forget (I : Is c F H σ Γ) (i : Nat) : Is c F H σ (Γ.set i .no) := by
  have g : ∀ (j : Nat) (e' : En), (Γ.set i .no)[j]? = some e' → e' ≠ .no → Γ[j]? = some e' := fun j e' h n => by
    rw [List.getElem?_set] at h
    split at h
    · split at h
      · cases h
        exact absurd rfl n
      · cases h
    · exact h
  exact ⟨I.f0, I.fh, I.nw, I.h0, I.pp, by rw [List.length_set]; exact I.len, fun j e' h n => I.at_ j e' (g j e' h n) n, fun j k a e1 e2 jk h1 h2 o1 o2 s1 s2 =>
    I.dis j k a e1 e2 jk (g j e1 h1 fun z => by rw [z] at o1; cases o1) (g k e2 h2 fun z => by rw [z] at o2; cases o2) o1 o2 s1 s2, I.fn, I.tb, I.hn⟩
/-- a slot wiped on both sides -/
theorem Is.wipe1 (I : Is c F H σ Γ) (i : Nat) : Is c F H (σ.set i none) (Γ.set i .no) := by
  have g : ∀ (j : Nat) (e' : En), (Γ.set i .no)[j]? = some e' → e' ≠ .no → Γ[j]? = some e' ∧ i ≠ j := fun j e' h n => by
    rw [List.getElem?_set] at h
    split at h
    · split at h
      · cases h
        exact absurd rfl n
      · cases h
    · exact ⟨h, by assumption⟩
  refine ⟨I.f0, I.fh, I.nw, I.h0, I.pp, by rw [List.length_set, List.length_set]; exact I.len, fun j e' h n => ?_, fun j k a e1 e2 jk h1 h2 o1 o2 s1 s2 => ?_, I.fn, I.tb, I.hn⟩
  · obtain ⟨h1, h2⟩ := g j e' h n
    rw [List.getElem?_set_ne h2]
    exact I.at_ j e' h1 n
  · obtain ⟨h1, z1⟩ := g j e1 h1 fun z => by rw [z] at o1; cases o1
    obtain ⟨h2, z2⟩ := g k e2 h2 fun z => by rw [z] at o2; cases o2
    rw [List.getElem?_set_ne z1] at s1
    rw [List.getElem?_set_ne z2] at s2
    exact I.dis j k a e1 e2 jk h1 h2 o1 o2 s1 s2
/-! ### freezing -/
omit [HasT K] in
theorem fn_upd {a : Addr} {o : HO} (fn : FN F) (nt : NT o) : FN (upd F a o) := fun b u e => by
  by_cases z : b = a
  · subst z
    rw [upd_same] at e
    cases e
    exact nt
  · rw [upd_ne z] at e
    exact fn b u e
/-- what is owned becomes data for ever -/
theorem Is.more (I : Is c F H σ Γ) {a : Addr} {o : HO} (fa : F a = none) (ha : H a = some o) (h0 : c.H0 a = none) (no : ∀ (j : Nat) (e' : En), Γ[j]? = some e' → e'.own = true → σ[j]? ≠ some (some (.ref a))) (nt : NT o) : Is c (upd F a o) H σ Γ ∧ Same F (upd F a o) := by
  have sf : Same F (upd F a o) := fun b u e => by rw [upd_ne (ne_of_none e fa)]; exact e
  refine ⟨⟨I.f0.trans sf, fun b u e => ?_, fun b u e => ?_, I.h0, fun p h => ?_, I.len, fun i e h n => ?_, I.dis, fn_upd I.fn nt, I.tb, I.hn⟩, sf⟩
  · by_cases z : b = a
    · subst z
      rw [upd_same] at e
      cases e
      exact ha
    · rw [upd_ne z] at e
      exact I.fh b u e
  · by_cases z : b = a
    · subst z
      exact .inr (.inl h0)
    · rw [upd_ne z] at e
      exact I.nw b u e
  · obtain ⟨h1, h2, h3⟩ := I.pp p h
    refine ⟨?_, h2, h3⟩
    have z : p ≠ a := fun z => by
      subst z
      exact h3 h0
    rw [upd_ne z]
    exact h1
  · obtain ⟨v, h1, h2⟩ := I.at_ i e h n
    refine ⟨v, h1, h2.grow sf (fun _ _ _ => .inl rfl) (fun b eb ob => ?_)⟩
    obtain ⟨a', u', e', q1, q2⟩ := h2.ref ob
    rw [eb] at e'
    cases e'
    have z : b ≠ a := fun z => by
      subst z
      subst eb
      exact no i e h ob h1
    rw [upd_ne z]
    exact q1
/-- the data that a result is, once it is frozen -/
def En.frz : En → Option D
  | .d x => some x
  | .lst xs => some (.lst xs)
  | .dK ks xs => some (.dK ks xs)
  | .dT ks xs => some (.dT ks xs)
  | _ => none
theorem Res.frz (I : Is c F H σ Γ) (r : Res c F H σ Γ v e) {x : D} (h : e.frz = some x) : ∃ F', Is c F' H σ Γ ∧ Same F F' ∧ Rep F' v x := by
  obtain ⟨h1, _, h3⟩ := r
  cases e with
  | d y =>
    cases h
    exact ⟨F, I, Same.refl F, h1⟩
  | lst ds =>
    cases h
    obtain ⟨a, vs, rfl, q1, q2, q3, q4⟩ := h1
    obtain ⟨I', s⟩ := I.more q1 q3 q2 (h3 rfl a rfl) (fun _ z => nomatch z)
    exact ⟨_, I', s, .lst upd_same (q4.mono s)⟩
  | dK ks ds =>
    cases h
    obtain ⟨a, vs, rfl, q1, q2, q3, q5, q4⟩ := h1
    obtain ⟨I', s⟩ := I.more q1 q3 q2 (h3 rfl a rfl) (fun _ z => nomatch z)
    exact ⟨_, I', s, .dK upd_same q5 (q4.mono s)⟩
  | dT ks ds =>
    cases h
    obtain ⟨a, vs, rfl, q1, q2, q3, q5, q4⟩ := h1
    obtain ⟨I', s⟩ := I.more q1 q3 q2 (h3 rfl a rfl) (fun _ z => nomatch z)
    exact ⟨_, I', s, .dT upd_same q5 (q4.mono s)⟩
  | no => cases h
  | pen => cases h
  | scr ns => cases h
/-- a slot that owns becomes a slot of data -/
theorem Is.frzSlot (I : Is c F H σ Γ) {i : Nat} {e : En} {x : D} (g : Γ[i]? = some e) (h : e.frz = some x) : ∃ F' v, σ[i]? = some (some v) ∧ Is c F' H σ (Γ.set i (.d x)) ∧ Same F F' ∧ Rep F' v x := by
  obtain ⟨v, hv, hh⟩ := I.at_ i e g (fun z => by rw [z] at h; cases h)
  have I1 := I.forget i
  have gl : i < Γ.length := (List.getElem?_eq_some_iff.mp g).1
  have r : Res c F H σ (Γ.set i .no) v e := ⟨hh, fun z => (by rw [z] at h; cases h), fun o a ea j e' g' o' s' => by
    have ij : i ≠ j := fun z => by
      subst z
      rw [List.getElem?_set_self gl] at g'
      cases g'
      cases o'
    rw [List.getElem?_set_ne ij] at g'
    subst ea
    exact I.dis i j a e e' ij g g' o o' hv s'⟩
  obtain ⟨F', I2, s, rp⟩ := r.frz I1 h
  refine ⟨F', v, hv, ?_, s, rp⟩
  have I3 := I2.set (Res.d rp : Res c F' H σ (Γ.set i .no) v (.d x)) i
  have l : i < σ.length := by rw [I.len]; exact gl
  have es : σ.set i (some v) = σ := by
    apply List.ext_getElem?
    intro j
    rw [List.getElem?_set]
    by_cases z : i = j
    · subst z
      rw [if_pos rfl, if_pos l, hv]
    · rw [if_neg z]
  rw [es, List.set_set] at I3
  exact I3
/-- a new object of data -/
theorem Is.new (I : Is c F H σ Γ) {p : Addr} {o : HO} (hp : H p = none) (nt : NT o := by exact fun _ z => nomatch z) : Is c (upd F p o) (upd H p o) σ Γ ∧ Same F (upd F p o) ∧ Same H (upd H p o) := by
  have fp : F p = none := I.unF hp
  have sf : Same F (upd F p o) := fun b u e => by rw [upd_ne (ne_of_none e fp)]; exact e
  have sh : Same H (upd H p o) := fun b u e => by rw [upd_ne (ne_of_none e hp)]; exact e
  refine ⟨I.grow sf sh (fun b u e => ?_) (fn_upd I.fn nt) (fun b u e => ?_), sf, sh⟩
  · by_cases z : b = p
    · subst z
      rw [upd_same] at e ⊢
      exact e
    · rw [upd_ne z] at e ⊢
      exact I.fh b u e
  · by_cases z : b = p
    · subst z
      exact .inr (.inl hp)
    · rw [upd_ne z] at e
      exact .inl e
/-- a new object that is nobody's yet -/
theorem Is.newH (I : Is c F H σ Γ) {p : Addr} {o : HO} (hp : H p = none) : Is c F (upd H p o) σ Γ := by
  have sh : Same H (upd H p o) := fun b u e => by rw [upd_ne (ne_of_none e hp)]; exact e
  exact I.grow (Same.refl F) sh (I.fh.trans sh) I.fn fun a o e => .inl e
theorem Is.fresh (I : Is c F H σ Γ) {p : Addr} (hp : H p = none) : ∀ (j : Nat) (e' : En), Γ[j]? = some e' → e'.own = true → σ[j]? ≠ some (some (.ref p)) := fun j e' g o s => by
  obtain ⟨v, h1, h2⟩ := I.at_ j e' g (fun z => by rw [z] at o; cases o)
  rw [s] at h1
  cases h1
  obtain ⟨a, u, e, _, q, _⟩ := h2.ref o
  cases e
  exact q (.inl (ntH_none hp))
theorem Is.newL (I : Is c F H σ Γ) {p : Addr} {vs : List V} {ds : List D} (hp : H p = none) (r : Reps F vs ds) : Is c F (upd H p (.lst vs)) σ Γ ∧ Res c F (upd H p (.lst vs)) σ Γ (.ref p) (.lst ds) :=
  ⟨I.newH hp, ⟨p, vs, rfl, I.unF hp, I.un hp, upd_same, r⟩, fun z => (nomatch z), fun _ a e => by cases e; exact I.fresh hp⟩
/-! ### a thing that is being made, kept apart -/
def Ct.guard (c : Ct K) (p : Addr) (o : HO) (h : c.H0 p = none) : Ct K := ⟨c.F0, upd c.H0 p o, c.pn, c.sc, fun a ns e => ⟨Same.seq (fun b u e => by rw [upd_ne (ne_of_none e h)]; exact e) (c.hs a ns e).1, (c.hs a ns e).2⟩⟩
/-- nobody's -/
structure Free (c : Ct K) (F : Hp) (σ : L2.St) (Γ : List En) (p : Addr) : Prop where
  f : F p = none
  h0 : c.H0 p = none
  pn : c.pn ≠ some p
  sl : ∀ (j : Nat) (e' : En), Γ[j]? = some e' → e'.own = true → σ[j]? ≠ some (some (.ref p))
theorem Is.guard (I : Is c F H σ Γ) {p : Addr} {o : HO} (fr : Free c F σ Γ p) (hp : H p = some o) (nt : NT o := by exact fun _ z => nomatch z) : Is (c.guard p o fr.h0) F H σ Γ := by
  refine ⟨I.f0, I.fh, fun a u e => ?_, fun a u q e => ?_, fun q e => ?_, I.len, fun i e g n => ?_, I.dis, I.fn, I.tb, fun a u e => ?_⟩
  · rcases I.nw a u e with z | z
    · exact .inl z
    · refine .inr ?_
      have ap : a ≠ p := fun w => by
        rw [w, fr.f] at e
        cases e
      show Soft (upd c.H0 p o) a
      unfold Soft
      rw [upd_ne ap]
      exact z
  · by_cases ap : a = p
    · subst ap
      have e : upd c.H0 a o a = some u := e
      rw [upd_same] at e
      cases e
      exact hp
    · have e : upd c.H0 p o a = some u := e
      rw [upd_ne ap] at e
      exact I.h0 a u q e
  · obtain ⟨h1, h2, h3⟩ := I.pp q e
    refine ⟨h1, h2, ?_⟩
    have qp : q ≠ p := fun w => fr.pn (by rw [← w]; exact e)
    show upd c.H0 p o q ≠ none
    rw [upd_ne qp]
    exact h3
  · obtain ⟨v, h1, h2⟩ := I.at_ i e g n
    refine ⟨v, h1, ?_⟩
    have ne : ∀ a, v = .ref a → e.own = true → a ≠ p := fun a ea eo w => by
      subst w
      subst ea
      exact fr.sl i e g eo h1
    cases e with
    | lst ds =>
      obtain ⟨a, vs, rfl, q1, q2, q3⟩ := h2
      exact ⟨a, vs, rfl, q1, by show upd c.H0 p o a = none; rw [upd_ne (ne a rfl rfl)]; exact q2, q3⟩
    | dK ks ds =>
      obtain ⟨a, vs, rfl, q1, q2, q3⟩ := h2
      exact ⟨a, vs, rfl, q1, by show upd c.H0 p o a = none; rw [upd_ne (ne a rfl rfl)]; exact q2, q3⟩
    | dT ks ds =>
      obtain ⟨a, vs, rfl, q1, q2, q3⟩ := h2
      exact ⟨a, vs, rfl, q1, by show upd c.H0 p o a = none; rw [upd_ne (ne a rfl rfl)]; exact q2, q3⟩
    | pen =>
      obtain ⟨a, rfl, q1, q2, q3⟩ := h2
      exact ⟨a, rfl, q1, q2.imp (fun z => by show upd c.H0 p o a = none; rw [upd_ne (ne a rfl rfl)]; exact z) id, q3⟩
    | no => trivial
    | d x => exact h2
    | scr ns => exact h2
  · by_cases ap : a = p
    · subst ap
      have e : upd c.H0 a o a = some u := e
      rw [upd_same] at e
      cases e
      exact nt
    · have e : upd c.H0 p o a = some u := e
      rw [upd_ne ap] at e
      exact I.hn a u e
theorem Is.guarded {p : Addr} {o : HO} {h : c.H0 p = none} (I : Is (c.guard p o h) F H σ Γ) (pn : c.pn ≠ some p) : H p = some o := I.h0 p o pn upd_same
theorem Is.freed {p : Addr} {o : HO} {h : c.H0 p = none} (I : Is (c.guard p o h) F H σ Γ) (pn : c.pn ≠ some p) (f0 : c.F0 p = none) (hard : ∀ vs, o ≠ .tup vs) : Free c F σ Γ p := by
  refine ⟨?_, h, pn, fun j e' g eo s => ?_⟩
  · cases q : F p with
    | none => rfl
    | some u =>
      rcases I.nw p u q with z | z
      · have z : c.F0 p = some u := z
        rw [f0] at z
        cases z
      · have z : Soft (upd c.H0 p o) p := z
        unfold Soft at z
        rw [upd_same] at z
        rcases z with z | ⟨vs, z⟩
        · cases z
        · cases z
          exact absurd rfl (hard vs)
  · obtain ⟨v, h1, h2⟩ := I.at_ j e' g (fun z => by rw [z] at eo; cases eo)
    rw [s] at h1
    cases h1
    have bad : ∀ {a : Addr}, V.ref p = .ref a → ¬ (c.guard p o h).H0 a = none := fun ea z => by
      cases ea
      have z : upd c.H0 p o p = none := z
      rw [upd_same] at z
      cases z
    cases e' with
    | lst ds =>
      obtain ⟨a, vs, ea, q1, q2, q3⟩ := h2
      exact bad ea q2
    | dK ks ds =>
      obtain ⟨a, vs, ea, q1, q2, q3⟩ := h2
      exact bad ea q2
    | dT ks ds =>
      obtain ⟨a, vs, ea, q1, q2, q3⟩ := h2
      exact bad ea q2
    | pen =>
      obtain ⟨a, ea, q1, q2, q3⟩ := h2
      rcases q2 with q2 | q2
      · exact bad ea q2
      · cases ea
        exact pn q2
    | no => cases eo
    | d x => cases eo
    | scr ns => cases eo
theorem Is.unguard {p : Addr} {o : HO} {h : c.H0 p = none} (I : Is (c.guard p o h) F H σ Γ) (pn : c.pn ≠ some p) : Is c F H σ Γ := by
  have low : ∀ {a : Addr}, (c.guard p o h).H0 a = none → c.H0 a = none := fun {a} z => by
    have z : upd c.H0 p o a = none := z
    by_cases w : a = p
    · rw [w]
      exact h
    · rw [upd_ne w] at z
      exact z
  have high : ∀ {a : Addr} {u : HO}, c.H0 a = some u → (c.guard p o h).H0 a = some u := fun {a u} z => by
    show upd c.H0 p o a = some u
    rw [upd_ne (ne_of_none z h)]
    exact z
  have lowS : ∀ {a : Addr}, Soft (c.guard p o h).H0 a → Soft c.H0 a := fun {a} z => by
    rcases z with z | ⟨vs, z⟩
    · exact .inl (low z)
    · have z : upd c.H0 p o a = some (.tup vs) := z
      by_cases w : a = p
      · rw [w]
        exact .inl h
      · rw [upd_ne w] at z
        exact .inr ⟨vs, z⟩
  refine ⟨I.f0, I.fh, fun a u e => (I.nw a u e).imp id lowS, fun a u q e => I.h0 a u q (high e), fun q e => ?_, I.len, fun i e g n => ?_, I.dis, I.fn, I.tb, fun a u e => I.hn a u (high e)⟩
  · obtain ⟨h1, h2, h3⟩ := I.pp q e
    refine ⟨h1, h2, fun z => ?_⟩
    by_cases w : q = p
    · rw [w] at e
      exact pn e
    · exact h3 (by show upd c.H0 p o q = none; rw [upd_ne w]; exact z)
  · obtain ⟨v, h1, h2⟩ := I.at_ i e g n
    refine ⟨v, h1, ?_⟩
    cases e with
    | lst ds =>
      obtain ⟨a, vs, rfl, q1, q2, q3⟩ := h2
      exact ⟨a, vs, rfl, q1, low q2, q3⟩
    | dK ks ds =>
      obtain ⟨a, vs, rfl, q1, q2, q3⟩ := h2
      exact ⟨a, vs, rfl, q1, low q2, q3⟩
    | dT ks ds =>
      obtain ⟨a, vs, rfl, q1, q2, q3⟩ := h2
      exact ⟨a, vs, rfl, q1, low q2, q3⟩
    | pen =>
      obtain ⟨a, rfl, q1, q2, q3⟩ := h2
      exact ⟨a, rfl, q1, q2.imp low id, q3⟩
    | no => trivial
    | d x => exact h2
    | scr ns => exact h2
/-- what is nobody's changes -/
theorem Is.chg (I : Is c F H σ Γ) {p : Addr} {o o' : HO} (fr : Free c F σ Γ p) (hp : H p = some o') (pl : Plainly o') : Is c F (upd H p o) σ Γ := by
  refine ⟨I.f0, fun a u e => ?_, I.nw, fun a u q e => ?_, fun q e => ?_, I.len, fun i e g n => ?_, I.dis, I.fn, I.tb.chg hp pl (fun b hb => upd_ne hb), I.hn⟩
  · have ap : a ≠ p := fun w => by
      rw [w, fr.f] at e
      cases e
    rw [upd_ne ap]
    exact I.fh a u e
  · have ap : a ≠ p := fun w => by
      rw [w, fr.h0] at e
      cases e
    rw [upd_ne ap]
    exact I.h0 a u q e
  · obtain ⟨h1, h2, h3⟩ := I.pp q e
    have qp : q ≠ p := fun w => fr.pn (by rw [← w]; exact e)
    exact ⟨h1, h2.of (upd_ne qp), h3⟩
  · obtain ⟨v, h1, h2⟩ := I.at_ i e g n
    refine ⟨v, h1, h2.grow (Same.refl F) (fun a ea eo => .inl (upd_ne fun w => ?_)) (fun a ea eo => ?_)⟩
    · subst w
      subst ea
      exact fr.sl i e g eo h1
    · obtain ⟨a', u', e', q1, _⟩ := h2.ref eo
      rw [ea] at e'
      cases e'
      exact q1
/-! ### wiped slots -/
def wipeE (Γ : List En) : List Nat → List En
  | [] => Γ
  | v :: vs => (wipeE Γ vs).set v .no
theorem Is.wipe (I : Is c F H σ Γ) : ∀ vs : List Nat, Is c F H (L2.wipe σ vs) (wipeE Γ vs)
  | [] => I
  | v :: vs => (Is.wipe I vs).wipe1 v
theorem Is.forgets (I : Is c F H σ Γ) : ∀ vs : List Nat, Is c F H σ (wipeE Γ vs)
  | [] => I
  | v :: vs => (Is.forgets I vs).forget v
theorem wipeE_no {vs : List Nat} {j : Nat} {e : En} (h : (wipeE Γ vs)[j]? = some e) (n : e ≠ .no) : j ∉ vs := by
  induction vs generalizing e with
  | nil => simp
  | cons v vs ih =>
    have h : ((wipeE Γ vs).set v .no)[j]? = some e := h
    rw [List.getElem?_set] at h
    split at h
    · split at h
      · cases h
        exact absurd rfl n
      · cases h
    · rename_i hv
      simp only [List.mem_cons, not_or]
      exact ⟨fun z => hv z.symm, ih h n⟩
theorem wipeE_out {i : Nat} : ∀ {vs : List Nat}, i ∉ vs → (wipeE Γ vs)[i]? = Γ[i]?
  | [], _ => rfl
  | v :: vs, h => by
    have h1 : v ≠ i := fun e => h (by rw [e]; exact List.mem_cons_self)
    have h2 : i ∉ vs := fun m => h (List.mem_cons_of_mem _ m)
    show ((wipeE Γ vs).set v .no)[i]? = _
    rw [List.getElem?_set_ne h1]
    exact wipeE_out h2
theorem Is.unwipe {σ' : L2.St} {vs : List Nat} (I : Is c F H σ' Γ) (w : L2.wipe σ' vs = L2.wipe σ vs) : Is c F H σ (wipeE Γ vs) := by
  have J := I.forgets vs
  have eq : ∀ j : Nat, j ∉ vs → σ'[j]? = σ[j]? := fun j hj => by rw [← wipe_out (σ := σ') hj, ← wipe_out (σ := σ) hj, w]
  have ll : σ.length = σ'.length := by rw [← wipe_length σ vs, ← wipe_length σ' vs, w]
  refine ⟨J.f0, J.fh, J.nw, J.h0, J.pp, ll.trans J.len, fun i e g n => ?_, fun i j a e1 e2 ij g1 g2 o1 o2 s1 s2 => ?_, J.fn, J.tb, J.hn⟩
  · obtain ⟨v, h1, h2⟩ := J.at_ i e g n
    exact ⟨v, by rw [← eq i (wipeE_no g n)]; exact h1, h2⟩
  · refine J.dis i j a e1 e2 ij g1 g2 o1 o2 ?_ ?_
    · rw [eq i (wipeE_no g1 fun z => by rw [z] at o1; cases o1)]
      exact s1
    · rw [eq j (wipeE_no g2 fun z => by rw [z] at o2; cases o2)]
      exact s2
end
end Da

set_option Elab.async false
set_option maxRecDepth 100000
set_option maxHeartbeats 4000000
set_option linter.all false
namespace Da
open PySem PySem.Spec PyProof.Rows L2
abbrev DT := List En → (En → List En → Prop) → Prop
abbrev DB := List En → (Bool → List En → Prop) → Prop
abbrev DA := List En → (List D → List En → Prop) → Prop
/-- an exception that leaves: what is wished of it -/
def EOk {K : PySem.W.Frag} [HasT K] (c : Ct K) (E : XK) (ψ : Value → Prop) : Prop :=
  ∀ C H', (∀ a o, c.pn ≠ some a → c.H0 a = some o → H' a = some o) → (∀ p, c.pn = some p → PenAt H' p) → TbOk K H' → ψ C → E C none H'
class Snd (K : PySem.W.Frag) [HasT K] (E : XK) (ψ : Value → Prop) (te : TE) (den : outParam DT) : Prop where
  run : ∀ {c : Ct K} {F H : Hp} {σ : L2.St} {Γ : List En} {φ : En → List En → Prop} {Q : VK}, Is c F H σ Γ → EOk c E ψ → den Γ φ →
    (∀ F' H' v e Γ', Is c F' H' σ Γ' → Same F F' → Res c F' H' σ Γ' v e → φ e Γ' → Q v H') → te σ H Q
class SndT (K : PySem.W.Frag) [HasT K] (E : XK) (ψ : Value → Prop) (tt : TT) (den : outParam DB) : Prop where
  run : ∀ {c : Ct K} {F H : Hp} {σ : L2.St} {Γ : List En} {φ : Bool → List En → Prop} {Q : Bool → Hp → Prop}, Is c F H σ Γ → EOk c E ψ → den Γ φ →
    (∀ F' H' b Γ', Is c F' H' σ Γ' → Same F F' → φ b Γ' → Q b H') → tt σ H Q
class SndA (K : PySem.W.Frag) [HasT K] (E : XK) (ψ : Value → Prop) (ta : TA) (den : outParam DA) : Prop where
  run : ∀ {c : Ct K} {F H : Hp} {σ : L2.St} {Γ : List En} {φ : List D → List En → Prop} {Q : List V → Hp → Prop}, Is c F H σ Γ → EOk c E ψ → den Γ φ →
    (∀ F' H' vs ds Γ', Is c F' H' σ Γ' → Same F F' → Reps F' vs ds → φ ds Γ' → Q vs H') → ta σ H Q
/-- an operation on two values -/
class SndR (K : PySem.W.Frag) [HasT K] (r : R2) (den : outParam (D → D → (En → Prop) → Prop)) : Prop where
  run : ∀ {c : Ct K} {F H : Hp} {σ : L2.St} {Γ : List En} {x y : V} {d e : D} {φ : En → Prop} {Q : VK}, Is c F H σ Γ → Rep F x d → Rep F y e → den d e φ →
    (∀ F' H' v z, Is c F' H' σ Γ → Same F F' → Res c F' H' σ Γ v z → φ z → Q v H') → r x y H Q
/-- a call on values -/
class SndC (K : PySem.W.Frag) [HasT K] (r : List V → Hp → VK → Prop) (den : outParam (List D → (En → Prop) → Prop)) : Prop where
  run : ∀ {c : Ct K} {F H : Hp} {σ : L2.St} {Γ : List En} {xs : List V} {ds : List D} {φ : En → Prop} {Q : VK}, Is c F H σ Γ → Reps F xs ds → den ds φ →
    (∀ F' H' v z, Is c F' H' σ Γ → Same F F' → Res c F' H' σ Γ v z → φ z → Q v H') → r xs H Q
/-- with the data of a result -/
def wf (e : En) (k : D → Prop) : Prop := match e with
  | .d x => k x
  | .lst xs => k (.lst xs)
  | .dK ks xs => k (.dK ks xs)
  | .dT ks xs => k (.dT ks xs)
  | _ => False
def wb (e : En) (k : Bool → Prop) : Prop := match e with
  | .d (.bl b) => k b
  | _ => False
theorem wf_frz {e : En} {k : D → Prop} (h : wf e k) : ∃ x, e.frz = some x ∧ k x := by
  cases e <;> first | exact ⟨_, rfl, h⟩ | exact h.elim
theorem wb_of {e : En} {k : Bool → Prop} (h : wb e k) : ∃ b, e = .d (.bl b) ∧ k b := by
  cases e with
  | d x =>
    cases x <;> first | exact ⟨_, rfl, h⟩ | exact h.elim
  | _ => exact h.elim
section
variable {K : PySem.W.Frag} [HasT K] {E : XK} {ψ : Value → Prop} {te ta tb tx : TE} {da db dx dt : DT} {tt tu : TT} {dtt dtu : DB} {al : TA} {dal : DA} {r : R2} {dr : D → D → (En → Prop) → Prop}
theorem Snd.frz (s : Snd K E ψ ta da) {c : Ct K} {F H : Hp} {σ : L2.St} {Γ : List En} {φ : En → List En → Prop} {k : D → List En → Prop} {Q : VK} (I : Is c F H σ Γ) (eo : EOk c E ψ) (h : da Γ fun e Γ1 => wf e fun x => k x Γ1)
    (q : ∀ F' H' v x Γ', Is c F' H' σ Γ' → Same F F' → Rep F' v x → k x Γ' → Q v H') : ta σ H Q := by
  refine s.run I eo h fun F1 H1 v e Γ1 I1 s1 r1 h1 => ?_
  obtain ⟨x, hx, h1⟩ := wf_frz h1
  obtain ⟨F2, I2, s2, rp⟩ := r1.frz I1 hx
  exact q F2 H1 v x Γ1 I2 (s1.trans s2) rp h1
theorem Snd.bool (s : Snd K E ψ ta da) {c : Ct K} {F H : Hp} {σ : L2.St} {Γ : List En} {k : Bool → List En → Prop} {Q : VK} (I : Is c F H σ Γ) (eo : EOk c E ψ) (h : da Γ fun e Γ1 => wb e fun x => k x Γ1)
    (q : ∀ F' H' b Γ', Is c F' H' σ Γ' → Same F F' → k b Γ' → Q (.bl b) H') : ta σ H Q := by
  refine s.run I eo h fun F1 H1 v e Γ1 I1 s1 r1 h1 => ?_
  obtain ⟨b, rfl, h1⟩ := wb_of h1
  obtain ⟨h2, _⟩ := r1
  cases (show Rep F1 v (.bl b) from h2)
  exact q F1 H1 b Γ1 I1 s1 h1
/-! ### names and constants -/
def dVar (i : Nat) : DT := fun Γ φ => match Γ[i]? with
  | some (.d x) => φ (.d x) Γ
  | some (.lst xs) => φ (.d (.lst xs)) (Γ.set i (.d (.lst xs)))
  | some (.dK ks xs) => φ (.d (.dK ks xs)) (Γ.set i (.d (.dK ks xs)))
  | some (.dT ks xs) => φ (.d (.dT ks xs)) (Γ.set i (.d (.dT ks xs)))
  | _ => False
instance snd_var (i : Nat) : Snd K E ψ (tVar i) (dVar i) := ⟨fun {c F H σ Γ φ Q} I _ h q => by
  unfold dVar at h
  have go : ∀ {e : En} {x : D}, Γ[i]? = some e → e.frz = some x → φ (.d x) (Γ.set i (.d x)) → tVar i σ H Q := fun g z h => by
    obtain ⟨F1, v, hv, I1, s1, rp⟩ := I.frzSlot g z
    exact ⟨v, hv, q F1 H v _ _ I1 s1 (Res.d rp) h⟩
  cases g : Γ[i]? with
  | none => rw [g] at h; exact h.elim
  | some e =>
    rw [g] at h
    cases e with
    | d x =>
      obtain ⟨v, hv, rp⟩ := I.at_ i _ g (fun z => nomatch z)
      exact ⟨v, hv, q F H v _ _ I (Same.refl F) (Res.d rp) h⟩
    | lst xs => exact go g rfl h
    | dK ks xs => exact go g rfl h
    | dT ks xs => exact go g rfl h
    | no => exact h.elim
    | pen => exact h.elim
    | scr ns => exact h.elim⟩
/-- a plain constant as data -/
def vD : V → D
  | .bl b => .bl b
  | .int i => .int i
  | .str s => .str s
  | _ => .non
def isSc : V → Bool
  | .non => true
  | .bl _ => true
  | .int _ => true
  | .str _ => true
  | _ => false
theorem rep_sc {F : Hp} : ∀ {v : V}, isSc v = true → Rep F v (vD v)
  | .non, _ => .non
  | .bl b, _ => .bl b
  | .int b, _ => .int b
  | .str b, _ => .str b
def dC (v : V) : DT := fun Γ φ => isSc v = true ∧ φ (.d (vD v)) Γ
instance snd_c (v : V) : Snd K E ψ (tC v) (dC v) := ⟨fun {c F H σ Γ φ Q} I _ h q => q F H v _ _ I (Same.refl F) (Res.d (rep_sc h.1)) h.2⟩
/-! ### arguments and displays -/
def dNil : DA := fun Γ φ => φ [] Γ
def dCons (da : DT) (dr : DA) : DA := fun Γ φ => da Γ fun e Γ1 => wf e fun x => dr Γ1 fun xs Γ2 => φ (x :: xs) Γ2
instance snd_nil : SndA K E ψ tNil dNil := ⟨fun {c F H σ Γ φ Q} I _ h q => q F H [] [] Γ I (Same.refl F) .nil h⟩
instance snd_cons [s : Snd K E ψ ta da] [sl : SndA K E ψ al dal] : SndA K E ψ (tCons ta al) (dCons da dal) := ⟨fun {c F H σ Γ φ Q} I eo h q => by
  refine s.frz (φ := fun _ _ => True) (k := fun x Γ1 => dal Γ1 fun xs Γ2 => φ (x :: xs) Γ2) I eo h fun F1 H1 v x Γ1 I1 s1 r1 h1 => ?_
  refine sl.run I1 eo h1 fun F2 H2 vs xs Γ2 I2 s2 r2 h2 => ?_
  exact q F2 H2 _ _ Γ2 I2 (s1.trans s2) (.cons (r1.mono s2) r2) h2⟩
def dTup (dal : DA) : DT := fun Γ φ => dal Γ fun xs Γ1 => xs.length ≤ 100000 ∧ φ (.d (.tup xs)) Γ1
instance snd_tup [sl : SndA K E ψ al dal] : Snd K E ψ (tTup al) (dTup dal) := ⟨fun {c F H σ Γ φ Q} I eo h q => by
  refine sl.run I eo h fun F1 H1 vs xs Γ1 I1 s1 r1 h1 => ?_
  refine ⟨by rw [r1.length]; exact Nat.le_trans h1.1 (by decide), fun p hp => ?_⟩
  obtain ⟨I2, s2, _⟩ := I1.new (o := .tup vs) hp
  exact q _ _ _ _ Γ1 I2 (s1.trans s2) (Res.d (.tup upd_same (r1.mono s2))) h1.2⟩
def dLst (dal : DA) : DT := fun Γ φ => dal Γ fun xs Γ1 => xs.length ≤ 100000 ∧ φ (.lst xs) Γ1
instance snd_lst [sl : SndA K E ψ al dal] : Snd K E ψ (tLst al) (dLst dal) := ⟨fun {c F H σ Γ φ Q} I eo h q => by
  refine sl.run I eo h fun F1 H1 vs xs Γ1 I1 s1 r1 h1 => ?_
  refine ⟨by rw [r1.length]; exact Nat.le_trans h1.1 (by decide), fun p hp => ?_⟩
  obtain ⟨I2, r2⟩ := I1.newL hp r1
  exact q _ _ _ _ Γ1 I2 s1 r2 h1.2⟩
/-! ### operations -/
def dOp (dr : D → D → (En → Prop) → Prop) (da db : DT) : DT := fun Γ φ => da Γ fun e Γ1 => wf e fun x => db Γ1 fun e' Γ2 => wf e' fun y => dr x y fun z => φ z Γ2
instance (priority := 900) snd_op [sr : SndR K r dr] [sa : Snd K E ψ ta da] [sb : Snd K E ψ tb db] : Snd K E ψ (tOp r ta tb) (dOp dr da db) := ⟨fun {c F H σ Γ φ Q} I eo h q => by
  refine sa.frz (φ := fun _ _ => True) (k := fun x Γ1 => db Γ1 fun e' Γ2 => wf e' fun y => dr x y fun z => φ z Γ2) I eo h fun F1 H1 v x Γ1 I1 s1 r1 h1 => ?_
  refine sb.frz (φ := fun _ _ => True) (k := fun y Γ2 => dr x y fun z => φ z Γ2) I1 eo h1 fun F2 H2 u y Γ2 I2 s2 r2 h2 => ?_
  exact sr.run I2 (r1.mono s2) r2 h2 fun F3 H3 w z I3 s3 r3 h3 => q F3 H3 w z Γ2 I3 ((s1.trans s2).trans s3) r3 h3⟩
def onI (x y : D) (k : Int → Int → Prop) : Prop := match x, y with
  | .int i, .int j => k i j
  | _, _ => False
def dI (C : Int → Int → Prop) (g : Int → Int → V) (x y : D) (φ : En → Prop) : Prop := onI x y fun i j => C i j ∧ isSc (g i j) = true ∧ φ (.d (vD (g i j)))
def dI0 (g : Int → Int → V) (x y : D) (φ : En → Prop) : Prop := onI x y fun i j => isSc (g i j) = true ∧ φ (.d (vD (g i j)))
theorem two_ints {F : Hp} {x y : V} {d e : D} {k : Int → Int → Prop} (rx : Rep F x d) (ry : Rep F y e) (h : onI d e k) : ∃ i j, x = .int i ∧ y = .int j ∧ k i j := by
  cases d with
  | int i =>
    cases rx
    cases e with
    | int j =>
      cases ry
      exact ⟨i, j, rfl, rfl, h⟩
    | _ => exact h.elim
  | _ => exact h.elim
instance snd_rI (C : Int → Int → Prop) (g : Int → Int → V) : SndR K (rI C g) (dI C g) := ⟨fun {c F H σ Γ x y d e φ Q} I rx ry h q => by
  obtain ⟨i, j, rfl, rfl, h1, h2, h3⟩ := two_ints rx ry h
  exact ⟨i, j, rfl, rfl, h1, q F H _ _ I (Same.refl F) (Res.d (rep_sc h2)) h3⟩⟩
instance snd_rI0 (g : Int → Int → V) : SndR K (rI0 g) (dI0 g) := ⟨fun {c F H σ Γ x y d e φ Q} I rx ry h q => by
  obtain ⟨i, j, rfl, rfl, h2, h3⟩ := two_ints rx ry h
  exact ⟨i, j, rfl, rfl, q F H _ _ I (Same.refl F) (Res.d (rep_sc h2)) h3⟩⟩
/-- negation and its like -/
def dUn (g : Int → V) (da : DT) : DT := fun Γ φ => da Γ fun e Γ1 => match e with
  | .d (.int i) => isSc (g i) = true ∧ φ (.d (vD (g i))) Γ1
  | _ => False
instance snd_un (g : Int → V) [sa : Snd K E ψ ta da] : Snd K E ψ (tUn (rU g) ta) (dUn g da) := ⟨fun {c F H σ Γ φ Q} I eo h q => by
  refine sa.run I eo h fun F1 H1 v e Γ1 I1 s1 r1 h1 => ?_
  cases e with
  | d x =>
    cases x with
    | int i =>
      cases (show Rep F1 v (.int i) from r1.1)
      exact ⟨i, rfl, q F1 H1 _ _ Γ1 I1 s1 (Res.d (rep_sc h1.1)) h1.2⟩
    | _ => exact h1.elim
  | _ => exact h1.elim⟩
/-! ### data as the library's data: == -/
mutual
def D.py : D → PyData
  | .non => .none
  | .bl b => .bool b
  | .int i => .int i
  | .str s => .str s
  | .tup xs => .tuple (pys xs)
  | .lst xs => .list (pys xs)
  | .dK _ _ => .none
  | .dT _ _ => .none
  | .ins _ _ _ => .none
def pys : List D → List PyData
  | [] => []
  | x :: xs => x.py :: pys xs
end
mutual
/-- no dict, no object within -/
def D.flat : D → Bool
  | .tup xs => flats xs
  | .lst xs => flats xs
  | .dK _ _ => false
  | .dT _ _ => false
  | .ins _ _ _ => false
  | _ => true
def flats : List D → Bool
  | [] => true
  | x :: xs => x.flat && flats xs
end
mutual
theorem Rep.dp {F H : Hp} (fh : Same F H) : ∀ {x : D} {v : V}, Rep F v x → x.flat = true → Dp K H v x.py
  | .non, _, .non, _ => .non
  | .bl _, _, .bl b, _ => .bl b
  | .int _, _, .int i, _ => .int i
  | .str _, _, .str i, _ => .str i
  | .tup ds, _, .tup e r, h => .tup (SqT.of (fh _ _ e)) (Reps.dp fh r h)
  | .lst ds, _, .lst e r, h => .lst (SqL.of (fh _ _ e)) (Reps.dp fh r h)
theorem Reps.dp {F H : Hp} (fh : Same F H) : ∀ {xs : List D} {vs : List V}, Reps F vs xs → flats xs = true → DpAll K H vs (pys xs)
  | [], _, .nil, _ => .nil
  | x :: xs, _, .cons a b, h => by
    unfold flats at h
    rw [Bool.and_eq_true] at h
    exact .cons (Rep.dp fh a h.1) (Reps.dp fh b h.2)
end
def D.fit (x : D) : Bool := x.flat && SeqAt.shaped x.py
def D.eqv (x y : D) : Bool := PyData.eqv x.py y.py
def dEq (x y : D) (φ : En → Prop) : Prop := x.fit = true ∧ y.fit = true ∧ φ (.d (.bl (x.eqv y)))
def dNe (x y : D) (φ : En → Prop) : Prop := x.fit = true ∧ y.fit = true ∧ φ (.d (.bl (!x.eqv y)))
instance snd_eqD : SndR K (rEqD K) dEq := ⟨fun {c F H σ Γ x y d e φ Q} I rx ry h q => by
  obtain ⟨h1, h2, h3⟩ := h
  unfold D.fit at h1 h2
  rw [Bool.and_eq_true] at h1 h2
  exact ⟨_, _, rx.dp I.fh h1.1, ry.dp I.fh h2.1, h1.2, h2.2, q F H _ _ I (Same.refl F) (Res.d (.bl _)) h3⟩⟩
instance snd_neD : SndR K (rNeD K) dNe := ⟨fun {c F H σ Γ x y d e φ Q} I rx ry h q => by
  obtain ⟨h1, h2, h3⟩ := h
  unfold D.fit at h1 h2
  rw [Bool.and_eq_true] at h1 h2
  exact ⟨_, _, rx.dp I.fh h1.1, ry.dp I.fh h2.1, h1.2, h2.2, q F H _ _ I (Same.refl F) (Res.d (.bl _)) h3⟩⟩
/-! ### items -/
def dIxT (x y : D) (φ : En → Prop) : Prop := match x, y with
  | .tup xs, .int i => ∃ z, atI xs i = some z ∧ φ (.d z)
  | _, _ => False
def dIxL (x y : D) (φ : En → Prop) : Prop := match x, y with
  | .lst xs, .int i => ∃ z, atI xs i = some z ∧ φ (.d z)
  | _, _ => False
theorem Reps.atI {F : Hp} {vs : List V} {ds : List D} {i : Int} {z : D} (r : Reps F vs ds) (h : atI ds i = some z) : ∃ v, L2.atI vs i = some v ∧ Rep F v z := by
  unfold L2.atI at h ⊢
  rw [r.length]
  cases e : ixN ds.length i with
  | none => rw [e] at h; cases h
  | some j =>
    rw [e] at h
    obtain ⟨v, e1, rp⟩ := r.get (i := j) h
    exact ⟨v, e1, rp⟩
instance snd_ixT : SndR K (rIxT K) dIxT := ⟨fun {c F H σ Γ x y d e φ Q} I rx ry h q => by
  cases d with
  | tup xs =>
    cases e with
    | int i =>
      obtain ⟨z, hz, h⟩ := h
      cases rx with
      | tup e1 r1 =>
        cases ry
        obtain ⟨v, e2, rp⟩ := r1.atI hz
        exact ⟨_, _, i, v, rfl, rfl, SqT.of (I.fh _ _ e1), e2, q F H _ _ I (Same.refl F) (Res.d rp) h⟩
    | _ => exact h.elim
  | _ => exact h.elim⟩
instance snd_ixL : SndR K (rIxL K) dIxL := ⟨fun {c F H σ Γ x y d e φ Q} I rx ry h q => by
  cases d with
  | lst xs =>
    cases e with
    | int i =>
      obtain ⟨z, hz, h⟩ := h
      cases rx with
      | lst e1 r1 =>
        cases ry
        obtain ⟨v, e2, rp⟩ := r1.atI hz
        exact ⟨_, _, i, v, rfl, rfl, SqL.of (I.fh _ _ e1), e2, q F H _ _ I (Same.refl F) (Res.d rp) h⟩
    | _ => exact h.elim
  | _ => exact h.elim⟩
/-- an item of a list that the slot owns, or of data -/
def dIxLv (i : Nat) (db : DT) : DT := fun Γ φ => match Γ[i]? with
  | some (.lst xs) => db Γ fun e Γ1 => Γ1[i]? = some (.lst xs) ∧ wf e fun y => dIxL (.lst xs) y fun z => φ z Γ1
  | some (.d x) => db Γ fun e Γ1 => wf e fun y => dIxL x y fun z => φ z Γ1
  | _ => False
instance snd_ixLv (i : Nat) [sb : Snd K E ψ tb db] : Snd K E ψ (tOp (rIxL K) (tVar i) tb) (dIxLv i db) := ⟨fun {c F H σ Γ φ Q} I eo h q => by
  unfold dIxLv at h
  cases g : Γ[i]? with
  | none => rw [g] at h; exact h.elim
  | some e =>
    rw [g] at h
    cases e with
    | d x =>
      obtain ⟨v, hv, rp⟩ := I.at_ i _ g (fun z => nomatch z)
      have rp : Rep F v x := rp
      refine ⟨v, hv, ?_⟩
      refine sb.frz (φ := fun _ _ => True) (k := fun y Γ2 => dIxL x y fun z => φ z Γ2) I eo h fun F2 H2 u y Γ2 I2 s2 r2 h2 => ?_
      exact SndR.run (r := rIxL K) I2 (rp.mono s2) r2 h2 fun F3 H3 w z I3 s3 r3 h3 => q F3 H3 w z Γ2 I3 (s2.trans s3) r3 h3
    | lst xs =>
      obtain ⟨v, hv, a, vs, rfl, _⟩ := I.at_ i _ g (fun z => nomatch z)
      refine ⟨_, hv, ?_⟩
      refine sb.run I eo h fun F2 H2 u e Γ2 I2 s2 r2 h2 => ?_
      obtain ⟨g2, h2⟩ := h2
      obtain ⟨y, hy, h3⟩ := wf_frz h2
      obtain ⟨F3, I3, s3, rp⟩ := r2.frz I2 hy
      obtain ⟨v', hv', a', vs', e', _, _, hl, rs⟩ := I3.at_ i _ g2 (fun z => nomatch z)
      rw [hv] at hv'
      cases hv'
      cases e'
      cases y with
      | int j =>
        cases rp
        obtain ⟨z, hz, h4⟩ := h3
        obtain ⟨w, ew, rw'⟩ := rs.atI hz
        exact ⟨a, vs', j, w, rfl, rfl, SqL.of hl, ew, q F3 H2 w _ Γ2 I3 (s2.trans s3) (Res.d rw') h4⟩
      | _ => exact h3.elim
    | no => exact h.elim
    | dK ks xs => exact h.elim
    | dT ks xs => exact h.elim
    | pen => exact h.elim
    | scr ns => exact h.elim⟩
/-! ### and, or, not, if; tests -/
def dAndV (da db : DT) : DT := fun Γ φ => da Γ fun e Γ1 => wb e fun b => if b = true then db Γ1 φ else φ (.d (.bl false)) Γ1
def dOrV (da db : DT) : DT := fun Γ φ => da Γ fun e Γ1 => wb e fun b => if b = true then φ (.d (.bl true)) Γ1 else db Γ1 φ
def dNotV (da : DT) : DT := fun Γ φ => da Γ fun e Γ1 => wb e fun b => φ (.d (.bl (!b))) Γ1
instance snd_andV [sa : Snd K E ψ ta da] [sb : Snd K E ψ tb db] : Snd K E ψ (tAndV ta tb) (dAndV da db) := ⟨fun {c F H σ Γ φ Q} I eo h q => by
  refine sa.bool (k := fun b Γ1 => if b = true then db Γ1 φ else φ (.d (.bl false)) Γ1) I eo h fun F1 H1 b Γ1 I1 s1 h1 => ⟨b, rfl, ?_⟩
  cases b with
  | true => exact iteT (sb.run I1 eo h1 fun F2 H2 v e Γ2 I2 s2 r2 h2 => q F2 H2 v e Γ2 I2 (s1.trans s2) r2 h2)
  | false => exact iteF (q F1 H1 _ _ Γ1 I1 s1 (Res.d (.bl _)) h1)⟩
instance snd_orV [sa : Snd K E ψ ta da] [sb : Snd K E ψ tb db] : Snd K E ψ (tOrV ta tb) (dOrV da db) := ⟨fun {c F H σ Γ φ Q} I eo h q => by
  refine sa.bool (k := fun b Γ1 => if b = true then φ (.d (.bl true)) Γ1 else db Γ1 φ) I eo h fun F1 H1 b Γ1 I1 s1 h1 => ⟨b, rfl, ?_⟩
  cases b with
  | true => exact iteT (q F1 H1 _ _ Γ1 I1 s1 (Res.d (.bl _)) h1)
  | false => exact iteF (sb.run I1 eo h1 fun F2 H2 v e Γ2 I2 s2 r2 h2 => q F2 H2 v e Γ2 I2 (s1.trans s2) r2 h2)⟩
instance snd_notV [sa : Snd K E ψ ta da] : Snd K E ψ (tNotV ta) (dNotV da) := ⟨fun {c F H σ Γ φ Q} I eo h q => by
  refine sa.bool (k := fun b Γ1 => φ (.d (.bl (!b))) Γ1) I eo h fun F1 H1 b Γ1 I1 s1 h1 => ⟨b, rfl, q F1 H1 _ _ Γ1 I1 s1 (Res.d (.bl _)) h1⟩⟩
def dB (da : DT) : DB := fun Γ φ => da Γ fun e Γ1 => wb e fun b => φ b Γ1
instance snd_B [sa : Snd K E ψ ta da] : SndT K E ψ (tB ta) (dB da) := ⟨fun {c F H σ Γ φ Q} I eo h q => sa.bool (k := fun b Γ1 => φ b Γ1) I eo h fun F1 H1 b Γ1 I1 s1 h1 => ⟨b, rfl, q F1 H1 b Γ1 I1 s1 h1⟩⟩
instance snd_test [sa : Snd K E ψ ta da] : SndT K E ψ (tTest ta) (dB da) := ⟨fun {c F H σ Γ φ Q} I eo h q => sa.bool (k := fun b Γ1 => φ b Γ1) I eo h fun F1 H1 b Γ1 I1 s1 h1 => ⟨b, rfl, q F1 H1 b Γ1 I1 s1 h1⟩⟩
def dAnd (dtt dtu : DB) : DB := fun Γ φ => dtt Γ fun b Γ1 => if b = true then dtu Γ1 φ else φ false Γ1
def dOr (dtt dtu : DB) : DB := fun Γ φ => dtt Γ fun b Γ1 => if b = true then φ true Γ1 else dtu Γ1 φ
def dNot (dtt : DB) : DB := fun Γ φ => dtt Γ fun b Γ1 => φ (!b) Γ1
def dYes : DB := fun Γ φ => φ true Γ
instance snd_yes : SndT K E ψ tYes dYes := ⟨fun {c F H σ Γ φ Q} I eo h q => q F H true Γ I (Same.refl F) h⟩
instance snd_and [sa : SndT K E ψ tt dtt] [sb : SndT K E ψ tu dtu] : SndT K E ψ (tAnd tt tu) (dAnd dtt dtu) := ⟨fun {c F H σ Γ φ Q} I eo h q => by
  refine sa.run I eo h fun F1 H1 b Γ1 I1 s1 h1 => ?_
  cases b with
  | true => exact iteT (sb.run I1 eo h1 fun F2 H2 e Γ2 I2 s2 h2 => q F2 H2 e Γ2 I2 (s1.trans s2) h2)
  | false => exact iteF (q F1 H1 _ Γ1 I1 s1 h1)⟩
instance snd_or [sa : SndT K E ψ tt dtt] [sb : SndT K E ψ tu dtu] : SndT K E ψ (tOr tt tu) (dOr dtt dtu) := ⟨fun {c F H σ Γ φ Q} I eo h q => by
  refine sa.run I eo h fun F1 H1 b Γ1 I1 s1 h1 => ?_
  cases b with
  | true => exact iteT (q F1 H1 _ Γ1 I1 s1 h1)
  | false => exact iteF (sb.run I1 eo h1 fun F2 H2 e Γ2 I2 s2 h2 => q F2 H2 e Γ2 I2 (s1.trans s2) h2)⟩
instance snd_not [sa : SndT K E ψ tt dtt] : SndT K E ψ (tNot tt) (dNot dtt) := ⟨fun {c F H σ Γ φ Q} I eo h q => sa.run I eo h fun F1 H1 b Γ1 I1 s1 h1 => q F1 H1 _ Γ1 I1 s1 h1⟩
def dIf (dtt : DB) (da db : DT) : DT := fun Γ φ => dtt Γ fun b Γ1 => if b = true then da Γ1 φ else db Γ1 φ
instance snd_if [st : SndT K E ψ tt dtt] [sa : Snd K E ψ ta da] [sb : Snd K E ψ tb db] : Snd K E ψ (tIf tt ta tb) (dIf dtt da db) := ⟨fun {c F H σ Γ φ Q} I eo h q => by
  refine st.run I eo h fun F1 H1 b Γ1 I1 s1 h1 => ?_
  cases b with
  | true => exact iteT (sa.run I1 eo h1 fun F2 H2 v e Γ2 I2 s2 r2 h2 => q F2 H2 v e Γ2 I2 (s1.trans s2) r2 h2)
  | false => exact iteF (sb.run I1 eo h1 fun F2 H2 v e Γ2 I2 s2 r2 h2 => q F2 H2 v e Γ2 I2 (s1.trans s2) r2 h2)⟩
/-- a < b < c -/
def dChain (dr dr' : D → D → (En → Prop) → Prop) (da db dx : DT) : DT := fun Γ φ => da Γ fun e Γ1 => wf e fun x => db Γ1 fun e' Γ2 => wf e' fun y => dr x y fun z => wb z fun k => if k = true then dx Γ2 fun e'' Γ3 => wf e'' fun w => dr' y w fun z => φ z Γ3 else φ (.d (.bl false)) Γ2
instance snd_chain {r' : R2} {dr' : D → D → (En → Prop) → Prop} [sr : SndR K r dr] [sr' : SndR K r' dr'] [sa : Snd K E ψ ta da] [sb : Snd K E ψ tb db] [sx : Snd K E ψ tx dx] : Snd K E ψ (tChain r r' ta tb tx) (dChain dr dr' da db dx) := ⟨fun {c F H σ Γ φ Q} I eo h q => by
  refine sa.frz (φ := fun _ _ => True) (k := fun x Γ1 => db Γ1 fun e' Γ2 => wf e' fun y => dr x y fun z => wb z fun k => if k = true then dx Γ2 fun e'' Γ3 => wf e'' fun w => dr' y w fun z => φ z Γ3 else φ (.d (.bl false)) Γ2) I eo h fun F1 H1 v x Γ1 I1 s1 r1 h1 => ?_
  refine sb.frz (φ := fun _ _ => True) (k := fun y Γ2 => dr x y fun z => wb z fun k => if k = true then dx Γ2 fun e'' Γ3 => wf e'' fun w => dr' y w fun z => φ z Γ3 else φ (.d (.bl false)) Γ2) I1 eo h1 fun F2 H2 u y Γ2 I2 s2 r2 h2 => ?_
  refine sr.run I2 (r1.mono s2) r2 h2 fun F3 H3 w z I3 s3 r3 h3 => ?_
  obtain ⟨k, rfl, h3⟩ := wb_of h3
  cases (show Rep F3 w (.bl k) from r3.1)
  refine ⟨k, rfl, ?_⟩
  cases k with
  | false => exact iteF (q F3 H3 _ _ Γ2 I3 ((s1.trans s2).trans s3) (Res.d (.bl _)) h3)
  | true =>
    refine iteT ?_
    refine sx.frz (φ := fun _ _ => True) (k := fun w Γ3 => dr' y w fun z => φ z Γ3) I3 eo h3 fun F4 H4 w x4 Γ4 I4 s4 r4 h4 => ?_
    exact sr'.run I4 ((r2.mono s3).mono s4) r4 h4 fun F5 H5 w5 z5 I5 s5 r5 h5 => q F5 H5 w5 z5 Γ4 I5 ((((s1.trans s2).trans s3).trans s4).trans s5) r5 h5⟩
end
end Da

set_option Elab.async false
set_option maxRecDepth 100000
set_option maxHeartbeats 4000000
set_option linter.all false
namespace Da
open PySem PySem.Spec PyProof.Rows L2 RZ
/-! ### what a def promises, over data -/
def c0 (K : PySem.W.Frag) (F H : Hp) : Ct K := ⟨F, ntH H, none, none, fun _ _ e => nomatch e⟩
def spX (K : PySem.W.Frag) [HasT K] (den : List D → (En → Prop) → (Value → Prop) → Prop) : Sp := fun vs H Q E => ∃ (F : Hp) (ds : List D) (φ : En → Prop) (ψ : Value → Prop), Same F H ∧ FN F ∧ TbOk K H ∧ Reps F vs ds ∧ den ds φ ψ ∧
  (∀ F' H' v e, Same F F' → NS H H' → TbOk K H' → Same F' H' → FN F' → (∀ a o, F' a = some o → F a = some o ∨ Soft (ntH H) a) → Held (c0 K F H) F' H' e v → e ≠ .no → φ e → Q v H') ∧
  (∀ C H', NS H H' → TbOk K H' → ψ C → E C none H')
/-- with a pen ahead -/
def cP (K : PySem.W.Frag) (F H : Hp) (p : Addr) : Ct K := ⟨F, ntH H, some p, none, fun _ _ e => nomatch e⟩
def spP (K : PySem.W.Frag) [HasT K] (den : List D → (En → Prop) → Prop) : Sp := fun vs H Q _ => ∃ (p : Addr) (us : List V) (F : Hp) (ds : List D) (φ : En → Prop), vs = .ref p :: us ∧ F p = none ∧ PenAt H p ∧ Same F H ∧ FN F ∧ TbOk K H ∧ Reps F us ds ∧ den ds φ ∧
  (∀ F' H' v e, Same F F' → (∀ a o, a ≠ p → NT o → H a = some o → H' a = some o) → TbOk K H' → PenAt H' p → Same F' H' → FN F' → (∀ a o, F' a = some o → F a = some o ∨ Soft (ntH H) a) → Held (cP K F H p) F' H' e v → e ≠ .no → e ≠ .pen → φ e → Q v H')
/-- iterators -/
def ItOk (K : PySem.W.Frag) [HasT K] (F1 : Hp) (J : It) (items : List D) : Prop := ∀ (c : Ct K) F H σ Γ (i : Nat), Is c F H σ Γ → Same F1 F →
  (i = items.length → J.stop i H) ∧ ∀ d, items[i]? = some d → J.go i H ∧ ∀ x H', J.yld i H x H' → ∃ F', Is c F' H' σ Γ ∧ Same F F' ∧ Rep F' x d
class SndI (K : PySem.W.Frag) [HasT K] (E : XK) (ψ : Value → Prop) (wi : TI) (den : outParam DA) : Prop where
  run : ∀ {c : Ct K} {F H : Hp} {σ : L2.St} {Γ : List En} {φ : List D → List En → Prop} {R : It → Hp → Prop}, Is c F H σ Γ → EOk c E ψ → den Γ φ →
    (∀ F' H' J items Γ', Is c F' H' σ Γ' → Same F F' → ItOk K F' J items → φ items Γ' → R J H') → wi σ H R
/-- targets -/
class SndG (K : PySem.W.Frag) [HasT K] (g : TG) (gv : outParam (List Nat)) (den : outParam (D → List En → (List En → Prop) → Prop)) : Prop where
  run : ∀ {c : Ct K} {F H : Hp} {σ : L2.St} {Γ : List En} {x : V} {d : D} {φ : List En → Prop} {Q : L2.St → Hp → Prop}, Is c F H σ Γ → Rep F x d → den d Γ φ →
    (∀ σ' Γ', Is c F H σ' Γ' → (∀ vs, (∀ i ∈ gv, i ∈ vs) → wipe σ' vs = wipe σ vs) → φ Γ' → Q σ' H) → g x σ H Q
class SndGs (K : PySem.W.Frag) [HasT K] (g : TGs) (gv : outParam (List Nat)) (den : outParam (List D → List En → (List En → Prop) → Prop)) : Prop where
  run : ∀ {c : Ct K} {F H : Hp} {σ : L2.St} {Γ : List En} {xs : List V} {ds : List D} {φ : List En → Prop} {Q : L2.St → Hp → Prop}, Is c F H σ Γ → Reps F xs ds → den ds Γ φ →
    (∀ σ' Γ', Is c F H σ' Γ' → (∀ vs, (∀ i ∈ gv, i ∈ vs) → wipe σ' vs = wipe σ vs) → φ Γ' → Q σ' H) → g xs σ H Q
theorem wipe_in {σ : L2.St} {j : Nat} : ∀ {vs : List Nat}, j ∈ vs → (wipe σ vs)[j]? = if j < σ.length then some none else none
  | v :: vs, h => by
    show ((wipe σ vs).set v none)[j]? = _
    rw [List.getElem?_set, wipe_length]
    by_cases z : v = j
    · rw [if_pos z, z]
    · rw [if_neg z]
      exact wipe_in ((List.mem_cons.mp h).resolve_left fun w => z w.symm)
theorem wipe_set {σ : L2.St} {i : Nat} {v : Option V} {vs : List Nat} (h : i ∈ vs) : wipe (σ.set i v) vs = wipe σ vs := by
  apply List.ext_getElem?
  intro j
  by_cases hj : j ∈ vs
  · rw [wipe_in hj, wipe_in hj, List.length_set]
  · rw [wipe_out hj, wipe_out hj, List.getElem?_set_ne fun z => hj (by rw [← z]; exact h)]
theorem wipe_wipe {σ : L2.St} {vs : List Nat} : wipe (wipe σ vs) vs = wipe σ vs := by
  apply List.ext_getElem?
  intro j
  by_cases hj : j ∈ vs
  · rw [wipe_in hj, wipe_in hj, wipe_length]
  · rw [wipe_out hj]
section
variable {K : PySem.W.Frag} [HasT K] {E : XK} {ψ : Value → Prop} {te ta tb tx : TE} {da db dx de : DT} {tt tu : TT} {dtt dtu : DB} {al : TA} {dal : DA} {r : R2} {dr : D → D → (En → Prop) → Prop}
/-! ### calls of built-ins -/
def dCB (dc : List D → (En → Prop) → Prop) (dal : DA) : DT := fun Γ φ => dal Γ fun xs Γ1 => dc xs fun z => φ z Γ1
instance (priority := 900) snd_cb {rc : List V → Hp → VK → Prop} {dc : List D → (En → Prop) → Prop} [sc : SndC K rc dc] [sl : SndA K E ψ al dal] : Snd K E ψ (tCB rc al) (dCB dc dal) := ⟨fun {c F H σ Γ φ Q} I eo h q => by
  refine sl.run I eo h fun F1 H1 vs xs Γ1 I1 s1 r1 h1 => ?_
  exact sc.run I1 r1 h1 fun F2 H2 v z I2 s2 r2 h2 => q F2 H2 v z Γ1 I2 (s1.trans s2) r2 h2⟩
def rLen (K : PySem.W.Frag) : List V → Hp → VK → Prop := fun xs H Q => ∃ x n, xs = [x] ∧ LenV K x H n ∧ Q (.int n) H
theorem cl_len {X : Cx} : CallR X (.builtin "len") (rLen X.K) := call_len
def dLenR (xs : List D) (φ : En → Prop) : Prop := match xs with
  | [.tup ds] => φ (.d (.int ds.length))
  | [.lst ds] => φ (.d (.int ds.length))
  | [.str s] => s.length ≤ sizeLine ∧ φ (.d (.int s.length))
  | _ => False
theorem one_of {F : Hp} {xs : List V} {d : D} (r : Reps F xs [d]) : ∃ x, xs = [x] ∧ Rep F x d := by
  cases r with
  | cons a b =>
    cases b
    exact ⟨_, rfl, a⟩
instance snd_len : SndC K (rLen K) dLenR := ⟨fun {c F H σ Γ xs ds φ Q} I r h q => by
  match ds, r, h with
  | [.tup es], r, h =>
    obtain ⟨x, rfl, rp⟩ := one_of r
    cases rp with
    | tup e rs => exact ⟨_, es.length, rfl, .inr ⟨_, SqT.of (I.fh _ _ e), rs.length.symm⟩, q F H _ _ I (Same.refl F) (Res.d (.int _)) h⟩
  | [.lst es], r, h =>
    obtain ⟨x, rfl, rp⟩ := one_of r
    cases rp with
    | lst e rs => exact ⟨_, es.length, rfl, .inl ⟨_, SqL.of (I.fh _ _ e), rs.length.symm⟩, q F H _ _ I (Same.refl F) (Res.d (.int _)) h⟩
  | [.str s], r, h =>
    obtain ⟨x, rfl, rp⟩ := one_of r
    cases rp
    exact ⟨_, s.length, rfl, ⟨h.1, rfl⟩, q F H _ _ I (Same.refl F) (Res.d (.int _)) h.2⟩⟩
/-- len of what a slot owns -/
def dLenv (i : Nat) : DT := fun Γ φ => match Γ[i]? with
  | some (.lst xs) => φ (.d (.int xs.length)) Γ
  | some (.scr ns) => φ (.d (.int ns.length)) Γ
  | some (.d x) => dLenR [x] fun z => φ z Γ
  | _ => False
theorem Is.script {c : Ct K} {F H : Hp} {σ : L2.St} {Γ : List En} {i : Nat} {ns : List Int} (I : Is c F H σ Γ) (g : Γ[i]? = some (.scr ns)) : ∃ a, σ[i]? = some (some (.ref a)) ∧ SqL K H a (ns.map V.int) := by
  obtain ⟨v, hv, a, rfl, e⟩ := I.at_ i _ g (fun z => nomatch z)
  refine ⟨a, hv, ?_⟩
  obtain ⟨h1, h2⟩ := c.hs a ns e
  rcases h1 with (h | ⟨o, h⟩) | h
  · exact .inl (.inl (I.h0 _ _ h2 h))
  · exact .inl (.inr ⟨o, I.h0 _ _ h2 h⟩)
  · exact .inr h
instance snd_lenv (i : Nat) : Snd K E ψ (tCB (rLen K) (tCons (tVar i) tNil)) (dLenv i) := ⟨fun {c F H σ Γ φ Q} I eo h q => by
  unfold dLenv at h
  cases g : Γ[i]? with
  | none => rw [g] at h; exact h.elim
  | some e =>
    rw [g] at h
    cases e with
    | d x =>
      obtain ⟨v, hv, rp⟩ := I.at_ i _ g (fun z => nomatch z)
      exact ⟨v, hv, SndC.run (r := rLen K) I (.cons rp .nil) h fun F2 H2 v z I2 s2 r2 h2 => q F2 H2 v z Γ I2 s2 r2 h2⟩
    | lst xs =>
      obtain ⟨v, hv, a, vs, rfl, _, _, hl, rs⟩ := I.at_ i _ g (fun z => nomatch z)
      exact ⟨_, hv, _, xs.length, rfl, .inl ⟨vs, SqL.of hl, rs.length.symm⟩, q F H _ _ Γ I (Same.refl F) (Res.d (.int _)) h⟩
    | scr ns =>
      obtain ⟨a, hv, hs⟩ := I.script g
      exact ⟨_, hv, _, ns.length, rfl, .inl ⟨_, hs, by rw [List.length_map]⟩, q F H _ _ Γ I (Same.refl F) (Res.d (.int _)) h⟩
    | no => exact h.elim
    | dK ks xs => exact h.elim
    | dT ks xs => exact h.elim
    | pen => exact h.elim⟩
/-- list(x), tuple(x) -/
def rList (K : PySem.W.Frag) : List V → Hp → VK → Prop := fun xs H Q => ∃ p ys, xs = [.ref p] ∧ (SqL K H p ys ∨ SqT K H p ys) ∧ ∀ l, H l = none → Q (.ref l) (upd H l (.lst ys))
theorem cl_list {X : Cx} : CallR X (.type "list") (rList X.K) := call_list_of
def dListR (xs : List D) (φ : En → Prop) : Prop := match xs with
  | [.tup ds] => φ (.lst ds)
  | [.lst ds] => φ (.lst ds)
  | _ => False
instance snd_list : SndC K (rList K) dListR := ⟨fun {c F H σ Γ xs ds φ Q} I r h q => by
  have go : ∀ (p : Addr) (vs : List V) (es : List D), Reps F vs es → (SqL K H p vs ∨ SqT K H p vs) → φ (.lst es) → rList K [.ref p] H Q := fun p vs es rs hs h => ⟨p, vs, rfl, hs, fun l hl => by
    obtain ⟨I2, r2⟩ := I.newL hl rs
    exact q _ _ _ _ I2 (Same.refl F) r2 h⟩
  match ds, r, h with
  | [.tup es], r, h =>
    obtain ⟨x, rfl, rp⟩ := one_of r
    cases rp with
    | tup e rs => exact go _ _ _ rs (.inr (SqT.of (I.fh _ _ e))) h
  | [.lst es], r, h =>
    obtain ⟨x, rfl, rp⟩ := one_of r
    cases rp with
    | lst e rs => exact go _ _ _ rs (.inl (SqL.of (I.fh _ _ e))) h⟩
def rTuple (K : PySem.W.Frag) : List V → Hp → VK → Prop := fun xs H Q => ∃ p ys, xs = [.ref p] ∧ ((SqL K H p ys ∧ ∀ l, H l = none → Q (.ref l) (upd H l (.tup ys))) ∨ (SqT K H p ys ∧ Q (.ref p) H))
theorem cl_tuple {X : Cx} : CallR X (.type "tuple") (rTuple X.K) := call_tuple_of
def dTupR (xs : List D) (φ : En → Prop) : Prop := match xs with
  | [.tup ds] => φ (.d (.tup ds))
  | [.lst ds] => φ (.d (.tup ds))
  | _ => False
instance snd_tuple : SndC K (rTuple K) dTupR := ⟨fun {c F H σ Γ xs ds φ Q} I r h q => by
  match ds, r, h with
  | [.tup es], r, h =>
    obtain ⟨x, rfl, rp⟩ := one_of r
    cases rp with
    | tup e rs => exact ⟨_, _, rfl, .inr ⟨SqT.of (I.fh _ _ e), q F H _ _ I (Same.refl F) (Res.d (.tup e rs)) h⟩⟩
  | [.lst es], r, h =>
    obtain ⟨x, rfl, rp⟩ := one_of r
    cases rp with
    | @lst a vs _ e rs =>
      refine ⟨_, _, rfl, .inl ⟨SqL.of (I.fh _ _ e), fun l hl => ?_⟩⟩
      obtain ⟨I2, s2, _⟩ := I.new (o := .tup vs) hl
      exact q _ _ _ _ I2 s2 (Res.d (.tup upd_same (rs.mono s2))) h⟩
def dAllR (xs : List D) (φ : En → Prop) : Prop := match xs with
  | [.lst ds] => ∃ bs : List Bool, ds = bs.map D.bl ∧ φ (.d (.bl (bs.all id)))
  | _ => False
instance snd_all : SndC K (rAll K) dAllR := ⟨fun {c F H σ Γ xs ds φ Q} I r h q => by
  match ds, r, h with
  | [.lst es], r, h =>
    obtain ⟨bs, rfl, h⟩ := h
    obtain ⟨x, rfl, rp⟩ := one_of r
    cases rp with
    | lst e rs =>
      rw [rs.of_bls] at e
      exact ⟨_, bs, rfl, SqL.of (I.fh _ _ e), q F H _ _ I (Same.refl F) (Res.d (.bl _)) h⟩⟩
def dAnyR (xs : List D) (φ : En → Prop) : Prop := match xs with
  | [.lst ds] => ∃ bs : List Bool, ds = bs.map D.bl ∧ φ (.d (.bl (bs.any id)))
  | _ => False
instance snd_any : SndC K (rAny K) dAnyR := ⟨fun {c F H σ Γ xs ds φ Q} I r h q => by
  match ds, r, h with
  | [.lst es], r, h =>
    obtain ⟨bs, rfl, h⟩ := h
    obtain ⟨x, rfl, rp⟩ := one_of r
    cases rp with
    | lst e rs =>
      rw [rs.of_bls] at e
      exact ⟨_, bs, rfl, SqL.of (I.fh _ _ e), q F H _ _ I (Same.refl F) (Res.d (.bl _)) h⟩⟩
def dSumR (xs : List D) (φ : En → Prop) : Prop := match xs with
  | [.lst ds] => ∃ is : List Int, ds = is.map D.int ∧ φ (.d (.int is.sum))
  | _ => False
instance snd_sum : SndC K (rSum K) dSumR := ⟨fun {c F H σ Γ xs ds φ Q} I r h q => by
  match ds, r, h with
  | [.lst es], r, h =>
    obtain ⟨bs, rfl, h⟩ := h
    obtain ⟨x, rfl, rp⟩ := one_of r
    cases rp with
    | lst e rs =>
      rw [rs.of_ints] at e
      exact ⟨_, bs, rfl, SqL.of (I.fh _ _ e), q F H _ _ I (Same.refl F) (Res.d (.int _)) h⟩⟩
def rMx (xs : List V) (H : Hp) (Q : VK) : Prop := ∃ i j, xs = [.int i, .int j] ∧ Q (.int (if j > i then j else i)) H
def rMn (xs : List V) (H : Hp) (Q : VK) : Prop := ∃ i j, xs = [.int i, .int j] ∧ Q (.int (if j < i then j else i)) H
theorem cl_max {X : Cx} (hc : X.calm = true) : CallR X (.builtin "max") rMx := call_max2 hc
theorem cl_min {X : Cx} (hc : X.calm = true) : CallR X (.builtin "min") rMn := call_min2 hc
def dMxR (xs : List D) (φ : En → Prop) : Prop := match xs with
  | [.int i, .int j] => φ (.d (.int (if j > i then j else i)))
  | _ => False
def dMnR (xs : List D) (φ : En → Prop) : Prop := match xs with
  | [.int i, .int j] => φ (.d (.int (if j < i then j else i)))
  | _ => False
instance snd_mx : SndC K rMx dMxR := ⟨fun {c F H σ Γ xs ds φ Q} I r h q => by
  match ds, r, h with
  | [.int i, .int j], .cons a (.cons b .nil), h =>
    cases a
    cases b
    exact ⟨i, j, rfl, q F H _ _ I (Same.refl F) (Res.d (.int _)) h⟩⟩
instance snd_mn : SndC K rMn dMnR := ⟨fun {c F H σ Γ xs ds φ Q} I r h q => by
  match ds, r, h with
  | [.int i, .int j], .cons a (.cons b .nil), h =>
    cases a
    cases b
    exact ⟨i, j, rfl, q F H _ _ I (Same.refl F) (Res.d (.int _)) h⟩⟩
def rInt1 (xs : List V) (H : Hp) (Q : VK) : Prop := (∃ i, xs = [.int i] ∧ Q (.int i) H) ∨ ∃ k, xs = [.bl k] ∧ Q (.int (if k then 1 else 0)) H
theorem cl_int {X : Cx} : CallR X (.type "int") rInt1 := call_int1
def dIntR (xs : List D) (φ : En → Prop) : Prop := match xs with
  | [.int i] => φ (.d (.int i))
  | [.bl k] => φ (.d (.int (if k then 1 else 0)))
  | _ => False
instance snd_int1 : SndC K rInt1 dIntR := ⟨fun {c F H σ Γ xs ds φ Q} I r h q => by
  match ds, r, h with
  | [.int i], .cons a .nil, h =>
    cases a
    exact .inl ⟨i, rfl, q F H _ _ I (Same.refl F) (Res.d (.int _)) h⟩
  | [.bl k], .cons a .nil, h =>
    cases a
    exact .inr ⟨k, rfl, q F H _ _ I (Same.refl F) (Res.d (.int _)) h⟩⟩
/-- isinstance(x, T) -/
def D.ty : D → Option String
  | .non => some "NoneType"
  | .bl _ => some "bool"
  | .int _ => some "int"
  | .str _ => some "str"
  | .tup _ => some "tuple"
  | .lst _ => some "list"
  | .dK _ _ => some "dict"
  | .dT _ _ => some "dict"
  | .ins _ _ _ => none
def isTy (T : String) (x : D) : Option Bool := match x.ty with
  | some t => if t = T then some true else if t = "bool" ∧ T = "int" then some true else some false
  | none => none
def dIsi (T : String) (da : DT) : DT := fun Γ φ => da Γ fun e Γ1 => wf e fun x => T ∈ ["int", "bool", "str", "tuple", "list", "dict"] ∧ ∃ b, isTy T x = some b ∧ φ (.d (.bl b)) Γ1
theorem kit_all {t T : String} (ht : t ∈ ["NoneType", "bool", "int", "str", "tuple", "list", "dict"]) (hT : T ∈ ["int", "bool", "str", "tuple", "list", "dict"]) : PySem.W.kitOne K (.type t) (.type T) = some (decide (t = T) || (decide (t = "bool") && decide (T = "int"))) := by
  simp only [List.mem_cons, List.not_mem_nil, or_false] at ht hT
  rcases ht with rfl | rfl | rfl | rfl | rfl | rfl | rfl <;> rcases hT with rfl | rfl | rfl | rfl | rfl | rfl <;> first | exact kit_ty (show kitB _ _ = some true by decide +kernel) | exact kit_ty (show kitB _ _ = some false by decide +kernel)
theorem Rep.tyX {F H : Hp} (fh : Same F H) {v : V} {x : D} {t : String} (r : Rep F v x) (h : x.ty = some t) : TyX K H v (.type t) := by
  cases r with
  | non => cases h; exact .base .non
  | bl b => cases h; exact .base (.bl b)
  | int b => cases h; exact .base (.int b)
  | str b => cases h; exact .base (.str b)
  | tup e r => cases h; exact .base (.tup (fh _ _ e))
  | lst e r => cases h; exact .base (.lst (fh _ _ e))
  | dK e k r => cases h; exact .base (.dK (fh _ _ e))
  | dT e k r => cases h; exact .base (.dT (fh _ _ e))
  | ins e k r => cases h
theorem D.ty_in {x : D} {t : String} (h : x.ty = some t) : t ∈ ["NoneType", "bool", "int", "str", "tuple", "list", "dict"] := by
  cases x <;> cases h <;> decide
instance snd_isi (T : String) [sa : Snd K E ψ ta da] : Snd K E ψ (tCB (rIsi K) (tCons ta (tCons (tC (.ty T)) tNil))) (dIsi T da) := ⟨fun {c F H σ Γ φ Q} I eo h q => by
  refine sa.frz (φ := fun _ _ => True) (k := fun x Γ1 => T ∈ ["int", "bool", "str", "tuple", "list", "dict"] ∧ ∃ b, isTy T x = some b ∧ φ (.d (.bl b)) Γ1) I eo h fun F1 H1 v x Γ1 I1 s1 r1 h1 => ?_
  obtain ⟨hT, b, hb, h1⟩ := h1
  unfold isTy at hb
  cases ht : x.ty with
  | none => rw [ht] at hb; cases hb
  | some t =>
    rw [ht] at hb
    refine ⟨v, .ty T, .type t, .type T, _, rfl, .ty T, r1.tyX I1.fh ht, kit_all (D.ty_in ht) hT, ?_⟩
    have e : (decide (t = T) || (decide (t = "bool") && decide (T = "int"))) = b := by
      by_cases z : t = T
      · simp only [z, if_true] at hb
        cases hb
        simp [z]
      · by_cases w : t = "bool" ∧ T = "int"
        · simp only [if_neg z, if_pos w] at hb
          cases hb
          simp [w.1, w.2]
        · simp only [if_neg z, if_neg w] at hb
          cases hb
          rw [decide_eq_false z, Bool.false_or]
          by_cases w1 : t = "bool"
          · have w2 : T ≠ "int" := fun w2 => w ⟨w1, w2⟩
            rw [decide_eq_false w2, Bool.and_false]
          · rw [decide_eq_false w1, Bool.false_and]
    rw [e]
    exact q F1 H1 _ _ Γ1 I1 s1 (Res.d (.bl _)) h1⟩
/-! ### slices -/
def cutL {α : Type} (xs : List α) (lo hi : Option Int) : List α := (xs.drop (HT.sIx xs.length 0 lo)).take (HT.sIx xs.length xs.length hi - HT.sIx xs.length 0 lo)
theorem Reps.cut {F : Hp} {vs : List V} {ds : List D} (r : Reps F vs ds) (lo hi : Option Int) : Reps F (cutV vs lo hi) (cutL ds lo hi) := by
  unfold cutV cutL
  rw [r.length]
  exact (r.drop _).take _
class SndO (K : PySem.W.Frag) [HasT K] (E : XK) (ψ : Value → Prop) (to : TO) (den : outParam (List En → (Option Int → List En → Prop) → Prop)) : Prop where
  run : ∀ {c : Ct K} {F H : Hp} {σ : L2.St} {Γ : List En} {φ : Option Int → List En → Prop} {Q : Option Int → Hp → Prop}, Is c F H σ Γ → EOk c E ψ → den Γ φ →
    (∀ F' H' o Γ', Is c F' H' σ Γ' → Same F F' → φ o Γ' → Q o H') → to σ H Q
def wi (e : En) (k : Int → Prop) : Prop := match e with
  | .d (.int i) => k i
  | _ => False
theorem wi_of {e : En} {k : Int → Prop} (h : wi e k) : ∃ b, e = .d (.int b) ∧ k b := by
  cases e with
  | d x => cases x <;> first | exact ⟨_, rfl, h⟩ | exact h.elim
  | _ => exact h.elim
def dNoPart : List En → (Option Int → List En → Prop) → Prop := fun Γ φ => φ none Γ
def dPart (da : DT) : List En → (Option Int → List En → Prop) → Prop := fun Γ φ => da Γ fun e Γ1 => wi e fun i => φ (some i) Γ1
instance snd_nopart : SndO K E ψ tNoPart dNoPart := ⟨fun {c F H σ Γ φ Q} I eo h q => q F H none Γ I (Same.refl F) h⟩
instance snd_part [sa : Snd K E ψ ta da] : SndO K E ψ (tPart ta) (dPart da) := ⟨fun {c F H σ Γ φ Q} I eo h q => sa.run I eo h fun F1 H1 v e Γ1 I1 s1 r1 h1 => by
  obtain ⟨i, rfl, h1⟩ := wi_of h1
  cases (show Rep F1 v (.int i) from r1.1)
  exact ⟨i, rfl, q F1 H1 _ Γ1 I1 s1 h1⟩⟩
def dSl (t : Bool) (da : DT) (dl dh : List En → (Option Int → List En → Prop) → Prop) : DT := fun Γ φ => da Γ fun e Γ1 => wf e fun x => dl Γ1 fun lo Γ2 => dh Γ2 fun hi Γ3 => match x with
  | .tup xs => t = true ∧ φ (.d (.tup (cutL xs lo hi))) Γ3
  | .lst xs => t = false ∧ φ (.lst (cutL xs lo hi)) Γ3
  | _ => False
theorem cut_whole {α : Type} {xs : List α} {lo hi : Option Int} (h : HT.sIx xs.length 0 lo = 0 ∧ HT.sIx xs.length xs.length hi = xs.length) : cutL xs lo hi = xs := by
  unfold cutL
  rw [h.1, h.2, List.drop_zero, Nat.sub_zero, List.take_length]
instance snd_slA {tl th : TO} {dl dh : List En → (Option Int → List En → Prop) → Prop} [sa : Snd K E ψ ta da] [sl : SndO K E ψ tl dl] [sh : SndO K E ψ th dh] : Snd K E ψ (tSl (rSlA K) ta tl th) (dSl true da dl dh) := ⟨fun {c F H σ Γ φ Q} I eo h q => by
  refine sa.frz (φ := fun _ _ => True) (k := fun x Γ1 => dl Γ1 fun lo Γ2 => dh Γ2 fun hi Γ3 => match x with
  | .tup xs => true = true ∧ φ (.d (.tup (cutL xs lo hi))) Γ3
  | .lst xs => true = false ∧ φ (.lst (cutL xs lo hi)) Γ3
  | _ => False) I eo h fun F1 H1 v x Γ1 I1 s1 r1 h1 => ?_
  refine sl.run I1 eo h1 fun F2 H2 lo Γ2 I2 s2 h2 => ?_
  refine sh.run I2 eo h2 fun F3 H3 hi Γ3 I3 s3 h3 => ?_
  have r3 := (r1.mono s2).mono s3
  cases r3 with
  | @tup a vs es e rs =>
    refine ⟨a, vs, rfl, SqT.of (I3.fh _ _ e), fun w => ?_, fun _ p hp => ?_⟩
    · rw [rs.length] at w
      have := h3.2
      rw [cut_whole w] at this
      exact q F3 H3 _ _ Γ3 I3 ((s1.trans s2).trans s3) (Res.d (.tup e rs)) this
    · obtain ⟨I4, s4, _⟩ := I3.new (o := .tup (cutV vs lo hi)) hp
      exact q _ _ _ _ Γ3 I4 (((s1.trans s2).trans s3).trans s4) (Res.d (.tup upd_same ((rs.cut lo hi).mono s4))) h3.2
  | lst e rs => exact absurd h3.1 (by decide)
  | _ => exact h3.elim⟩
instance snd_slL {tl th : TO} {dl dh : List En → (Option Int → List En → Prop) → Prop} [sa : Snd K E ψ ta da] [sl : SndO K E ψ tl dl] [sh : SndO K E ψ th dh] : Snd K E ψ (tSl (rSlL K) ta tl th) (dSl false da dl dh) := ⟨fun {c F H σ Γ φ Q} I eo h q => by
  refine sa.frz (φ := fun _ _ => True) (k := fun x Γ1 => dl Γ1 fun lo Γ2 => dh Γ2 fun hi Γ3 => match x with
  | .tup xs => false = true ∧ φ (.d (.tup (cutL xs lo hi))) Γ3
  | .lst xs => false = false ∧ φ (.lst (cutL xs lo hi)) Γ3
  | _ => False) I eo h fun F1 H1 v x Γ1 I1 s1 r1 h1 => ?_
  refine sl.run I1 eo h1 fun F2 H2 lo Γ2 I2 s2 h2 => ?_
  refine sh.run I2 eo h2 fun F3 H3 hi Γ3 I3 s3 h3 => ?_
  have r3 := (r1.mono s2).mono s3
  cases r3 with
  | @lst a vs es e rs =>
    refine ⟨a, vs, rfl, SqL.of (I3.fh _ _ e), fun p hp => ?_⟩
    obtain ⟨I4, r4⟩ := I3.newL hp (rs.cut lo hi)
    exact q _ _ _ _ Γ3 I4 ((s1.trans s2).trans s3) r4 h3.2
  | tup e rs => exact absurd h3.1 (by decide)
  | _ => exact h3.elim⟩
/-! ### sums of sequences -/
def dCatA (x y : D) (φ : En → Prop) : Prop := match x, y with
  | .tup xs, .tup ys => xs.length + ys.length ≤ 1000000 ∧ φ (.d (.tup (xs ++ ys)))
  | _, _ => False
instance snd_catA : SndR K (rCatA K) dCatA := ⟨fun {c F H σ Γ x y d e φ Q} I rx ry h q => by
  match d, e, rx, ry, h with
  | .tup ds, .tup es, .tup (vs := vs) e1 r1, .tup (vs := us) e2 r2, h =>
    refine ⟨_, _, vs, us, rfl, rfl, SqT.of (I.fh _ _ e1), SqT.of (I.fh _ _ e2), by rw [r1.length, r2.length]; exact Nat.le_trans h.1 (by decide), fun z => ?_, fun _ z => ?_, fun _ _ p hp => ?_⟩
    · subst z
      cases r1
      exact q F H _ _ I (Same.refl F) (Res.d (.tup e2 r2)) h.2
    · subst z
      cases r2
      have := h.2
      rw [List.append_nil] at this
      exact q F H _ _ I (Same.refl F) (Res.d (.tup e1 r1)) this
    · obtain ⟨I2, s2, _⟩ := I.new (o := .tup (vs ++ us)) hp
      exact q _ _ _ _ I2 s2 (Res.d (.tup upd_same ((r1.app r2).mono s2))) h.2⟩
def dCat (x y : D) (φ : En → Prop) : Prop := match x, y with
  | .lst xs, .lst ys => xs.length + ys.length ≤ 1000000 ∧ φ (.lst (xs ++ ys))
  | _, _ => False
instance snd_cat : SndR K rCat dCat := ⟨fun {c F H σ Γ x y d e φ Q} I rx ry h q => by
  match d, e, rx, ry, h with
  | .lst ds, .lst es, .lst (vs := vs) e1 r1, .lst (vs := us) e2 r2, h =>
    refine ⟨_, _, vs, us, rfl, rfl, I.fh _ _ e1, I.fh _ _ e2, by rw [r1.length, r2.length]; exact Nat.le_trans h.1 (by decide), fun p hp => ?_⟩
    obtain ⟨I2, r3⟩ := I.newL hp (r1.app r2)
    exact q _ _ _ _ I2 (Same.refl F) r3 h.2⟩
def dRep (x y : D) (φ : En → Prop) : Prop := match x, y with
  | .lst xs, .int k => k ≤ 10000 ∧ -10000 ≤ k ∧ xs.length ≤ 100 ∧ φ (.lst (List.replicate k.toNat xs).flatten)
  | _, _ => False
theorem Reps.flat {F : Hp} {vs : List V} {ds : List D} (r : Reps F vs ds) : ∀ n, Reps F (List.replicate n vs).flatten (List.replicate n ds).flatten
  | 0 => .nil
  | n + 1 => by
    rw [List.replicate_succ, List.replicate_succ, List.flatten_cons, List.flatten_cons]
    exact r.app (Reps.flat r n)
instance snd_rep : SndR K rRep dRep := ⟨fun {c F H σ Γ x y d e φ Q} I rx ry h q => by
  match d, e, rx, ry, h with
  | .lst ds, .int k, .lst (vs := vs) e1 r1, .int _, h =>
    obtain ⟨h1, h0, h2, h⟩ := h
    refine ⟨_, k, vs, rfl, rfl, I.fh _ _ e1, by omega, by omega, ?_, fun p hp => ?_⟩
    · rw [r1.length]
      have : ds.length * k.toNat ≤ 100 * 10000 := Nat.mul_le_mul h2 (by omega)
      exact Nat.le_trans this (by decide)
    · obtain ⟨I2, r3⟩ := I.newL hp (r1.flat k.toNat)
      exact q _ _ _ _ I2 (Same.refl F) r3 h⟩
/-! ### in, not in -/
def D.sc : D → Bool
  | .non => true
  | .bl _ => true
  | .int _ => true
  | .str _ => true
  | _ => false
theorem Rep.sc {F : Hp} {v : V} {x : D} (r : Rep F v x) (h : x.sc = true) : flatV v = true ∧ x = vD v := by
  cases r <;> first | exact ⟨rfl, rfl⟩ | exact nomatch h
theorem Reps.sc {F : Hp} : ∀ {vs : List V} {xs : List D}, Reps F vs xs → xs.all D.sc = true → vs.all flatV = true ∧ xs = vs.map vD
  | _, _, .nil, _ => ⟨rfl, rfl⟩
  | _, _, .cons a b, h => by
    rw [List.all_cons, Bool.and_eq_true] at h
    obtain ⟨h1, h2⟩ := a.sc h.1
    obtain ⟨h3, h4⟩ := Reps.sc b h.2
    exact ⟨by rw [List.all_cons, h1, h3]; rfl, by rw [List.map_cons, ← h2, ← h4]⟩
theorem eqv_sc {v u : V} (h1 : flatV v = true) (h2 : flatV u = true) : eqV v u = (vD v).eqv (vD u) := by
  cases v <;> cases u <;> first | (simp only [eqV, D.eqv, vD, D.py, PyData.eqv]; done) | (exact absurd h1 Bool.false_ne_true) | (exact absurd h2 Bool.false_ne_true) | (simp [eqV, D.eqv, vD, D.py, PyData.eqv])
def inD (x : D) (xs : List D) : Bool := xs.any fun y => y.eqv x
theorem inV_D {v : V} (h : flatV v = true) : ∀ {vs : List V}, vs.all flatV = true → inV v vs = inD (vD v) (vs.map vD)
  | [], _ => rfl
  | u :: r, a => by
    rw [List.all_cons, Bool.and_eq_true] at a
    show (eqV u v || inV v r) = ((vD u).eqv (vD v) || inD (vD v) (r.map vD))
    rw [eqv_sc a.1 h, inV_D h a.2]
def dIn (neg : Bool) (x y : D) (φ : En → Prop) : Prop := match y with
  | .lst ys => x.sc = true ∧ ys.all D.sc = true ∧ φ (.d (.bl (if neg then !inD x ys else inD x ys)))
  | .tup ys => x.sc = true ∧ ys.all D.sc = true ∧ φ (.d (.bl (if neg then !inD x ys else inD x ys)))
  | _ => False
instance snd_in (neg : Bool) : SndR K (rIn K neg) (dIn neg) := ⟨fun {c F H σ Γ x y d e φ Q} I rx ry h q => by
  match e, ry, h with
  | .lst es, .lst (vs := us) e2 r2, h =>
    obtain ⟨h1, h2, h3⟩ := h
    obtain ⟨a1, a2⟩ := rx.sc h1
    obtain ⟨b1, b2⟩ := r2.sc h2
    refine ⟨_, us, rfl, .inl (SqL.of (I.fh _ _ e2)), a1, b1, ?_⟩
    rw [inV_D a1 b1, ← a2, ← b2]
    exact q F H _ _ I (Same.refl F) (Res.d (.bl _)) h3
  | .tup es, .tup (vs := us) e2 r2, h =>
    obtain ⟨h1, h2, h3⟩ := h
    obtain ⟨a1, a2⟩ := rx.sc h1
    obtain ⟨b1, b2⟩ := r2.sc h2
    refine ⟨_, us, rfl, .inr (SqT.of (I.fh _ _ e2)), a1, b1, ?_⟩
    rw [inV_D a1 b1, ← a2, ← b2]
    exact q F H _ _ I (Same.refl F) (Res.d (.bl _)) h3⟩
def dInD (neg : Bool) (x y : D) (φ : En → Prop) : Prop := match y with
  | .lst ys => x.fit = true ∧ (D.lst ys).fit = true ∧ φ (.d (.bl (if neg then !inD x ys else inD x ys)))
  | _ => False
theorem any_pys (x : D) : ∀ ys : List D, (pys ys).any (fun z => PyData.eqv z x.py) = inD x ys
  | [] => rfl
  | y :: r => by
    show (PyData.eqv y.py x.py || (pys r).any fun z => PyData.eqv z x.py) = (y.eqv x || inD x r)
    rw [any_pys x r]
    rfl
instance snd_inD : SndR K (rInD K) (dInD false) := ⟨fun {c F H σ Γ x y d e φ Q} I rx ry h q => by
  match e, ry, h with
  | .lst es, ry, h =>
    obtain ⟨h1, h2, h3⟩ := h
    unfold D.fit at h1 h2
    rw [Bool.and_eq_true] at h1 h2
    refine ⟨_, pys es, rx.dp I.fh h1.1, ry.dp I.fh h2.1, h1.2, h2.2, ?_⟩
    rw [any_pys]
    exact q F H _ _ I (Same.refl F) (Res.d (.bl _)) h3⟩
instance snd_notInD : SndR K (rNotInD K) (dInD true) := ⟨fun {c F H σ Γ x y d e φ Q} I rx ry h q => by
  match e, ry, h with
  | .lst es, ry, h =>
    obtain ⟨h1, h2, h3⟩ := h
    unfold D.fit at h1 h2
    rw [Bool.and_eq_true] at h1 h2
    refine ⟨_, pys es, rx.dp I.fh h1.1, ry.dp I.fh h2.1, h1.2, h2.2, ?_⟩
    rw [any_pys]
    exact q F H _ _ I (Same.refl F) (Res.d (.bl _)) h3⟩
/-- is None -/
def D.isN : D → Bool
  | .non => true
  | _ => false
def dIsN (neg : Bool) (x y : D) (φ : En → Prop) : Prop := match y with
  | .non => φ (.d (.bl (if neg then !x.isN else x.isN)))
  | _ => False
theorem dIsN_run {F : Hp} {v : V} {x : D} (rx : Rep F v x) {neg : Bool} {φ : En → Prop} (h : φ (.d (.bl (if neg then !x.isN else x.isN)))) : φ (.d (.bl (if neg then !decide (v = .non) else decide (v = .non)))) := by
  cases rx <;> cases neg <;> simpa [D.isN] using h
instance snd_isN : SndR K rIsN (dIsN false) := ⟨fun {c F H σ Γ x y d e φ Q} I rx ry h q => by
  match e, ry, h with
  | .non, .non, h => exact ⟨rfl, q F H _ _ I (Same.refl F) (Res.d (.bl _)) (dIsN_run (neg := false) (φ := φ) rx h)⟩⟩
instance snd_notN : SndR K rNotN (dIsN true) := ⟨fun {c F H σ Γ x y d e φ Q} I rx ry h q => by
  match e, ry, h with
  | .non, .non, h => exact ⟨rfl, q F H _ _ I (Same.refl F) (Res.d (.bl _)) (dIsN_run (neg := true) (φ := φ) rx h)⟩⟩
end
end Da

set_option Elab.async false
set_option maxRecDepth 100000
set_option maxHeartbeats 4000000
set_option linter.all false
namespace Da
open PySem PySem.Spec PyProof.Rows L2 RZ HmS
section
variable {K : PySem.W.Frag} [HasT K] {E : XK} {ψ : Value → Prop} {te ta tb tx : TE} {da db dx de : DT} {tt tu : TT} {dtt dtu : DB} {al : TA} {dal : DA} {r : R2} {dr : D → D → (En → Prop) → Prop}
/-! ### iterators -/
theorem itOk_at {J : It} {F1 : Hp} {items : List D} (stop : ∀ H, Same F1 H → J.stop items.length H) (go : ∀ (i : Nat) d H, items[i]? = some d → Same F1 H → J.go i H) (yld : ∀ (i : Nat) d H x H', items[i]? = some d → Same F1 H → J.yld i H x H' → H' = H ∧ Rep F1 x d) : ItOk K F1 J items :=
  fun c F H σ Γ i I s => ⟨fun e => by rw [e]; exact stop H (s.trans I.fh), fun d hd => ⟨go i d H hd (s.trans I.fh), fun x H' y => by
    obtain ⟨rfl, rp⟩ := yld i d H x H' hd (s.trans I.fh) y
    exact ⟨F, I, Same.refl F, rp.mono s⟩⟩⟩
def wt (e : En) (k : List D → Prop) : Prop := match e with
  | .d (.tup xs) => k xs
  | _ => False
def wl (e : En) (k : List D → Prop) : Prop := match e with
  | .d (.lst xs) => k xs
  | .lst xs => k xs
  | _ => False
def dITup (da : DT) : DA := fun Γ φ => da Γ fun e Γ1 => wt e fun xs => φ xs Γ1
def dILst (da : DT) : DA := fun Γ φ => da Γ fun e Γ1 => wl e fun xs => φ xs Γ1
theorem itOk_tup {F1 : Hp} {a : Addr} {vs : List V} {ds : List D} (e : F1 a = some (.tup vs)) (rs : Reps F1 vs ds) : ItOk K F1 (Itt K a) ds :=
  itOk_at (fun H s => ⟨vs, SqT.of (s _ _ e), by rw [rs.length]; exact Nat.le_refl _⟩) (fun i d H hd s => by
    obtain ⟨v, hv, _⟩ := rs.get hd
    exact ⟨vs, v, SqT.of (s _ _ e), hv⟩) (fun i d H x H' hd s y => by
    obtain ⟨v, hv, rp⟩ := rs.get hd
    have := y.2 vs (SqT.of (s _ _ e))
    rw [hv] at this
    cases this
    exact ⟨y.1, rp⟩)
theorem itOk_lst {F1 : Hp} {a : Addr} {vs : List V} {ds : List D} (e : F1 a = some (.lst vs)) (rs : Reps F1 vs ds) : ItOk K F1 (Itl K a) ds :=
  itOk_at (fun H s => ⟨vs, SqL.of (s _ _ e), by rw [rs.length]; exact Nat.le_refl _⟩) (fun i d H hd s => by
    obtain ⟨v, hv, _⟩ := rs.get hd
    exact ⟨vs, v, SqL.of (s _ _ e), hv⟩) (fun i d H x H' hd s y => by
    obtain ⟨v, hv, rp⟩ := rs.get hd
    have := y.2 vs (SqL.of (s _ _ e))
    rw [hv] at this
    cases this
    exact ⟨y.1, rp⟩)
theorem wt_of {e : En} {k : List D → Prop} (h : wt e k) : ∃ xs, e = .d (.tup xs) ∧ k xs := by
  cases e with
  | d x =>
    cases x with
    | tup xs => exact ⟨xs, rfl, h⟩
    | _ => exact h.elim
  | _ => exact h.elim
instance snd_itup [sa : Snd K E ψ ta da] : SndI K E ψ (iTup K ta) (dITup da) := ⟨fun {c F H σ Γ φ R} I eo h q => by
  refine sa.run I eo h fun F1 H1 v e Γ1 I1 s1 r1 h1 => ?_
  obtain ⟨xs, rfl, h1⟩ := wt_of h1
  cases (show Rep F1 v (.tup xs) from r1.1) with
  | tup e rs => exact ⟨_, rfl, ⟨_, SqT.of (I1.fh _ _ e)⟩, q F1 H1 _ xs Γ1 I1 s1 (itOk_tup e rs) h1⟩⟩
theorem wl_frz {e : En} {k : List D → Prop} (h : wl e k) : ∃ xs, e.frz = some (.lst xs) ∧ k xs := by
  cases e with
  | d x =>
    cases x with
    | lst xs => exact ⟨xs, rfl, h⟩
    | _ => exact h.elim
  | lst xs => exact ⟨xs, rfl, h⟩
  | _ => exact h.elim
theorem Res.frzL {c : Ct K} {F H : Hp} {σ : L2.St} {Γ : List En} {v : V} {e : En} (I : Is c F H σ Γ) (r : Res c F H σ Γ v e) {k : List D → Prop} (h : wl e k) : ∃ F' a vs xs, v = .ref a ∧ Is c F' H σ Γ ∧ Same F F' ∧ F' a = some (.lst vs) ∧ Reps F' vs xs ∧ k xs := by
  obtain ⟨xs, hx, h1⟩ := wl_frz h
  obtain ⟨F2, I2, s2, rp⟩ := r.frz I hx
  cases rp with
  | lst e rs => exact ⟨F2, _, _, xs, rfl, I2, s2, e, rs, h1⟩
instance snd_ilst [sa : Snd K E ψ ta da] : SndI K E ψ (iList K ta) (dILst da) := ⟨fun {c F H σ Γ φ R} I eo h q => by
  refine sa.run I eo h fun F1 H1 v e Γ1 I1 s1 r1 h1 => ?_
  obtain ⟨F2, a, vs, xs, rfl, I2, s2, ea, rs, h2⟩ := r1.frzL I1 h1
  exact ⟨a, rfl, ⟨_, SqL.of (I2.fh _ _ ea)⟩, q F2 H1 _ xs Γ1 I2 (s1.trans s2) (itOk_lst ea rs) h2⟩⟩
/-- lo, lo + 1, .. (n of them) -/
def upI (lo : Int) (n : Nat) : List D := (List.range n).map fun i : Nat => D.int (lo + i)
theorem upI_get {lo : Int} {n i : Nat} {d : D} (h : (upI lo n)[i]? = some d) : i < n ∧ d = .int (lo + i) := by
  unfold upI at h
  rw [List.getElem?_map] at h
  cases e : (List.range n)[i]? with
  | none => rw [e] at h; cases h
  | some j =>
    rw [e] at h
    cases h
    obtain ⟨h1, h2⟩ := List.getElem?_eq_some_iff.mp e
    simp at h1 h2
    subst h2
    exact ⟨h1, rfl⟩
theorem upI_len {lo : Int} {n : Nat} : (upI lo n).length = n := by simp [upI]
theorem itOk_range {F1 : Hp} {lo : Int} {n : Nat} : ItOk K F1 (Itr lo n) (upI lo n) :=
  itOk_at (fun H s => by rw [upI_len]; exact Nat.le_refl _) (fun i d H hd s => (upI_get hd).1) (fun i d H x H' hd s y => by
    obtain ⟨_, rfl⟩ := upI_get hd
    obtain ⟨rfl, rfl⟩ := y
    exact ⟨rfl, .int _⟩)
def dIRng1 (dal : DA) : DA := fun Γ φ => dal Γ fun xs Γ1 => match xs with
  | [.int n] => -100000 ≤ n ∧ n ≤ 100000 ∧ φ (upI 0 n.toNat) Γ1
  | _ => False
instance snd_irng1 [sa : SndA K E ψ al dal] : SndI K E ψ (iRng1 al) (dIRng1 dal) := ⟨fun {c F H σ Γ φ R} I eo h q => by
  refine sa.run I eo h fun F1 H1 vs xs Γ1 I1 s1 r1 h1 => ?_
  match xs, r1, h1 with
  | [.int n], .cons (.int _) .nil, h1 => exact ⟨n, rfl, by have := h1.1; omega, by have := h1.2.1; omega, q F1 H1 _ _ Γ1 I1 s1 itOk_range h1.2.2⟩⟩
def dIRng2 (dal : DA) : DA := fun Γ φ => dal Γ fun xs Γ1 => match xs with
  | [.int a, .int b] => -100000 ≤ a ∧ a ≤ 100000 ∧ -100000 ≤ b ∧ b ≤ 100000 ∧ φ (upI a (b - a).toNat) Γ1
  | _ => False
instance snd_irng2 [sa : SndA K E ψ al dal] : SndI K E ψ (iRng2 al) (dIRng2 dal) := ⟨fun {c F H σ Γ φ R} I eo h q => by
  refine sa.run I eo h fun F1 H1 vs xs Γ1 I1 s1 r1 h1 => ?_
  match xs, r1, h1 with
  | [.int a, .int b], .cons (.int _) (.cons (.int _) .nil), h1 =>
    obtain ⟨a0, a1, b0, b1, h1⟩ := h1
    exact ⟨a, b, rfl, ⟨by omega, by omega, by omega, by omega⟩, q F1 H1 _ _ Γ1 I1 s1 itOk_range h1⟩⟩
/-- range(a, -1, -1): a, a - 1, .. , 0 -/
def dnI (a : Int) : List D := (List.range (a + 1).toNat).map fun i : Nat => D.int (a - i)
theorem dnI_get {a : Int} {i : Nat} {d : D} (h : (dnI a)[i]? = some d) : i < (a + 1).toNat ∧ d = .int (a - i) := by
  unfold dnI at h
  rw [List.getElem?_map] at h
  cases e : (List.range (a + 1).toNat)[i]? with
  | none => rw [e] at h; cases h
  | some j =>
    rw [e] at h
    cases h
    obtain ⟨h1, h2⟩ := List.getElem?_eq_some_iff.mp e
    simp at h1 h2
    subst h2
    exact ⟨by omega, rfl⟩
theorem dnI_len {a : Int} : (dnI a).length = (a + 1).toNat := by simp [dnI]
def dIDn (dal : DA) : DA := fun Γ φ => dal Γ fun xs Γ1 => match xs with
  | [.int a, .int b, .int c] => -1 ≤ a ∧ a ≤ 100000 ∧ b = -1 ∧ c = -1 ∧ φ (dnI a) Γ1
  | _ => False
instance snd_irng3 [sa : SndA K E ψ al dal] : SndI K E ψ (iRng3 al) (dIDn dal) := ⟨fun {c F H σ Γ φ R} I eo h q => by
  refine sa.run I eo h fun F1 H1 vs xs Γ1 I1 s1 r1 h1 => ?_
  match xs, r1, h1 with
  | [.int a, .int b, .int c], .cons (.int _) (.cons (.int _) (.cons (.int _) .nil)), h1 =>
    obtain ⟨a0, a1, rfl, rfl, h1⟩ := h1
    refine ⟨a, -1, -1, (a + 1).toNat, rfl, ?_, q F1 H1 _ _ Γ1 I1 s1 (itOk_at (fun H s => by rw [dnI_len]; exact Nat.le_refl _) (fun i d H hd s => (dnI_get hd).1) (fun i d H x H' hd s y => ?_)) h1⟩
    · have z := RgC.neg (i := a) (j := -1) (by omega) (by omega) (by omega) (by omega)
      rw [show a - -1 = a + 1 by omega] at z
      exact z
    · obtain ⟨_, rfl⟩ := dnI_get hd
      obtain ⟨rfl, rfl⟩ := y
      refine ⟨rfl, ?_⟩
      have : a + (i : Int) * -1 = a - i := by omega
      rw [this]
      exact .int _⟩
/-! pairs made on the way -/
theorem itOk_pair {J : It} {F1 : Hp} {items : List D} (stop : ∀ H, Same F1 H → J.stop items.length H) (go : ∀ (i : Nat) d H, items[i]? = some d → Same F1 H → J.go i H)
    (yld : ∀ (i : Nat) d H v H', items[i]? = some d → Same F1 H → J.yld i H v H' → ∃ T x y d1 d2, v = .ref T ∧ H T = none ∧ H' = upd H T (.tup [x, y]) ∧ d = .tup [d1, d2] ∧ Rep F1 x d1 ∧ Rep F1 y d2) : ItOk K F1 J items :=
  fun c F H σ Γ i I s => ⟨fun e => by rw [e]; exact stop H (s.trans I.fh), fun d hd => ⟨go i d H hd (s.trans I.fh), fun v H' y => by
    obtain ⟨T, x, w, d1, d2, rfl, hT, rfl, rfl, r1, r2⟩ := yld i d H v H' hd (s.trans I.fh) y
    obtain ⟨I2, s2, _⟩ := I.new (o := .tup [x, w]) hT
    exact ⟨_, I2, s2, .tup upd_same (.cons (r1.mono (s.trans s2)) (.cons (r2.mono (s.trans s2)) .nil))⟩⟩⟩
def pairsI (i : Nat) : List D → List D
  | [] => []
  | x :: r => .tup [.int i, x] :: pairsI (i + 1) r
theorem pairsI_get : ∀ {ds : List D} {j i : Nat} {d : D}, (pairsI j ds)[i]? = some d → ∃ x, ds[i]? = some x ∧ d = .tup [.int ((j + i : Nat) : Int), x]
  | [], j, i, d, h => by simp [pairsI] at h
  | x :: r, j, 0, d, h => by
    cases h
    exact ⟨x, rfl, rfl⟩
  | x :: r, j, i + 1, d, h => by
    obtain ⟨y, e, rfl⟩ := pairsI_get (ds := r) (j := j + 1) (i := i) (by simpa [pairsI] using h)
    exact ⟨y, by simpa using e, by rw [show j + 1 + i = j + (i + 1) by omega]⟩
theorem pairsI_len : ∀ {ds : List D} {j : Nat}, (pairsI j ds).length = ds.length
  | [], _ => rfl
  | _ :: r, j => by rw [pairsI, List.length_cons, List.length_cons, pairsI_len]
def dIEnT (dal : DA) : DA := fun Γ φ => dal Γ fun xs Γ1 => match xs with
  | [.tup ds] => φ (pairsI 0 ds) Γ1
  | _ => False
instance snd_ienT [sa : SndA K E ψ al dal] : SndI K E ψ (iEnumT K al) (dIEnT dal) := ⟨fun {c F H σ Γ φ R} I eo h q => by
  refine sa.run I eo h fun F1 H1 vs xs Γ1 I1 s1 r1 h1 => ?_
  match xs, r1, h1 with
  | [.tup ds], .cons (.tup (a := a) (vs := us) e rs) .nil, h1 =>
    refine ⟨a, us, rfl, SqT.of (I1.fh _ _ e), q F1 H1 _ _ Γ1 I1 s1 (itOk_pair (fun H s => ?_) (fun i d H hd s => ?_) (fun i d H v H' hd s y => ?_)) h1⟩
    · rw [pairsI_len, ← rs.length]
      exact (walk_enumT (K := K)).stops H (SqT.of (s _ _ e))
    · obtain ⟨x, hx, _⟩ := pairsI_get hd
      obtain ⟨v, hv, _⟩ := rs.get hx
      exact (walk_enumT (K := K)).goes i H (List.getElem?_eq_some_iff.mp hv).1 (SqT.of (s _ _ e))
    · obtain ⟨x, hx, rfl⟩ := pairsI_get hd
      obtain ⟨w, hw, rw'⟩ := rs.get hx
      obtain ⟨T, x1, y1, rfl, hT, rfl, e1, e2⟩ := (walk_enumT (K := K) (a := a) (xs := us)).yields i H v H' (List.getElem?_eq_some_iff.mp hw).1 (SqT.of (s _ _ e)) y
      have e1 : some (V.int (i : Nat)) = some x1 := e1
      cases e1
      have e2 : us[i]? = some y1 := e2
      rw [hw] at e2
      cases e2
      exact ⟨T, _, _, _, _, rfl, hT, rfl, by rw [Nat.zero_add], .int _, rw'⟩⟩
def dIEnL (dal : DA) : DA := fun Γ φ => dal Γ fun xs Γ1 => match xs with
  | [.lst ds] => φ (pairsI 0 ds) Γ1
  | _ => False
instance snd_ienL [sa : SndA K E ψ al dal] : SndI K E ψ (iEnum K al) (dIEnL dal) := ⟨fun {c F H σ Γ φ R} I eo h q => by
  refine sa.run I eo h fun F1 H1 vs xs Γ1 I1 s1 r1 h1 => ?_
  match xs, r1, h1 with
  | [.lst ds], .cons (.lst (a := a) (vs := us) e rs) .nil, h1 =>
    refine ⟨a, us, rfl, SqL.of (I1.fh _ _ e), q F1 H1 _ _ Γ1 I1 s1 (itOk_pair (fun H s => ?_) (fun i d H hd s => ?_) (fun i d H v H' hd s y => ?_)) h1⟩
    · rw [pairsI_len, ← rs.length]
      exact ⟨us, SqL.of (s _ _ e), Nat.le_refl _⟩
    · obtain ⟨x, hx, _⟩ := pairsI_get hd
      obtain ⟨v, hv, _⟩ := rs.get hx
      exact ⟨us, v, SqL.of (s _ _ e), hv⟩
    · obtain ⟨x, hx, rfl⟩ := pairsI_get hd
      obtain ⟨w, hw, rw'⟩ := rs.get hx
      obtain ⟨T, x1, rfl, hT, rfl, e1⟩ := y
      have e1 := e1 us (SqL.of (s _ _ e))
      rw [hw] at e1
      cases e1
      exact ⟨T, _, _, _, _, rfl, hT, rfl, by rw [Nat.zero_add], .int _, rw'⟩⟩
def zipD : List D → List D → List D
  | x :: xs, y :: ys => .tup [x, y] :: zipD xs ys
  | _, _ => []
theorem zipD_get : ∀ {xs ys : List D} {i : Nat} {d : D}, (zipD xs ys)[i]? = some d → ∃ x y, xs[i]? = some x ∧ ys[i]? = some y ∧ d = .tup [x, y]
  | [], _, i, d, h => by simp [zipD] at h
  | _ :: _, [], i, d, h => by simp [zipD] at h
  | x :: xs, y :: ys, 0, d, h => by
    cases h
    exact ⟨x, y, rfl, rfl, rfl⟩
  | x :: xs, y :: ys, i + 1, d, h => by
    obtain ⟨a, b, e1, e2, rfl⟩ := zipD_get (xs := xs) (ys := ys) (i := i) (by simpa [zipD] using h)
    exact ⟨a, b, by simpa using e1, by simpa using e2, rfl⟩
theorem zipD_len : ∀ {xs ys : List D}, (zipD xs ys).length = min xs.length ys.length
  | [], _ => by simp [zipD]
  | _ :: _, [] => by simp [zipD]
  | x :: xs, y :: ys => by rw [zipD, List.length_cons, List.length_cons, List.length_cons, zipD_len]; omega
def dIZip (dal : DA) : DA := fun Γ φ => dal Γ fun xs Γ1 => match xs with
  | [.tup ds, .tup es] => φ (zipD ds es) Γ1
  | [.lst ds, .lst es] => φ (zipD ds es) Γ1
  | _ => False
instance snd_izip [sa : SndA K E ψ al dal] : SndI K E ψ (iZipA K al) (dIZip dal) := ⟨fun {c F H σ Γ φ R} I eo h q => by
  refine sa.run I eo h fun F1 H1 vs xs Γ1 I1 s1 r1 h1 => ?_
  match xs, r1, h1 with
  | [.tup ds, .tup es], .cons (.tup (a := a) (vs := us) e rs) (.cons (.tup (a := b) (vs := ws) e' rs') .nil), h1 =>
    refine ⟨a, b, us, ws, rfl, .inr ⟨SqT.of (I1.fh _ _ e), SqT.of (I1.fh _ _ e'), q F1 H1 _ _ Γ1 I1 s1 (itOk_pair (fun H s => ?_) (fun i d H hd s => ?_) (fun i d H v H' hd s y => ?_)) h1⟩⟩
    · refine ⟨us, ws, SqT.of (s _ _ e), SqT.of (s _ _ e'), ?_⟩
      rw [zipD_len, rs.length, rs'.length]
      omega
    · obtain ⟨x, y, hx, hy, _⟩ := zipD_get hd
      obtain ⟨v, hv, _⟩ := rs.get hx
      obtain ⟨u, hu, _⟩ := rs'.get hy
      exact ⟨us, ws, v, u, SqT.of (s _ _ e), SqT.of (s _ _ e'), hv, hu⟩
    · obtain ⟨x, y', hx, hy, rfl⟩ := zipD_get hd
      obtain ⟨v1, hv, r1⟩ := rs.get hx
      obtain ⟨u1, hu, r2⟩ := rs'.get hy
      obtain ⟨T, x1, y1, rfl, hT, rfl, q1, q2⟩ := y
      have q1 := q1 us (SqT.of (s _ _ e))
      have q2 := q2 ws (SqT.of (s _ _ e'))
      rw [hv] at q1
      rw [hu] at q2
      cases q1
      cases q2
      exact ⟨T, _, _, _, _, rfl, hT, rfl, rfl, r1, r2⟩
  | [.lst ds, .lst es], .cons (.lst (a := a) (vs := us) e rs) (.cons (.lst (a := b) (vs := ws) e' rs') .nil), h1 =>
    refine ⟨a, b, us, ws, rfl, .inl ⟨SqL.of (I1.fh _ _ e), SqL.of (I1.fh _ _ e'), q F1 H1 _ _ Γ1 I1 s1 (itOk_pair (fun H s => ?_) (fun i d H hd s => ?_) (fun i d H v H' hd s y => ?_)) h1⟩⟩
    · refine ⟨us, ws, SqL.of (s _ _ e), SqL.of (s _ _ e'), ?_⟩
      rw [zipD_len, rs.length, rs'.length]
      omega
    · obtain ⟨x, y, hx, hy, _⟩ := zipD_get hd
      obtain ⟨v, hv, _⟩ := rs.get hx
      obtain ⟨u, hu, _⟩ := rs'.get hy
      exact ⟨us, ws, v, u, SqL.of (s _ _ e), SqL.of (s _ _ e'), hv, hu⟩
    · obtain ⟨x, y', hx, hy, rfl⟩ := zipD_get hd
      obtain ⟨v1, hv, r1⟩ := rs.get hx
      obtain ⟨u1, hu, r2⟩ := rs'.get hy
      obtain ⟨T, x1, y1, rfl, hT, rfl, q1, q2⟩ := y
      have q1 := q1 us (SqL.of (s _ _ e))
      have q2 := q2 ws (SqL.of (s _ _ e'))
      rw [hv] at q1
      rw [hu] at q2
      cases q1
      cases q2
      exact ⟨T, _, _, _, _, rfl, hT, rfl, rfl, r1, r2⟩⟩
/-! ### targets -/
instance sndg_name (i : Nat) : SndG K (gName i) [i] (fun d Γ φ => φ (Γ.set i (.d d))) := ⟨fun {c F H σ Γ x d φ Q} I rp h q => q _ _ (I.set (Res.d rp) i) (fun vs hv => wipe_set (hv i (by simp))) h⟩
instance sndgs_nil : SndGs K gNil [] (fun ds Γ φ => ds = [] ∧ φ Γ) := ⟨fun {c F H σ Γ xs ds φ Q} I rp h q => by
  obtain ⟨rfl, h⟩ := h
  cases rp
  exact ⟨rfl, q σ Γ I (fun _ _ => rfl) h⟩⟩
def dgCons (dg : D → List En → (List En → Prop) → Prop) (dgs : List D → List En → (List En → Prop) → Prop) (ds : List D) (Γ : List En) (φ : List En → Prop) : Prop := match ds with
  | d :: r => dg d Γ fun Γ1 => dgs r Γ1 φ
  | [] => False
instance sndgs_cons {g : TG} {gs : TGs} {gv gvs : List Nat} {dg : D → List En → (List En → Prop) → Prop} {dgs : List D → List En → (List En → Prop) → Prop} [sg : SndG K g gv dg] [ss : SndGs K gs gvs dgs] : SndGs K (gCons g gs) (gv ++ gvs) (dgCons dg dgs) := ⟨fun {c F H σ Γ xs ds φ Q} I rp h q => by
  match ds, rp, h with
  | d :: r, .cons a b, h =>
    refine ⟨_, _, rfl, sg.run I a h fun σ1 Γ1 I1 w1 h1 => ss.run I1 b h1 fun σ2 Γ2 I2 w2 h2 => q σ2 Γ2 I2 (fun vs hv => ?_) h2⟩
    rw [w2 vs fun i hi => hv i (List.mem_append_right _ hi), w1 vs fun i hi => hv i (List.mem_append_left _ hi)]⟩
def dgTup (n : Nat) (dgs : List D → List En → (List En → Prop) → Prop) (d : D) (Γ : List En) (φ : List En → Prop) : Prop := match d with
  | .tup xs => xs.length = n ∧ dgs xs Γ φ
  | _ => False
instance sndg_tup {n : Nat} {gs : TGs} {gvs : List Nat} {dgs : List D → List En → (List En → Prop) → Prop} [ss : SndGs K gs gvs dgs] : SndG K (gTup K n gs) gvs (dgTup n dgs) := ⟨fun {c F H σ Γ x d φ Q} I rp h q => by
  match d, rp, h with
  | .tup xs, .tup e rs, h => exact ⟨_, _, rfl, SqT.of (I.fh _ _ e), by rw [rs.length]; exact h.1, ss.run I rs h.2 q⟩⟩
/-! ### comprehensions -/
def dLc (vs gv : List Nat) (di : DA) (dg : D → List En → (List En → Prop) → Prop) (dtt : DB) (de : DT) : DT := fun Γ φ => (gv.all fun i => vs.contains i) = true ∧ di Γ fun items Γ1 => items.length ≤ 100000 ∧ ∃ I : Nat → List D → List En → Prop, I 0 [] (wipeE Γ1 vs) ∧
  ∀ i acc Γ', I i acc Γ' → (i = items.length → φ (.lst acc) Γ') ∧ ∀ d, items[i]? = some d → dg d (wipeE Γ' vs) fun Γ2 => dtt Γ2 fun b Γ3 => if b = true then de Γ3 fun e Γ4 => wf e fun z => I (i + 1) (acc ++ [z]) (wipeE Γ4 vs) else I (i + 1) acc (wipeE Γ3 vs)
theorem EOk.guard {c : Ct K} (eo : EOk c E ψ) {p : Addr} {o : HO} {h : c.H0 p = none} : EOk (c.guard p o h) E ψ := fun C H' h1 h2 h3 => eo C H' (fun a u q e => h1 a u q (by show upd c.H0 p o a = some u; rw [upd_ne (ne_of_none e h)]; exact e)) h2 h3
instance snd_lc {wi : TI} {g : TG} {vs gv : List Nat} {di : DA} {dg : D → List En → (List En → Prop) → Prop} [si : SndI K E ψ wi di] [sg : SndG K g gv dg] [st : SndT K E ψ tt dtt] [se : Snd K E ψ te de] : Snd K E ψ (tLc wi g tt te vs) (dLc vs gv di dg dtt de) := ⟨fun {c F H σ Γ φ Q} I eo h q => by
  obtain ⟨hgv, h⟩ := h
  have hgv' : ∀ i ∈ gv, i ∈ vs := fun i hi => by simpa using List.all_eq_true.mp hgv i hi
  refine si.run I eo h fun F1 H1 J items Γ1 I1 s1 it h1 => ?_
  obtain ⟨hlen, IV, iv0, step⟩ := h1
  intro D hD
  have hF : F1 D = none := I1.unF hD
  have h0 : c.H0 D = none := I1.un hD
  have hpn : c.pn ≠ some D := fun z => (I1.pp D z).2.1.there hD
  have hF0 : c.F0 D = none := I1.f0.free hF
  refine ⟨fun i m H' => m = items.length - i ∧ i ≤ items.length ∧ ∃ F' Γ' us acc, Same F1 F' ∧ H' D = some (.lst us) ∧ Reps F' us acc ∧ acc.length ≤ i ∧ Is (c.guard D (.lst us) h0) F' H' σ Γ' ∧ IV i acc Γ', ⟨_, rfl, Nat.zero_le _, F1, wipeE Γ1 vs, [], [], Same.refl _, upd_same, .nil, Nat.le_refl _, ?_, iv0⟩, ?_⟩
  · have I2 := (I1.newH (o := .lst []) hD).forgets vs
    exact I2.guard ⟨hF, h0, hpn, fun j e' g' o' => (I1.fresh hD j e') |> fun f => by
      have n : e' ≠ .no := fun z => by rw [z] at o'; cases o'
      intro s'
      obtain ⟨v, q1, q2⟩ := I2.at_ j e' g' n
      rw [s'] at q1
      cases q1
      cases e' with
      | lst ds =>
        obtain ⟨a, ws, ea, z1, z2, z3, z4⟩ := q2
        cases ea
        have gg : ∃ e2, Γ1[j]? = some e2 ∧ e2.own = true := by
          have hj := wipeE_no g' n
          have lj : j < Γ1.length := by
            have h1 := (List.getElem?_eq_some_iff.mp g').1
            have h2 := I2.len
            have h3 := I1.len
            omega
          have e3 : (wipeE Γ1 vs)[j]? = Γ1[j]? := wipeE_out hj
          rw [e3] at g'
          exact ⟨_, g', rfl⟩
        obtain ⟨e2, g2, o2⟩ := gg
        exact I1.fresh hD j e2 g2 o2 s'
      | dK ks ds =>
        have hj := wipeE_no g' n
        rw [wipeE_out hj] at g'
        exact I1.fresh hD j _ g' o' s'
      | dT ks ds =>
        have hj := wipeE_no g' n
        rw [wipeE_out hj] at g'
        exact I1.fresh hD j _ g' o' s'
      | pen =>
        have hj := wipeE_no g' n
        rw [wipeE_out hj] at g'
        exact I1.fresh hD j _ g' o' s'
      | no => cases o'
      | d x => cases o'
      | scr ns => cases o'⟩ upd_same
  · rintro i m H' ⟨rfl, hi, F', Γ', us, acc, sF, hDl, rs, la, IG, iv⟩
    obtain ⟨st1, st2⟩ := step i acc Γ' iv
    by_cases hlt : i < items.length
    · obtain ⟨d, hd⟩ : ∃ d, items[i]? = some d := ⟨_, List.getElem?_eq_getElem hlt⟩
      obtain ⟨go, yl⟩ := (it _ F' H' σ Γ' i IG sF).2 d hd
      refine .inr ⟨go, fun H2 => ∃ F2 Γ2 us acc, Same F1 F2 ∧ H2 D = some (.lst us) ∧ Reps F2 us acc ∧ acc.length ≤ i + 1 ∧ Is (c.guard D (.lst us) h0) F2 H2 σ Γ2 ∧ IV (i + 1) acc Γ2, fun H2 n2 => ⟨items.length - (i + 1), by omega, rfl, hlt, n2⟩, fun x H2 y => ?_⟩
      obtain ⟨F2, I2, sF2, rp⟩ := yl x H2 y
      refine sg.run (I2.wipe vs) rp (st2 d hd) fun σ3 Γ3 I3 w3 h3 => ⟨by rw [w3 vs hgv', wipe_wipe], ?_⟩
      have w3' : wipe σ3 vs = wipe σ vs := by rw [w3 vs hgv', wipe_wipe]
      refine st.run I3 eo.guard h3 fun F4 H4 b Γ4 I4 sF4 h4 => ?_
      cases b with
      | false =>
        refine iteF ⟨F4, wipeE Γ4 vs, us, acc, sF.trans (sF2.trans sF4), I4.guarded hpn, rs.mono (sF2.trans sF4), Nat.le_succ_of_le la, I4.unwipe w3', h4⟩
      | true =>
        refine iteT (se.frz (φ := fun _ _ => True) (k := fun z Γ5 => IV (i + 1) (acc ++ [z]) (wipeE Γ5 vs)) I4 eo.guard h4 fun F5 H5 v z Γ5 I5 sF5 r5 h5 => ?_)
        have hD5 := I5.guarded hpn
        refine ⟨us, hD5, ?_, F5, wipeE Γ5 vs, us ++ [v], acc ++ [z], sF.trans (sF2.trans (sF4.trans sF5)), upd_same, (rs.mono (sF2.trans (sF4.trans sF5))).snoc r5, by rw [List.length_append]; simp; omega, ?_, h5⟩
        · rw [rs.length]
          exact Nat.lt_of_le_of_lt la (Nat.lt_of_lt_of_le (Nat.lt_of_lt_of_le hlt hlen) (by decide))
        · have I6 := I5.unwipe w3'
          have fr := I6.freed hpn hF0 (fun vs z => nomatch z)
          have I7 := (I6.unguard hpn).chg (o := .lst (us ++ [v])) fr hD5 (plain_lst _)
          exact I7.guard fr upd_same
    · have e : i = items.length := by omega
      refine .inl ⟨(it _ F' H' σ Γ' i IG sF).1 e, ?_⟩
      have fr := IG.freed hpn hF0 (fun vs z => nomatch z)
      exact q F' H' (.ref D) (.lst acc) Γ' (IG.unguard hpn) (s1.trans sF) ⟨⟨D, us, rfl, fr.f, h0, hDl, rs⟩, (fun z => nomatch z), fun _ a e => by cases e; exact fr.sl⟩ (st1 e)⟩
/-! ### calls of defs -/
theorem Is.unN {c : Ct K} {F H : Hp} {σ : L2.St} {Γ : List En} {a : Addr} (I : Is c F H σ Γ) (h : ntH H a = none) : c.H0 a = none := by
  cases q : c.H0 a with
  | none => rfl
  | some o =>
    have nt := I.hn a o q
    by_cases z : c.pn = some a
    · obtain ⟨u, h1, h2⟩ := (I.pp a z).2.1.pl
      rw [ntH_of h1 h2.1] at h
      cases h
    · rw [ntH_of (I.h0 a o z q) nt] at h
      cases h
theorem Is.freshN {c : Ct K} {F H : Hp} {σ : L2.St} {Γ : List En} {p : Addr} (I : Is c F H σ Γ) (hp : ntH H p = none) : ∀ (j : Nat) (e' : En), Γ[j]? = some e' → e'.own = true → σ[j]? ≠ some (some (.ref p)) := fun j e' g o s => by
  obtain ⟨v, h1, h2⟩ := I.at_ j e' g (fun z => by rw [z] at o; cases o)
  rw [s] at h1
  cases h1
  obtain ⟨a, u, e, _, _, h3, h4⟩ := h2.ref o
  cases e
  rw [ntH_of h3 h4.1] at hp
  cases hp
theorem Is.called {c : Ct K} {F H F' H' : Hp} {σ : L2.St} {Γ : List En} {v : V} {e : En} (I : Is c F H σ Γ) (sf : Same F F') (sh : NS H H') (tb : TbOk K H') (fh : Same F' H') (fn : FN F') (nw : ∀ a o, F' a = some o → F a = some o ∨ Soft (ntH H) a) (hh : Held (c0 K F H) F' H' e v) (ne : e ≠ .no) : Is c F' H' σ Γ ∧ Res c F' H' σ Γ v e := by
  have I2 := I.growN sf sh tb fh fn nw
  refine ⟨I2, ?_, ne, fun o a ea j e' g o' s' => ?_⟩
  · cases e with
    | lst ds =>
      obtain ⟨a, vs, rfl, q1, q2, q3⟩ := hh
      exact ⟨a, vs, rfl, q1, I.unN q2, q3⟩
    | dK ks ds =>
      obtain ⟨a, vs, rfl, q1, q2, q3⟩ := hh
      exact ⟨a, vs, rfl, q1, I.unN q2, q3⟩
    | dT ks ds =>
      obtain ⟨a, vs, rfl, q1, q2, q3⟩ := hh
      exact ⟨a, vs, rfl, q1, I.unN q2, q3⟩
    | pen =>
      obtain ⟨a, rfl, q1, q2, q3⟩ := hh
      exact ⟨a, rfl, q1, .inl (I.unN (q2.resolve_right fun z => nomatch z)), q3⟩
    | no => trivial
    | d x => exact hh
    | scr ns =>
      obtain ⟨a, _, z⟩ := hh
      exact nomatch z
  · subst ea
    have hn : ntH H a = none := by
      cases e with
      | lst ds =>
        obtain ⟨a', vs, ea, q1, q2, q3⟩ := hh
        cases ea
        exact q2
      | dK ks ds =>
        obtain ⟨a', vs, ea, q1, q2, q3⟩ := hh
        cases ea
        exact q2
      | dT ks ds =>
        obtain ⟨a', vs, ea, q1, q2, q3⟩ := hh
        cases ea
        exact q2
      | pen =>
        obtain ⟨a', ea, q1, q2, q3⟩ := hh
        cases ea
        exact q2.resolve_right fun z => nomatch z
      | no => cases o
      | d x => cases o
      | scr ns => cases o
    exact I.freshN hn j e' g o' s'
def dCall (den : List D → (En → Prop) → (Value → Prop) → Prop) (dvs : List V) (ψ : Value → Prop) (dal : DA) : DT := fun Γ φ => dal Γ fun xs Γ1 => (dvs.all isSc) = true ∧ den (xs ++ dvs.map vD) (fun e => φ e Γ1) ψ
theorem Reps.scs {F : Hp} : ∀ {dvs : List V}, dvs.all isSc = true → Reps F dvs (dvs.map vD)
  | [], _ => .nil
  | v :: r, h => by
    rw [List.all_cons, Bool.and_eq_true] at h
    exact .cons (rep_sc h.1) (Reps.scs h.2)
theorem call_run {c : Ct K} {F H : Hp} {σ : L2.St} {Γ : List En} {xs : List V} {ds : List D} {φ : En → Prop} {ψ' : Value → Prop} {E' : XK} {Q : VK} {den : List D → (En → Prop) → (Value → Prop) → Prop} (I : Is c F H σ Γ) (eo : EOk c E' ψ') (r : Reps F xs ds) (h : den ds φ ψ')
    (q : ∀ F' H' v e, Is c F' H' σ Γ → Same F F' → Res c F' H' σ Γ v e → φ e → Q v H') : spX K den xs H Q E' := by
  refine ⟨F, ds, φ, ψ', I.fh, I.fn, I.tb, r, h, fun F' H' v e sf sh tb fh fn nw hh ne p => ?_, fun C H' sh tb p => eo C H' (fun a o z e => sh _ _ (I.hn a o e) (I.h0 a o z e)) (fun a z => ?_) tb p⟩
  · obtain ⟨I2, r2⟩ := I.called sf sh tb fh fn nw hh ne
    exact q F' H' v e I2 sf r2 p
  · obtain ⟨_, h2, _⟩ := I.pp a z
    obtain ⟨x1, x2, x3, x4, e, rr⟩ := h2
    exact ⟨x1, x2, x3, x4, sh _ _ (fun _ z => nomatch z) e, rr⟩
instance (priority := 900) snd_call {den : List D → (En → Prop) → (Value → Prop) → Prop} {dvs : List V} [sl : SndA K E ψ al dal] : Snd K E ψ (tCall (spX K den) dvs E al) (dCall den dvs ψ dal) := ⟨fun {c F H σ Γ φ Q} I eo h q => by
  refine sl.run I eo h fun F1 H1 vs xs Γ1 I1 s1 r1 h1 => ?_
  exact call_run I1 eo (r1.app (Reps.scs h1.1)) h1.2 fun F2 H2 v e I2 s2 r2 p => q F2 H2 v e Γ1 I2 (s1.trans s2) r2 p⟩
instance snd_call0 {den : List D → (En → Prop) → (Value → Prop) → Prop} {dvs : List V} [sl : SndA K E ψ al dal] : Snd K E ψ (tCall (spX K den) dvs E0 al) (dCall den dvs (fun _ => False) dal) := ⟨fun {c F H σ Γ φ Q} I eo h q => by
  refine sl.run I eo h fun F1 H1 vs xs Γ1 I1 s1 r1 h1 => ?_
  exact call_run (ψ' := fun _ => False) I1 (fun _ _ _ _ _ z => z) (r1.app (Reps.scs h1.1)) h1.2 fun F2 H2 v e I2 s2 r2 p => q F2 H2 v e Γ1 I2 (s1.trans s2) r2 p⟩
/-- with a pen ahead -/
def dCallP (i : Nat) (den : List D → (En → Prop) → Prop) (dvs : List V) (dal : DA) : DT := fun Γ φ => Γ[i]? = some .pen ∧ dal Γ fun xs Γ1 => Γ1[i]? = some .pen ∧ (dvs.all isSc) = true ∧ den (xs ++ dvs.map vD) fun e => φ e Γ1
instance snd_callP {i : Nat} {den : List D → (En → Prop) → Prop} {dvs : List V} {E' : XK} [sl : SndA K E ψ al dal] : Snd K E ψ (tCall (spP K den) dvs E' (tCons (tVar i) al)) (dCallP i den dvs dal) := ⟨fun {c F H σ Γ φ Q} I eo h q => by
  obtain ⟨g, h⟩ := h
  obtain ⟨v, hv, p, rfl, _⟩ := I.at_ i _ g (fun z => nomatch z)
  refine ⟨_, hv, ?_⟩
  refine sl.run I eo h fun F1 H1 vs xs Γ1 I1 s1 r1 h1 => ?_
  obtain ⟨g1, hsc, h1⟩ := h1
  obtain ⟨v', hv', p', ev, fp, h0p, pen⟩ := I1.at_ i _ g1 (fun z => nomatch z)
  rw [hv] at hv'
  cases hv'
  cases ev
  refine ⟨p, vs ++ dvs, F1, xs ++ dvs.map vD, fun e => φ e Γ1, rfl, fp, pen, I1.fh, I1.fn, I1.tb, r1.app (Reps.scs hsc), h1, fun F' H' v e sf k tb pen' fh fn nw hh ne np hp => ?_⟩
  have I2 := I1.growP g1 hv sf k tb pen' fh fn nw
  have hn : ∀ {a : Addr}, (cP K F1 H1 p).H0 a = none → c.H0 a = none := fun z => I1.unN z
  have rel : ∀ {a : Addr}, ntH H1 a = none → ∀ (j : Nat) (e' : En), Γ1[j]? = some e' → e'.own = true → σ[j]? ≠ some (some (.ref a)) := fun z => I1.freshN z
  refine q F' H' v e Γ1 I2 (s1.trans sf) ⟨?_, ne, fun o a ea j e' g' o' s' => ?_⟩ hp
  · cases e with
    | lst ds =>
      obtain ⟨a, us, rfl, q1, q2, q3⟩ := hh
      exact ⟨a, us, rfl, q1, I1.unN q2, q3⟩
    | dK ks ds =>
      obtain ⟨a, us, rfl, q1, q2, q3⟩ := hh
      exact ⟨a, us, rfl, q1, I1.unN q2, q3⟩
    | dT ks ds =>
      obtain ⟨a, us, rfl, q1, q2, q3⟩ := hh
      exact ⟨a, us, rfl, q1, I1.unN q2, q3⟩
    | pen =>
      obtain ⟨a, rfl, q1, q2, q3⟩ := hh
      rcases q2 with q2 | q2
      · exact ⟨a, rfl, q1, .inl (I1.unN q2), q3⟩
      · cases q2
        exact ⟨p, rfl, q1, h0p, q3⟩
    | no => trivial
    | d x => exact hh
    | scr ns =>
      obtain ⟨a, _, z⟩ := hh
      exact nomatch z
  · subst ea
    cases e with
    | lst ds =>
      obtain ⟨a', us, ea, q1, q2, q3⟩ := hh
      cases ea
      exact rel q2 j e' g' o' s'
    | dK ks ds =>
      obtain ⟨a', us, ea, q1, q2, q3⟩ := hh
      cases ea
      exact rel q2 j e' g' o' s'
    | dT ks ds =>
      obtain ⟨a', us, ea, q1, q2, q3⟩ := hh
      cases ea
      exact rel q2 j e' g' o' s'
    | pen => exact absurd rfl np
    | no => cases o
    | d x => cases o
    | scr ns => cases o⟩
end
end Da

set_option Elab.async false
set_option maxRecDepth 100000
set_option maxHeartbeats 4000000
set_option linter.all false
namespace Da
open PySem PySem.Spec PyProof.Rows L2 RZ HmS
/-- what is to hold behind a statement -/
structure Po where
  nx : List En → Prop
  rt : En → Prop
  bk : List En → Prop
  ct : List En → Prop
abbrev DSt := List En → Po → Prop
structure Meets {K : PySem.W.Frag} [HasT K] (c : Ct K) (P : Po) (D : Ends) : Prop where
  nx : ∀ F H σ Γ, Is c F H σ Γ → P.nx Γ → D.nx σ H
  rt : ∀ F H σ Γ v e, Is c F H σ Γ → Held c F H e v → e ≠ .no → P.rt e → D.rt v H
  bk : ∀ F H σ Γ, Is c F H σ Γ → P.bk Γ → D.bk σ H
  ct : ∀ F H σ Γ, Is c F H σ Γ → P.ct Γ → D.ct σ H
class SndS (K : PySem.W.Frag) [HasT K] (E : XK) (ψ : Value → Prop) (t : TS) (den : outParam DSt) : Prop where
  run : ∀ {c : Ct K} {F H : Hp} {σ : L2.St} {Γ : List En} {P : Po} {D : Ends}, Is c F H σ Γ → EOk c E ψ → den Γ P → Meets c P D → t D σ H
section
variable {K : PySem.W.Frag} [HasT K] {E : XK} {ψ : Value → Prop} {te ta tb tx : TE} {da db dx de : DT} {tt tu : TT} {dtt dtu : DB} {al : TA} {dal : DA} {t u : TS} {dt du : DSt}
def dNext : DSt := fun Γ P => P.nx Γ
instance snds_next : SndS K E ψ tNext dNext := ⟨fun {c F H σ Γ P D} I eo h m => m.nx _ _ _ _ I h⟩
def dSeq (dt du : DSt) : DSt := fun Γ P => dt Γ { P with nx := fun Γ1 => du Γ1 P }
instance snds_seq [a : SndS K E ψ t dt] [b : SndS K E ψ u du] : SndS K E ψ (tSeq t u) (dSeq dt du) := ⟨fun {c F H σ Γ P D} I eo h m =>
  a.run (P := { P with nx := fun Γ1 => du Γ1 P }) I eo h ⟨fun _ _ _ _ I1 h1 => b.run I1 eo h1 m, m.rt, m.bk, m.ct⟩⟩
def dBreak : DSt := fun Γ P => P.bk Γ
def dCont : DSt := fun Γ P => P.ct Γ
instance snds_break : SndS K E ψ tBreak dBreak := ⟨fun {c F H σ Γ P D} I eo h m => m.bk _ _ _ _ I h⟩
instance snds_cont : SndS K E ψ tCont dCont := ⟨fun {c F H σ Γ P D} I eo h m => m.ct _ _ _ _ I h⟩
def dNever : DSt := fun _ _ => False
instance snds_never : SndS K E ψ tNever dNever := ⟨fun _ _ h _ => h⟩
/-- raise C('..') -/
def tRse (E : XK) (C : Value) : TS := fun _ _ H => E C none H
def dRse (ψ : Value → Prop) (C : Value) : DSt := fun _ _ => ψ C
instance snds_rse {C : Value} : SndS K E ψ (tRse E C) (dRse ψ C) := ⟨fun {c F H σ Γ P D} I eo h m => eo C H I.h0 (fun p hp => (I.pp p hp).2.1) I.tb h⟩
def dDrop (da : DT) : DSt := fun Γ P => da Γ fun _ Γ1 => P.nx Γ1
instance (priority := 900) snds_drop [a : Snd K E ψ ta da] : SndS K E ψ (tDrop ta) (dDrop da) := ⟨fun {c F H σ Γ P D} I eo h m => a.run (φ := fun _ Γ1 => P.nx Γ1) I eo h fun _ _ _ _ _ I1 _ _ h1 => m.nx _ _ _ _ I1 h1⟩
def dRet (da : DT) : DSt := fun Γ P => da Γ fun e _ => P.rt e
instance (priority := 900) snds_ret [a : Snd K E ψ ta da] : SndS K E ψ (tRet ta) (dRet da) := ⟨fun {c F H σ Γ P D} I eo h m => a.run (φ := fun e _ => P.rt e) I eo h fun _ _ _ _ _ I1 _ r1 h1 => m.rt _ _ _ _ _ _ I1 r1.1 r1.2.1 h1⟩
/-- what a slot owns is handed on -/
def dRetv (i : Nat) : DSt := fun Γ P => ∃ e, Γ[i]? = some e ∧ e ≠ .no ∧ P.rt e
instance snds_retv (i : Nat) : SndS K E ψ (tRet (tVar i)) (dRetv i) := ⟨fun {c F H σ Γ P D} I eo h m => by
  obtain ⟨e, g, n, h⟩ := h
  obtain ⟨v, hv, hh⟩ := I.at_ i e g n
  exact ⟨v, hv, m.rt _ _ _ _ _ _ I hh n h⟩⟩
def dRetN : DSt := fun _ P => P.rt (.d .non)
instance snds_retN : SndS K E ψ tRetN dRetN := ⟨fun {c F H σ Γ P D} I eo h m => m.rt _ _ _ _ _ (.d .non) I (.non : Rep F .non .non) (fun z => nomatch z) h⟩
def dIfS (dtt : DB) (dt du : DSt) : DSt := fun Γ P => dtt Γ fun b Γ1 => if b = true then dt Γ1 P else du Γ1 P
instance snds_if [s : SndT K E ψ tt dtt] [a : SndS K E ψ t dt] [b : SndS K E ψ u du] : SndS K E ψ (tIfS tt t u) (dIfS dtt dt du) := ⟨fun {c F H σ Γ P D} I eo h m => by
  refine s.run I eo h fun F1 H1 b Γ1 I1 s1 h1 => ?_
  cases b with
  | true => exact iteT (a.run I1 eo h1 m)
  | false => exact iteF (b.run I1 eo h1 m)⟩
def dAsg (i : Nat) (da : DT) : DSt := fun Γ P => da Γ fun e Γ1 => P.nx (Γ1.set i e)
instance (priority := 900) snds_asg {i : Nat} [a : Snd K E ψ ta da] : SndS K E ψ (tAsg ta (gName i)) (dAsg i da) := ⟨fun {c F H σ Γ P D} I eo h m => a.run (φ := fun e Γ1 => P.nx (Γ1.set i e)) I eo h fun _ _ v e _ I1 _ r1 h1 => m.nx _ _ _ _ (I1.set r1 i) h1⟩
def dAsgT (dg : D → List En → (List En → Prop) → Prop) (da : DT) : DSt := fun Γ P => da Γ fun e Γ1 => wf e fun x => dg x Γ1 P.nx
instance snds_asgT {n : Nat} {gs : TGs} {gv : List Nat} {dg : D → List En → (List En → Prop) → Prop} [s : SndG K (gTup K n gs) gv dg] [a : Snd K E ψ ta da] : SndS K E ψ (tAsg ta (gTup K n gs)) (dAsgT dg da) := ⟨fun {c F H σ Γ P D} I eo h m =>
  a.frz (φ := fun _ _ => True) (k := fun x Γ1 => dg x Γ1 P.nx) I eo h fun F1 H1 v x Γ1 I1 s1 rp h1 => s.run I1 rp h1 fun σ2 Γ2 I2 _ h2 => m.nx _ _ _ _ I2 h2⟩
def dPar (i j : Nat) (da db : DT) : DSt := fun Γ P => da Γ fun e Γ1 => wf e fun x => db Γ1 fun e' Γ2 => P.nx ((Γ2.set i (.d x)).set j e')
instance snds_par {i j : Nat} [a : Snd K E ψ ta da] [b : Snd K E ψ tb db] : SndS K E ψ (tPar i j (tCons ta (tCons tb tNil))) (dPar i j da db) := ⟨fun {c F H σ Γ P D} I eo h m => by
  refine a.frz (φ := fun _ _ => True) (k := fun x Γ1 => db Γ1 fun e' Γ2 => P.nx ((Γ2.set i (.d x)).set j e')) I eo h fun F1 H1 v x Γ1 I1 s1 rp h1 => ?_
  refine b.run I1 eo h1 fun F2 H2 w e Γ2 I2 s2 r2 h2 => ⟨v, w, rfl, ?_⟩
  refine m.nx _ _ _ _ ((I2.set (Res.d (rp.mono s2)) i).set (e := e) ⟨r2.1, r2.2.1, fun o a ea k e' g o' s' => ?_⟩ j) h2
  by_cases z : i = k
  · subst z
    have l : i < Γ2.length := by
      have := (List.getElem?_eq_some_iff.mp g).1
      simpa using this
    rw [List.getElem?_set_self l] at g
    cases g
    cases o'
  · rw [List.getElem?_set_ne z] at g s'
    exact r2.2.2 o a ea k e' g o' s'⟩
/-! ### what a slot owns is changed -/
theorem Is.slot {c : Ct K} {F H : Hp} {σ : L2.St} {Γ : List En} {i : Nat} {a : Addr} {o : HO} {e e' : En} (I : Is c F H σ Γ) (g : Γ[i]? = some e) (s : σ[i]? = some (some (.ref a))) (oe : e.own = true) (fa : F a = none) (h0 : c.H0 a = none)
    (hh : Held c F (upd H a o) e' (.ref a)) (n : e' ≠ .no) (oe' : e'.own = true) : Is c F (upd H a o) σ (Γ.set i e') := by
  have gl : i < Γ.length := (List.getElem?_eq_some_iff.mp g).1
  have ne : ∀ (j : Nat) (e1 : En), i ≠ j → Γ[j]? = some e1 → e1.own = true → σ[j]? ≠ some (some (.ref a)) := fun j e1 ij g1 o1 s1 => I.dis i j a e e1 ij g g1 oe o1 s s1
  have tbs : TbOk K (upd H a o) := by
    obtain ⟨v, h1, h2⟩ := I.at_ i e g (fun z => by rw [z] at oe; cases oe)
    rw [s] at h1
    cases h1
    obtain ⟨a', u, ea, _, _, h3, h4⟩ := h2.ref oe
    cases ea
    exact I.tb.chg h3 h4 fun b hb => upd_ne hb
  refine ⟨I.f0, fun b u eb => ?_, I.nw, fun b u q eb => ?_, fun q eq => ?_, by rw [List.length_set]; exact I.len, fun j e1 g1 n1 => ?_, fun j k b e1 e2 jk g1 g2 o1 o2 s1 s2 => ?_, I.fn, tbs, I.hn⟩
  · have : b ≠ a := fun z => by rw [z, fa] at eb; cases eb
    rw [upd_ne this]
    exact I.fh b u eb
  · have : b ≠ a := fun z => by rw [z, h0] at eb; cases eb
    rw [upd_ne this]
    exact I.h0 b u q eb
  · obtain ⟨h1, h2, h3⟩ := I.pp q eq
    have : q ≠ a := fun z => by
      rw [z] at h3
      exact h3 h0
    exact ⟨h1, h2.of (upd_ne this), h3⟩
  · rw [List.getElem?_set] at g1
    by_cases z : i = j
    · rw [if_pos z, if_pos gl] at g1
      cases g1
      subst z
      exact ⟨_, s, hh⟩
    · rw [if_neg z] at g1
      obtain ⟨v, h1, h2⟩ := I.at_ j e1 g1 n1
      refine ⟨v, h1, h2.grow (Same.refl F) (fun b eb ob => .inl (upd_ne fun w => ?_)) (fun b eb ob => ?_)⟩
      · subst w
        subst eb
        exact ne j e1 z g1 ob h1
      · obtain ⟨a', u3, e3, q1, _⟩ := h2.ref ob
        rw [eb] at e3
        cases e3
        exact q1
  · rw [List.getElem?_set] at g1 g2
    by_cases z1 : i = j
    · rw [if_pos z1, if_pos gl] at g1
      have z2 : ¬ i = k := fun z => jk (z1.symm.trans z)
      rw [if_neg z2] at g2
      subst z1
      rw [s] at s1
      cases s1
      exact ne k e2 z2 g2 o2 s2
    · rw [if_neg z1] at g1
      by_cases z2 : i = k
      · subst z2
        rw [s] at s2
        cases s2
        exact ne j e1 z1 g1 o1 s1
      · rw [if_neg z2] at g2
        exact I.dis j k b e1 e2 jk g1 g2 o1 o2 s1 s2
theorem Is.slotL {c : Ct K} {F H : Hp} {σ : L2.St} {Γ : List En} {i : Nat} {a : Addr} {xs ys : List D} {us : List V} (I : Is c F H σ Γ) (g : Γ[i]? = some (.lst xs)) (s : σ[i]? = some (some (.ref a))) (fa : F a = none) (h0 : c.H0 a = none) (rs : Reps F us ys) :
    Is c F (upd H a (.lst us)) σ (Γ.set i (.lst ys)) := I.slot (e' := .lst ys) g s rfl fa h0 ⟨a, us, rfl, fa, h0, upd_same, rs⟩ (fun z => nomatch z) rfl
/-- xs.append(e), xs in a slot -/
def dApp (i : Nat) (da : DT) : DSt := fun Γ P => (∃ xs, Γ[i]? = some (.lst xs)) ∧ da Γ fun e Γ1 => wf e fun x => ∃ xs, Γ1[i]? = some (.lst xs) ∧ xs.length ≤ 100000 ∧ P.nx (Γ1.set i (.lst (xs ++ [x])))
instance snds_app {i : Nat} [a : Snd K E ψ ta da] : SndS K E ψ (tDrop (tBM K "list" rAppend (tVar i) (tCons ta tNil))) (dApp i da) := ⟨fun {c F H σ Γ P D} I eo h m => by
  obtain ⟨⟨xs, g⟩, h⟩ := h
  obtain ⟨v, hv, p, vs, rfl, fp, h0, hp, rs⟩ := I.at_ i _ g (fun z => nomatch z)
  refine ⟨_, hv, .inl ⟨rfl, vs, SqL.of hp⟩, ?_⟩
  refine a.frz (φ := fun _ _ => True) (k := fun x Γ1 => ∃ xs, Γ1[i]? = some (.lst xs) ∧ xs.length ≤ 100000 ∧ P.nx (Γ1.set i (.lst (xs ++ [x])))) I eo h fun F1 H1 w x Γ1 I1 s1 rp h1 => ?_
  obtain ⟨ys, g1, l1, h1⟩ := h1
  obtain ⟨v', hv', p', us, ev, fp1, h01, hp1, rs1⟩ := I1.at_ i _ g1 (fun z => nomatch z)
  rw [hv] at hv'
  cases hv'
  cases ev
  refine ⟨p, us, w, rfl, rfl, hp1, by rw [rs1.length]; exact Nat.lt_of_le_of_lt l1 (by decide), ?_⟩
  exact m.nx _ _ _ _ (I1.slotL g1 hv fp1 h01 (rs1.snoc rp)) h1⟩
/-- xs.extend(e) -/
def dExt (i : Nat) (da : DT) : DSt := fun Γ P => (∃ xs, Γ[i]? = some (.lst xs)) ∧ da Γ fun e Γ1 => wl e fun ys => ∃ xs, Γ1[i]? = some (.lst xs) ∧ xs.length + ys.length ≤ 100000 ∧ P.nx (Γ1.set i (.lst (xs ++ ys)))
instance snds_ext {i : Nat} [a : Snd K E ψ ta da] : SndS K E ψ (tDrop (tBM K "list" rExtend (tVar i) (tCons ta tNil))) (dExt i da) := ⟨fun {c F H σ Γ P D} I eo h m => by
  obtain ⟨⟨xs, g⟩, h⟩ := h
  obtain ⟨v, hv, p, vs, rfl, fp, h0, hp, rs⟩ := I.at_ i _ g (fun z => nomatch z)
  refine ⟨_, hv, .inl ⟨rfl, vs, SqL.of hp⟩, ?_⟩
  refine a.run I eo h fun F1 H1 w e Γ1 I1 s1 r1 h1 => ?_
  obtain ⟨F2, b, ws, ys, rfl, I2, s2, eb, rw2, ys1, g1, l1, h2⟩ := r1.frzL I1 h1
  obtain ⟨v', hv', p', us, ev, fp1, h01, hp1, rs1⟩ := I2.at_ i _ g1 (fun z => nomatch z)
  rw [hv] at hv'
  cases hv'
  cases ev
  refine ⟨p, b, us, ws, rfl, rfl, hp1, I2.fh _ _ eb, by rw [rs1.length, rw2.length]; exact Nat.le_trans l1 (by decide), ?_⟩
  exact m.nx _ _ _ _ (I2.slotL g1 hv fp1 h01 (rs1.app rw2)) h2⟩
/-- xs[j] = e -/
def dSetL (i : Nat) (dj da : DT) : DSt := fun Γ P => da Γ fun e Γ1 => wf e fun x => (∃ xs, Γ1[i]? = some (.lst xs)) ∧ dj Γ1 fun e' Γ2 => wi e' fun j => ∃ xs k, Γ2[i]? = some (.lst xs) ∧ ixN xs.length j = some k ∧ P.nx (Γ2.set i (.lst (xs.set k x)))
instance snds_setL {i : Nat} [a : Snd K E ψ ta da] [b : Snd K E ψ tb db] : SndS K E ψ (tAsg ta (gSub (tVar i) tb rSetL)) (dSetL i db da) := ⟨fun {c F H σ Γ P D} I eo h m => by
  refine a.frz (φ := fun _ _ => True) (k := fun x Γ1 => (∃ xs, Γ1[i]? = some (.lst xs)) ∧ db Γ1 fun e' Γ2 => wi e' fun j => ∃ xs k, Γ2[i]? = some (.lst xs) ∧ ixN xs.length j = some k ∧ P.nx (Γ2.set i (.lst (xs.set k x)))) I eo h fun F1 H1 w x Γ1 I1 s1 rp h1 => ?_
  obtain ⟨⟨xs, g⟩, h1⟩ := h1
  obtain ⟨v, hv, p, vs, rfl, fp, h0, hp, rs⟩ := I1.at_ i _ g (fun z => nomatch z)
  refine ⟨_, hv, ?_⟩
  refine b.run I1 eo h1 fun F2 H2 u e Γ2 I2 s2 r2 h2 => ?_
  obtain ⟨j, rfl, ys, k, g2, hk, h2⟩ := wi_of h2
  cases (show Rep F2 u (.int j) from r2.1)
  obtain ⟨v', hv', p', us, ev, fp1, h01, hp1, rs1⟩ := I2.at_ i _ g2 (fun z => nomatch z)
  rw [hv] at hv'
  cases hv'
  cases ev
  refine ⟨p, us, j, k, rfl, rfl, hp1, by rw [rs1.length]; exact hk, ?_⟩
  exact m.nx _ _ _ _ (I2.slotL g2 hv fp1 h01 (rs1.set (rp.mono s2))) h2⟩
/-- xs.pop(j) as a value -/
def dPopAt (i : Nat) (dj : DT) : DT := fun Γ φ => (∃ xs, Γ[i]? = some (.lst xs)) ∧ dj Γ fun e' Γ1 => wi e' fun j => ∃ xs k x, Γ1[i]? = some (.lst xs) ∧ -100000 ≤ j ∧ j ≤ 100000 ∧ seqIndex? j xs.length = some k ∧ xs[k]? = some x ∧ φ (.d x) (Γ1.set i (.lst (xs.eraseIdx k)))
instance snd_popAt {i : Nat} [b : Snd K E ψ tb db] : Snd K E ψ (tBM K "list" rPopAt (tVar i) (tCons tb tNil)) (dPopAt i db) := ⟨fun {c F H σ Γ φ Q} I eo h q => by
  obtain ⟨⟨xs, g⟩, h⟩ := h
  obtain ⟨v, hv, p, vs, rfl, fp, h0, hp, rs⟩ := I.at_ i _ g (fun z => nomatch z)
  refine ⟨_, hv, .inl ⟨rfl, vs, SqL.of hp⟩, ?_⟩
  refine b.run I eo h fun F2 H2 u e Γ2 I2 s2 r2 h2 => ?_
  obtain ⟨j, rfl, ys, k, x, g2, j0, j1, hk, hx, h2⟩ := wi_of h2
  cases (show Rep F2 u (.int j) from r2.1)
  obtain ⟨v', hv', p', us, ev, fp1, h01, hp1, rs1⟩ := I2.at_ i _ g2 (fun z => nomatch z)
  rw [hv] at hv'
  cases hv'
  cases ev
  obtain ⟨w, hw, rw1⟩ := rs1.get hx
  refine ⟨p, us, j, k, w, rfl, rfl, hp1, by omega, by omega, by rw [rs1.length]; exact hk, hw, ?_⟩
  exact q _ _ _ _ _ (I2.slotL g2 hv fp1 h01 (rs1.eraseIdx k)) s2 (Res.d rw1) h2⟩
/-! ### dicts with int and text keys that a slot owns -/
def kD : Key → D
  | .inl i => .int i
  | .inr s => .str s
def keyOf : D → Option Key
  | .int i => some (.inl i)
  | .str s => some (.inr s)
  | _ => none
theorem keyOf_rep {F : Hp} {v : V} {x : D} {k : Key} (r : Rep F v x) (h : keyOf x = some k) : v = kV k := by
  cases r <;> first | (cases h; rfl) | (cases h; done)
def lookD {κ : Type} [DecidableEq κ] : List κ → List D → κ → Option D
  | k :: ks, x :: xs, j => if k = j then some x else lookD ks xs j
  | _, _, _ => none
theorem valV_look {κ : Type} [DecidableEq κ] {F : Hp} {j : κ} : ∀ {kvs : List (κ × V)} {ks : List κ} {ds : List D}, kvs.map (·.1) = ks → Reps F (kvs.map (·.2)) ds →
    (∀ x, lookD ks ds j = some x → ∃ v, valV kvs j = some v ∧ Rep F v x) ∧ (lookD ks ds j = none → valV kvs j = none)
  | [], _, _, rfl, .nil => ⟨(fun x h => nomatch h), (fun _ => rfl)⟩
  | (k, v) :: r, _, _, rfl, .cons a b => by
    obtain ⟨h1, h2⟩ := valV_look (j := j) (kvs := r) rfl b
    by_cases z : k = j
    · refine ⟨fun x h => ?_, fun h => ?_⟩
      · simp only [List.map_cons, lookD, if_pos z] at h
        cases h
        exact ⟨v, valV_pos z, a⟩
      · simp only [List.map_cons, lookD, if_pos z] at h
        cases h
    · refine ⟨fun x h => ?_, fun h => ?_⟩
      · simp only [List.map_cons, lookD, if_neg z] at h
        obtain ⟨w, e, rp⟩ := h1 x h
        exact ⟨w, by rw [valV_neg z]; exact e, rp⟩
      · simp only [List.map_cons, lookD, if_neg z] at h
        rw [valV_neg z]
        exact h2 h
/-- a dict as data, as a slot has it -/
def dkOf (e : En) : Option (List Key × List D) := match e with
  | .d (.dK ks xs) => some (ks, xs)
  | .dK ks xs => some (ks, xs)
  | _ => none
theorem Held.dk {c : Ct K} {F H : Hp} {e : En} {v : V} {ks : List Key} {xs : List D} (fh : Same F H) (h : Held c F H e v) (k : dkOf e = some (ks, xs)) : ∃ a kvs, v = .ref a ∧ H a = some (.dK kvs) ∧ kvs.map (·.1) = ks ∧ Reps F (kvs.map (·.2)) xs := by
  cases e with
  | d x =>
    cases x with
    | dK ks' xs' =>
      cases k
      have h : Rep F v (.dK ks xs) := h
      cases h with
      | dK e1 e2 r => exact ⟨_, _, rfl, fh _ _ e1, e2, r⟩
    | _ => cases k
  | dK ks' xs' =>
    cases k
    obtain ⟨a, kvs, rfl, _, _, h1, h2, h3⟩ := h
    exact ⟨a, kvs, rfl, h1, h2, h3⟩
  | _ => cases k
/-- d[k], d in a slot -/
def dDGet (i : Nat) (db : DT) : DT := fun Γ φ => (∃ e ks xs, Γ[i]? = some e ∧ dkOf e = some (ks, xs)) ∧ db Γ fun e' Γ1 => wf e' fun y => ∃ e ks xs k x, Γ1[i]? = some e ∧ dkOf e = some (ks, xs) ∧ keyOf y = some k ∧ lookD ks xs k = some x ∧ φ (.d x) Γ1
theorem dk_no {e : En} {p : List Key × List D} (h : dkOf e = some p) : e ≠ .no := fun z => by rw [z] at h; cases h
instance snd_dget {i : Nat} [b : Snd K E ψ tb db] : Snd K E ψ (tDGet (tVar i) tb) (dDGet i db) := ⟨fun {c F H σ Γ φ Q} I eo h q => by
  obtain ⟨⟨e, ks, xs, g, hk⟩, h⟩ := h
  obtain ⟨v, hv, hh⟩ := I.at_ i _ g (dk_no hk)
  obtain ⟨a, kvs, rfl, _⟩ := hh.dk I.fh hk
  refine ⟨_, hv, ?_⟩
  refine b.frz (φ := fun _ _ => True) (k := fun y Γ1 => ∃ e ks xs k x, Γ1[i]? = some e ∧ dkOf e = some (ks, xs) ∧ keyOf y = some k ∧ lookD ks xs k = some x ∧ φ (.d x) Γ1) I eo h fun F1 H1 w y Γ1 I1 s1 rp h1 => ?_
  obtain ⟨e1, ks1, xs1, k, x, g1, hk1, hy, hl, h1⟩ := h1
  obtain ⟨v', hv', hh1⟩ := I1.at_ i _ g1 (dk_no hk1)
  rw [hv] at hv'
  cases hv'
  obtain ⟨a', kvs1, ea, ha, ek, rs⟩ := hh1.dk I1.fh hk1
  cases ea
  obtain ⟨u, hu, ru⟩ := (valV_look ek rs).1 x hl
  refine ⟨a, u, rfl, ?_, q F1 H1 u _ Γ1 I1 s1 (Res.d ru) h1⟩
  rw [keyOf_rep rp hy, ← hu]
  exact DGet.k (k := k) ha⟩
/-- k in d, d in a slot -/
def dDIn (neg : Bool) (i : Nat) (db : DT) : DT := fun Γ φ => db Γ fun e' Γ1 => wf e' fun y => ∃ e ks xs k, Γ1[i]? = some e ∧ dkOf e = some (ks, xs) ∧ keyOf y = some k ∧ φ (.d (.bl (if neg then !(lookD ks xs k).isSome else (lookD ks xs k).isSome))) Γ1
theorem look_some {F : Hp} {kvs : List (Key × V)} {ks : List Key} {ds : List D} {k : Key} (ek : kvs.map (·.1) = ks) (rs : Reps F (kvs.map (·.2)) ds) : (valV kvs k).isSome = (lookD ks ds k).isSome := by
  obtain ⟨h1, h2⟩ := valV_look (j := k) ek rs
  cases e : lookD ks ds k with
  | none =>
    rw [h2 e]
    rfl
  | some x =>
    obtain ⟨v, hv, _⟩ := h1 x e
    rw [hv]
    rfl
instance snd_din {i : Nat} [b : Snd K E ψ tb db] : Snd K E ψ (tDIn tb (tVar i)) (dDIn false i db) := ⟨fun {c F H σ Γ φ Q} I eo h q => by
  refine b.frz (φ := fun _ _ => True) (k := fun y Γ1 => ∃ e ks xs k, Γ1[i]? = some e ∧ dkOf e = some (ks, xs) ∧ keyOf y = some k ∧ φ (.d (.bl (if false then !(lookD ks xs k).isSome else (lookD ks xs k).isSome))) Γ1) I eo h fun F1 H1 w y Γ1 I1 s1 rp h1 => ?_
  obtain ⟨e, ks, xs, k, g, hk, hy, h1⟩ := h1
  obtain ⟨v, hv, hh⟩ := I1.at_ i _ g (dk_no hk)
  obtain ⟨a, kvs, rfl, ha, ek, rs⟩ := hh.dk I1.fh hk
  refine ⟨_, hv, a, valV kvs k, rfl, ?_, ?_⟩
  · rw [keyOf_rep rp hy]
    exact DGet.k (k := k) ha
  · rw [look_some ek rs]
    exact q F1 H1 _ _ Γ1 I1 s1 (Res.d (.bl _)) h1⟩
instance snd_dnotin {i : Nat} [b : Snd K E ψ tb db] : Snd K E ψ (tDNotIn tb (tVar i)) (dDIn true i db) := ⟨fun {c F H σ Γ φ Q} I eo h q => by
  refine b.frz (φ := fun _ _ => True) (k := fun y Γ1 => ∃ e ks xs k, Γ1[i]? = some e ∧ dkOf e = some (ks, xs) ∧ keyOf y = some k ∧ φ (.d (.bl (if true then !(lookD ks xs k).isSome else (lookD ks xs k).isSome))) Γ1) I eo h fun F1 H1 w y Γ1 I1 s1 rp h1 => ?_
  obtain ⟨e, ks, xs, k, g, hk, hy, h1⟩ := h1
  obtain ⟨v, hv, hh⟩ := I1.at_ i _ g (dk_no hk)
  obtain ⟨a, kvs, rfl, ha, ek, rs⟩ := hh.dk I1.fh hk
  refine ⟨_, hv, a, valV kvs k, rfl, ?_, ?_⟩
  · rw [keyOf_rep rp hy]
    exact DGet.k (k := k) ha
  · rw [look_some ek rs]
    exact q F1 H1 _ _ Γ1 I1 s1 (Res.d (.bl _)) h1⟩
/-- {} -/
def dNewK : DT := fun Γ φ => φ (.dK [] []) Γ
instance snd_newK : Snd K E ψ tDNewK dNewK := ⟨fun {c F H σ Γ φ Q} I eo h q => fun p hp =>
  q F _ (.ref p) (.dK [] []) Γ (I.newH hp) (Same.refl F) ⟨⟨p, [], rfl, I.unF hp, I.un hp, upd_same, rfl, .nil⟩, (fun z => nomatch z), fun _ a e => by cases e; exact I.fresh hp⟩ h⟩
/-- d[k] = v, d in a slot -/
def hasK (ks : List Key) (j : Key) : Bool := ks.any fun k => decide (k = j)
def putKs (ks : List Key) (j : Key) : List Key := if hasK ks j = true then ks else ks ++ [j]
def putXs : List Key → List D → Key → D → List D
  | k :: ks, x :: xs, j, y => (if k = j then y else x) :: putXs ks xs j y
  | _, xs, j, y => xs
def putD (ks : List Key) (xs : List D) (j : Key) (y : D) : List D := if hasK ks j = true then putXs ks xs j y else xs ++ [y]
theorem putK_rep {F : Hp} {j : Key} {v : V} {y : D} (ry : Rep F v y) {kvs : List (Key × V)} {ks : List Key} {xs : List D} (ek : kvs.map (·.1) = ks) (rs : Reps F (kvs.map (·.2)) xs) :
    (putK kvs j v).map (·.1) = putKs ks j ∧ Reps F ((putK kvs j v).map (·.2)) (putD ks xs j y) := by
  unfold putK putKs putD
  have ea : (kvs.any fun kv => decide (kv.1 = j)) = hasK ks j := by
    subst ek
    unfold hasK
    rw [List.any_map]
    rfl
  rw [ea]
  by_cases hj : hasK ks j = true
  · rw [if_pos hj, if_pos hj, if_pos hj]
    constructor
    · rw [← ek, List.map_map]
      refine List.map_congr_left fun p _ => ?_
      show (if p.1 = j then (p.1, v) else p).1 = p.1
      split <;> rfl
    · clear ea hj
      subst ek
      induction kvs generalizing xs with
      | nil =>
        cases rs
        exact .nil
      | cons p r ih =>
        cases rs with
        | cons a b =>
          rw [List.map_cons, List.map_cons]
          refine .cons ?_ (ih b)
          show Rep F (if p.1 = j then (p.1, v) else p).2 (if p.1 = j then y else _)
          by_cases z : p.1 = j
          · rw [if_pos z, if_pos z]
            exact ry
          · rw [if_neg z, if_neg z]
            exact a
  · rw [if_neg hj, if_neg hj, if_neg hj]
    exact ⟨by rw [List.map_append, ek]; rfl, by rw [List.map_append]; exact rs.app (.cons ry .nil)⟩
def dDPut (i : Nat) (dj da : DT) : DSt := fun Γ P => da Γ fun e Γ1 => wf e fun x => (∃ ks xs, Γ1[i]? = some (.dK ks xs)) ∧ dj Γ1 fun e' Γ2 => wf e' fun y => ∃ ks xs k, Γ2[i]? = some (.dK ks xs) ∧ keyOf y = some k ∧ ks.length ≤ 100000 ∧ P.nx (Γ2.set i (.dK (putKs ks k) (putD ks xs k x)))
instance snds_dput {i : Nat} [a : Snd K E ψ ta da] [b : Snd K E ψ tb db] : SndS K E ψ (sDPut (tVar i) tb ta) (dDPut i db da) := ⟨fun {c F H σ Γ P D} I eo h m => by
  refine a.frz (φ := fun _ _ => True) (k := fun x Γ1 => (∃ ks xs, Γ1[i]? = some (.dK ks xs)) ∧ db Γ1 fun e' Γ2 => wf e' fun y => ∃ ks xs k, Γ2[i]? = some (.dK ks xs) ∧ keyOf y = some k ∧ ks.length ≤ 100000 ∧ P.nx (Γ2.set i (.dK (putKs ks k) (putD ks xs k x)))) I eo h fun F1 H1 w x Γ1 I1 s1 rp h1 => ?_
  obtain ⟨⟨ks0, xs0, g⟩, h1⟩ := h1
  obtain ⟨v, hv, p, kvs, rfl, fp, h0, hp, ek, rs⟩ := I1.at_ i _ g (fun z => nomatch z)
  refine ⟨_, hv, ?_⟩
  refine b.frz (φ := fun _ _ => True) (k := fun y Γ2 => ∃ ks xs k, Γ2[i]? = some (.dK ks xs) ∧ keyOf y = some k ∧ ks.length ≤ 100000 ∧ P.nx (Γ2.set i (.dK (putKs ks k) (putD ks xs k x)))) I1 eo h1 fun F2 H2 u y Γ2 I2 s2 ry h2 => ?_
  obtain ⟨ks, xs, k, g2, hy, hl, h2⟩ := h2
  obtain ⟨v', hv', p', kvs2, ev, fp1, h01, hp1, ek1, rs1⟩ := I2.at_ i _ g2 (fun z => nomatch z)
  rw [hv] at hv'
  cases hv'
  cases ev
  have ll : kvs2.length = ks.length := by rw [← ek1, List.length_map]
  obtain ⟨k1, k2⟩ := putK_rep (rp.mono s2) ek1 rs1 (j := k)
  refine ⟨p, _, rfl, by rw [keyOf_rep ry hy]; exact DPut.k (k := k) hp1 (by rw [ll]; exact Nat.lt_of_le_of_lt hl (by decide)), ?_⟩
  exact m.nx _ _ _ _ (I2.slot (e' := .dK (putKs ks k) (putD ks xs k x)) g2 hv rfl fp1 h01 ⟨p, _, rfl, fp1, h01, upd_same, k1, k2⟩ (fun z => nomatch z) rfl) h2⟩
/-- d.get(k), d in a slot or told by a call -/
def dGet1 (da db : DT) : DT := fun Γ φ => da Γ fun e Γ1 => wf e fun x => (∃ ks xs, x = .dK ks xs) ∧ db Γ1 fun e' Γ2 => wf e' fun y => ∃ ks xs k, x = .dK ks xs ∧ keyOf y = some k ∧ φ (.d ((lookD ks xs k).getD .non)) Γ2
instance snd_get1 [a : Snd K E ψ ta da] [b : Snd K E ψ tb db] : Snd K E ψ (tDGet1 ta tb) (dGet1 da db) := ⟨fun {c F H σ Γ φ Q} I eo h q => by
  refine a.frz (φ := fun _ _ => True) (k := fun x Γ1 => (∃ ks xs, x = .dK ks xs) ∧ db Γ1 fun e' Γ2 => wf e' fun y => ∃ ks xs k, x = .dK ks xs ∧ keyOf y = some k ∧ φ (.d ((lookD ks xs k).getD .non)) Γ2) I eo h fun F1 H1 v x Γ1 I1 s1 r1 h1 => ?_
  obtain ⟨⟨ks, xs, rfl⟩, h1⟩ := h1
  cases r1 with
  | @dK p kvs _ _ ep ek rs =>
    refine ⟨p, rfl, .inl ⟨kvs, .inl (I1.fh _ _ ep)⟩, ?_⟩
    refine b.frz (φ := fun _ _ => True) (k := fun y Γ2 => ∃ ks1 xs1 k, D.dK ks xs = .dK ks1 xs1 ∧ keyOf y = some k ∧ φ (.d ((lookD ks1 xs1 k).getD .non)) Γ2) I1 eo h1 fun F2 H2 u y Γ2 I2 s2 r2 h2 => ?_
    obtain ⟨ks1, xs1, k, e, hy, h2⟩ := h2
    cases e
    refine ⟨valV kvs k, ?_, ?_⟩
    · rw [keyOf_rep r2 hy]
      exact DGet.k (k := k) (I2.fh _ _ (s2 _ _ ep))
    · obtain ⟨z1, z2⟩ := valV_look (j := k) ek (rs.mono s2)
      cases el : lookD ks xs k with
      | none =>
        rw [z2 el]
        rw [el] at h2
        exact q F2 H2 _ _ Γ2 I2 (s1.trans s2) (Res.d .non) h2
      | some x =>
        obtain ⟨w, hw, rw1⟩ := z1 x el
        rw [hw]
        rw [el] at h2
        exact q F2 H2 _ _ Γ2 I2 (s1.trans s2) (Res.d rw1) h2⟩
/-! ### loops -/
def dFor (di : DA) (dg : D → List En → (List En → Prop) → Prop) (dt : DSt) : DSt := fun Γ P => di Γ fun items Γ1 => ∃ I : Nat → List En → Prop, I 0 Γ1 ∧
  ∀ i Γ', I i Γ' → (i = items.length → P.nx Γ') ∧ ∀ d, items[i]? = some d → dg d Γ' fun Γ2 => dt Γ2 { P with nx := I (i + 1), ct := I (i + 1), bk := P.nx }
instance snds_for {wi : TI} {g : TG} {gv : List Nat} {di : DA} {dg : D → List En → (List En → Prop) → Prop} [si : SndI K E ψ wi di] [sg : SndG K g gv dg] [sb : SndS K E ψ t dt] : SndS K E ψ (tFor wi g t) (dFor di dg dt) := ⟨fun {c F H σ Γ P D} I eo h m => by
  refine si.run I eo h fun F1 H1 J items Γ1 I1 s1 it h1 => ?_
  obtain ⟨IV, iv0, step⟩ := h1
  refine ⟨fun i m σ' H' => m = items.length - i ∧ i ≤ items.length ∧ ∃ F' Γ', Same F1 F' ∧ Is c F' H' σ' Γ' ∧ IV i Γ', ⟨_, rfl, Nat.zero_le _, F1, Γ1, Same.refl _, I1, iv0⟩, ?_⟩
  rintro i m' σ' H' ⟨rfl, hi, F', Γ', sF, I', iv⟩
  obtain ⟨st1, st2⟩ := step i Γ' iv
  by_cases hlt : i < items.length
  · obtain ⟨d, hd⟩ : ∃ d, items[i]? = some d := ⟨_, List.getElem?_eq_getElem hlt⟩
    obtain ⟨go, yl⟩ := (it _ F' H' σ' Γ' i I' sF).2 d hd
    refine .inr ⟨go, fun σ2 H2 => ∃ F2 Γ2, Same F1 F2 ∧ Is c F2 H2 σ2 Γ2 ∧ IV (i + 1) Γ2, fun σ2 H2 n2 => ⟨items.length - (i + 1), by omega, rfl, hlt, n2⟩, fun x H2 y => ?_⟩
    obtain ⟨F2, I2, sF2, rp⟩ := yl x H2 y
    refine sg.run I2 rp (st2 d hd) fun σ3 Γ3 I3 _ h3 => ?_
    exact sb.run (P := { P with nx := IV (i + 1), ct := IV (i + 1), bk := P.nx }) (c := ⟨F2, c.H0, c.pn, c.sc, c.hs⟩) ⟨Same.refl _, I3.fh, fun a o e => .inl e, I3.h0, I3.pp, I3.len, I3.at_, I3.dis, I3.fn, I3.tb, I3.hn⟩ eo h3
      ⟨fun Fa Ha σa Γa Ia ha => ⟨Fa, Γa, sF.trans (sF2.trans Ia.f0), ⟨I2.f0.trans Ia.f0, Ia.fh, fun a o e => (Ia.nw a o e).elim (fun z => I2.nw a o z) .inr, Ia.h0, Ia.pp, Ia.len, Ia.at_, Ia.dis, Ia.fn, Ia.tb, Ia.hn⟩, ha⟩,
       fun Fa Ha σa Γa v e Ia hh n ha => m.rt Fa Ha σa Γa v e ⟨I2.f0.trans Ia.f0, Ia.fh, fun a o e => (Ia.nw a o e).elim (fun z => I2.nw a o z) .inr, Ia.h0, Ia.pp, Ia.len, Ia.at_, Ia.dis, Ia.fn, Ia.tb, Ia.hn⟩ hh n ha,
       fun Fa Ha σa Γa Ia ha => m.nx Fa Ha σa Γa ⟨I2.f0.trans Ia.f0, Ia.fh, fun a o e => (Ia.nw a o e).elim (fun z => I2.nw a o z) .inr, Ia.h0, Ia.pp, Ia.len, Ia.at_, Ia.dis, Ia.fn, Ia.tb, Ia.hn⟩ ha,
       fun Fa Ha σa Γa Ia ha => ⟨Fa, Γa, sF.trans (sF2.trans Ia.f0), ⟨I2.f0.trans Ia.f0, Ia.fh, fun a o e => (Ia.nw a o e).elim (fun z => I2.nw a o z) .inr, Ia.h0, Ia.pp, Ia.len, Ia.at_, Ia.dis, Ia.fn, Ia.tb, Ia.hn⟩, ha⟩⟩
  · have e : i = items.length := by omega
    exact .inl ⟨(it _ F' H' σ' Γ' i I' sF).1 e, m.nx _ _ _ _ I' (st1 e)⟩⟩
def dWhile (dtt : DB) (dt : DSt) : DSt := fun Γ P => ∃ I : Nat → List En → Prop, (∃ m, I m Γ) ∧ ∀ m Γ', I m Γ' → dtt Γ' fun b Γ2 => if b = true then dt Γ2 { P with nx := fun Γ3 => ∃ m', m' < m ∧ I m' Γ3, ct := fun Γ3 => ∃ m', m' < m ∧ I m' Γ3, bk := P.nx } else P.nx Γ2
instance snds_while [s : SndT K E ψ tt dtt] [sb : SndS K E ψ t dt] : SndS K E ψ (tWhile tt t) (dWhile dtt dt) := ⟨fun {c F H σ Γ P D} I eo h m => by
  obtain ⟨IV, ⟨m0, iv0⟩, step⟩ := h
  refine ⟨fun n σ' H' => ∃ F' Γ', Is c F' H' σ' Γ' ∧ IV n Γ', ⟨m0, F, Γ, I, iv0⟩, ?_⟩
  rintro n σ' H' ⟨F', Γ', I', iv⟩
  refine s.run I' eo (step n Γ' iv) fun F2 H2 b Γ2 I2 s2 h2 => ?_
  cases b with
  | true =>
    refine iteT ⟨fun σ3 H3 => ∃ m', m' < n ∧ ∃ F3 Γ3, Is c F3 H3 σ3 Γ3 ∧ IV m' Γ3, fun σ3 H3 ⟨m', l, F3, Γ3, I3, iv3⟩ => ⟨m', l, F3, Γ3, I3, iv3⟩, ?_⟩
    exact sb.run (P := { P with nx := fun Γ3 => ∃ m', m' < n ∧ IV m' Γ3, ct := fun Γ3 => ∃ m', m' < n ∧ IV m' Γ3, bk := P.nx }) I2 eo h2
      ⟨fun Fa Ha σa Γa Ia ⟨m', l, iv⟩ => ⟨m', l, Fa, Γa, Ia, iv⟩, m.rt, m.nx, fun Fa Ha σa Γa Ia ⟨m', l, iv⟩ => ⟨m', l, Fa, Γa, Ia, iv⟩⟩
  | false => exact iteF (m.nx _ _ _ _ I2 h2)⟩
/-! ### a def's body -/
def st0 (N : List Str) (ds : List D) : List En := ds.map En.d ++ List.replicate (N.length - ds.length) .no
theorem enter {N : List Str} {F H : Hp} {vs : List V} {ds : List D} (fh : Same F H) (fn : FN F) (tb : TbOk K H) (r : Reps F vs ds) : Is (c0 K F H) F H (L2.start N vs) (st0 N ds) := by
  refine ⟨Same.refl F, fh, fun a o e => .inl e, fun a o _ e => (ntH_some e).1, (fun p e => nomatch e), ?_, fun i e g n => ?_, fun i j a e e' ij g g' o o' s s' => ?_, fn, tb, fun a o e => (ntH_some e).2⟩
  · unfold L2.start st0
    rw [List.length_append, List.length_append, List.length_map, List.length_map, List.length_replicate, List.length_replicate, r.length]
  · unfold st0 at g
    rw [List.getElem?_append] at g
    split at g
    · rename_i hi
      rw [List.length_map] at hi
      rw [List.getElem?_map, List.getElem?_eq_getElem hi] at g
      cases g
      obtain ⟨v, hv, rp⟩ := r.get (List.getElem?_eq_getElem hi)
      refine ⟨v, ?_, rp⟩
      unfold L2.start
      rw [List.getElem?_append_left (by rw [List.length_map, r.length]; exact hi), List.getElem?_map, hv]
      rfl
    · rename_i hi
      exact absurd (List.mem_replicate.mp (List.mem_of_getElem? g)).2 n
  · unfold st0 at g
    rw [List.getElem?_append] at g
    split at g
    · rename_i hi
      rw [List.length_map] at hi
      rw [List.getElem?_map, List.getElem?_eq_getElem hi] at g
      cases g
      cases o
    · have := (List.mem_replicate.mp (List.mem_of_getElem? g)).2
      subst this
      cases o
def po (φ : En → Prop) : Po := ⟨fun _ => φ (.d .non), φ, fun _ => False, fun _ => False⟩
/-- a def that lets no error out -/
theorem body0 {N : List Str} {vs : List V} {H : Hp} {Q : VK} {E' : XK} {den : List D → (En → Prop) → (Value → Prop) → Prop} [s : SndS K E0 (fun _ => False) t dt] (h : spX K den vs H Q E') (hd : ∀ ds φ ψ, den ds φ ψ → dt (st0 N ds) (po φ)) :
    t { nx := fun _ H' => Q .non H', rt := Q } (L2.start N vs) H := by
  obtain ⟨F, ds, φ, ψ', fh, fn, tb, r, h1, q, _⟩ := h
  refine s.run (enter fh fn tb r) (fun _ _ _ _ _ z => z) (hd ds φ ψ' h1) ⟨fun F' H' σ' Γ' I p => ?_, fun F' H' σ' Γ' v e I hh n p => ?_, fun _ _ _ _ _ z => z.elim, fun _ _ _ _ _ z => z.elim⟩
  · exact q F' H' .non (.d .non) I.f0 (fun a o n e => I.h0 a o (fun z => nomatch z) (ntH_of e n)) I.tb I.fh I.fn I.nw (.non : Rep F' .non .non) (fun z => nomatch z) p
  · exact q F' H' v e I.f0 (fun a o n e => I.h0 a o (fun z => nomatch z) (ntH_of e n)) I.tb I.fh I.fn I.nw hh n p
/-- a def that may raise -/
theorem bodyX {N : List Str} {vs : List V} {H : Hp} {Q : VK} {E' : XK} {den : List D → (En → Prop) → (Value → Prop) → Prop} {dts : (Value → Prop) → DSt} [s : ∀ ψ, SndS K E' ψ t (dts ψ)] (h : spX K den vs H Q E') (hd : ∀ ds φ ψ, den ds φ ψ → dts ψ (st0 N ds) (po φ)) :
    t { nx := fun _ H' => Q .non H', rt := Q } (L2.start N vs) H := by
  obtain ⟨F, ds, φ, ψ', fh, fn, tb, r, h1, q, qx⟩ := h
  refine (s ψ').run (enter fh fn tb r) (fun C H' h2 _ t2 z => qx C H' (fun a o n e => h2 a o (fun w => nomatch w) (ntH_of e n)) t2 z) (hd ds φ ψ' h1) ⟨fun F' H' σ' Γ' I p => ?_, fun F' H' σ' Γ' v e I hh n p => ?_, fun _ _ _ _ _ z => z.elim, fun _ _ _ _ _ z => z.elim⟩
  · exact q F' H' .non (.d .non) I.f0 (fun a o n e => I.h0 a o (fun z => nomatch z) (ntH_of e n)) I.tb I.fh I.fn I.nw (.non : Rep F' .non .non) (fun z => nomatch z) p
  · exact q F' H' v e I.f0 (fun a o n e => I.h0 a o (fun z => nomatch z) (ntH_of e n)) I.tb I.fh I.fn I.nw hh n p
/-- a def with a pen ahead -/
def stP (N : List Str) (ds : List D) : List En := .pen :: (ds.map En.d ++ List.replicate (N.length - (ds.length + 1)) .no)
theorem enterP {N : List Str} {F H : Hp} {p : Addr} {us : List V} {ds : List D} (fh : Same F H) (fn : FN F) (tb : TbOk K H) (fp : F p = none) (pen : PenAt H p) (r : Reps F us ds) : Is (cP K F H p) F H (L2.start N (.ref p :: us)) (stP N ds) := by
  have e1 : L2.start N (.ref p :: us) = some (.ref p) :: (us.map some ++ List.replicate (N.length - (us.length + 1)) none) := by unfold L2.start; rw [List.map_cons, List.length_cons]; rfl
  rw [e1]
  have low : ∀ (j : Nat) (e : En), (ds.map En.d ++ List.replicate (N.length - (ds.length + 1)) .no)[j]? = some e → e ≠ .no → ∃ x, e = .d x ∧ ds[j]? = some x := fun j e g n => by
    rw [List.getElem?_append] at g
    split at g
    · rename_i hi
      rw [List.length_map] at hi
      rw [List.getElem?_map, List.getElem?_eq_getElem hi] at g
      cases g
      exact ⟨_, rfl, List.getElem?_eq_getElem hi⟩
    · exact absurd (List.mem_replicate.mp (List.mem_of_getElem? g)).2 n
  have own0 : ∀ (j : Nat) (e : En), (stP N ds)[j]? = some e → e.own = true → j = 0 := fun j e g o => by
    cases j with
    | zero => rfl
    | succ j =>
      obtain ⟨x, rfl, _⟩ := low j e (by simpa [stP] using g) (fun z => by rw [z] at o; cases o)
      cases o
  refine ⟨Same.refl F, fh, fun a o e => .inl e, fun a o _ e => (ntH_some e).1, fun q e => ?_, ?_, fun i e g n => ?_, fun i j a e e' ij g g' o o' s s' => ij ((own0 i e g o).trans (own0 j e' g' o').symm), fn, tb, fun a o e => (ntH_some e).2⟩
  · cases e
    obtain ⟨u, h1, h2⟩ := pen.pl
    exact ⟨fp, pen, fun z => by rw [show (cP K F H p).H0 p = ntH H p from rfl, ntH_of h1 h2.1] at z; cases z⟩
  · unfold stP
    rw [List.length_cons, List.length_cons, List.length_append, List.length_append, List.length_map, List.length_map, List.length_replicate, List.length_replicate, r.length]
  · cases i with
    | zero =>
      cases g
      exact ⟨_, rfl, p, rfl, fp, .inr rfl, pen⟩
    | succ i =>
      obtain ⟨x, rfl, hx⟩ := low i e (by simpa [stP] using g) n
      obtain ⟨v, hv, rp⟩ := r.get hx
      refine ⟨v, ?_, rp⟩
      rw [List.getElem?_cons_succ, List.getElem?_append_left (by rw [List.length_map]; exact (List.getElem?_eq_some_iff.mp hv).1), List.getElem?_map, hv]
      rfl
def poP (φ : En → Prop) : Po := ⟨fun _ => φ (.d .non), fun e => e ≠ .pen ∧ φ e, fun _ => False, fun _ => False⟩
theorem bodyP {N : List Str} {vs : List V} {H : Hp} {Q : VK} {E' : XK} {den : List D → (En → Prop) → Prop} [s : SndS K E0 (fun _ => False) t dt] (h : spP K den vs H Q E') (hd : ∀ ds φ, den ds φ → dt (stP N ds) (poP φ)) :
    t { nx := fun _ H' => Q .non H', rt := Q } (L2.start N vs) H := by
  obtain ⟨p, us, F, ds, φ, rfl, fp, pen, fh, fn, tb, r, h1, q⟩ := h
  have kk : ∀ {F' H' : Hp} {σ' : L2.St} {Γ' : List En}, Is (cP K F H p) F' H' σ' Γ' → ∀ a o, a ≠ p → NT o → H a = some o → H' a = some o := fun I a o n nt e => I.h0 a o (fun z => n (by cases z; rfl)) (ntH_of e nt)
  refine s.run (enterP fh fn tb fp pen r) (fun _ _ _ _ _ z => z) (hd ds φ h1) ⟨fun F' H' σ' Γ' I z => ?_, fun F' H' σ' Γ' v e I hh n z => ?_, fun _ _ _ _ _ z => z.elim, fun _ _ _ _ _ z => z.elim⟩
  · exact q F' H' .non (.d .non) I.f0 (kk I) I.tb (I.pp p rfl).2.1 I.fh I.fn I.nw (.non : Rep F' .non .non) (fun z => nomatch z) (fun z => nomatch z) z
  · exact q F' H' v e I.f0 (kk I) I.tb (I.pp p rfl).2.1 I.fh I.fn I.nw hh n z.1 z.2
end
end Da

set_option Elab.async false
set_option maxRecDepth 100000
set_option maxHeartbeats 4000000
set_option linter.all false
namespace Da
open PySem PySem.Spec PyProof.Rows L2 RZ HmS
/-! ### the script and the pen -/
def spS (K : PySem.W.Frag) [HasT K] (den : List D → (En → Prop) → Prop) : Sp := fun vs H Q _ => ∃ (a : Addr) (ns : List Int) (us : List V) (ds : List D) (φ : En → Prop), vs = .ref a :: us ∧ SqL K H a (ns.map V.int) ∧ us = ds.map (fun x => match x with | .int i => V.int i | _ => .non) ∧ ds.all (fun x => match x with | .int _ => true | _ => false) = true ∧ den ds φ ∧
  ∀ z : Int, φ (.d (.int z)) → Q (.int z) H
def dCallS (i : Nat) (den : List D → (En → Prop) → Prop) (dal : DA) : DT := fun Γ φ => (∃ ns, Γ[i]? = some (.scr ns)) ∧ dal Γ fun xs Γ1 => (∃ ns, Γ1[i]? = some (.scr ns)) ∧ xs.all (fun x => match x with | .int _ => true | _ => false) = true ∧ den xs fun e => φ e Γ1
/-- a new pen -/
def spPen0 : Sp := fun vs H Q _ => ∃ z : Int, vs = [.int z] ∧ ∀ p H', H p = none → PenAt H' p → (∀ b, b ≠ p → H' b = H b) → Q (.ref p) H'
section
variable {K : PySem.W.Frag} [HasT K] {E : XK} {ψ : Value → Prop} {te ta tb tx : TE} {da db dx : DT} {tt tu : TT} {dtt dtu : DB} {al : TA} {dal : DA} {t u : TS} {dt du : DSt}
theorem ints_of {F : Hp} : ∀ {vs : List V} {xs : List D}, Reps F vs xs → xs.all (fun x => match x with | .int _ => true | _ => false) = true → vs = xs.map (fun x => match x with | .int i => V.int i | _ => .non)
  | _, _, .nil, _ => rfl
  | _, _, .cons (d := d) a b, h => by
    rw [List.all_cons, Bool.and_eq_true] at h
    rw [List.map_cons, ← ints_of b h.2]
    cases a <;> first | rfl | exact absurd h.1 Bool.false_ne_true
instance snd_callS {i : Nat} {den : List D → (En → Prop) → Prop} {E' : XK} [sl : SndA K E ψ al dal] : Snd K E ψ (tCall (spS K den) [] E' (tCons (tVar i) al)) (dCallS i den dal) := ⟨fun {c F H σ Γ φ Q} I eo h q => by
  obtain ⟨⟨ns, g⟩, h⟩ := h
  obtain ⟨a, hv, _⟩ := I.script g
  refine ⟨_, hv, ?_⟩
  refine sl.run I eo h fun F1 H1 vs xs Γ1 I1 s1 r1 h1 => ?_
  obtain ⟨⟨ns1, g1⟩, hi, h1⟩ := h1
  obtain ⟨a', hv', hs⟩ := I1.script g1
  rw [hv] at hv'
  cases hv'
  refine ⟨a, ns1, vs ++ [], xs, fun e => φ e Γ1, rfl, hs, ?_, hi, h1, fun z hz => q F1 H1 _ _ Γ1 I1 s1 (Res.d (.int z)) hz⟩
  rw [List.append_nil]
  exact ints_of r1 hi⟩
def dPen0 (dal : DA) : DT := fun Γ φ => dal Γ fun xs Γ1 => ∃ z : Int, xs = [.int z] ∧ φ .pen Γ1
instance snd_pen0 {E' : XK} [sl : SndA K E ψ al dal] : Snd K E ψ (tCall spPen0 [] E' al) (dPen0 dal) := ⟨fun {c F H σ Γ φ Q} I eo h q => by
  refine sl.run I eo h fun F1 H1 vs xs Γ1 I1 s1 r1 h1 => ?_
  obtain ⟨z, rfl, h1⟩ := h1
  obtain ⟨x, rfl, rp⟩ := one_of r1
  cases rp
  refine ⟨z, rfl, fun p H' hp pen bt => ?_⟩
  have sh : Same H1 H' := fun b o e => by rw [bt b (ne_of_none e hp)]; exact e
  have I2 : Is c F1 H' σ Γ1 := I1.grow (Same.refl F1) sh (I1.fh.trans sh) I1.fn fun a o e => .inl e
  exact q F1 H' (.ref p) .pen Γ1 I2 s1 ⟨⟨p, rfl, I1.unF hp, .inl (I1.un hp), pen⟩, (fun z => nomatch z), fun _ a e => by cases e; exact I1.fresh hp⟩ h1⟩
/-! ### truth -/
theorem pt_tru {X : Cx} {a : Expr} {ta : TE} (ha : PE X a ta) (he : ∀ whole, isTrue a X.env whole = (do let v ← whole; standAt a.pos; holding [v] (truthy v)) := by intro _; rfl) {K : PySem.W.Frag} (hK : X.K = K := by rfl) : PT X a (tTru K ta) := by
  subst hK
  exact pt_truth ha he
def truD : D → Option Bool
  | .non => some false
  | .int i => some (i != 0)
  | .tup xs => some (!xs.isEmpty)
  | .lst xs => some (!xs.isEmpty)
  | _ => none
/-- truth of a name -/
def dTruv (i : Nat) : DB := fun Γ φ => match Γ[i]? with
  | some (.d x) => ∃ b, truD x = some b ∧ φ b Γ
  | some (.lst xs) => φ (!xs.isEmpty) Γ
  | _ => False
theorem reps_empty {F : Hp} {vs : List V} {ds : List D} (r : Reps F vs ds) : vs.isEmpty = ds.isEmpty := by
  cases r <;> rfl
instance snd_truv (i : Nat) : SndT K E ψ (tTru K (tVar i)) (dTruv i) := ⟨fun {c F H σ Γ φ Q} I eo h q => by
  unfold dTruv at h
  cases g : Γ[i]? with
  | none => rw [g] at h; exact h.elim
  | some e =>
    rw [g] at h
    cases e with
    | d x =>
      obtain ⟨v, hv, rp⟩ := I.at_ i _ g (fun z => nomatch z)
      have rp : Rep F v x := rp
      obtain ⟨b, hb, h⟩ := h
      refine ⟨v, hv, b, ?_, q F H b Γ I (Same.refl F) h⟩
      cases rp with
      | non => cases hb; rfl
      | int j => cases hb; rfl
      | tup e r => cases hb; exact .inr (.inl ⟨_, SqT.of (I.fh _ _ e), by rw [reps_empty r]⟩)
      | lst e r => cases hb; exact .inl ⟨_, SqL.of (I.fh _ _ e), by rw [reps_empty r]⟩
      | _ => cases hb
    | lst xs =>
      obtain ⟨v, hv, a, vs, rfl, _, _, hl, rs⟩ := I.at_ i _ g (fun z => nomatch z)
      exact ⟨_, hv, _, .inl ⟨vs, SqL.of hl, by rw [reps_empty rs]⟩, q F H _ Γ I (Same.refl F) h⟩
    | _ => exact h.elim⟩
/-! ### ranges as lists -/
class SndRg (K : PySem.W.Frag) [HasT K] (E : XK) (ψ : Value → Prop) (te : L2.St → Hp → (Int → Int → Hp → Prop) → Prop) (den : outParam (List En → (Int → Int → List En → Prop) → Prop)) : Prop where
  run : ∀ {c : Ct K} {F H : Hp} {σ : L2.St} {Γ : List En} {φ : Int → Int → List En → Prop} {Q : Int → Int → Hp → Prop}, Is c F H σ Γ → EOk c E ψ → den Γ φ → (∀ F' H' a b Γ', Is c F' H' σ Γ' → Same F F' → φ a b Γ' → Q a b H') → te σ H Q
def dRg1 (da : DT) : List En → (Int → Int → List En → Prop) → Prop := fun Γ φ => da Γ fun e Γ1 => wi e fun n => φ 0 n Γ1
def dRg2 (da db : DT) : List En → (Int → Int → List En → Prop) → Prop := fun Γ φ => da Γ fun e Γ1 => wi e fun m => db Γ1 fun e' Γ2 => wi e' fun n => φ m n Γ2
instance snd_rg1 [a : Snd K E ψ ta da] : SndRg K E ψ (tRg1 ta) (dRg1 da) := ⟨fun {c F H σ Γ φ Q} I eo h q => a.run I eo h fun F1 H1 v e Γ1 I1 s1 r1 h1 => by
  obtain ⟨n, rfl, h1⟩ := wi_of h1
  cases (show Rep F1 v (.int n) from r1.1)
  exact ⟨n, rfl, q F1 H1 0 n Γ1 I1 s1 h1⟩⟩
instance snd_rg2 [a : Snd K E ψ ta da] [b : Snd K E ψ tb db] : SndRg K E ψ (tRg2 ta tb) (dRg2 da db) := ⟨fun {c F H σ Γ φ Q} I eo h q => a.run I eo h fun F1 H1 v e Γ1 I1 s1 r1 h1 => by
  obtain ⟨m, rfl, h1⟩ := wi_of h1
  cases (show Rep F1 v (.int m) from r1.1)
  refine b.run I1 eo h1 fun F2 H2 u e Γ2 I2 s2 r2 h2 => ?_
  obtain ⟨n, rfl, h2⟩ := wi_of h2
  cases (show Rep F2 u (.int n) from r2.1)
  exact ⟨m, n, rfl, rfl, q F2 H2 m n Γ2 I2 (s1.trans s2) h2⟩⟩
theorem reps_rg {F : Hp} (a b : Int) : Reps F (rgV a b) (upI a (b - a).toNat) := by
  unfold rgV upI
  generalize List.range (b - a).toNat = l
  induction l with
  | nil => exact .nil
  | cons x r ih => exact .cons (.int _) ih
def dLstRg (dr : List En → (Int → Int → List En → Prop) → Prop) : DT := fun Γ φ => dr Γ fun a b Γ1 => -100000 ≤ a ∧ a ≤ 100000 ∧ -100000 ≤ b ∧ b ≤ 100000 ∧ φ (.lst (upI a (b - a).toNat)) Γ1
def dTupRg (dr : List En → (Int → Int → List En → Prop) → Prop) : DT := fun Γ φ => dr Γ fun a b Γ1 => -100000 ≤ a ∧ a ≤ 100000 ∧ -100000 ≤ b ∧ b ≤ 100000 ∧ φ (.d (.tup (upI a (b - a).toNat))) Γ1
instance snd_lstRg {tr : L2.St → Hp → (Int → Int → Hp → Prop) → Prop} {dr : List En → (Int → Int → List En → Prop) → Prop} [a : SndRg K E ψ tr dr] : Snd K E ψ (tLstRg tr) (dLstRg dr) := ⟨fun {c F H σ Γ φ Q} I eo h q => a.run I eo h fun F1 H1 m n Γ1 I1 s1 h1 => by
  obtain ⟨a0, a1, b0, b1, h1⟩ := h1
  refine ⟨⟨by omega, by omega, by omega, by omega, by omega⟩, fun p hp => ?_⟩
  obtain ⟨I2, r2⟩ := I1.newL hp (reps_rg m n)
  exact q _ _ _ _ _ I2 s1 r2 h1⟩
instance snd_tupRg {tr : L2.St → Hp → (Int → Int → Hp → Prop) → Prop} {dr : List En → (Int → Int → List En → Prop) → Prop} [a : SndRg K E ψ tr dr] : Snd K E ψ (tTupRg tr) (dTupRg dr) := ⟨fun {c F H σ Γ φ Q} I eo h q => a.run I eo h fun F1 H1 m n Γ1 I1 s1 h1 => by
  obtain ⟨a0, a1, b0, b1, h1⟩ := h1
  refine ⟨⟨by omega, by omega, by omega, by omega, by omega⟩, fun p hp => ?_⟩
  obtain ⟨I2, s2, _⟩ := I1.new (o := .tup (rgV m n)) hp
  exact q _ _ _ _ _ I2 (s1.trans s2) (Res.d (.tup upd_same (reps_rg m n))) h1⟩
/-- len(set(xs)), xs ints of which no two are alike -/
def dLenSet (da : DT) : DT := fun Γ φ => da Γ fun e Γ1 => wl e fun xs => ∃ is : List Int, xs = is.map D.int ∧ is.Nodup ∧ is.length ≤ 4000 ∧ φ (.d (.int is.length)) Γ1
instance snd_lenSet [a : Snd K E ψ ta da] : Snd K E ψ (RZ.tLenSetI K ta) (dLenSet da) := ⟨fun {c F H σ Γ φ Q} I eo h q => a.run I eo h fun F1 H1 v e Γ1 I1 s1 r1 h1 => by
  obtain ⟨F2, p, vs, xs, rfl, I2, s2, ep, rs, is, rfl, nd, hl, h2⟩ := r1.frzL I1 h1
  rw [rs.of_ints] at ep
  exact ⟨p, is, rfl, SqL.of (I2.fh _ _ ep), nd, hl, q F2 H1 _ _ Γ1 I2 (s1.trans s2) (Res.d (.int _)) h2⟩⟩
/-! ### min, max of data -/
def rMinD (K : PySem.W.Frag) : List V → Hp → VK → Prop := fun vs H Q => ∃ (a : Addr) (xs : List V) (x : PyData) (ds : List PyData), vs = [.ref a] ∧ SqL K H a xs ∧ DpAll K H xs (x :: ds) ∧ PySem.W.AlikeAll (x :: ds) ∧ PyData.depthAll (x :: ds) ≤ 60 ∧
  ∀ (i : Nat) v, xs[i]? = some v → (x :: ds)[i]? = some (PySem.W.minD x ds) → Q v H
theorem dpAll_get {K : PySem.W.Frag} {H : Hp} : ∀ {vs : List V} {ds : List PyData} {i : Nat} {v : V}, DpAll K H vs ds → vs[i]? = some v → ∃ d, ds[i]? = some d ∧ Dp K H v d
  | _, _, i, v, .nil, h => by simp at h
  | _, _, 0, v, .cons a _, h => by
    cases h
    exact ⟨_, rfl, a⟩
  | _, _, i + 1, v, .cons _ b, h => by
    obtain ⟨d, e, r⟩ := dpAll_get (i := i) b (by simpa using h)
    exact ⟨d, by simpa using e, r⟩
theorem vals_get {vs : List V} {us : List Value} (r : Vals vs us) {i : Nat} {u : Value} (h : us[i]? = some u) : ∃ v, vs[i]? = some v ∧ RelV v u := by
  induction r generalizing i with
  | nil => simp at h
  | cons a b ih =>
    cases i with
    | zero => cases h; exact ⟨_, rfl, a⟩
    | succ i =>
      obtain ⟨v, e, rv⟩ := ih (i := i) (by simpa using h)
      exact ⟨v, by simpa using e, rv⟩
theorem cr_minD {X : Cx} (hc : X.calm = true) (hu : X.A.units + 64 < cLine) : CallR X (.builtin "min") (rMinD X.K) := by
  intro pins s σ H xs us Q I r h
  obtain ⟨a, vs, x, ds, rfl, hs, hd, al, dp, q⟩ := h
  obtain ⟨u, rfl, rx⟩ := vals1 r
  cases rx
  obtain ⟨its, rv, pl, _⟩ := I.list hs
  obtain ⟨as, rd⟩ := Dp.readsAll I (x :: ds) vs its hd rv
  refine PySem.W.min_list_data (vs := its.toArray) (I.ok.hd hc) pl.isList (by simpa using rd) al (by omega) fun i v h' tk bs hv hr hk => ?_
  have hv : its[i]? = some v := by simpa using hv
  obtain ⟨w, hw, rw1⟩ := vals_get rv hv
  obtain ⟨d, hd1, dp1⟩ := dpAll_get hd hw
  obtain ⟨as2, rd2⟩ := Dp.reads I d w v dp1 rw1
  have e := (PyProof.Rows.reads_det (fun b o e _ => hk b o e) rd2 hr).1
  exact ⟨w, H, I.kept hk, rw1, q i w hw (by rw [e]; exact hd1)⟩
def dMinR (xs : List D) (φ : En → Prop) : Prop := match xs with
  | [.lst (x :: ds)] => flats (x :: ds) = true ∧ PySem.W.AlikeAll (pys (x :: ds)) ∧ PyData.depthAll (pys (x :: ds)) ≤ 60 ∧ ∀ z ∈ x :: ds, z.py = PySem.W.minD x.py (pys ds) → φ (.d z)
  | _ => False
theorem pys_get : ∀ {ds : List D} {i : Nat} {d : PyData}, (pys ds)[i]? = some d → ∃ x, ds[i]? = some x ∧ x.py = d
  | [], i, d, h => by simp [pys] at h
  | x :: r, 0, d, h => by
    simp only [pys] at h
    cases h
    exact ⟨x, rfl, rfl⟩
  | x :: r, i + 1, d, h => by
    simp only [pys] at h
    obtain ⟨y, e, f⟩ := pys_get (ds := r) (i := i) (by simpa using h)
    exact ⟨y, by simpa using e, f⟩
instance snd_minD : SndC K (rMinD K) dMinR := ⟨fun {c F H σ Γ xs ds φ Q} I r h q => by
  match ds, r, h with
  | [.lst (x :: es)], r, h =>
    obtain ⟨h1, h2, h3, h4⟩ := h
    obtain ⟨v, rfl, rp⟩ := one_of r
    cases rp with
    | @lst a vs _ e rs =>
      refine ⟨a, vs, x.py, pys es, rfl, SqL.of (I.fh _ _ e), by simpa only [pys] using rs.dp I.fh h1, by simpa only [pys] using h2, by simpa only [pys] using h3, fun i v hv hm => ?_⟩
      obtain ⟨y, hy, rpy⟩ := rs.getV hv
      obtain ⟨z, hz, ez⟩ := pys_get (ds := x :: es) (i := i) (by simpa only [pys] using hm)
      rw [hy] at hz
      cases hz
      exact q F H v _ I (Same.refl F) (Res.d rpy) (h4 y (List.mem_of_getElem? hy) ez)⟩
/-! ### tuple of a dict's keys -/
end
end Da

set_option Elab.async false
set_option maxRecDepth 100000
set_option maxHeartbeats 4000000
set_option linter.all false
namespace Da
open PySem PySem.Spec PyProof.Rows L2 RZ HmS
theorem hu65_of {k : Nat} {A : Around} (hr : Room k A) : A.units + 65 < cLine := by have := hr.un; omega
theorem ifT {A B : Prop} {b : Bool} (e : b = true) (h : A) : if b = true then A else B := by rw [if_pos e]; exact h
theorem ifF {A B : Prop} {b : Bool} (e : b = false) (h : B) : if b = true then A else B := by rw [e, if_neg Bool.false_ne_true]; exact h
theorem ifB {A B : Prop} {b : Bool} (h1 : b = true → A) (h2 : b = false → B) : if b = true then A else B := by
  cases b with
  | true => rw [if_pos rfl]; exact h1 rfl
  | false => rw [if_neg Bool.false_ne_true]; exact h2 rfl
section
variable {X : Cx} {K : PySem.W.Frag} {tg l e e2 : Expr} {tl : TE} {ta : TA} {p pos tpos : Pos} {elts : List Expr} {kk : Nat}
theorem pi_tupK (hl : PE X l tl) (hK : X.K = K := by rfl) : PI X tg l (iTup K tl) := hK ▸ pi_tup hl
theorem pi_listK (hl : PE X l tl) (hK : X.K = K := by rfl) : PI X tg l (iList K tl) := hK ▸ pi_list hl
theorem pi_enumTK (hg : Gl X "enumerate") (hm : X.mg "enumerate" = none) (ha : PA X [e] ta) (hs : starEach [e] X.env = [(false, eval e X.env)] := by rfl) (hK : X.K = K := by rfl) : PI X (.Tuple elts kk tpos) (.Call (.Name "enumerate" p) [e] [] pos) (iEnumT K ta) := hK ▸ pi_enumT hg hm ha hs
theorem pi_enumK (hg : Gl X "enumerate") (hm : X.mg "enumerate" = none) (ha : PA X [e] ta) (hs : starEach [e] X.env = [(false, eval e X.env)] := by rfl) (hK : X.K = K := by rfl) : PI X (.Tuple elts kk tpos) (.Call (.Name "enumerate" p) [e] [] pos) (iEnum K ta) := hK ▸ pi_enum hg hm ha hs
theorem pi_zipAK (hg : Gl X "zip") (hm : X.mg "zip" = none) (ha : PA X [e, e2] ta) (hs : starEach [e, e2] X.env = (false, eval e X.env) :: starEach [e2] X.env := by rfl) (hpl : (backTo pos (starEach [e2] X.env)).any (·.1) = false := by rfl) (hK : X.K = K := by rfl) :
    PI X (.Tuple elts kk tpos) (.Call (.Name "zip" p) [e, e2] [] pos) (iZipA K ta) := hK ▸ pi_zipA hg hm ha hs hpl
theorem pg_tupK {es : List Expr} {k n : Nat} {t : TGs} (hc : X.calm = true) (h : PGs X es t) (hn : (assignEach es X.env).length = n := by rfl) (hst : (assignEach es X.env).findIdx? (·.1) = none := by rfl) (hK : X.K = K := by rfl) : PG X (.Tuple es k pos) (gTup K n t) := hK ▸ pg_tup hc h hn hst
theorem pe_lenSetIK {a : Expr} {ta : TE} {p2 q : Pos} (hg : Gl X "len") (hm : X.mg "len" = none) (hg2 : Gl X "set") (hm2 : X.mg "set" = none) (ha : PE X a ta) (hc : X.calm = true := by rfl)
    (na : starEach [a] X.env = (false, eval a X.env) :: starEach [] X.env := by rfl) (hK : X.K = K := by rfl) : PE X (.Call (.Name "len" p) [.Call (.Name "set" p2) [a] [] q] [] pos) (RZ.tLenSetI K ta) := hK ▸ RZ.pe_lenSetI hg hm hg2 hm2 ha hc na
end
/-! ### promises by the number of arguments -/
abbrev DSp := List D → (En → Prop) → (Value → Prop) → Prop
def sp0 (k : (En → Prop) → Prop) : DSp := fun ds φ _ => match ds with | [] => k φ | _ => False
def sp1 (k : D → (En → Prop) → Prop) : DSp := fun ds φ _ => match ds with | [x] => k x φ | _ => False
def sp2 (k : D → D → (En → Prop) → Prop) : DSp := fun ds φ _ => match ds with | [x, y] => k x y φ | _ => False
def sp3 (k : D → D → D → (En → Prop) → Prop) : DSp := fun ds φ _ => match ds with | [x, y, z] => k x y z φ | _ => False
def sp4 (k : D → D → D → D → (En → Prop) → Prop) : DSp := fun ds φ _ => match ds with | [x, y, z, u] => k x y z u φ | _ => False
def sp5 (k : D → D → D → D → D → (En → Prop) → Prop) : DSp := fun ds φ _ => match ds with | [x, y, z, u, v] => k x y z u v φ | _ => False
def pp0 (k : (En → Prop) → Prop) : List D → (En → Prop) → Prop := fun ds φ => match ds with | [] => k φ | _ => False
def pp1 (k : D → (En → Prop) → Prop) : List D → (En → Prop) → Prop := fun ds φ => match ds with | [x] => k x φ | _ => False
def pp2 (k : D → D → (En → Prop) → Prop) : List D → (En → Prop) → Prop := fun ds φ => match ds with | [x, y] => k x y φ | _ => False
def pp3 (k : D → D → D → (En → Prop) → Prop) : List D → (En → Prop) → Prop := fun ds φ => match ds with | [x, y, z] => k x y z φ | _ => False
section
variable {K : PySem.W.Frag} [HasT K] {t : TS} {dt : DSt} {N : List Str} {vs : List V} {H : Hp} {Q : VK} {E' : XK}
theorem lenX {den : DSp} {n : Nat} (h : spX K den vs H Q E') (f : ∀ ds φ ψ, den ds φ ψ → ds.length = n) : vs.length = n := by
  obtain ⟨F, ds, φ, ψ, _, _, _, r, hd, _⟩ := h
  rw [r.length]
  exact f _ _ _ hd
theorem lenP {den : List D → (En → Prop) → Prop} {n : Nat} (h : spP K den vs H Q E') (f : ∀ ds φ, den ds φ → ds.length = n) : vs.length = n + 1 := by
  obtain ⟨p, us, F, ds, φ, rfl, _, _, _, _, _, r, hd, _⟩ := h
  rw [List.length_cons, r.length, f _ _ hd]
theorem len0 {k : (En → Prop) → Prop} (h : spX K (sp0 k) vs H Q E') : vs.length = 0 := lenX h fun ds _ _ e => by match ds, e with | [], _ => rfl
theorem len1 {k : D → (En → Prop) → Prop} (h : spX K (sp1 k) vs H Q E') : vs.length = 1 := lenX h fun ds _ _ e => by match ds, e with | [_], _ => rfl
theorem len2 {k : D → D → (En → Prop) → Prop} (h : spX K (sp2 k) vs H Q E') : vs.length = 2 := lenX h fun ds _ _ e => by match ds, e with | [_, _], _ => rfl
theorem len3 {k : D → D → D → (En → Prop) → Prop} (h : spX K (sp3 k) vs H Q E') : vs.length = 3 := lenX h fun ds _ _ e => by match ds, e with | [_, _, _], _ => rfl
theorem len4 {k : D → D → D → D → (En → Prop) → Prop} (h : spX K (sp4 k) vs H Q E') : vs.length = 4 := lenX h fun ds _ _ e => by match ds, e with | [_, _, _, _], _ => rfl
theorem len5 {k : D → D → D → D → D → (En → Prop) → Prop} (h : spX K (sp5 k) vs H Q E') : vs.length = 5 := lenX h fun ds _ _ e => by match ds, e with | [_, _, _, _, _], _ => rfl
theorem lep0 {k : (En → Prop) → Prop} (h : spP K (pp0 k) vs H Q E') : vs.length = 1 := lenP h fun ds _ e => by match ds, e with | [], _ => rfl
theorem lep1 {k : D → (En → Prop) → Prop} (h : spP K (pp1 k) vs H Q E') : vs.length = 2 := lenP h fun ds _ e => by match ds, e with | [_], _ => rfl
theorem lep2 {k : D → D → (En → Prop) → Prop} (h : spP K (pp2 k) vs H Q E') : vs.length = 3 := lenP h fun ds _ e => by match ds, e with | [_, _], _ => rfl
theorem lep3 {k : D → D → D → (En → Prop) → Prop} (h : spP K (pp3 k) vs H Q E') : vs.length = 4 := lenP h fun ds _ e => by match ds, e with | [_, _, _], _ => rfl
abbrev bodyGoal (Q : VK) : Ends := { nx := fun _ H' => Q .non H', rt := Q }
theorem body1 {k : D → (En → Prop) → Prop} [s : SndS K E0 (fun _ => False) t dt] (h : spX K (sp1 k) vs H Q E') (hd : ∀ x φ, k x φ → dt (st0 N [x]) (po φ)) : t (bodyGoal Q) (L2.start N vs) H :=
  body0 (s := s) h fun ds φ _ e => by match ds, e with | [x], e => exact hd x φ e
theorem body2 {k : D → D → (En → Prop) → Prop} [s : SndS K E0 (fun _ => False) t dt] (h : spX K (sp2 k) vs H Q E') (hd : ∀ x y φ, k x y φ → dt (st0 N [x, y]) (po φ)) : t (bodyGoal Q) (L2.start N vs) H :=
  body0 (s := s) h fun ds φ _ e => by match ds, e with | [x, y], e => exact hd x y φ e
theorem body3 {k : D → D → D → (En → Prop) → Prop} [s : SndS K E0 (fun _ => False) t dt] (h : spX K (sp3 k) vs H Q E') (hd : ∀ x y z φ, k x y z φ → dt (st0 N [x, y, z]) (po φ)) : t (bodyGoal Q) (L2.start N vs) H :=
  body0 (s := s) h fun ds φ _ e => by match ds, e with | [x, y, z], e => exact hd x y z φ e
theorem body4 {k : D → D → D → D → (En → Prop) → Prop} [s : SndS K E0 (fun _ => False) t dt] (h : spX K (sp4 k) vs H Q E') (hd : ∀ x y z u φ, k x y z u φ → dt (st0 N [x, y, z, u]) (po φ)) : t (bodyGoal Q) (L2.start N vs) H :=
  body0 (s := s) h fun ds φ _ e => by match ds, e with | [x, y, z, u], e => exact hd x y z u φ e
theorem body5 {k : D → D → D → D → D → (En → Prop) → Prop} [s : SndS K E0 (fun _ => False) t dt] (h : spX K (sp5 k) vs H Q E') (hd : ∀ x y z u v φ, k x y z u v φ → dt (st0 N [x, y, z, u, v]) (po φ)) : t (bodyGoal Q) (L2.start N vs) H :=
  body0 (s := s) h fun ds φ _ e => by match ds, e with | [x, y, z, u, v], e => exact hd x y z u v φ e
theorem bodp0 {k : (En → Prop) → Prop} [s : SndS K E0 (fun _ => False) t dt] (h : spP K (pp0 k) vs H Q E') (hd : ∀ φ, k φ → dt (stP N []) (poP φ)) : t (bodyGoal Q) (L2.start N vs) H :=
  bodyP (s := s) h fun ds φ e => by match ds, e with | [], e => exact hd φ e
theorem bodp1 {k : D → (En → Prop) → Prop} [s : SndS K E0 (fun _ => False) t dt] (h : spP K (pp1 k) vs H Q E') (hd : ∀ x φ, k x φ → dt (stP N [x]) (poP φ)) : t (bodyGoal Q) (L2.start N vs) H :=
  bodyP (s := s) h fun ds φ e => by match ds, e with | [x], e => exact hd x φ e
theorem bodp2 {k : D → D → (En → Prop) → Prop} [s : SndS K E0 (fun _ => False) t dt] (h : spP K (pp2 k) vs H Q E') (hd : ∀ x y φ, k x y φ → dt (stP N [x, y]) (poP φ)) : t (bodyGoal Q) (L2.start N vs) H :=
  bodyP (s := s) h fun ds φ e => by match ds, e with | [x, y], e => exact hd x y φ e
theorem bodp3 {k : D → D → D → (En → Prop) → Prop} [s : SndS K E0 (fun _ => False) t dt] (h : spP K (pp3 k) vs H Q E') (hd : ∀ x y z φ, k x y z φ → dt (stP N [x, y, z]) (poP φ)) : t (bodyGoal Q) (L2.start N vs) H :=
  bodyP (s := s) h fun ds φ e => by match ds, e with | [x, y, z], e => exact hd x y z φ e
/-! ### comprehensions that hang on nothing but the item -/
theorem wf_of {e : En} {x : D} {k : D → Prop} (h : e.frz = some x) (q : k x) : wf e k := by
  cases e <;> first | (cases h; exact q) | (cases h; done)
theorem dLc_pure {vs gv : List Nat} {di : DA} {dg : D → List En → (List En → Prop) → Prop} {de : DT} {Γ Γ1 Γw : List En} {φ : En → List En → Prop} {items : List D} (f : D → D) (hgv : (gv.all fun i => vs.contains i) = true) (hdi : ∀ ψ : List D → List En → Prop, ψ items Γ1 → di Γ ψ)
    (hw1 : wipeE Γ1 vs = Γw) (hw : wipeE Γw vs = Γw) (hl : items.length ≤ 100000) (ev : ∀ d ∈ items, ∀ ψ : En → List En → Prop, (∀ e Γ4, e.frz = some (f d) → wipeE Γ4 vs = Γw → ψ e Γ4) → dg d Γw fun Γ2 => de Γ2 ψ)
    (k : φ (.lst (items.map f)) Γw) : dLc vs gv di dg dYes de Γ φ := by
  refine ⟨hgv, hdi _ ⟨hl, fun i acc Γ' => Γ' = Γw ∧ acc = (items.take i).map f, ⟨hw1, rfl⟩, ?_⟩⟩
  rintro i acc Γ' ⟨rfl, rfl⟩
  refine ⟨fun e => ?_, fun d hd => ?_⟩
  · rw [e, List.take_length]
    exact k
  · rw [hw]
    refine ev d (List.mem_of_getElem? hd) _ fun e Γ4 h1 h2 => ?_
    have et : items.take (i + 1) = items.take i ++ [d] := by rw [List.take_add_one, hd]; rfl
    exact wf_of h1 ⟨h2, by rw [et, List.map_append]; rfl⟩
theorem dLc_filt {vs gv : List Nat} {di : DA} {dg : D → List En → (List En → Prop) → Prop} {dtt : DB} {de : DT} {Γ Γ1 Γw : List En} {φ : En → List En → Prop} {items : List D} (p : D → Bool) (f : D → D) (hgv : (gv.all fun i => vs.contains i) = true) (hdi : ∀ ψ : List D → List En → Prop, ψ items Γ1 → di Γ ψ)
    (hw1 : wipeE Γ1 vs = Γw) (hw : wipeE Γw vs = Γw) (hl : items.length ≤ 100000)
    (ev : ∀ d ∈ items, ∀ ψ : Bool → List En → Prop, (∀ Γ3, wipeE Γ3 vs = Γw → (p d = true → ∀ ψ' : En → List En → Prop, (∀ e Γ4, e.frz = some (f d) → wipeE Γ4 vs = Γw → ψ' e Γ4) → de Γ3 ψ') → ψ (p d) Γ3) → dg d Γw fun Γ2 => dtt Γ2 ψ)
    (k : φ (.lst ((items.filter p).map f)) Γw) : dLc vs gv di dg dtt de Γ φ := by
  refine ⟨hgv, hdi _ ⟨hl, fun i acc Γ' => Γ' = Γw ∧ acc = ((items.take i).filter p).map f, ⟨hw1, rfl⟩, ?_⟩⟩
  rintro i acc Γ' ⟨rfl, rfl⟩
  refine ⟨fun e => ?_, fun d hd => ?_⟩
  · rw [e, List.take_length]
    exact k
  · rw [hw]
    refine ev d (List.mem_of_getElem? hd) _ fun Γ3 h3 h4 => ?_
    have et : items.take (i + 1) = items.take i ++ [d] := by rw [List.take_add_one, hd]; rfl
    cases hp : p d with
    | true =>
      refine iteT (h4 hp _ fun e Γ4 h1 h2 => wf_of h1 ⟨h2, ?_⟩)
      rw [et, List.filter_append, List.map_append, List.filter_cons_of_pos hp]
      rfl
    | false =>
      refine iteF ⟨h3, ?_⟩
      rw [et, List.filter_append, List.filter_cons_of_neg (by rw [hp]; exact Bool.false_ne_true), List.filter_nil, List.append_nil]
end
end Da

set_option Elab.async false
set_option maxRecDepth 100000
set_option maxHeartbeats 4000000
set_option linter.all false
namespace PySem
open Sem (wp)
section
variable {prog : Program} {w : World} {A : Around} {E : Value → Shared → Prop} {s : Shared} {T : String} {d : Addr} {n : Nat} {P : Nat → Value → Prop} {OK : Heap → Prop}
theorem daTupNew {R1 : Value → Shared → Prop} (S : PySem.W.KdlSrc prog w T d d n P OK) (hh : A.handled = none) (ok : OK s.heap) (hn : n ≤ sizeLine)
    (fin : ∀ (g : Heap) (tk : Nat) (acc : Array Value), (∀ b o, s.heap.get? b = some o → g.get? b = some o) → ItemsOf P acc n → R1 (.ref g.objs.size) { s with heap := g.push { cls := .type "tuple", data := .seq acc }, toks := tk }) :
    codeAny (model prog w) A (.call (.builtin "tuple.__new__") ⟨[.type "tuple", .ref d], []⟩) (wants R1 E) s := by
  apply codeAny_of_tree
  show wpAny _ A.in1 (do
    checkBuiltinCall "tuple.__new__" ⟨[.type "tuple", .ref d], []⟩
    again (.builtin "tuple.__new__" ⟨[.type "tuple", .ref d], []⟩)) _ _ s
  have quiet := plainId_quiet F.plain_tuple_new
  refine wpAny_bind (wpAny_of_eq (F.newCall_tuple_1 _) (wpAny_pure ⟨quiet _, ?_⟩))
  refine codeAny_builtin F.entry_tuple_new ?_
  rw [Around.under_plainId F.plain_tuple_new]
  have f1 := sub_tuple_self
  have f2 := init_tuple_lookup
  have f3 := madeHere_tuple
  have f4 := S.type s ok
  have f5 := S.notTuple
  unfold Builtin.«tuple.__new__»
  generalize hC : collect = CL
  wp_walk using wpAny_typeOf f4
  subst hC
  refine PySem.W.kdu_collect (A := A.in1) S (by simpa using hh) ok hn fun g tk acc kp it => ?_
  refine wpAny_bind (wpAny_pure ?_)
  show wpAny _ _ (Builtin.Tuple.tupleExact acc.toList.toArray >>= fun v => ret v) _ _ _
  unfold Builtin.Tuple.tupleExact
  have sz : acc.toList.toArray.size ≤ sizeLine := by rw [Array.toArray_toList, it.1]; exact hn
  refine wpAny_bind (wpAny_newObj_type ?_ sz)
  rw [Array.toArray_toList]
  exact wpAny_pure (fin g tk acc kp it)
end
end PySem
namespace Da
open PySem PySem.Spec PyProof.Rows L2 RZ HmS
/-- tuple(d), d a dict with int and text keys -/
def rTupK : List V → Hp → VK → Prop := fun xs H Q => ∃ p kvs, xs = [.ref p] ∧ H p = some (.dK kvs) ∧ ∀ q, H q = none → Q (.ref q) (upd H q (.tup (kvs.map fun kv => kV kv.1)))
theorem cl_tupK {X : Cx} (hc : X.calm = true) : CallR X (.type "tuple") rTupK := by
  intro pins s σ H xs us Q I r h
  obtain ⟨p, kvs, rfl, hk, q⟩ := h
  obtain ⟨u, rfl, rx⟩ := vals1 r
  cases rx
  obtain ⟨z, lo, vs, rk, hd⟩ := (show ObjOk X.prog X.w H s.heap p (.dK kvs) from I.hok p _ hk)
  obtain ⟨ep, hat⟩ := hd.dictAt
  have hl : kvs.length = vs.length := Paired.length rk
  have hh : X.A.handled = none := I.ok.hd hc
  refine callType_codes (Q₁ := fun obj s1 => s1.TypeIs obj "tuple" ∧ EP X pins σ Q obj s1) F.called_tuple (F.typeCall_tuple_1 _) F.entry_object_init (daTupNew (PySem.W.kdl_dict (knd := mixKind X.prog X.w) (kvs := vs) (ep := ep) lo) (by simpa using hh) hat (by rw [← hl]; exact z) fun g tk acc kp it => ⟨⟨_, Heap.get?_push_size _ rfl, rfl⟩, ?_⟩) fun obj s1 h1 => ?_
  · have J : Inv X pins σ H { s with heap := g, toks := tk } := I.kept kp
    have len : acc.toList.length = kvs.length := by rw [Array.length_toList, it.1, hl]
    have rel : Vals (kvs.map fun kv => kV kv.1) acc.toList := by
      refine vals_of_at (by rw [List.length_map, len]) fun j x w h1 h2 => ?_
      obtain ⟨k, y, hky, hi⟩ := it.2 j w (by rw [← Array.getElem?_toList]; exact h2)
      have e1 : (kvs.map (·.1))[j]? = some k := by
        rw [KV.keys rk, List.getElem?_map, hky]
        rfl
      have e3 : (kvs.map fun kv => kV kv.1) = (kvs.map (·.1)).map kV := by rw [List.map_map]; rfl
      rw [e3, List.getElem?_map, e1] at h1
      cases h1
      exact keyIs_rel hi
    refine ⟨.ref g.objs.size, _, J.laid (a := g.objs.size) (o := .tup (kvs.map fun kv => kV kv.1)) (t' := tk) (fun b o e => Heap.get?_push_of_some _ e) (Nat.le_refl _) ⟨by rw [List.length_map]; exact z, acc.toList, rel, ?_⟩, rfl, q _ (J.hok.fresh (Nat.le_refl _))⟩
    rw [Array.toArray_toList]
    exact IsTup.new _ _
  · exact ⟨h1.1, F.args_object_init_2 obj _, object_init_meets F.called_tuple.init.lookup F.called_tuple.made (by decide) X.prog X.w X.A.in1 _ s1 ⟨h1.1, rfl, h1.2⟩⟩
def dTupKR (xs : List D) (φ : En → Prop) : Prop := match xs with
  | [.dK ks _] => φ (.d (.tup (ks.map kD)))
  | _ => False
theorem reps_keys {F : Hp} : ∀ ks : List Key, Reps F (ks.map kV) (ks.map kD)
  | [] => .nil
  | .inl i :: r => .cons (.int i) (reps_keys r)
  | .inr i :: r => .cons (.str i) (reps_keys r)
section
variable {K : PySem.W.Frag} [HasT K] {E : XK} {ψ : Value → Prop} {te ta tb tx : TE} {da db dx : DT} {al : TA} {dal : DA}
instance snd_tupK : SndC K rTupK dTupKR := ⟨fun {c F H σ Γ xs ds φ Q} I r h q => by
  match ds, r, h with
  | [.dK ks es], r, h =>
    obtain ⟨x, rfl, rp⟩ := one_of r
    cases rp with
    | @dK a kvs _ _ e ek rs =>
      refine ⟨a, kvs, rfl, I.fh _ _ e, fun p hp => ?_⟩
      obtain ⟨I2, s2, _⟩ := I.new (o := .tup (kvs.map fun kv => kV kv.1)) hp
      refine q _ _ _ _ I2 s2 (Res.d (.tup upd_same ?_)) h
      have e3 : (kvs.map fun kv => kV kv.1) = ks.map kV := by rw [← ek, List.map_map]; rfl
      rw [e3]
      exact reps_keys ks⟩
/-! ### sorted(set(t)), t a tuple of ints -/
theorem firstSorted {ns ms : List Int} (h1 : ns.Pairwise (· < ·)) (h2 : ms.Pairwise (· < ·)) (h : ∀ k, k ∈ ns ↔ k ∈ ms) : ns = ms := by
  induction ns generalizing ms with
  | nil =>
    cases ms with
    | nil => rfl
    | cons m r => exact absurd ((h m).mpr List.mem_cons_self) (by simp)
  | cons n r ih =>
    cases ms with
    | nil => exact absurd ((h n).mp List.mem_cons_self) (by simp)
    | cons m q =>
      rw [List.pairwise_cons] at h1 h2
      have e : n = m := by
        rcases List.mem_cons.mp ((h n).mp List.mem_cons_self) with z | z
        · exact z
        · rcases List.mem_cons.mp ((h m).mpr List.mem_cons_self) with w | w
          · exact w.symm
          · have := h1.1 m w
            have := h2.1 n z
            omega
      subst e
      rw [ih h1.2 h2.2 fun k => ⟨fun hk => ?_, fun hk => ?_⟩]
      · rcases List.mem_cons.mp ((h k).mp (List.mem_cons_of_mem _ hk)) with z | z
        · have := h1.1 k hk
          omega
        · exact z
      · rcases List.mem_cons.mp ((h k).mpr (List.mem_cons_of_mem _ hk)) with z | z
        · have := h2.1 k hk
          omega
        · exact z
def tSortSetT (K : PySem.W.Frag) (ta : TE) : TE := fun σ H Q => ta σ H fun x H1 => ∃ (l : Addr) (ns : List Int), x = .ref l ∧ SqT K H1 l (ns.map V.int) ∧ ns.length < 64 ∧ ∀ (ms : List Int) (p : Addr), ms.Pairwise (· < ·) → (∀ k : Int, k ∈ ms ↔ k ∈ ns) → H1 p = none → Q (.ref p) (upd H1 p (.lst (ms.map V.int)))
theorem pe_sortSetT {X : Cx} {a : Expr} {p p2 q pos : Pos} (hc : X.calm = true) (hg : Gl X "sorted") (hm : X.mg "sorted" = none) (hg2 : Gl X "set") (hm2 : X.mg "set" = none) (ha : PE X a ta)
    (na : starEach [a] X.env = (false, eval a X.env) :: starEach [] X.env := by rfl) (hK : X.K = K := by rfl) : PE X (.Call (.Name "sorted" p) [.Call (.Name "set" p2) [a] [] q] [] pos) (tSortSetT K ta) := by
  subst hK
  refine ⟨fun pins s σ H Q I h => ?_⟩
  have bs : bootBuiltins "sorted" = some (.builtin "sorted") := by decide +kernel
  have bt : bootBuiltins "set" = some (.type "set") := by decide +kernel
  refine Call_ (ld_blt I hg hm bs ?_)
  refine PyProof.Rows.callWith_builtin1 (PyProof.Rows.args_cons ?_ rfl) rfl rfl
  refine Call_ (ld_blt I hg2 hm2 bt ?_)
  refine PyProof.Rows.callWith_type1 (PyProof.Rows.args_cons (thn (ha.run pins s σ H _ I h) fun v s1 ⟨x, H1, I1, r1, q1⟩ => PyProof.Rows.args_nil ?_) na) na rfl
  obtain ⟨l, ns, rfl, hq, hl, q1⟩ := q1
  cases r1
  obtain ⟨its, r, pt, hz⟩ := I1.tuple hq
  have hh := I1.ok.hd hc
  refine call_set_tupI ns hh (show s1.heap.IsTuple l its.toArray from pt) (by simpa using intsAre_vals r) (by unfold scanBound; omega) fun h' tk c' R hc' hk => ?_
  refine PyProof.Rows.args_nil ?_
  have I2 : Inv X pins σ H1 { s1 with heap := h', toks := tk } := I1.kept hk
  refine sorted_set (s := { s1 with heap := h', toks := tk }) R hh (by omega) fun s' p out c ms k g o hp hgp hi hs hmm hln => ?_
  have hn : H1 p = none := I2.hok.fresh hp
  have hsz : (ms.map V.int).length ≤ sizeLine := by rw [List.length_map, hln, sizeLine_eq]; omega
  have J : Inv X pins σ (upd H1 p (.lst (ms.map V.int))) { ({ s1 with heap := h', toks := tk } : Shared) with heap := s'.heap, gens := s'.gens, drawn := s'.drawn, toks := s'.toks } :=
    I2.call (ch := []) (Un.laid k hp hn) (I2.hok.laid k hp ⟨hsz, out.toList, c, vals_of_ints hi, hgp⟩) (by rw [g]; exact I2.bare) (fun _ z => nomatch z)
  have e : s' = { s1 with heap := s'.heap, gens := s'.gens, drawn := s'.drawn, toks := s'.toks } := by
    obtain ⟨x1, x2, x3, x4, x5⟩ := s'
    have o : x5 = s1.os := o
    subst o
    rfl
  rw [e]
  exact ⟨.ref p, _, J, rfl, q1 ms p hs (fun k => by rw [hmm k]; simp) hn⟩
def dSortSetT (da : DT) : DT := fun Γ φ => da Γ fun e Γ1 => wt e fun xs => ∃ is : List Int, xs = is.map D.int ∧ is.length < 64 ∧ ∀ ms : List Int, ms.Pairwise (· < ·) → (∀ k : Int, k ∈ ms ↔ k ∈ is) → φ (.lst (ms.map D.int)) Γ1
instance snd_sortSetT [a : Snd K E ψ ta da] : Snd K E ψ (tSortSetT K ta) (dSortSetT da) := ⟨fun {c F H σ Γ φ Q} I eo h q => a.run I eo h fun F1 H1 v e Γ1 I1 s1 r1 h1 => by
  obtain ⟨xs, rfl, is, rfl, hl, h1⟩ := wt_of h1
  cases (show Rep F1 v (.tup (is.map D.int)) from r1.1) with
  | tup e rs =>
    rw [rs.of_ints] at e
    refine ⟨_, is, rfl, SqT.of (I1.fh _ _ e), hl, fun ms p h1' h2 hp => ?_⟩
    obtain ⟨I2, r2⟩ := I1.newL hp (Reps.ints ms)
    exact q _ _ _ _ _ I2 s1 r2 (h1 ms h1' h2)⟩
/-! ### a dict that a slot owns is lent to a def that only reads it -/
mutual
def D.pl : D → Bool
  | .tup xs => pls xs
  | .lst _ => false
  | .dK _ _ => false
  | .dT _ _ => false
  | .ins _ _ _ => false
  | _ => true
def pls : List D → Bool
  | [] => true
  | x :: xs => x.pl && pls xs
end
mutual
theorem Rep.drop {F : Hp} {a : Addr} (ha : ∀ vs, F a ≠ some (.tup vs)) : ∀ {x : D} {v : V}, Rep F v x → x.pl = true → Rep (fun b => if b = a then none else F b) v x
  | .non, _, .non, _ => .non
  | .bl _, _, .bl b, _ => .bl b
  | .int _, _, .int i, _ => .int i
  | .str _, _, .str i, _ => .str i
  | .tup ds, _, .tup (a := b) e r, h => .tup (by
      have : b ≠ a := fun z => by
        rw [z] at e
        exact ha _ e
      show (if b = a then none else F b) = _
      rw [if_neg this]
      exact e) (Reps.dropd ha r h)
theorem Reps.dropd {F : Hp} {a : Addr} (ha : ∀ vs, F a ≠ some (.tup vs)) : ∀ {xs : List D} {vs : List V}, Reps F vs xs → pls xs = true → Reps (fun b => if b = a then none else F b) vs xs
  | [], _, .nil, _ => .nil
  | x :: xs, _, .cons r q, h => by
    unfold pls at h
    rw [Bool.and_eq_true] at h
    exact .cons (Rep.drop ha r h.1) (Reps.dropd ha q h.2)
end
class SndB (K : PySem.W.Frag) [HasT K] (E : XK) (ψ : Value → Prop) (ta : TA) (i : outParam Nat) (den : outParam DA) : Prop where
  run : ∀ {c : Ct K} {F H : Hp} {σ : L2.St} {Γ : List En} {φ : List D → List En → Prop} {Q : List V → Hp → Prop}, Is c F H σ Γ → EOk c E ψ → (∃ ks ds, Γ[i]? = some (.dK ks ds)) → den Γ φ →
    (∀ F' H' vs ds a Γ', Is c F' H' σ Γ' → Same F F' → Reps F' vs ds → σ[i]? = some (some (.ref a)) → φ ds Γ' → Q (vs ++ [.ref a]) H') → ta σ H Q
instance sndb_last (i : Nat) : SndB K E ψ (tCons (tVar i) tNil) i dNil := ⟨fun {c F H σ Γ φ Q} I eo ⟨ks, ds, g⟩ h q => by
  obtain ⟨v, hv, a, kvs, rfl, _⟩ := I.at_ i _ g (fun z => nomatch z)
  exact ⟨_, hv, q F H [] [] a Γ I (Same.refl F) .nil hv h⟩⟩
instance sndb_cons {i : Nat} [s : Snd K E ψ ta da] [sl : SndB K E ψ al i dal] : SndB K E ψ (tCons ta al) i (fun Γ φ => da Γ fun e Γ1 => wf e fun x => (∃ ks ds, Γ1[i]? = some (.dK ks ds)) ∧ dal Γ1 fun xs Γ2 => φ (x :: xs) Γ2) := ⟨fun {c F H σ Γ φ Q} I eo g h q => by
  refine s.frz (φ := fun _ _ => True) (k := fun x Γ1 => (∃ ks ds, Γ1[i]? = some (.dK ks ds)) ∧ dal Γ1 fun xs Γ2 => φ (x :: xs) Γ2) I eo h fun F1 H1 v x Γ1 I1 s1 r1 h1 => ?_
  refine sl.run I1 eo h1.1 h1.2 fun F2 H2 vs xs a Γ2 I2 s2 r2 hv h2 => ?_
  exact q F2 H2 _ _ a Γ2 I2 (s1.trans s2) (.cons (r1.mono s2) r2) hv h2⟩
def dBor (i : Nat) (den : List D → (En → Prop) → (Value → Prop) → Prop) (dal : DA) : DT := fun Γ φ => (∃ ks ds, Γ[i]? = some (.dK ks ds)) ∧ dal Γ fun xs Γ1 => ∃ ks ds, Γ1[i]? = some (.dK ks ds) ∧ den (xs ++ [.dK ks ds]) (fun e => ∃ x, e = .d x ∧ x.pl = true ∧ φ (.d x) Γ1) (fun _ => False)
theorem snd_bor {i : Nat} {den : List D → (En → Prop) → (Value → Prop) → Prop} [sl : SndB K E ψ al i dal] : Snd K E ψ (tCall (spX K den) [] E0 al) (dBor i den dal) := ⟨fun {c F H σ Γ φ Q} I eo h q => by
  refine sl.run I eo h.1 h.2 fun F1 H1 vs xs a Γ1 I1 s1 r1 hv h1 => ?_
  obtain ⟨ks, ds, g, h1⟩ := h1
  obtain ⟨v, hv', a', kvs, ea, fa, h0, ha, ek, rs⟩ := I1.at_ i _ g (fun z => nomatch z)
  rw [hv] at hv'
  cases hv'
  cases ea
  have no : ∀ vs, upd F1 a (.dK kvs) a ≠ some (.tup vs) := fun vs z => by rw [upd_same] at z; cases z
  have sfa : Same F1 (upd F1 a (.dK kvs)) := fun b u e => by rw [upd_ne (ne_of_none e fa)]; exact e
  have fha : Same (upd F1 a (.dK kvs)) H1 := fun b u e => by
    by_cases z : b = a
    · subst z
      rw [upd_same] at e
      cases e
      exact ha
    · rw [upd_ne z] at e
      exact I1.fh b u e
  refine ⟨upd F1 a (.dK kvs), xs ++ [.dK ks ds], fun e => ∃ x, e = .d x ∧ x.pl = true ∧ φ (.d x) Γ1, fun _ => False, fha, fn_upd I1.fn (fun _ z => nomatch z), I1.tb, ?_, h1, ?_, fun _ _ _ _ z => z.elim⟩
  · rw [List.append_nil]
    exact (r1.mono sfa).app (.cons (.dK upd_same ek (rs.mono sfa)) .nil)
  · rintro F' H' v e sf sh tb fh fn nw hh ne ⟨x, rfl, px, hφ⟩
    have hh : Rep F' v x := hh
    have fa' : F' a = some (.dK kvs) := sf _ _ upd_same
    have r2 := hh.drop (a := a) (fun vs z => by rw [fa'] at z; cases z) px
    have sf2 : Same F1 (fun b => if b = a then none else F' b) := fun b u e => by
      have : b ≠ a := ne_of_none e fa
      show (if b = a then none else F' b) = _
      rw [if_neg this]
      exact sf _ _ (sfa _ _ e)
    refine q _ H' v (.d x) Γ1 (I1.growN sf2 sh tb (fun b u e => ?_) (fun b u e => ?_) (fun b u e => ?_)) (s1.trans sf2) (Res.d r2) hφ
    · have e : (if b = a then none else F' b) = some u := e
      split at e
      · cases e
      · exact fh _ _ e
    · have e : (if b = a then none else F' b) = some u := e
      split at e
      · cases e
      · exact fn _ _ e
    · have e : (if b = a then none else F' b) = some u := e
      split at e
      · cases e
      · rename_i z
        rcases nw b u e with w | w
        · rw [upd_ne z] at w
          exact .inl w
        · exact .inr w⟩
end
namespace Bor
scoped instance (priority := 2000) bor {K : PySem.W.Frag} [HasT K] {E : XK} {ψ : Value → Prop} {al : TA} {dal : DA} {i : Nat} {den : List D → (En → Prop) → (Value → Prop) → Prop} [sl : SndB K E ψ al i dal] : Snd K E ψ (tCall (spX K den) [] E0 al) (dBor i den dal) := snd_bor
end Bor
end Da

set_option Elab.async false
set_option maxRecDepth 100000
set_option maxHeartbeats 4000000
set_option linter.all false
namespace Da
open PySem PySem.Spec PyProof.Rows L2 RZ HmS
theorem pe_bmK {X : Cx} {K : PySem.W.Frag} {o e : Expr} {es : List Expr} {to : TE} {t : TA} {name : Str} {apos cpos : Pos} {T id : String} {r : V → List V → Hp → VK → Prop}
    (pa : PlainAttrs T) (slot : Slot T name id) (hty : typeOf (.builtin id) = pure (.type "method_descriptor")) (hm : MtR X id r) (ho : PE X o to) (ha : PA X (e :: es) t)
    (hbase : attributeBase o name X.env (eval o X.env) = eval o X.env := by rfl)
    (hfew : ((backTo cpos (starEach (e :: es) X.env)).all (fun x => !x.1) && (backToKw cpos (keywordEach [] X.env)).all (fun x => x.1.isSome)
      && decide ((e :: es).length + ([] : List Keyword).length + (if ([] : List Keyword).isEmpty then 0 else 1) < 30)) = true := by rfl)
    (hline : (apos.endLine == cpos.line) = true := by rfl) (hs : starEach (e :: es) X.env = (false, eval e X.env) :: starEach es X.env := by rfl) (hplain : (backTo cpos (starEach es X.env)).any (·.1) = false := by rfl)
    (hK : X.K = K := by rfl) : PE X (.Call (.Attribute o name apos) (e :: es) [] cpos) (tBM K T r to t) := hK ▸ pe_bm pa slot hty hm ho ha hbase hfew hline hs hplain
end Da

set_option Elab.async false
set_option maxRecDepth 100000
set_option maxHeartbeats 4000000
set_option linter.all false
namespace Da
open PySem PySem.Spec PyProof.Rows L2 RZ HmS
/-! ### what fits a comparison -/
def D.fitb (k : Nat) (x : D) : Bool := x.flat && (x.py.canLay0 && decide (x.py.depth ≤ k))
theorem fit_of {x : D} {k : Nat} (h : x.fitb k = true) (hk : k ≤ 64) : x.fit = true := by
  unfold D.fitb at h
  unfold D.fit SeqAt.shaped
  rw [Bool.and_eq_true, Bool.and_eq_true, decide_eq_true_eq] at h ⊢
  exact ⟨h.1, h.2.1, Nat.le_trans h.2.2 hk⟩
theorem fitb_mono {x : D} {k m : Nat} (h : x.fitb k = true) (hk : k ≤ m) : x.fitb m = true := by
  unfold D.fitb at h ⊢
  rw [Bool.and_eq_true, Bool.and_eq_true, decide_eq_true_eq] at h ⊢
  exact ⟨h.1, h.2.1, Nat.le_trans h.2.2 hk⟩
theorem fitb_int (i : Int) : (D.int i).fitb 1 = true := by simp [D.fitb, D.flat, D.py, PyData.canLay0, PyData.depth]
theorem fitb_bl (i : Bool) : (D.bl i).fitb 1 = true := by simp [D.fitb, D.flat, D.py, PyData.canLay0, PyData.depth]
theorem fitb_non : (D.non).fitb 1 = true := by simp [D.fitb, D.flat, D.py, PyData.canLay0, PyData.depth]
theorem fitbs {k : Nat} : ∀ {xs : List D}, (∀ x ∈ xs, x.fitb k = true) → flats xs = true ∧ PyData.canLayAll0 (pys xs) = true ∧ PyData.depthAll (pys xs) ≤ k
  | [], _ => ⟨rfl, rfl, Nat.zero_le _⟩
  | x :: r, h => by
    have hx := h x List.mem_cons_self
    obtain ⟨h1, h2, h3⟩ := fitbs fun y hy => h y (List.mem_cons_of_mem _ hy)
    unfold D.fitb at hx
    rw [Bool.and_eq_true, Bool.and_eq_true, decide_eq_true_eq] at hx
    refine ⟨?_, ?_, ?_⟩
    · rw [flats, hx.1, h1]
      rfl
    · rw [pys, PyData.canLayAll0, hx.2.1, h2]
      rfl
    · rw [pys, PyData.depthAll]
      exact Nat.max_le.mpr ⟨hx.2.2, h3⟩
theorem fitb_tup {k : Nat} {xs : List D} (h : ∀ x ∈ xs, x.fitb k = true) : (D.tup xs).fitb (k + 1) = true := by
  obtain ⟨h1, h2, h3⟩ := fitbs h
  unfold D.fitb
  rw [Bool.and_eq_true, Bool.and_eq_true, decide_eq_true_eq]
  refine ⟨by rw [D.flat]; exact h1, by rw [D.py, PyData.canLay0]; exact h2, by rw [D.py, PyData.depth]; omega⟩
theorem fitb_lst {k : Nat} {xs : List D} (h : ∀ x ∈ xs, x.fitb k = true) : (D.lst xs).fitb (k + 1) = true := by
  obtain ⟨h1, h2, h3⟩ := fitbs h
  unfold D.fitb
  rw [Bool.and_eq_true, Bool.and_eq_true, decide_eq_true_eq]
  refine ⟨by rw [D.flat]; exact h1, by rw [D.py, PyData.canLay0]; exact h2, by rw [D.py, PyData.depth]; omega⟩
theorem fitb_tupm {α : Type} {g : α → D} {k : Nat} {l : List α} (h : ∀ a ∈ l, (g a).fitb k = true) : (D.tup (l.map g)).fitb (k + 1) = true := fitb_tup fun x hx => by
  obtain ⟨a, ha, rfl⟩ := List.mem_map.mp hx
  exact h a ha
theorem fitb_lstm {α : Type} {g : α → D} {k : Nat} {l : List α} (h : ∀ a ∈ l, (g a).fitb k = true) : (D.lst (l.map g)).fitb (k + 1) = true := fitb_lst fun x hx => by
  obtain ⟨a, ha, rfl⟩ := List.mem_map.mp hx
  exact h a ha
theorem fit_lay {x : D} (h : x.fit = true) : x.py.canLay0 = true := by
  unfold D.fit SeqAt.shaped at h
  rw [Bool.and_eq_true, Bool.and_eq_true] at h
  exact h.2.1
theorem eqv_self {x : D} (h : x.fit = true) : x.eqv x = true := SeqAt.eqv_refl _ (fit_lay h)
/-! ### alike just where the same: data of numbers, texts, None -/
mutual
def D.strict : D → Bool
  | .non => true
  | .int _ => true
  | .str _ => true
  | .tup xs => stricts xs
  | .lst xs => stricts xs
  | _ => false
def stricts : List D → Bool
  | [] => true
  | x :: r => x.strict && stricts r
end
mutual
theorem eqv_iff : ∀ {x y : D}, x.strict = true → y.strict = true → (x.eqv y = true ↔ x = y)
  | .non, y, _, hy => by
    cases y <;> first | (exact absurd hy Bool.false_ne_true) | simp [D.eqv, D.py, PyData.eqv]
  | .int i, y, _, hy => by
    cases y <;> first | (exact absurd hy Bool.false_ne_true) | simp [D.eqv, D.py, PyData.eqv]
  | .str s, y, _, hy => by
    cases y <;> first | (exact absurd hy Bool.false_ne_true) | simp [D.eqv, D.py, PyData.eqv]
  | .tup xs, y, hx, hy => by
    cases y with
    | tup ys =>
      have hx : stricts xs = true := by rw [D.strict] at hx; exact hx
      have hy : stricts ys = true := by rw [D.strict] at hy; exact hy
      have := eqv_iffs hx hy
      unfold D.eqv
      rw [D.py, D.py, PyData.eqv, this]
      exact ⟨fun e => by rw [e], fun e => by cases e; rfl⟩
    | non => simp [D.eqv, D.py, PyData.eqv]
    | int i => simp [D.eqv, D.py, PyData.eqv]
    | str s => simp [D.eqv, D.py, PyData.eqv]
    | lst xs => simp [D.eqv, D.py, PyData.eqv]
    | _ => exact absurd hy Bool.false_ne_true
  | .lst xs, y, hx, hy => by
    cases y with
    | lst ys =>
      have hx : stricts xs = true := by rw [D.strict] at hx; exact hx
      have hy : stricts ys = true := by rw [D.strict] at hy; exact hy
      have := eqv_iffs hx hy
      unfold D.eqv
      rw [D.py, D.py, PyData.eqv, this]
      exact ⟨fun e => by rw [e], fun e => by cases e; rfl⟩
    | non => simp [D.eqv, D.py, PyData.eqv]
    | int i => simp [D.eqv, D.py, PyData.eqv]
    | str s => simp [D.eqv, D.py, PyData.eqv]
    | tup xs => simp [D.eqv, D.py, PyData.eqv]
    | _ => exact absurd hy Bool.false_ne_true
theorem eqv_iffs : ∀ {xs ys : List D}, stricts xs = true → stricts ys = true → (PyData.eqvAll (pys xs) (pys ys) = true ↔ xs = ys)
  | [], [], _, _ => by simp [pys, PyData.eqvAll]
  | [], _ :: _, _, _ => by simp [pys, PyData.eqvAll]
  | _ :: _, [], _, _ => by simp [pys, PyData.eqvAll]
  | x :: xs, y :: ys, hx, hy => by
    rw [stricts, Bool.and_eq_true] at hx hy
    have h1 := eqv_iff hx.1 hy.1
    have h2 := eqv_iffs hx.2 hy.2
    unfold D.eqv at h1
    rw [pys, pys, PyData.eqvAll, Bool.and_eq_true, h1, h2]
    exact ⟨fun h => by rw [h.1, h.2], fun h => by cases h; exact ⟨rfl, rfl⟩⟩
end
theorem stricts_map {α : Type} {g : α → D} : ∀ {l : List α}, (∀ a ∈ l, (g a).strict = true) → stricts (l.map g) = true
  | [], _ => rfl
  | a :: r, h => by
    rw [List.map_cons, stricts, h a List.mem_cons_self, stricts_map fun b hb => h b (List.mem_cons_of_mem _ hb)]
    rfl
theorem eqv_dec {α : Type} [DecidableEq α] {g : α → D} (st : ∀ a, (g a).strict = true) (inj : ∀ a b, g a = g b → a = b) (a b : α) : (g a).eqv (g b) = decide (a = b) := by
  rw [Bool.eq_iff_iff, decide_eq_true_eq, eqv_iff (st a) (st b)]
  exact ⟨inj a b, fun e => by rw [e]⟩
/-! ### a comprehension without a test, by an invariant -/
theorem dLc_inv {vs gv : List Nat} {di : DA} {dg : D → List En → (List En → Prop) → Prop} {de : DT} {Γ Γ1 : List En} {φ : En → List En → Prop} {items : List D} (I : Nat → List D → List En → Prop) (hgv : (gv.all fun i => vs.contains i) = true) (hdi : ∀ ψ : List D → List En → Prop, ψ items Γ1 → di Γ ψ)
    (hl : items.length ≤ 100000) (i0 : I 0 [] (wipeE Γ1 vs)) (fin : ∀ acc Γ', I items.length acc Γ' → φ (.lst acc) Γ')
    (step : ∀ i d acc Γ', items[i]? = some d → I i acc Γ' → dg d (wipeE Γ' vs) fun Γ2 => de Γ2 fun e Γ4 => wf e fun z => I (i + 1) (acc ++ [z]) (wipeE Γ4 vs)) : dLc vs gv di dg dYes de Γ φ := by
  refine ⟨hgv, hdi _ ⟨hl, I, i0, fun i acc Γ' h => ⟨fun e => fin acc Γ' (by rw [← e]; exact h), fun d hd => step i d acc Γ' hd h⟩⟩⟩
/-! ### the law's own body -/
def spLaw (K : PySem.W.Frag) [HasT K] : Sp := fun vs H Q _ => ∃ (a : Addr) (ns : List Int), vs = [.ref a] ∧ TbOk K H ∧ SqL K H a (ns.map V.int) ∧ ns.length ≤ 63 ∧ ∀ H', Q (.bl true) H'
def stS (N : List Str) (ns : List Int) : List En := .scr ns :: List.replicate (N.length - 1) .no
def poL : Po := ⟨fun _ => False, fun e => e = .d (.bl true), fun _ => False, fun _ => False⟩
theorem _root_.L2.SqL.nt {K : PySem.W.Frag} {H : Hp} {a : Addr} {xs : List V} (h : SqL K H a xs) : SqL K (ntH H) a xs :=
  h.elim (fun h => .inl (h.elim (fun h => .inl (ntH_of h fun _ z => nomatch z)) fun ⟨o, h⟩ => .inr ⟨o, ntH_of h fun _ z => nomatch z⟩)) fun h => .inr h
theorem bodyS {K : PySem.W.Frag} [HasT K] {t : TS} {dt : DSt} {N : List Str} {H : Hp} {Q : VK} {a : Addr} {ns : List Int} [s : SndS K E0 (fun _ => False) t dt] (tb : TbOk K H) (hS : SqL K H a (ns.map V.int)) (q : ∀ H', Q (.bl true) H') (hd : dt (stS N ns) poL) :
    t { nx := fun _ H' => Q .non H', rt := Q } (L2.start N [.ref a]) H := by
  have I : Is (⟨fun _ => none, ntH H, none, some (a, ns), fun a' ns' e => by cases e; exact ⟨hS.nt, fun z => nomatch z⟩⟩ : Ct K) (fun _ => none) H (L2.start N [.ref a]) (stS N ns) := by
    have low : ∀ (i : Nat) (e : En), (stS N ns)[i]? = some e → e ≠ .no → i = 0 ∧ e = .scr ns := fun i e g n => by
      cases i with
      | zero => cases g; exact ⟨rfl, rfl⟩
      | succ i =>
        have g : (List.replicate (N.length - 1) En.no)[i]? = some e := by simpa [stS] using g
        exact absurd (List.mem_replicate.mp (List.mem_of_getElem? g)).2 n
    refine ⟨Same.refl _, (fun b o e => nomatch e), (fun b o e => nomatch e), (fun b o _ e => (ntH_some e).1), (fun p e => nomatch e), ?_, fun i e g n => ?_, fun i j b e e' ij g g' o o' s s' => ?_, (fun b o e => nomatch e), tb, (fun b o e => (ntH_some e).2)⟩
    · unfold L2.start stS
      simp only [List.map_cons, List.map_nil, List.length_append, List.length_cons, List.length_nil, List.length_replicate]
      omega
    · obtain ⟨rfl, rfl⟩ := low i e g n
      exact ⟨.ref a, rfl, a, rfl, rfl⟩
    · obtain ⟨_, rfl⟩ := low i e g (fun z => by rw [z] at o; cases o)
      cases o
  refine s.run I (fun _ _ _ _ _ z => z) hd ⟨fun _ _ _ _ _ z => z.elim, fun F' H' σ' Γ' v e I hh n z => ?_, fun _ _ _ _ _ z => z.elim, fun _ _ _ _ _ z => z.elim⟩
  have z : e = .d (.bl true) := z
  subst z
  cases (show Rep F' v (.bl true) from hh)
  exact q H'
theorem wf_d (x : D) (k : D → Prop) : wf (.d x) k = k x := rfl
theorem wf_l (xs : List D) (k : D → Prop) : wf (.lst xs) k = k (.lst xs) := rfl
theorem wb_b (b : Bool) (k : Bool → Prop) : wb (.d (.bl b)) k = k b := rfl
theorem wi_i (i : Int) (k : Int → Prop) : wi (.d (.int i)) k = k i := rfl
theorem wt_t (xs : List D) (k : List D → Prop) : wt (.d (.tup xs)) k = k xs := rfl
theorem wl_l (xs : List D) (k : List D → Prop) : wl (.lst xs) k = k xs := rfl
theorem wl_d (xs : List D) (k : List D → Prop) : wl (.d (.lst xs)) k = k xs := rfl
theorem tupR_t (xs : List D) (φ : En → Prop) : dTupR [.tup xs] φ = φ (.d (.tup xs)) := rfl
theorem tupR_l (xs : List D) (φ : En → Prop) : dTupR [.lst xs] φ = φ (.d (.tup xs)) := rfl
theorem lstR_t (xs : List D) (φ : En → Prop) : dListR [.tup xs] φ = φ (.lst xs) := rfl
theorem lstR_l (xs : List D) (φ : En → Prop) : dListR [.lst xs] φ = φ (.lst xs) := rfl
end Da

set_option Elab.async false
set_option maxRecDepth 100000
set_option maxHeartbeats 4000000
set_option linter.all false
namespace Da
open PySem PySem.Spec PyProof.Rows L2 RZ HmS
/-! ### set(xs), xs a list of ints, with its order known; sorted of it -/
/-- an empty set, as it is made -/
abbrev noSet (w : World) : Obj := { cls := .type "set", dict := none, data := .set #[] 0 (.fresh 0 0 (!w.params.followText "set-order")) }
theorem not_in2 {a b c : Addr} (h1 : a ≠ b) (h2 : a ≠ c) : a ∉ [b, c] := fun h => by
  rcases List.mem_cons.mp h with z | z
  · exact h1 z
  · exact h2 (List.mem_singleton.mp z)
section
variable {P : Program} {w : World} {A : Around} {E : Value → Shared → Prop} {s : Shared}
set_option maxHeartbeats 8000000 in
theorem call_setL {l : Addr} {us : Array Value} (ns : List Int) {Q : Value → Shared → Prop} (nh : A.handled = none) (il : s.heap.IsList l us) (iu : IntsAre us.toList ns) (room : ns.length + 1 < scanBound)
    (q : ∀ (g : Heap) (tk c : Nat), SetR w g s.heap.objs.size (fun j => decide (j ∈ ns)) c → c ≤ ns.length → (∀ b o, s.heap.get? b = some o → g.get? b = some o) → Q (.ref s.heap.objs.size) { s with heap := g, toks := tk }) :
    wpAny (model P w) A (call (.type "set") [.ref l]) Q E s := by
  have zu : us.size = ns.length := (Array.length_toList).symm.trans (IntsAre.length iu)
  obtain ⟨mc, mt, mr⟩ := F.called_set.mro
  have mk1 := F.called_set.made
  have mk2 := F.called_set.sub
  refine wpAny_call (codeAny_of_tree (by
    show wpAny _ _ (callAny (.type "set") _) _ _ _
    refine wpAny_pure ⟨Code.quiet_builtin _ (by decide +kernel), codeAny_builtin F.entry_type_call ?_⟩
    rw [Around.under_plain (weight_type_call_type "set" [.ref l] []) rfl]
    have nt := F.called_set.notType
    have cc := F.called_set.canCreate
    have tc := F.typeCall_set_1 (.ref l)
    repeat (any_goals (first | assumption | wp_step))
    refine codeAny_mono (code_set_led1 (.ref l) (E := E) (Q₁ := fun x t => x = .ref s.heap.objs.size ∧ t = { s with heap := s.heap.push (noSet w) }) ⟨rfl, rfl⟩) fun r t hr => ?_
    match r, hr with
    | .error e, hr => exact hr
    | .ok (.ret x), hr =>
      obtain ⟨rfl, rfl⟩ := hr
      have g0 : (s.heap.push (noSet w)).get? s.heap.objs.size = some (noSet w) := Heap.get?_push_size _ rfl
      have ty : Shared.TypeIs { s with heap := s.heap.push (noSet w) } (.ref s.heap.objs.size) "set" := ⟨_, g0, rfl⟩
      have lk1 := F.called_set.init.lookup
      have bd1 := F.called_set.init.bind (.ref s.heap.objs.size)
      repeat (any_goals (first | assumption | wp_step))
      refine codeAny_mono (codeAny_call_builtin (R := wants (fun x t => x = .none ∧ ∃ g tk c, t = { s with heap := g, toks := tk } ∧ SetR w g s.heap.objs.size (fun j => decide (j ∈ ns)) c ∧ c ≤ ns.length ∧ ∀ b o, s.heap.get? b = some o → g.get? b = some o) E) F.called_set.init.plain F.entry_set_init (check_set_init_1 ty ?_)) fun r2 t2 h2 => ?_
      · obtain ⟨⟨lc, ld, lx, ls⟩, ol, e1, n1, e2⟩ := il
        simp only at e1 e2
        subst e1
        subst e2
        have ol2 := Heap.get?_push_of_some (h := s.heap) (noSet w) ol
        have f1 := F.sub_list_set
        have f2 := F.sub_list_frozenset
        have f3 : (Value.type "list" == Value.type "dict") = false := by decide
        have il2 : (s.heap.push (noSet w)).IsList l us := ⟨_, ol2, rfl, n1, rfl⟩
        unfold Builtin.«set.__init__» noKeywords Builtin.Frozenset.updateFrom
        generalize hPI : pyIter = PI
        wp_walk
        subst hPI
        refine wpAny_pyIter_list il2 (wpAny_bind (wpAny_runValue ?_))
        have lt : l < s.heap.objs.size := Heap.lt_size ol
        have sz : (s.heap.push (noSet w)).objs.size = s.heap.objs.size + 1 := Heap.size_push ..
        have nh3 : A.in1.in1.in1.handled = none := by simp [nh]
        have ne1 : l ≠ (s.heap.push (noSet w)).objs.size := fun z => Nat.lt_irrefl _ (Nat.lt_of_lt_of_le (z ▸ lt) (sz ▸ Nat.le_succ _))
        have nin : s.heap.objs.size ∉ [(s.heap.push (noSet w)).objs.size, l] := not_in2 (fun z => Nat.lt_irrefl s.heap.objs.size (by rw [sz] at z; exact absurd z (Nat.ne_of_lt (Nat.lt_succ_self _)))) (fun z => Nat.lt_irrefl _ (z ▸ lt))
        have vals : ∀ (i : Nat) (v : Value), us[i]? = some v → ∃ k t, ns[i]? = some k ∧ v = .int k t := fun i v hv => by
          have li : i < ns.length := zu ▸ (Array.getElem?_eq_some_iff.mp hv).1
          have gi := List.getElem?_eq_getElem li
          obtain ⟨t, et⟩ := PyProof.Rows.IntsAre.int_at iu i v (Array.getElem?_toList ▸ hv)
          rw [List.getD_eq_getElem?_getD, gi] at et
          exact ⟨_, t, gi, et⟩
        refine set_update_ints ((Walks.list nh3 _ l ne1 us).toS) s.heap.objs.size nin ns zu room vals (us.size - 0) 0 _ (by omega) (Nat.zero_le _) ⟨⟨_, Heap.get?_push_size _ rfl, rfl, rfl⟩, (il2.push _)⟩ ⟨0, Nat.le_refl 0, setR_new_at (Heap.get?_push_of_some _ g0)⟩ fun t3 c m3 c3 R3 => ?_
        obtain ⟨g3, x1, x2, x3, x4⟩ := t3
        have q1 : x1 = s.gens := m3.gens
        have q2 : x2 = s.drawn := m3.drawn
        have q3 : x4 = s.os := m3.os
        subst q1
        subst q2
        subst q3
        show wpAny _ _ _ _ _ _
        refine wpAny_pure ?_
        show wpAny _ _ (ret Value.none) _ _ _
        refine wpAny_pure ⟨rfl, g3, x3, c, rfl, R3, zu ▸ c3, fun b o eb => ?_⟩
        have lb := Heap.lt_size eb
        exact m3.heap b o (fun hb => by
          rcases List.mem_cons.mp hb with z | z
          · exact Nat.ne_of_lt lb z
          · have z := List.mem_singleton.mp z
            rw [sz] at z
            exact Nat.ne_of_lt (Nat.lt_succ_of_lt lb) z) (Heap.get?_push_of_some _ (Heap.get?_push_of_some _ eb))
      · match r2, h2 with
        | .error e, h2 => exact h2
        | .ok (.ret x), h2 =>
          obtain ⟨rfl, g, tk, c, rfl, R, c1, kp⟩ := h2
          repeat (any_goals (first | assumption | wp_step))
          exact q g tk c R c1 kp))
end
end Da

set_option Elab.async false
set_option maxRecDepth 100000
set_option maxHeartbeats 4000000
set_option linter.all false
namespace Da
open PySem PySem.Spec PyProof.Rows L2 RZ HmS
def tSortSetL (K : PySem.W.Frag) (ta : TE) : TE := fun σ H Q => ta σ H fun x H1 => ∃ (l : Addr) (ns : List Int), x = .ref l ∧ SqL K H1 l (ns.map V.int) ∧ ns.length < 64 ∧ ∀ (ms : List Int) (p : Addr), ms.Pairwise (· < ·) → (∀ k : Int, k ∈ ms ↔ k ∈ ns) → H1 p = none → Q (.ref p) (upd H1 p (.lst (ms.map V.int)))
theorem pe_sortSetL {X : Cx} {K : PySem.W.Frag} {ta : TE} {a : Expr} {p p2 q pos : Pos} (hc : X.calm = true) (hg : Gl X "sorted") (hm : X.mg "sorted" = none) (hg2 : Gl X "set") (hm2 : X.mg "set" = none) (ha : PE X a ta)
    (na : starEach [a] X.env = (false, eval a X.env) :: starEach [] X.env := by rfl) (hK : X.K = K := by rfl) : PE X (.Call (.Name "sorted" p) [.Call (.Name "set" p2) [a] [] q] [] pos) (tSortSetL K ta) := by
  subst hK
  refine ⟨fun pins s σ H Q I h => ?_⟩
  have bs : bootBuiltins "sorted" = some (.builtin "sorted") := by decide +kernel
  have bt : bootBuiltins "set" = some (.type "set") := by decide +kernel
  refine Call_ (ld_blt I hg hm bs ?_)
  refine PyProof.Rows.callWith_builtin1 (PyProof.Rows.args_cons ?_ rfl) rfl rfl
  refine Call_ (ld_blt I hg2 hm2 bt ?_)
  refine PyProof.Rows.callWith_type1 (PyProof.Rows.args_cons (thn (ha.run pins s σ H _ I h) fun v s1 ⟨x, H1, I1, r1, q1⟩ => PyProof.Rows.args_nil ?_) na) na rfl
  obtain ⟨l, ns, rfl, hq, hl, q1⟩ := q1
  cases r1
  obtain ⟨its, r, pt, hz⟩ := I1.list hq
  have hh := I1.ok.hd hc
  refine call_setL ns hh pt.isList (by simpa using intsAre_vals r) (by unfold scanBound; omega) fun h' tk c' R hc' hk => ?_
  refine PyProof.Rows.args_nil ?_
  have I2 : Inv X pins σ H1 { s1 with heap := h', toks := tk } := I1.kept hk
  refine sorted_set (s := { s1 with heap := h', toks := tk }) R hh (by omega) fun s' p out c ms k g o hp hgp hi hs hmm hln => ?_
  have hn : H1 p = none := I2.hok.fresh hp
  have hsz : (ms.map V.int).length ≤ sizeLine := by rw [List.length_map, hln, sizeLine_eq]; omega
  have J : Inv X pins σ (upd H1 p (.lst (ms.map V.int))) { ({ s1 with heap := h', toks := tk } : Shared) with heap := s'.heap, gens := s'.gens, drawn := s'.drawn, toks := s'.toks } :=
    I2.call (ch := []) (Un.laid k hp hn) (I2.hok.laid k hp ⟨hsz, out.toList, c, vals_of_ints hi, hgp⟩) (by rw [g]; exact I2.bare) (fun _ z => nomatch z)
  have e : s' = { s1 with heap := s'.heap, gens := s'.gens, drawn := s'.drawn, toks := s'.toks } := by
    obtain ⟨x1, x2, x3, x4, x5⟩ := s'
    have o : x5 = s1.os := o
    subst o
    rfl
  rw [e]
  exact ⟨.ref p, _, J, rfl, q1 ms p hs (fun k => by rw [hmm k]; simp) hn⟩
def dSortSetL (da : DT) : DT := fun Γ φ => da Γ fun e Γ1 => wl e fun xs => ∃ is : List Int, xs = is.map D.int ∧ is.length < 64 ∧ ∀ ms : List Int, ms.Pairwise (· < ·) → (∀ k : Int, k ∈ ms ↔ k ∈ is) → φ (.lst (ms.map D.int)) Γ1
section
variable {K : PySem.W.Frag} [HasT K] {E : XK} {ψ : Value → Prop} {ta : TE} {da : DT}
instance snd_sortSetL [a : Snd K E ψ ta da] : Snd K E ψ (tSortSetL K ta) (dSortSetL da) := ⟨fun {c F H σ Γ φ Q} I eo h q => a.run I eo h fun F1 H1 v e Γ1 I1 s1 r1 h1 => by
  obtain ⟨F2, p, vs, xs, rfl, I2, s2, ep, rs, is, rfl, hl, h2⟩ := r1.frzL I1 h1
  rw [rs.of_ints] at ep
  refine ⟨p, is, rfl, SqL.of (I2.fh _ _ ep), hl, fun ms p h1' h2' hp => ?_⟩
  obtain ⟨I3, r3⟩ := I2.newL hp (Reps.ints ms)
  exact q _ _ _ _ _ I3 (s1.trans s2) r3 (h2 ms h1' h2')⟩
end
end Da

set_option Elab.async false
set_option maxRecDepth 100000
set_option maxHeartbeats 4000000
set_option linter.all false
namespace Da
open PySem PySem.Spec PyProof.Rows L2 RZ HmS
/-! ### t[::-1], t a tuple -/
theorem range_pick {α : Type} : ∀ l : List α, (List.range l.length).filterMap (fun k => l[k]?) = l
  | [] => rfl
  | a :: r => by
    rw [List.length_cons, List.range_succ_eq_map, List.filterMap_cons, List.filterMap_map]
    show a :: (List.range r.length).filterMap (fun k => r[k]?) = a :: r
    rw [range_pick r]
theorem fmap_eq {α β : Type} {f g : α → Option β} : ∀ {l : List α}, (∀ a ∈ l, f a = g a) → l.filterMap f = l.filterMap g
  | [], _ => rfl
  | a :: r, h => by rw [List.filterMap_cons, List.filterMap_cons, h a List.mem_cons_self, fmap_eq fun b hb => h b (List.mem_cons_of_mem _ hb)]
theorem pick_back (us : Array Value) : ((List.range us.size).filterMap fun (k : Nat) => us[(((us.size : Int) - 1) + (k : Int) * (-1)).toNat]?) = us.toList.reverse := by
  have e := range_pick us.toList.reverse
  rw [List.length_reverse, Array.length_toList] at e
  refine Eq.trans (fmap_eq fun k hk => ?_) e
  have hk := List.mem_range.mp hk
  rw [List.getElem?_reverse (by rw [Array.length_toList]; exact hk), Array.length_toList, Array.getElem?_toList]
  congr 1
  omega
theorem adjust_back (n : Nat) : Builtin.Slice.sliceAdjust none none (-1) (n : Int) = ((n : Int) - 1, -1) := rfl
theorem places_back (n : Nat) : Builtin.Slice.slicePlaces ((n : Int) - 1) (-1) (-1) = n := by
  unfold Builtin.Slice.slicePlaces
  rw [if_neg (by decide)]
  by_cases z : n = 0
  · subst z
    rfl
  · rw [if_pos (by omega)]
    have : ((n : Int) - 1 - -1 - 1) / - -1 + 1 = n := by
      rw [show (- -1 : Int) = 1 by decide, Int.ediv_one]
      omega
    rw [this]
    exact Int.toNat_natCast n
section
variable {P : Program} {w : World} {A : Around} {E : Value → Shared → Prop} {s : Shared}
theorem applied_back {sl : Addr} {vl vu vs : Value} {n : Nat} {Q : Int × Int × Nat → Shared → Prop} (hs : s.heap.IsSliceOf sl vl vu vs) (pl : IsPart vl none) (pu : IsPart vu none) (ps : IsPart vs (some (-1)))
    (q : Q ((n : Int) - 1, -1, n) s) : wpAny (model P w) A (Builtin.Slice.sliceApplied (.ref sl) (pure (n : Int))) Q E s := by
  obtain ⟨o, ho, _, hd⟩ := hs
  unfold Builtin.Slice.sliceApplied Builtin.Slice.sliceFields
  refine wpAny_bind (wpAny_bind (wpAny_field ho hd (x := vl) rfl (wpAny_bind (wpAny_field ho hd (x := vu) rfl (wpAny_bind (wpAny_field ho hd (x := vs) rfl (wpAny_pure ?_)))))))
  refine wpAny_bind (HT.slicePart_ ps ?_)
  show wpAny _ _ (if ((-1 : Int) == 0) = true then _ else _) _ _ s
  rw [if_neg (by decide)]
  refine wpAny_bind (HT.slicePart_ pl (wpAny_bind (HT.slicePart_ pu (wpAny_bind (wpAny_pure ?_)))))
  show wpAny _ _ (pure ((n : Int) - 1, (-1 : Int), Builtin.Slice.slicePlaces ((n : Int) - 1) (-1) (-1))) _ _ s
  rw [places_back]
  exact wpAny_pure q
theorem getItem_back {t sl : Addr} {us : Array Value} {vl vu vs : Value} {Q : Value → Shared → Prop} (ht : IsTup s.heap t us) (hs : s.heap.IsSliceOf sl vl vu vs) (pl : IsPart vl none) (pu : IsPart vu none) (ps : IsPart vs (some (-1)))
    (q : Q (.ref s.heap.objs.size) { s with heap := s.heap.push { cls := .type "tuple", data := .seq us.toList.reverse.toArray } }) (hz : us.size ≤ sizeLine) : wpAny (model P w) A (getItem (.ref t) (.ref sl)) Q E s := by
  have fits : sizeOk (.seq us.toList.reverse.toArray) := by
    show us.toList.reverse.toArray.size ≤ sizeLine
    rw [List.size_toArray, List.length_reverse, Array.length_toList]
    exact hz
  have hs' := hs
  obtain ⟨o, ho, hc, hd⟩ := hs'
  have ts : s.TypeIs (.ref sl) "slice" := ⟨o, ho, hc⟩
  unfold getItem
  try with_reducible refine wpAny_holding ?_
  first | refine wpAny_bind (wpAny_pure ?_) | skip
  refine wpAny_bind (wpAny_sequenceKey ht.typeIs (by decide) ?_)
  refine wpAny_bind (wpAny_callSpecial?_slot (name := Str.ofString "__getitem__") ht.typeIs PyProof.Rows.slot_tuple_getitem (wpAny_call_entry PyProof.Rows.slot_tuple_getitem ht.typeIs PyProof.Rows.entry_tuple_getitem ?_ (PyProof.Rows.args_tuple_getitem _ _)))
  show wpAny _ _ (Builtin.Tuple.tupleItemsOf (.ref t) >>= _) _ _ s
  refine wpAny_bind (PyProof.Rows.tupleItemsOf_ ht (wpAny_bind (wpAny_typeOf ts ?_)))
  rw [if_pos (by decide)]
  refine wpAny_bind (applied_back hs pl pu ps ?_)
  have no : ¬ ((((us.size : Int) - 1) == 0 && (-1 : Int) == 1 && us.size == us.size) = true) := fun z => by
    rw [Bool.and_eq_true, Bool.and_eq_true] at z
    exact absurd (eq_of_beq z.1.2) (by decide)
  show wpAny _ _ (if (((us.size : Int) - 1) == 0 && (-1 : Int) == 1 && us.size == us.size) = true then _ else _) _ _ s
  rw [if_neg no, pick_back]
  first
    | exact wpAny_bind (m := Builtin.Tuple.tupleExact _) (wpAny_newObj_type (wpAny_pure ⟨_, rfl, wpAny_pure q⟩) fits)
    | exact wpAny_bind (m := Builtin.Tuple.tupleExact _) (wpAny_newObj_type (wpAny_bind (wpAny_pure (wpAny_pure ⟨_, rfl, wpAny_pure q⟩))) fits)
    | exact wpAny_bind (wpAny_bind (m := Builtin.Tuple.tupleExact _) (wpAny_newObj_type (wpAny_pure (wpAny_pure ⟨_, rfl, wpAny_pure q⟩)) fits))
    | exact wpAny_bind (wpAny_bind (m := Builtin.Tuple.tupleExact _) (wpAny_newObj_type (wpAny_pure ⟨_, rfl, wpAny_pure q⟩) fits))
end
end Da

set_option Elab.async false
set_option maxRecDepth 100000
set_option maxHeartbeats 4000000
set_option linter.all false
namespace Da
open PySem PySem.Spec PyProof.Rows L2 RZ HmS
def tRevT (K : PySem.W.Frag) (te : TE) : TE := fun σ H Q => te σ H fun x H1 => ∃ a xs, x = .ref a ∧ SqT K H1 a xs ∧ ∀ p, H1 p = none → Q (.ref p) (upd H1 p (.tup xs.reverse))
theorem pe_revT {X : Cx} {K : PySem.W.Frag} {te : TE} {e : Expr} {j : Nat} {p1 p2 p3 pos : Pos} (he : PE X e te) (hK : X.K = K := by rfl) : PE X (.Subscript e (.Slice none none (some (.UnaryOp .USub (.Constant (.int 1) j p1) p2)) p3) pos) (tRevT K te) := by
  subst hK
  have back : PO X (some (.UnaryOp .USub (.Constant (.int 1) j p1) p2)) (tPart (tUn (rU fun i => .int (-i)) (tC (.int 1)))) := po_some (pe_un un_neg pe_int)
  refine ⟨fun pins s σ H Q I h => Subscript_ (thn (he.run pins s σ H _ I h) fun v s1 ⟨x, H1, I1, r1, a, xs, ex, hx, q⟩ => ?_)⟩
  subst ex
  cases r1
  refine wpAny_Slice (thn (po_none.run pins s1 σ H1 (fun o G => o = none ∧ G = H1) I1 ⟨rfl, rfl⟩) fun vl s2 ⟨_, _, I2, pl, e1, e2⟩ => ?_)
  subst e1
  subst e2
  refine thn (po_none.run pins s2 σ _ (fun o G => o = none ∧ G = _) I2 ⟨rfl, rfl⟩) fun vu s3 ⟨_, _, I3, pu, e1, e2⟩ => ?_
  subst e1
  subst e2
  refine thn (back.run pins s3 σ _ (fun o G => o = some (-1) ∧ G = _) I3 ⟨1, rfl, -1, rfl, rfl, rfl⟩) fun vs s4 ⟨_, H4, I4, ps, e1, e2⟩ => ?_
  subst e1
  subst e2
  have I5 := I4.kept (t' := s4.toks) (h' := s4.heap.push { cls := .type "slice", data := .fields #[vl, vu, vs] }) fun b ob q => Heap.get?_push_of_some _ q
  obtain ⟨its, r, ht, hz⟩ := I5.tuple hx
  show wpAny (model X.prog X.w) X.A (subscriptTail e (.Slice none none (some (.UnaryOp .USub (.Constant (.int 1) j p1) p2)) p3) (.ref a) (.ref s4.heap.objs.size)) (EP X pins σ Q) X.xe { s4 with heap := s4.heap.push { cls := .type "slice", data := .fields #[vl, vu, vs] } }
  refine tail_any (ops := [.ref a, .ref s4.heap.objs.size]) ht.typeIs (PyProof.Rows.slot_tuple_getitem.lookup) ?_ (by with_unfolding_all rfl)
  refine getItem_back ht (Heap.IsSliceOf.new _ vl vu vs) pl pu ps ?_ (by rw [List.size_toArray, ← r.length]; exact hz)
  refine ⟨.ref _, _, I5.laid (t' := s4.toks) (o := .tup xs.reverse) (fun b ob q => Heap.get?_push_of_some _ q) (Nat.le_refl _) ?_, rfl, q _ (I5.hok.fresh (Nat.le_refl _))⟩
  exact ⟨by rw [List.length_reverse]; exact hz, _, r.reverse, IsTup.new _ _⟩
section
variable {K : PySem.W.Frag} [HasT K] {E : XK} {ψ : Value → Prop} {te ta tb : TE} {da db : DT} {al : TA} {dal : DA}
theorem Reps.rev {F : Hp} {vs : List V} {ds : List D} (r : Reps F vs ds) : Reps F vs.reverse ds.reverse := by
  induction r using Reps.rec (motive_1 := fun _ _ _ => True) with
  | nil => exact .nil
  | cons a b _ ih =>
    rw [List.reverse_cons, List.reverse_cons]
    exact ih.snoc a
  | _ => trivial
def dRevT (da : DT) : DT := fun Γ φ => da Γ fun e Γ1 => wt e fun xs => φ (.d (.tup xs.reverse)) Γ1
instance snd_revT [a : Snd K E ψ ta da] : Snd K E ψ (tRevT K ta) (dRevT da) := ⟨fun {c F H σ Γ φ Q} I eo h q => a.run I eo h fun F1 H1 v e Γ1 I1 s1 r1 h1 => by
  obtain ⟨xs, rfl, h1⟩ := wt_of h1
  cases (show Rep F1 v (.tup xs) from r1.1) with
  | @tup p vs _ e rs =>
    refine ⟨p, vs, rfl, SqT.of (I1.fh _ _ e), fun l hl => ?_⟩
    obtain ⟨I2, s2, _⟩ := I1.new (o := .tup vs.reverse) hl
    exact q _ _ _ _ Γ1 I2 (s1.trans s2) (Res.d (.tup upd_same (rs.rev.mono s2))) h1⟩
/-! ### {'k': e} -/
def dDisp1 (z : Str) (da : DT) : DT := fun Γ φ => da Γ fun e Γ1 => wf e fun x => φ (.dK [.inr z] [x]) Γ1
instance snd_disp1 {z : Str} [s : Snd K E ψ ta da] : Snd K E ψ (tDisp [(tC (.str z), ta)]) (dDisp1 z da) := ⟨fun {c F H σ Γ φ Q} I eo h q => by
  intro p hp
  have pn : c.pn ≠ some p := fun w => (I.pp p w).2.1.there hp
  have f0 : c.F0 p = none := I.f0.free (I.unF hp)
  have fr : Free c F σ Γ p := ⟨I.unF hp, I.un hp, pn, I.fresh hp⟩
  have I' := (I.newH (o := .dK []) hp).guard fr upd_same
  refine s.frz (φ := fun _ _ => True) (k := fun x Γ1 => φ (.dK [.inr z] [x]) Γ1) I' eo.guard h fun F1 H1 v x Γ1 I1 s1 rp h1 => ?_
  have g1 := I1.guarded pn
  have f1 := I1.freed pn f0 (fun vs z => nomatch z)
  refine ⟨g1, [(.inr z, v)], rfl, by simp, ?_⟩
  have e : mergeK [] [((.inr z : Key), v)] = [(.inr z, v)] := rfl
  rw [e]
  exact q F1 _ (.ref p) (.dK [.inr z] [x]) Γ1 ((I1.unguard pn).chg f1 g1 (plain_dK _)) s1 ⟨⟨p, [(.inr z, v)], rfl, f1.f, f1.h0, upd_same, rfl, .cons rp .nil⟩, (fun w => nomatch w), fun _ a ea => by cases ea; exact f1.sl⟩ h1⟩
/-! ### texts -/
def rStrI : List V → Hp → VK → Prop := fun xs H Q => ∃ i, xs = [.int i] ∧ i.natAbs.log2 < 1920 ∧ Q (.str (toString i)) H
theorem cl_strI {X : Cx} : CallR X (.type "str") rStrI := call_str_int
def dStrIR (xs : List D) (φ : En → Prop) : Prop := match xs with
  | [.int i] => i.natAbs.log2 < 1920 ∧ φ (.d (.str (toString i)))
  | _ => False
instance snd_strI : SndC K rStrI dStrIR := ⟨fun {c F H σ Γ xs ds φ Q} I r h q => by
  match ds, r, h with
  | [.int i], r, h =>
    obtain ⟨x, rfl, rp⟩ := one_of r
    cases rp
    exact ⟨i, rfl, h.1, q F H _ _ I (Same.refl F) (Res.d (.str _)) h.2⟩⟩
def rAddS : R2 := fun x y H Q => ∃ i j, x = .str i ∧ y = .str j ∧ i.length + j.length ≤ sizeLine ∧ Q (.str (i ++ j)) H
theorem op_addS {X : Cx} : OpR X (binaryOp .Add) rAddS := op_add_str
def dAddS (x y : D) (φ : En → Prop) : Prop := match x, y with
  | .str i, .str j => i.length + j.length ≤ 1000000 ∧ φ (.d (.str (i ++ j)))
  | _, _ => False
instance snd_addS : SndR K rAddS dAddS := ⟨fun {c F H σ Γ x y d e φ Q} I rx ry h q => by
  match d, e, rx, ry, h with
  | .str i, .str j, .str _, .str _, h => exact ⟨i, j, rfl, rfl, Nat.le_trans h.1 (by decide), q F H _ _ I (Same.refl F) (Res.d (.str _)) h.2⟩⟩
def dSlS (da : DT) (dl dh : List En → (Option Int → List En → Prop) → Prop) : DT := fun Γ φ => da Γ fun e Γ1 => wf e fun x => dl Γ1 fun lo Γ2 => dh Γ2 fun hi Γ3 => match x with
  | .str z => z.length ≤ 1000000 ∧ φ (.d (.str (cutS z lo hi))) Γ3
  | _ => False
instance snd_slS {tl th : TO} {dl dh : List En → (Option Int → List En → Prop) → Prop} [sa : Snd K E ψ ta da] [sl : SndO K E ψ tl dl] [sh : SndO K E ψ th dh] : Snd K E ψ (tSl rSlS ta tl th) (dSlS da dl dh) := ⟨fun {c F H σ Γ φ Q} I eo h q => by
  refine sa.frz (φ := fun _ _ => True) (k := fun x Γ1 => dl Γ1 fun lo Γ2 => dh Γ2 fun hi Γ3 => match x with
  | .str z => z.length ≤ 1000000 ∧ φ (.d (.str (cutS z lo hi))) Γ3
  | _ => False) I eo h fun F1 H1 v x Γ1 I1 s1 r1 h1 => ?_
  refine sl.run I1 eo h1 fun F2 H2 lo Γ2 I2 s2 h2 => ?_
  refine sh.run I2 eo h2 fun F3 H3 hi Γ3 I3 s3 h3 => ?_
  cases x with
  | str z =>
    cases r1
    exact ⟨z, rfl, Nat.le_trans h3.1 (by decide), q F3 H3 _ _ Γ3 I3 ((s1.trans s2).trans s3) (Res.d (.str _)) h3.2⟩
  | _ => exact h3.elim⟩
def rUpS : V → List V → Hp → VK → Prop := fun x xs H Q => ∃ a, x = .str a ∧ xs = [] ∧ a.length ≤ 5592405 ∧ Q (.str (Txt.upper a)) H
def dUpS (da : DT) : DT := fun Γ φ => da Γ fun e Γ1 => wf e fun x => match x with
  | .str a => a.length ≤ 1000000 ∧ φ (.d (.str (Txt.upper a))) Γ1
  | _ => False
instance snd_upS [s : Snd K E ψ ta da] : Snd K E ψ (tM0 rUpS ta) (dUpS da) := ⟨fun {c F H σ Γ φ Q} I eo h q => by
  refine s.frz (φ := fun _ _ => True) (k := fun x Γ1 => match x with
  | .str a => a.length ≤ 1000000 ∧ φ (.d (.str (Txt.upper a))) Γ1
  | _ => False) I eo h fun F1 H1 v x Γ1 I1 s1 r1 h1 => ?_
  cases x with
  | str a =>
    cases r1
    exact ⟨⟨a, rfl⟩, a, rfl, rfl, by have := h1.1; omega, q F1 H1 _ _ Γ1 I1 s1 (Res.d (.str _)) h1.2⟩
  | _ => exact h1.elim⟩
/-! ### min(xs, default=d) -/
def rMinDef (K : PySem.W.Frag) : List V → List V → Hp → VK → Prop := fun vs zs H Q => ∃ (a : Addr) (xs : List V) (d : V) (ds : List PyData), vs = [.ref a] ∧ zs = [d] ∧ SqL K H a xs ∧ DpAll K H xs ds ∧ PySem.W.AlikeAll ds ∧ PyData.depthAll ds ≤ 60 ∧
  (ds = [] → Q d H) ∧ ∀ (x : PyData) (es : List PyData), ds = x :: es → ∀ (i : Nat) v, xs[i]? = some v → ds[i]? = some (PySem.W.minD x es) → Q v H
theorem cr_minDef {X : Cx} (hc : X.calm = true) (hu : X.A.units + 64 < cLine) : CallRK X (.builtin "min") [Str.ofString "default"] (rMinDef X.K) := by
  intro pins s σ H vs zs us ws Q I r rz h
  obtain ⟨a, xs, d, ds, rfl, rfl, hs, hd, al, dp, q0, q⟩ := h
  obtain rfl := Vals.ref1 r
  obtain ⟨wd, rfl, ed⟩ := vals1 rz
  obtain ⟨its, rv, pl, _⟩ := I.list hs
  obtain ⟨as, rd⟩ := Dp.readsAll I ds xs its hd rv
  refine PySem.W.min_list_default (vs := its.toArray) (I.ok.hd hc) pl.isList (by simpa using rd) al (by omega) (fun e h' tk hk => ⟨d, H, I.kept hk, ed, q0 e⟩) fun x es i v h' tk bs e hv hr hk => ?_
  have hv : its[i]? = some v := by simpa using hv
  obtain ⟨w, hw, rw1⟩ := vals_get rv hv
  obtain ⟨d2, hd1, dp1⟩ := dpAll_get hd hw
  obtain ⟨as2, rd2⟩ := Dp.reads I d2 w v dp1 rw1
  have e2 := (PyProof.Rows.reads_det (fun b o e _ => hk b o e) rd2 hr).1
  exact ⟨w, H, I.kept hk, rw1, q x es e i w hw (by rw [e2]; exact hd1)⟩
def dMinDefR (xs : List D) (d : D) (φ : En → Prop) : Prop := match xs with
  | [.lst []] => φ (.d d)
  | [.lst (x :: ds)] => dMinR [.lst (x :: ds)] φ
  | _ => False
def dMinDef (da db : DT) : DT := fun Γ φ => da Γ fun e Γ1 => wf e fun x => db Γ1 fun e' Γ2 => wf e' fun d => dMinDefR [x] d fun z => φ z Γ2
instance snd_minDef [sa : Snd K E ψ ta da] [sb : Snd K E ψ tb db] : Snd K E ψ (tCKw (rMinDef K) (tCons ta tNil) (tCons tb tNil)) (dMinDef da db) := ⟨fun {c F H σ Γ φ Q} I eo h q => by
  refine sa.frz (φ := fun _ _ => True) (k := fun x Γ1 => db Γ1 fun e' Γ2 => wf e' fun d => dMinDefR [x] d fun z => φ z Γ2) I eo h fun F1 H1 v x Γ1 I1 s1 r1 h1 => ?_
  refine sb.frz (φ := fun _ _ => True) (k := fun d Γ2 => dMinDefR [x] d fun z => φ z Γ2) I1 eo h1 fun F2 H2 u d Γ2 I2 s2 r2 h2 => ?_
  have r1' := r1.mono s2
  cases x with
  | lst xs =>
    cases r1' with
    | @lst a vs _ e rs =>
      cases xs with
      | nil =>
        cases rs
        exact ⟨a, [], u, [], rfl, rfl, SqL.of (I2.fh _ _ e), .nil, ⟨by simp, by simp⟩, by simp [PyData.depthAll], fun _ => q F2 H2 _ _ Γ2 I2 (s1.trans s2) (Res.d r2) h2, fun x es z => nomatch z⟩
      | cons x es =>
        obtain ⟨h1, h3, h4, h5⟩ := h2
        refine ⟨a, vs, u, pys (x :: es), rfl, rfl, SqL.of (I2.fh _ _ e), rs.dp I2.fh h1, h3, h4, (fun z => by simp [pys] at z), fun y ys e1 i v hv hm => ?_⟩
        obtain ⟨w, hy, rpy⟩ := rs.getV hv
        obtain ⟨z, hz, ez⟩ := pys_get (ds := x :: es) (i := i) hm
        rw [hy] at hz
        cases hz
        rw [pys] at e1
        cases e1
        exact q F2 H2 v _ Γ2 I2 (s1.trans s2) (Res.d rpy) (h5 w (List.mem_of_getElem? hy) ez)
  | _ => exact h2.elim⟩
end
end Da

set_option Elab.async false
set_option maxRecDepth 100000
set_option maxHeartbeats 4000000
set_option linter.all false
namespace Da
open PySem PySem.Spec PyProof.Rows L2 RZ HmS
theorem pe_upS {X : Cx} {o : Expr} {to : TE} {apos pos : Pos} (ho : PE X o to) (hbase : attributeBase o "upper" X.env (eval o X.env) = eval o X.env := by rfl) (hline : (apos.endLine == pos.line) = true := by rfl) :
    PE X (.Call (.Attribute o "upper" apos) [] [] pos) (tM0 rUpS to) := pe_upper ho hbase hline
/-! ### things of whatever kind, as the laws make them -/
mutual
def D.good : D → Bool
  | .tup xs => goods xs && decide (xs.length ≤ 100)
  | .lst xs => goods xs && decide (xs.length ≤ 100)
  | .dK _ xs => goods xs
  | .dT _ _ => false
  | .ins _ _ _ => false
  | .str s => decide (s.length ≤ 1000)
  | _ => true
def goods : List D → Bool
  | [] => true
  | x :: r => x.good && goods r
end
theorem good_ty {x : D} (h : x.good = true) : x.ty.isSome = true := by
  cases x <;> first | rfl | exact absurd h Bool.false_ne_true
theorem goods_mem : ∀ {xs : List D}, goods xs = true → ∀ x ∈ xs, x.good = true
  | [], _, x, h => by simp at h
  | y :: r, g, x, h => by
    rw [goods, Bool.and_eq_true] at g
    rcases List.mem_cons.mp h with z | z
    · rw [z]
      exact g.1
    · exact goods_mem g.2 x z
theorem goods_of : ∀ {xs : List D}, (∀ x ∈ xs, x.good = true) → goods xs = true
  | [], _ => rfl
  | y :: r, h => by
    rw [goods, h y List.mem_cons_self, goods_of fun x hx => h x (List.mem_cons_of_mem _ hx)]
    rfl
theorem good_tup {xs : List D} (h : ∀ x ∈ xs, x.good = true) (l : xs.length ≤ 100) : (D.tup xs).good = true := by
  rw [D.good, goods_of h, Bool.true_and]
  exact decide_eq_true l
theorem good_lst {xs : List D} (h : ∀ x ∈ xs, x.good = true) (l : xs.length ≤ 100) : (D.lst xs).good = true := by
  rw [D.good, goods_of h, Bool.true_and]
  exact decide_eq_true l
theorem tup_good {xs : List D} (h : (D.tup xs).good = true) : (∀ x ∈ xs, x.good = true) ∧ xs.length ≤ 100 := by
  rw [D.good, Bool.and_eq_true, decide_eq_true_eq] at h
  exact ⟨goods_mem h.1, h.2⟩
/-- what is spoilt: numbers, texts, tuples of them, of depth below n -/
def D.base : Nat → D → Bool
  | _, .int i => decide (i.natAbs < 2 ^ 40)
  | _, .str s => decide (s.length ≤ 100) && (D.str s).fitb 1
  | n + 1, .tup xs => decide (xs.length ≤ 30) && xs.all fun x => D.base n x
  | _, _ => false
theorem base_good : ∀ {n : Nat} {x : D}, x.base n = true → x.good = true
  | n, .int i, _ => rfl
  | n, .str s, h => by
    cases n <;> (simp only [D.base, Bool.and_eq_true, decide_eq_true_eq] at h; rw [D.good, decide_eq_true_eq]; omega)
  | n + 1, .tup xs, h => by
    simp only [D.base, Bool.and_eq_true, decide_eq_true_eq, List.all_eq_true] at h
    exact good_tup (fun x hx => base_good (h.2 x hx)) (by omega)
  | 0, .tup xs, h => by simp [D.base] at h
  | n, .non, h => by cases n <;> simp [D.base] at h
  | n, .bl b, h => by cases n <;> simp [D.base] at h
  | n, .lst xs, h => by cases n <;> simp [D.base] at h
  | n, .dK ks xs, h => by cases n <;> simp [D.base] at h
  | n, .dT ks xs, h => by cases n <;> simp [D.base] at h
  | n, .ins C ns xs, h => by cases n <;> simp [D.base] at h
theorem base_fit : ∀ {n : Nat} {x : D}, x.base n = true → x.fitb (n + 1) = true
  | n, .int i, _ => fitb_mono (fitb_int i) (by omega)
  | n, .str s, h => by
    have : (D.str s).fitb 1 = true := by cases n <;> (simp only [D.base, Bool.and_eq_true] at h; exact h.2)
    exact fitb_mono this (by omega)
  | n + 1, .tup xs, h => by
    simp only [D.base, Bool.and_eq_true, decide_eq_true_eq, List.all_eq_true] at h
    exact fitb_tup fun x hx => base_fit (h.2 x hx)
  | 0, .tup xs, h => by simp [D.base] at h
  | n, .non, h => by cases n <;> simp [D.base] at h
  | n, .bl b, h => by cases n <;> simp [D.base] at h
  | n, .lst xs, h => by cases n <;> simp [D.base] at h
  | n, .dK ks xs, h => by cases n <;> simp [D.base] at h
  | n, .dT ks xs, h => by cases n <;> simp [D.base] at h
  | n, .ins C ns xs, h => by cases n <;> simp [D.base] at h
theorem base_tup {n : Nat} {xs : List D} (h : (D.tup xs).base n = true) : ∃ m, n = m + 1 ∧ xs.length ≤ 30 ∧ ∀ x ∈ xs, x.base m = true := by
  cases n with
  | zero => simp [D.base] at h
  | succ m =>
    simp only [D.base, Bool.and_eq_true, decide_eq_true_eq, List.all_eq_true] at h
    exact ⟨m, rfl, h.1, h.2⟩
end Da

set_option Elab.async false
set_option maxRecDepth 100000
set_option maxHeartbeats 4000000
set_option linter.all false
namespace Da
open PySem PySem.Spec PyProof.Rows L2 RZ HmS
/-! ### small steps of reading -/
theorem dVarW {i : Nat} {Γ : List En} {x : D} {k : D → List En → Prop} (g : Γ[i]? = some (.d x)) (h : k x Γ) : dVar i Γ (fun e Γ1 => wf e fun x => k x Γ1) := by
  unfold dVar
  rw [g]
  exact h
theorem dVarL {i : Nat} {Γ Γ' : List En} {xs : List D} {k : D → List En → Prop} (g : Γ[i]? = some (.lst xs)) (e : Γ.set i (.d (.lst xs)) = Γ') (h : k (.lst xs) Γ') : dVar i Γ (fun e Γ1 => wf e fun x => k x Γ1) := by
  unfold dVar
  rw [g]
  subst e
  exact h
theorem ifJ {b : Bool} {dt : DSt} {Γ Γ0 : List En} {N : List En → Prop} {rt : En → Prop} {bk ct : List En → Prop} (R : List En → Prop) (h2 : b = false → R Γ0) (h1 : b = true → ∀ P : Po, (∀ Γ, R Γ → P.nx Γ) → dt Γ P) (tail : ∀ Γ, R Γ → N Γ) :
    if b = true then dt Γ ⟨N, rt, bk, ct⟩ else N Γ0 := by
  cases b with
  | true => exact iteT (h1 rfl _ tail)
  | false => exact iteF (tail _ (h2 rfl))
/-- the inner part of a comprehension without a test, once its items are known -/
theorem lcP {vs : List Nat} {dg : D → List En → (List En → Prop) → Prop} {de : DT} {Γ1 Γw : List En} {φ : En → List En → Prop} {items : List D} (f : D → D)
    (hw1 : wipeE Γ1 vs = Γw) (hw : wipeE Γw vs = Γw) (hl : items.length ≤ 100000) (ev : ∀ d ∈ items, ∀ ψ : En → List En → Prop, (∀ e Γ4, e.frz = some (f d) → wipeE Γ4 vs = Γw → ψ e Γ4) → dg d Γw fun Γ2 => de Γ2 ψ)
    (k : φ (.lst (items.map f)) Γw) : items.length ≤ 100000 ∧ ∃ I : Nat → List D → List En → Prop, I 0 [] (wipeE Γ1 vs) ∧
  ∀ i acc Γ', I i acc Γ' → (i = items.length → φ (.lst acc) Γ') ∧ ∀ d, items[i]? = some d → dg d (wipeE Γ' vs) fun Γ2 => dYes Γ2 fun b Γ3 => if b = true then de Γ3 fun e Γ4 => wf e fun z => I (i + 1) (acc ++ [z]) (wipeE Γ4 vs) else I (i + 1) acc (wipeE Γ3 vs) := by
  have h := dLc_pure (vs := vs) (gv := []) (di := fun Γ ψ => ψ items Γ) (dg := dg) (de := de) (Γ := Γ1) (φ := φ) f rfl (fun ψ h => h) hw1 hw hl ev k
  exact h.2
theorem lcF {vs : List Nat} {dg : D → List En → (List En → Prop) → Prop} {dtt : DB} {de : DT} {Γ1 Γw : List En} {φ : En → List En → Prop} {items : List D} (p : D → Bool) (f : D → D)
    (hw1 : wipeE Γ1 vs = Γw) (hw : wipeE Γw vs = Γw) (hl : items.length ≤ 100000)
    (ev : ∀ d ∈ items, ∀ ψ : Bool → List En → Prop, (∀ Γ3, wipeE Γ3 vs = Γw → (p d = true → ∀ ψ' : En → List En → Prop, (∀ e Γ4, e.frz = some (f d) → wipeE Γ4 vs = Γw → ψ' e Γ4) → de Γ3 ψ') → ψ (p d) Γ3) → dg d Γw fun Γ2 => dtt Γ2 ψ)
    (k : φ (.lst ((items.filter p).map f)) Γw) : items.length ≤ 100000 ∧ ∃ I : Nat → List D → List En → Prop, I 0 [] (wipeE Γ1 vs) ∧
  ∀ i acc Γ', I i acc Γ' → (i = items.length → φ (.lst acc) Γ') ∧ ∀ d, items[i]? = some d → dg d (wipeE Γ' vs) fun Γ2 => dtt Γ2 fun b Γ3 => if b = true then de Γ3 fun e Γ4 => wf e fun z => I (i + 1) (acc ++ [z]) (wipeE Γ4 vs) else I (i + 1) acc (wipeE Γ3 vs) := by
  have h := dLc_filt (vs := vs) (gv := []) (di := fun Γ ψ => ψ items Γ) (dg := dg) (dtt := dtt) (de := de) (Γ := Γ1) (φ := φ) p f rfl (fun ψ h => h) hw1 hw hl ev k
  exact h.2
/-- an if without else that is followed by more -/
theorem seqIf {dtt : DB} {dt du : DSt} {Γ : List En} {P : Po} (R : List En → Prop) (main : ∀ N : List En → Prop, (∀ Γ', R Γ' → N Γ') → dtt Γ fun b Γ1 => if b = true then dt Γ1 { P with nx := N } else N Γ1) (tail : ∀ Γ', R Γ' → du Γ' P) : dSeq (dIfS dtt dt dNext) du Γ P :=
  main (fun Γ' => du Γ' P) tail
/-- the items are known by what is said of them alone -/
theorem dLc_pureE {vs gv : List Nat} {di : DA} {dg : D → List En → (List En → Prop) → Prop} {de : DT} {Γ Γ1 Γw : List En} {φ : En → List En → Prop} (R : List D → Prop) (f : D → D) (hgv : (gv.all fun i => vs.contains i) = true) (hdi : ∀ ψ : List D → List En → Prop, (∀ items, R items → ψ items Γ1) → di Γ ψ)
    (hw1 : wipeE Γ1 vs = Γw) (hw : wipeE Γw vs = Γw) (hl : ∀ items, R items → items.length ≤ 100000) (ev : ∀ items, R items → ∀ d ∈ items, ∀ ψ : En → List En → Prop, (∀ e Γ4, e.frz = some (f d) → wipeE Γ4 vs = Γw → ψ e Γ4) → dg d Γw fun Γ2 => de Γ2 ψ)
    (k : ∀ items, R items → φ (.lst (items.map f)) Γw) : dLc vs gv di dg dYes de Γ φ :=
  ⟨hgv, hdi _ fun items r => lcP f hw1 hw (hl items r) (ev items r) (k items r)⟩
theorem dLc_filtE {vs gv : List Nat} {di : DA} {dg : D → List En → (List En → Prop) → Prop} {dtt : DB} {de : DT} {Γ Γ1 Γw : List En} {φ : En → List En → Prop} (R : List D → Prop) (p : D → Bool) (f : D → D) (hgv : (gv.all fun i => vs.contains i) = true) (hdi : ∀ ψ : List D → List En → Prop, (∀ items, R items → ψ items Γ1) → di Γ ψ)
    (hw1 : wipeE Γ1 vs = Γw) (hw : wipeE Γw vs = Γw) (hl : ∀ items, R items → items.length ≤ 100000)
    (ev : ∀ items, R items → ∀ d ∈ items, ∀ ψ : Bool → List En → Prop, (∀ Γ3, wipeE Γ3 vs = Γw → (p d = true → ∀ ψ' : En → List En → Prop, (∀ e Γ4, e.frz = some (f d) → wipeE Γ4 vs = Γw → ψ' e Γ4) → de Γ3 ψ') → ψ (p d) Γ3) → dg d Γw fun Γ2 => dtt Γ2 ψ)
    (k : ∀ items, R items → φ (.lst ((items.filter p).map f)) Γw) : dLc vs gv di dg dtt de Γ φ :=
  ⟨hgv, hdi _ fun items r => lcF p f hw1 hw (hl items r) (ev items r) (k items r)⟩
end Da

set_option Elab.async false
set_option maxRecDepth 100000
set_option maxHeartbeats 4000000
set_option linter.all false
namespace Da
open PySem PySem.Spec PyProof.Rows L2 RZ HmS
/-! ### == and != beside [] and (), whatever the parts are -/
def rEqE (K : PySem.W.Frag) (neg : Bool) : R2 := fun x y H Q => ∃ (a b : Addr) (xs : List V), x = .ref a ∧ y = .ref b ∧ ((SqL K H a xs ∧ SqL K H b []) ∨ (SqT K H a xs ∧ SqT K H b [])) ∧ Q (.bl (if neg then !xs.isEmpty else xs.isEmpty)) H
section
variable {X : Cx}
theorem op_eqE (hu : X.A.units + 64 < cLine) : OpR X (compareOp .Eq) (rEqE X.K false) := by
  intro pins s σ H x y v u Q I rx ry h
  obtain ⟨a, b, xs, rfl, rfl, hs, q⟩ := h
  cases rx
  cases ry
  have h0 : X.A.units < cLine := by omega
  rcases hs with ⟨h1, h2⟩ | ⟨h1, h2⟩
  · obtain ⟨its, r1, ⟨o1, n1, e1, c1, _, d1⟩, _⟩ := I.list h1
    obtain ⟨jts, r2, ⟨o2, n2, e2, c2, _, d2⟩, _⟩ := I.list h2
    cases r2
    cases r1 with
    | nil => exact SeqAt.RcAt.lists ⟨o1, e1, c1, n1, d1⟩ ⟨o2, e2, c2, n2, d2⟩ rfl h0 (e := fun _ => true) (fun j hj => absurd hj (by simp)) X.prog X.w _ _ ⟨.bl _, H, I, rfl, q⟩
    | cons r rr => exact SeqAt.RcAt.lists_lengths ⟨o1, e1, c1, n1, d1⟩ ⟨o2, e2, c2, n2, d2⟩ (by simp) h0 X.prog X.w _ _ ⟨.bl _, H, I, rfl, q⟩
  · obtain ⟨its, r1, ⟨o1, e1, c1, n1, d1⟩, _⟩ := I.tuple h1
    obtain ⟨jts, r2, ⟨o2, e2, c2, n2, d2⟩, _⟩ := I.tuple h2
    cases r2
    refine SeqAt.RcAt.tuples ⟨o1, e1, c1, n1, d1⟩ ⟨o2, e2, c2, n2, d2⟩ h0 (e := fun _ => true) (fun j _ hj => absurd hj (by simp)) X.prog X.w _ _ ?_
    cases r1 with
    | nil => exact ⟨.bl true, H, I, by rfl, q⟩
    | cons r rr => exact ⟨.bl false, H, I, by simp [L2.RelV], q⟩
theorem op_neE (hu : X.A.units + 64 < cLine) : OpR X (compareOp .NotEq) (rEqE X.K true) := by
  intro pins s σ H x y v u Q I rx ry h
  obtain ⟨a, b, xs, rfl, rfl, hs, q⟩ := h
  cases rx
  cases ry
  have h0 : X.A.units < cLine := by omega
  rcases hs with ⟨h1, h2⟩ | ⟨h1, h2⟩
  · obtain ⟨its, r1, ⟨o1, n1, e1, c1, _, d1⟩, _⟩ := I.list h1
    obtain ⟨jts, r2, ⟨o2, n2, e2, c2, _, d2⟩, _⟩ := I.list h2
    cases r2
    cases r1 with
    | nil => exact SeqAt.RcNeAt.lists ⟨o1, e1, c1, n1, d1⟩ ⟨o2, e2, c2, n2, d2⟩ rfl h0 (e := fun _ => true) (fun j hj => absurd hj (by simp)) X.prog X.w _ _ ⟨.bl _, H, I, rfl, q⟩
    | cons r rr => exact SeqAt.RcNeAt.lists_lengths ⟨o1, e1, c1, n1, d1⟩ ⟨o2, e2, c2, n2, d2⟩ (by simp) h0 X.prog X.w _ _ ⟨.bl _, H, I, rfl, q⟩
  · obtain ⟨its, r1, ⟨o1, e1, c1, n1, d1⟩, _⟩ := I.tuple h1
    obtain ⟨jts, r2, ⟨o2, e2, c2, n2, d2⟩, _⟩ := I.tuple h2
    cases r2
    refine SeqAt.RcNeAt.tuples ⟨o1, e1, c1, n1, d1⟩ ⟨o2, e2, c2, n2, d2⟩ h0 (e := fun _ => true) (fun j _ hj => absurd hj (by simp)) X.prog X.w _ _ ?_
    cases r1 with
    | nil => exact ⟨.bl false, H, I, by rfl, q⟩
    | cons r rr => exact ⟨.bl true, H, I, by simp [L2.RelV], q⟩
end
def dEqE (neg : Bool) (x y : D) (φ : En → Prop) : Prop := match x, y with
  | .lst xs, .lst [] => φ (.d (.bl (if neg then !xs.isEmpty else xs.isEmpty)))
  | .tup xs, .tup [] => φ (.d (.bl (if neg then !xs.isEmpty else xs.isEmpty)))
  | _, _ => False
section
variable {K : PySem.W.Frag} [HasT K]
theorem Reps.empty {F : Hp} {vs : List V} {ds : List D} (r : Reps F vs ds) : vs.isEmpty = ds.isEmpty := by cases r <;> rfl
instance snd_eqE (neg : Bool) : SndR K (rEqE K neg) (dEqE neg) := ⟨fun {c F H σ Γ x y d e φ Q} I rx ry h q => by
  match d, e, rx, ry, h with
  | .lst xs, .lst [], @Rep.lst _ a vs _ e1 r1, @Rep.lst _ b us _ e2 r2, h =>
    cases r2
    refine ⟨a, b, vs, rfl, rfl, .inl ⟨SqL.of (I.fh _ _ e1), SqL.of (I.fh _ _ e2)⟩, ?_⟩
    rw [r1.empty]
    exact q F H _ _ I (Same.refl F) (Res.d (.bl _)) h
  | .tup xs, .tup [], @Rep.tup _ a vs _ e1 r1, @Rep.tup _ b us _ e2 r2, h =>
    cases r2
    refine ⟨a, b, vs, rfl, rfl, .inr ⟨SqT.of (I.fh _ _ e1), SqT.of (I.fh _ _ e2)⟩, ?_⟩
    rw [r1.empty]
    exact q F H _ _ I (Same.refl F) (Res.d (.bl _)) h⟩
end
end Da

set_option Elab.async false
set_option maxRecDepth 100000
set_option maxHeartbeats 4000000
set_option linter.all false
namespace Da
open PySem PySem.Spec PyProof.Rows L2 RZ HmS
/-! ### defs that are called where nothing is being shown -/
structure FnG (P : Program) (w : World) (K : PySem.W.Frag) (mg : Str → Option Value) (base : Heap) (k : Nat) (f : Addr) (fd : FuncData) (ps : List Str) (sp : Sp) : Prop where
  ln : ∀ vs H Q E, sp vs H Q E → vs.length = ps.length
  go : ∀ (A : Around) (outer : List Env) (s : Shared) (H : Hp) (args : Args) (us : List Value) (vs : List V) (Q : VK) (E : XK), A.guards = some [] → Room k A → Env0 P w K mg base A outer s H → BindsTo s fd args (ps.zip us) → Vals vs us → sp vs H Q E →
    codeAny (model P w) A (.call (.ref f) args) (CR CX0 outer P w H s Q E) s
section
variable {P : Program} {w : World} {K : PySem.W.Frag} [HasT K] {mg : Str → Option Value} {base : Heap}
theorem guards_deeper {A : Around} {env : Env} (h : A.guards = some []) : (A.deeper env).guards = some [] := h
theorem okG {x qual : Str} {st : Stmt} {f : Addr} {fd : FuncData} {N ps : List Str} {k : Nat} {sp : Sp} (F : Fun K x qual st f fd) (S : FnScope N ps (defScope st)) (len : ∀ vs H Q E, sp vs H Q E → vs.length = ps.length)
    (hb : ∀ (cdv : Value) (A : Around) (outer : List Env) (s : Shared) (H : Hp) (vs : List V) (Q : VK) (E : XK), Room k (A.deeper (envOfC qual (defScope st) s.heap.objs.size f cdv)) → (A.deeper (envOfC qual (defScope st) s.heap.objs.size f cdv)).guards = some [] → sp vs H Q E →
      ∃ t, PSs (cxOf CX0 P w K mg base N qual (defScope st) f cdv A outer s H E).nox (defBody st) t ∧ t { nx := fun _ H' => Q .non H', rt := Q } (start N vs) H) : FnG P w K mg base (k + 1) f fd ps sp := by
  obtain ⟨oc, od, kV, doc, pm, an, cdv, ct, osl, rfl, lk, hcd⟩ := F.ex
  constructor
  · exact len
  intro A outer s H args us vs Q E hg hr e0 hbd rv hsp
  have inH : K.In s.heap := e0.mod.kin.keeps (fun b o e => (e0.bs b o e).1)
  have nl : s.heap.NoLimit := e0.mod.nolimit.keeps (fun b o e => (e0.bs b o e).1)
  have kinds : ∀ y ∈ ps.zip us, (defScope st).names.lookup y.1 = some .local ∨ ((defScope st).names.lookup y.1 = some .cell ∧ ((cellsFrom (s.heap.objs.size + 1) (defScope st).names []).lookup y.1).isSome = true) := by
    rintro ⟨n, v⟩ hy
    exact (S.par n (List.of_mem_zip hy).1).imp id fun q => ⟨q, PySem.W.cellsFrom_some _ _ _ (.inl q)⟩
  apply codeAny_call_function hr.depth (inH _ _ lk) rfl S.co S.gen rfl (PySem.W.codeRec_of inH hcd) (hbd _ _ _ _ ?_)
  apply wpAny_newFunctionEnv_cells S.kind kinds
  intro env he s1 x
  subst he
  constructor
  · exact nl.keeps x.toInCall.keep
  apply codeAny_func
  obtain ⟨t, ht, hq⟩ := hb cdv A outer s H vs Q E (hr.deeper _) (guards_deeper hg) hsp
  have I := inv_start (E := E) (mg := mg) (CX := CX0) (qual := qual) S hr.hd e0 (len _ _ _ _ hsp) rv x
  apply wpAny_mono (ht.nox.run [] s1 (start N vs) H _ I hq)
  · intro fl s' hs
    cases fl with
    | ret u => obtain ⟨v, σ', H', J, r, q⟩ := hs; exact ⟨v, H', J.os, J.bare, J.base, J.hok, r, q⟩
    | next => obtain ⟨σ', H', J, q⟩ := hs; exact ⟨V.non, H', J.os, J.bare, J.base, J.hok, rfl, q⟩
    | brk => obtain ⟨_, _, _, q⟩ := hs; exact q.elim
    | cont => obtain ⟨_, _, _, q⟩ := hs; exact q.elim
  · exact fun e s' hs => hs
end
section
variable {X : Cx} {x : Str} {f : Addr} {fd : FuncData} {ps : List Str} {k : Nat} {sp : Sp} {ds : List Value} {dvs : List V} {E : XK} {p pos : Pos} {e : Expr} {es : List Expr} {t : TA}
theorem runG {pins : List (Addr × Obj)} {σ : L2.St} {H : Hp} {s : Shared} {Q : VK} {us : List Value} {vs : List V} (F : FnG X.prog X.w X.K X.mg X.base k f fd ps sp) (hG : X.A.guards = some []) (hr : Room k X.A) (hb : Binds X.K fd ps ds) (hd : Vals dvs ds)
    (I : Inv X pins σ H s) (r : Vals vs us) (h : sp (vs ++ dvs) H Q E) : wpAny (model X.prog X.w) X.A (call (.ref f) us) (EP X pins σ Q) X.xe s := by
  have r2 : Vals (vs ++ dvs) (us ++ ds) := r.append hd
  have hl : (us ++ ds).length = ps.length := r2.length.symm.trans (F.ln _ _ _ _ h)
  apply wpAny_call (codeAny_mono (F.go X.A X.stack s H ⟨us, []⟩ (us ++ ds) (vs ++ dvs) Q E hG hr I.env0 (hb s us I.kIn hl) r2 h) _)
  intro r s' hq
  match r, hq with
  | .error e, hq => exact False.elim hq
  | .ok (.ret u), hq => exact I.after hq
  | .ok .next, hq => exact False.elim hq
  | .ok .brk, hq => exact False.elim hq
  | .ok .cont, hq => exact False.elim hq
theorem pe_callG (F : FnG X.prog X.w X.K X.mg X.base k f fd ps sp) (hG : X.A.guards = some []) (hr : Room k X.A) (hg : Gl X x) (hm : X.mg x = some (.ref f)) (hk : PySem.W.keepIn X.K (.ref f) = true) (hb : Binds X.K fd ps ds) (hd : Vals dvs ds)
    (ha : PA X (e :: es) t) (hdb : (x == ("__debug__" : Str)) = false := by decide) (he : starEach (e :: es) X.env = (false, eval e X.env) :: starEach es X.env := by rfl) (hpl : (backTo pos (starEach es X.env)).any (·.1) = false := by rfl) :
    PE X (.Call (.Name x p) (e :: es) [] pos) (tCall sp dvs E t) := by
  constructor
  intro pins s σ H Q I h
  apply wpAny_Call_Name_kw (ld_glob I hg hm _ hdb)
  exact PySem.W.callWith_K (h₀ := X.base) I.ok.mod.kin hk (thn (ha.run pos pins s σ H _ I h) fun us s1 ⟨vs, H1, I1, r, q⟩ => ⟨I1.kIn, runG F hG hr hb hd I1 r q⟩) he hpl
/-! ### repr of data -/
def rRepr (K : PySem.W.Frag) : List V → Hp → VK → Prop := fun xs H Q => ∃ (a : Addr) (d : PyData), xs = [.ref a] ∧ Dp K H (.ref a) d ∧ d.showable = true ∧ d.hasDict = false ∧ d.shown.length ≤ sizeLine ∧ d.depth ≤ 60 ∧ Q (.str d.shown) H
theorem cr_repr (hG : X.A.guards = some []) (hu : X.A.units + 64 < cLine) : CallR X (.builtin "repr") (rRepr X.K) := by
  intro pins s σ H xs us Q I r h
  obtain ⟨a, d, rfl, hd, hs, hn, hz, hdp, q⟩ := h
  obtain ⟨u, rfl, ru⟩ := vals1 r
  cases ru
  obtain ⟨as, rd⟩ := Dp.reads I d (.ref a) (.ref a) hd rfl
  exact repr_of_reads' rd hs (fun z => by rw [hn] at z; cases z) hG (by omega) (fun b o e => e) (fun h' u tk hk => ⟨.str d.shown, H, I.kept hk, ⟨_, rfl⟩, q⟩) hz
/-! ### == and != of texts -/
def rEqS (neg : Bool) : R2 := fun x y H Q => ∃ a b : Str, x = .str a ∧ y = .str b ∧ Q (.bl (if neg then !decide (a = b) else decide (a = b))) H
theorem op_eqS : OpR X (compareOp .Eq) (rEqS false) := by
  intro pins s σ H x y v u Q I rx ry h
  obtain ⟨a, b, rfl, rfl, q⟩ := h
  obtain ⟨t, rfl⟩ := rx
  obtain ⟨t2, rfl⟩ := ry
  refine SeqAt.RcAt.str_str a t b t2 X.prog X.w _ _ ⟨.bl (decide (a = b)), H, I, ?_, q⟩
  show Value.bool (a == b) = .bool (decide (a = b))
  rw [Bool.beq_eq_decide_eq]
theorem op_neS : OpR X (compareOp .NotEq) (rEqS true) := by
  intro pins s σ H x y v u Q I rx ry h
  obtain ⟨a, b, rfl, rfl, q⟩ := h
  obtain ⟨t, rfl⟩ := rx
  obtain ⟨t2, rfl⟩ := ry
  refine SeqAt.RcNeAt.str_str a t b t2 X.prog X.w _ _ ⟨.bl (!decide (a = b)), H, I, ?_, q⟩
  show Value.bool (!(a == b)) = .bool (!decide (a = b))
  rw [Bool.beq_eq_decide_eq]
end
end Da

set_option Elab.async false
set_option maxRecDepth 100000
set_option maxHeartbeats 4000000
set_option linter.all false
namespace Da
open PySem PySem.Spec PyProof.Rows L2 RZ HmS
section
variable {K : PySem.W.Frag} [HasT K]
/-- what is shown: of depth k at most, of weight w at most, its numbers below 10^12 -/
structure RpOk (k w : Nat) (x : D) : Prop where
  fl : x.flat = true
  ly : x.py.canLay0 = true
  dp : x.py.depth ≤ k
  wt : x.py.weight ≤ w
  sh : x.py.intsShort 13 = true
  sw : x.py.showable = true
theorem RpOk.mono {k w k' w' : Nat} {x : D} (h : RpOk k w x) (hk : k ≤ k') (hw : w ≤ w') : RpOk k' w' x := ⟨h.fl, h.ly, Nat.le_trans h.dp hk, Nat.le_trans h.wt hw, h.sh, h.sw⟩
theorem hasDict_of_lay : ∀ {d : PyData}, d.canLay0 = true → d.hasDict = false := by
  intro d h
  refine PyData.rec (motive_1 := fun d => d.canLay0 = true → d.hasDict = false) (motive_2 := fun ds => PyData.canLayAll0 ds = true → PyData.hasDictAll ds = false) (motive_3 := fun _ => True) (motive_4 := fun _ => True) ?_ ?_ ?_ ?_ ?_ ?_ ?_ ?_ ?_ ?_ ?_ ?_ d h
  · intro _; simp only [PyData.hasDict]
  · intro b _; simp only [PyData.hasDict]
  · intro i _; simp only [PyData.hasDict]
  · intro s _; simp only [PyData.hasDict]
  · intro xs ih h; simp only [PyData.hasDict]; exact ih (by simpa only [PyData.canLay0] using h)
  · intro xs ih h; simp only [PyData.hasDict]; exact ih (by simpa only [PyData.canLay0] using h)
  · intro kvs _ h; simp [PyData.canLay0] at h
  · intro _; simp only [PyData.hasDictAll]
  · intro x xs ix ih h
    simp only [PyData.canLayAll0, Bool.and_eq_true] at h
    simp only [PyData.hasDictAll, ix h.1, ih h.2, Bool.or_self]
  · trivial
  · intro _ _ _ _; trivial
  · intro _ _ _ _; trivial
theorem RpOk.int {i : Int} (h : i.natAbs < 10 ^ 12) : RpOk 1 40 (.int i) := by
  have l : i.natAbs.log2 < 40 := by
    by_cases z : i.natAbs = 0
    · rw [z]; decide
    · exact (Nat.log2_lt z).mpr (Nat.lt_of_lt_of_le h (by decide))
  refine ⟨rfl, by simp [D.py, PyData.canLay0], by simp [D.py, PyData.depth], ?_, ?_, ?_⟩
  · simp only [D.py, PyData.weight]
    split <;> omega
  · simp only [D.py, PyData.intsShort, decide_eq_true_eq]
    exact PyData.shown_int_le h
  · simp only [D.py, PyData.showable, decide_eq_true_eq]
    omega
theorem RpOk.non : RpOk 1 0 .non := ⟨rfl, by simp [D.py, PyData.canLay0], by simp [D.py, PyData.depth], by simp [D.py, PyData.weight], by simp [D.py, PyData.intsShort], by simp [D.py, PyData.showable]⟩
theorem RpOk.alls {k w : Nat} : ∀ {xs : List D}, (∀ x ∈ xs, RpOk k w x) → flats xs = true ∧ PyData.canLayAll0 (pys xs) = true ∧ PyData.depthAll (pys xs) ≤ k ∧ PyData.weightAll (pys xs) ≤ xs.length * (w + 1) ∧ PyData.intsShortAll 13 (pys xs) = true ∧ PyData.showableAll (pys xs) = true
  | [], _ => by simp [flats, pys, PyData.canLayAll0, PyData.depthAll, PyData.weightAll, PyData.intsShortAll, PyData.showableAll]
  | x :: r, h => by
    obtain ⟨h1, h2, h3, h4, h5, h6⟩ := RpOk.alls (xs := r) fun y hy => h y (List.mem_cons_of_mem _ hy)
    have hx := h x List.mem_cons_self
    have hd := hx.dp
    have hw := hx.wt
    refine ⟨by rw [flats, hx.fl, h1]; rfl, by simp only [pys, PyData.canLayAll0, hx.ly, h2, Bool.and_self], by simp only [pys, PyData.depthAll]; omega, ?_, by simp only [pys, PyData.intsShortAll, hx.sh, h5, Bool.and_self], by simp only [pys, PyData.showableAll, hx.sw, h6, Bool.and_self]⟩
    simp only [pys, PyData.weightAll, List.length_cons]
    rw [Nat.succ_mul]
    omega
theorem RpOk.tup {k w : Nat} {xs : List D} (h : ∀ x ∈ xs, RpOk k w x) : RpOk (k + 1) (xs.length * (w + 1)) (.tup xs) := by
  obtain ⟨h1, h2, h3, h4, h5, h6⟩ := RpOk.alls h
  exact ⟨h1, by simpa only [D.py, PyData.canLay0] using h2, by simp only [D.py, PyData.depth]; omega, by simpa only [D.py, PyData.weight] using h4, by simpa only [D.py, PyData.intsShort] using h5, by simpa only [D.py, PyData.showable] using h6⟩
theorem RpOk.lst {k w : Nat} {xs : List D} (h : ∀ x ∈ xs, RpOk k w x) : RpOk (k + 1) (xs.length * (w + 1)) (.lst xs) := by
  obtain ⟨h1, h2, h3, h4, h5, h6⟩ := RpOk.alls h
  exact ⟨h1, by simpa only [D.py, PyData.canLay0] using h2, by simp only [D.py, PyData.depth]; omega, by simpa only [D.py, PyData.weight] using h4, by simpa only [D.py, PyData.intsShort] using h5, by simpa only [D.py, PyData.showable] using h6⟩
theorem RpOk.tupN {k w n : Nat} {xs : List D} (h : ∀ x ∈ xs, RpOk k w x) (l : xs.length ≤ n) : RpOk (k + 1) (n * (w + 1)) (.tup xs) := (RpOk.tup h).mono (Nat.le_refl _) (Nat.mul_le_mul_right _ l)
theorem RpOk.lstN {k w n : Nat} {xs : List D} (h : ∀ x ∈ xs, RpOk k w x) (l : xs.length ≤ n) : RpOk (k + 1) (n * (w + 1)) (.lst xs) := (RpOk.lst h).mono (Nat.le_refl _) (Nat.mul_le_mul_right _ l)
def D.seq : D → Bool
  | .tup _ => true
  | .lst _ => true
  | _ => false
def dReprR (xs : List D) (φ : En → Prop) : Prop := match xs with
  | [x] => x.seq = true ∧ RpOk 60 1048576 x ∧ φ (.d (.str x.py.shown))
  | _ => False
instance snd_repr : SndC K (rRepr K) dReprR := ⟨fun {c F H σ Γ xs ds φ Q} I r h q => by
  match ds, r, h with
  | [x], r, ⟨hq, ok, h⟩ =>
    obtain ⟨v, rfl, rp⟩ := one_of r
    have dp := rp.dp (K := K) I.fh ok.fl
    have hsz : x.py.shown.length ≤ sizeLine := PyData.shown_fits_of_layable0 (B := 13) (by decide) (by decide) (by
      show (x.py.canLay0 && decide (x.py.depth ≤ 64) && decide (x.py.weight ≤ 2 ^ 20)) = true
      rw [ok.ly, decide_eq_true (Nat.le_trans ok.dp (by decide)), decide_eq_true (Nat.le_trans ok.wt (by decide))]
      rfl) ok.sh
    have fin : ∀ a, v = .ref a → rRepr K [v] H Q := fun a e => by
      subst e
      exact ⟨a, x.py, rfl, dp, ok.sw, hasDict_of_lay ok.ly, hsz, ok.dp, q F H _ _ I (Same.refl F) (Res.d (.str _)) h⟩
    cases x with
    | tup xs =>
      cases rp with
      | @tup a vs _ e rs => exact fin a rfl
    | lst xs =>
      cases rp with
      | @lst a vs _ e rs => exact fin a rfl
    | _ => exact absurd hq Bool.false_ne_true⟩
def dEqS (neg : Bool) (x y : D) (φ : En → Prop) : Prop := match x, y with
  | .str a, .str b => φ (.d (.bl (if neg then !decide (a = b) else decide (a = b))))
  | _, _ => False
instance snd_eqS (neg : Bool) : SndR K (rEqS neg) (dEqS neg) := ⟨fun {c F H σ Γ x y d e φ Q} I rx ry h q => by
  match d, e, rx, ry, h with
  | .str a, .str b, .str _, .str _, h => exact ⟨a, b, rfl, rfl, q F H _ _ I (Same.refl F) (Res.d (.bl _)) h⟩⟩
end
/-! ### the end where something is shown -/
theorem law_callG {P : Program} {w : World} {K : PySem.W.Frag} {mg mb : Str → Option Value} {k : Nat} {fa a : Addr} {fd : FuncData} {x : Str} {sp : Sp} {s₁ : Shared} {vs : List Value} {ns : List Int}
    (KX : K.In s₁.heap) (hns : s₁.heap.Ns mainGlobals mg) (hb : s₁.heap.Ns builtinsNs mb) (hbb : ∀ x : Str, x ≠ "__name__" → mb x = bootBuiltins x) (hlim : s₁.heap.NoLimit) (hg : s₁.gens = #[])
    (ha : s₁.heap.get? a = some { cls := .type "list", data := .seq vs.toArray }) (hi : IntsAre vs ns) (hl : ns.length ≤ sizeLine) (hr : Room k callerA)
    (F : ∀ base : Heap, K.In base → base.Ns mainGlobals mg → FnG P w K mg base k fa fd [x] sp) (hbind : ∀ (s : Shared) (u : Value), BindsTo s fd ⟨[u], []⟩ [(x, u)])
    (hsp : ∀ H : Hp, SqL K H a (ns.map V.int) → sp [.ref a] H (fun v _ => v = .bl true) fun _ _ _ => False) :
    codeAny (model P w) callerA (.call (.ref fa) ⟨[.ref a], []⟩) (fun r s' => r = .ok (.ret (.bool true)) ∧ OldK s₁.heap s'.heap ∧ s'.os = s₁.os ∧ AllBare s'.gens) s₁ := by
  have rv := vals_ints hi
  have lenV := hi.length
  have step : ∀ H : Hp, Only H → SqL K H a (ns.map V.int) → HOk P w H s₁.heap → (∀ b, H b ≠ none → b = a) → (H a ≠ none → K.lookup a = none) →
      codeAny (model P w) callerA (.call (.ref fa) ⟨[.ref a], []⟩) (fun r s' => r = .ok (.ret (.bool true)) ∧ OldK s₁.heap s'.heap ∧ s'.os = s₁.os ∧ AllBare s'.gens) s₁ := by
    intro H only sq hok one off
    have hid : ∀ {b : Addr} {o : Obj}, s₁.heap.get? b = some o → H b = none → (hidT s₁.heap H).get? b = some o := hidT_get
    have ndict : ∀ {b : Addr} {o : Obj} {es : Array DictEntry} {ep : Nat}, s₁.heap.get? b = some o → o.data = .dict es ep → H b = none := by
      intro b o es ep e d
      by_cases q : H b = none
      · exact q
      · have z := one b q
        subst z
        rw [ha] at e
        cases e
        exact absurd d (fun d' => by have d' : Data.seq vs.toArray _ = Data.dict es ep := d'; cases d')
    have spaces : ∀ {b : Addr} {m : Str → Option Value}, s₁.heap.Ns b m → (hidT s₁.heap H).Ns b m := by
      rintro b m ⟨o, es, ep, e, d, r⟩
      exact ⟨o, es, ep, hid e (ndict e d), d, r⟩
    have kin : K.In (hidT s₁.heap H) := by
      intro b o e
      refine hid (KX b o e) ?_
      by_cases q : H b = none
      · exact q
      · have z := one b q
        subst z
        rw [off q] at e
        cases e
    have md : Mod K mg (hidT s₁.heap H) := by
      obtain ⟨mc, h1, h2⟩ := hlim
      exact ⟨kin, spaces hns, ⟨mb, spaces hb, hbb⟩, mc, spaces h1, h2⟩
    have none0 : ∀ {b : Addr}, b ∈ frs [] → False := fun {b} z => by
      have z : b ∈ ([] : List Addr) := z
      simp at z
    have env : Env0 P w K mg (hidT s₁.heap H) callerA [] s₁ H := ⟨rfl, md, fun b o => of_hidT, Nat.le_of_eq (hidT_size _ _), trivial, fun b z => (none0 z).elim, hok, .of_eq hg⟩
    have run := (F _ kin (spaces hns)).go callerA [] s₁ H ⟨[.ref a], []⟩ [.ref a] [.ref a] _ _ rfl hr env (hbind s₁ (.ref a)) (.cons rfl .nil) (hsp H sq)
    refine codeAny_mono run ?_
    intro r s' h
    match r, h with
    | .error e, h => exact False.elim h
    | .ok .next, h => exact False.elim h
    | .ok .brk, h => exact False.elim h
    | .ok .cont, h => exact False.elim h
    | .ok (.ret u), ⟨v, H', os, bare, un, hok', r', q⟩ =>
      have q : v = .bl true := q
      subst q
      have r' : u = Value.bool true := r'
      subst r'
      refine ⟨rfl, OldK.of_keep (fun b o e => ?_), os, bare⟩
      cases q : H b with
      | none => exact un.keep b o e q (fun z => none0 z) (by simp)
      | some u =>
        rcases only b with z | ⟨ob, xs, z⟩
        · rw [q] at z
          cases z
        · obtain ⟨e1, _⟩ := hok b _ z
          obtain ⟨e2, _⟩ := hok' b _ (un.frzs b ob _ z)
          rw [e] at e1
          cases e1
          exact e2
  by_cases hk : K.lookup a = none
  · have at1 : (fun b => if b = a then some (HO.frz { cls := .type "list", data := .seq vs.toArray } (.lst (ns.map V.int))) else none : Hp) a = some (.frz { cls := .type "list", data := .seq vs.toArray } (.lst (ns.map V.int))) := if_pos rfl
    have only1 : ∀ {b : Addr} {u : HO}, (if b = a then some (HO.frz { cls := .type "list", data := .seq vs.toArray } (.lst (ns.map V.int))) else none) = some u → b = a ∧ u = .frz { cls := .type "list", data := .seq vs.toArray } (.lst (ns.map V.int)) := by
      intro b u z
      by_cases hb : b = a
      · rw [if_pos hb] at z
        cases z
        exact ⟨hb, rfl⟩
      · rw [if_neg hb] at z
        cases z
    refine step (fun b => if b = a then some (.frz { cls := .type "list", data := .seq vs.toArray } (.lst (ns.map V.int))) else none) (fun b => ?_) (.inl (.inr ⟨_, at1⟩)) (fun b u z => ?_) (fun b z => ?_) (fun _ => hk)
    · by_cases hb : b = a
      · exact .inr ⟨_, _, if_pos hb⟩
      · exact .inl (if_neg hb)
    · obtain ⟨rfl, rfl⟩ := only1 z
      refine ⟨ha, ?_, vs, _, rv, ha⟩
      rw [List.length_map]
      exact hl
    · by_cases hb : b = a
      · exact hb
      · exact absurd (if_neg hb) z
  · obtain ⟨o, hk⟩ : ∃ o, K.lookup a = some o := by
      cases q : K.lookup a with
      | none => exact absurd q hk
      | some o => exact ⟨o, rfl⟩
    have e := KX a o hk
    rw [ha] at e
    cases e
    refine step (fun _ => none) (fun _ => .inl rfl) (.inr ⟨_, vs.toArray, _, hk, rfl, rfl, rfl, ?_, by simpa using rv⟩) (fun b u z => by cases (show (none : Option HO) = some u from z)) (fun b z => absurd rfl z) (fun z => absurd rfl z)
    rw [List.size_toArray, lenV]
    exact hl
theorem walk_ofG {l : PySem.W.OpenLaw} {n k : Nat} {q : Program} {loose : List Str} {XP : (Str → Option Value) → Heap → Prop} {YP : World → Heap → Prop} {d : DefRec} {K : Params → PySem.W.Frag} {x : Str} {sp : PySem.W.Frag → Sp}
    (hn : l.most = some n) (hn2 : n ≤ sizeLine) (hdf : d.params.defaults = []) (hr : Room k callerA) (hY : ∀ (w : World) (h : Heap), YP w h → (K w.params).In h)
    (F : ∀ (w : World) (mg : Str → Option Value) (fa : Addr) (h : Heap), (K w.params).In h → h.Ns mainGlobals mg → mg d.name = some (.ref fa) →
      ∃ fd : FuncData, (∀ (s : Shared) (u : Value), BindsTo s fd ⟨[u], []⟩ [(x, u)]) ∧ ∀ base : Heap, (K w.params).In base → base.Ns mainGlobals mg → FnG l.prog w (K w.params) mg base k fa fd [x] (sp (K w.params)))
    (hsp : ∀ (K : PySem.W.Frag) (H : Hp) (a : Addr) (ns : List Int), ns.length ≤ n → SqL K H a (ns.map V.int) → sp K [.ref a] H (fun v _ => v = .bl true) fun _ _ _ => False) :
    PySem.W.WalkO q loose XP YP l.row.toRowW d [] (fun f vs => PySem.call f vs) := by
  apply Att.attach_call hn hdf
  intro w s₀ s₁ mg mb fa o pm cd doc a vs ns G Y ho hd hcd hmg hobj hints hlen hg
  have kx := hY w _ Y
  obtain ⟨fd, hb, hF⟩ := F w mg fa _ kx G.T.g hmg
  exact law_callG kx G.T.g G.T.b G.T.builtins G.T.nolimit hg hobj hints (Nat.le_trans hlen hn2) hr hF hb (fun H hS => hsp _ H a ns hlen hS)
end Da

set_option Elab.async false
set_option maxRecDepth 100000
set_option maxHeartbeats 4000000
set_option linter.all false
namespace Da
open PySem PySem.Spec PyProof.Rows L2 RZ HmS
/-! ### dicts whose keys are tuples -/
/-- all tuples of H frozen -/
def tupF (F H : Hp) : Hp := fun a => match F a with
  | some o => some o
  | none => match H a with
    | some (.tup vs) => some (.tup vs)
    | _ => none
theorem tupF_same {F H : Hp} : Same F (tupF F H) := fun a o e => by unfold tupF; rw [e]
theorem tupF_at {F H : Hp} (fh : Same F H) {a : Addr} {vs : List V} (e : H a = some (.tup vs)) : tupF F H a = some (.tup vs) := by
  unfold tupF
  cases q : F a with
  | none => rw [e]
  | some o =>
    have := fh a o q
    rw [e] at this
    cases this
    rfl
theorem tupF_of {F H : Hp} {a : Addr} {o : HO} (e : tupF F H a = some o) : F a = some o ∨ ((∃ vs, o = .tup vs) ∧ H a = some o) := by
  unfold tupF at e
  cases q : F a with
  | some u =>
    rw [q] at e
    exact .inl e
  | none =>
    rw [q] at e
    cases r : H a with
    | none => rw [r] at e; cases e
    | some u =>
      rw [r] at e
      cases u <;> first | (cases e; exact .inr ⟨⟨_, rfl⟩, rfl⟩) | cases e
section
variable {K : PySem.W.Frag} [HasT K] {c : Ct K} {F H : Hp} {σ : L2.St} {Γ : List En}
theorem Is.tups (I : Is c F H σ Γ) : Is c (tupF F H) H σ Γ :=
  I.grow tupF_same (Same.refl H) (fun a o e => (tupF_of e).elim (fun z => I.fh a o z) (·.2)) (fun a o e => (tupF_of e).elim (fun z => I.fn a o z) fun z => by obtain ⟨⟨vs, rfl⟩, _⟩ := z; exact nt_tup vs) fun a o e => (tupF_of e).imp id fun z => by
    obtain ⟨⟨vs, rfl⟩, h⟩ := z
    exact .inr ⟨vs, h⟩
end
def keysL : List D → Option (List Key)
  | [] => some []
  | x :: r => match keyOf x, keysL r with
    | some k, some ks => some (k :: ks)
    | _, _ => none
def keysOf : D → Option (List Key)
  | .tup xs => keysL xs
  | _ => none
def tupD (k : List Key) : D := .tup (k.map Da.kD)
theorem keysL_rep {F : Hp} : ∀ {vs : List V} {xs : List D} {k : List Key}, Reps F vs xs → keysL xs = some k → vs = k.map kV
  | _, [], _, .nil, h => by cases h; rfl
  | v :: vs, x :: r, k, .cons a b, h => by
    unfold keysL at h
    cases e1 : keyOf x with
    | none => rw [e1] at h; cases h
    | some k1 =>
      cases e2 : keysL r with
      | none => rw [e1, e2] at h; cases h
      | some ks =>
        rw [e1, e2] at h
        cases h
        rw [List.map_cons, keyOf_rep a e1, keysL_rep b e2]
theorem keysOf_rep {F : Hp} {v : V} {x : D} {k : List Key} (r : Rep F v x) (h : keysOf x = some k) : ∃ b, v = .ref b ∧ F b = some (.tup (k.map kV)) := by
  cases x with
  | tup xs =>
    cases r with
    | @tup a vs _ e rs => exact ⟨a, rfl, by rw [← keysL_rep rs h]; exact e⟩
  | _ => cases h
theorem keysL_kD : ∀ k : List Key, keysL (k.map Da.kD) = some k
  | [] => rfl
  | a :: r => by
    rw [List.map_cons]
    unfold keysL
    rw [keysL_kD r]
    cases a <;> rfl
theorem keysOf_tupD (k : List Key) : keysOf (tupD k) = some k := keysL_kD k
theorem rep_keys {F : Hp} : ∀ k : List Key, Reps F (k.map kV) (k.map Da.kD)
  | [] => .nil
  | .inl i :: r => .cons (.int i) (rep_keys r)
  | .inr z :: r => .cons (.str z) (rep_keys r)
theorem rep_tupD {F : Hp} {b : Addr} {k : List Key} (e : F b = some (.tup (k.map kV))) : Rep F (.ref b) (tupD k) := .tup e (rep_keys k)
def dtOf (e : En) : Option (List (List Key) × List D) := match e with
  | .dT ks xs => some (ks, xs)
  | .d (.dT ks xs) => some (ks, xs)
  | _ => none
section
variable {K : PySem.W.Frag} [HasT K]
theorem Held.dt {c : Ct K} {F H : Hp} {e : En} {v : V} {ks : List (List Key)} {xs : List D} (fh : Same F H) (h : Held c F H e v) (k : dtOf e = some (ks, xs)) : ∃ a kvs, v = .ref a ∧ H a = some (.dT kvs) ∧ kvs.map (·.1) = ks ∧ Reps F (kvs.map (·.2)) xs := by
  cases e with
  | dT ks' xs' =>
    cases k
    obtain ⟨a, kvs, rfl, _, _, h1, h2, h3⟩ := h
    exact ⟨a, kvs, rfl, h1, h2, h3⟩
  | d x =>
    cases x with
    | dT ks' xs' =>
      cases k
      cases (show Rep F v (.dT ks xs) from h) with
      | @dT a kvs _ _ e1 e2 r => exact ⟨a, kvs, rfl, fh _ _ e1, e2, r⟩
    | _ => cases k
  | _ => cases k
theorem dt_no {e : En} {p : List (List Key) × List D} (h : dtOf e = some p) : e ≠ .no := fun z => by rw [z] at h; cases h
end
def tDGetT (td ty : TE) : TE := tDGet td ty
def tDInT (ty td : TE) : TE := tDIn ty td
def tDNotInT (ty td : TE) : TE := tDNotIn ty td
def sDPutT (td ty tv : TE) : TS := sDPut td ty tv
def tDGet2T (td ty tx : TE) : TE := tDGet2 td ty tx
section
variable {X : Cx} {o i e f value : Expr} {pos pos' : Pos} {apos cpos : Pos} {td ty tv tx : TE}
theorem pe_dgetT (hu : X.A.units + 1 < cLine) (ho : PE X o td) (hi : PE X i ty) (hs : NoSl i) : PE X (.Subscript o i pos) (tDGetT td ty) := pe_dget hu ho hi hs
theorem pc_dinT (hu : X.A.units + 1 < cLine) (hi : PE X i ty) (ho : PE X o td) : PC X .In i o (tDInT ty td) := pc_din hu hi ho
theorem pc_dnotinT (hu : X.A.units + 1 < cLine) (hi : PE X i ty) (ho : PE X o td) : PC X .NotIn i o (tDNotInT ty td) := pc_dnotin hu hi ho
theorem ps_dputT (hu : X.A.units + 1 < cLine) (ho : PE X o td) (hi : PE X i ty) (hv : PE X value tv) (hs : swapsWith value (some (.Subscript o i pos')) pos.line X.env = pure false) : PS X (.Assign [.Subscript o i pos'] value pos) (sDPutT td ty tv) := ps_dput hu ho hi hv hs
theorem pe_dget2T (hu : X.A.units + 1 < cLine) (ho : PE X o td) (he : PE X e ty) (hf : PE X f tx) (m : M2 X o "get" apos e f cpos) : PE X (.Call (.Attribute o "get" apos) [e, f] [] cpos) (tDGet2T td ty tx) := pe_dget2 hu ho he hf m
end
section
variable {K : PySem.W.Frag} [HasT K] {E : XK} {ψ : Value → Prop} {ta tb tx : TE} {da db dx : DT}
/-- {} -/
def dNewT : DT := fun Γ φ => φ (.dT [] []) Γ
instance snd_newT : Snd K E ψ tDNewT dNewT := ⟨fun {c F H σ Γ φ Q} I eo h q => fun p hp =>
  q F _ (.ref p) (.dT [] []) Γ (I.newH hp) (Same.refl F) ⟨⟨p, [], rfl, I.unF hp, I.un hp, upd_same, rfl, .nil⟩, (fun z => nomatch z), fun _ a e => by cases e; exact I.fresh hp⟩ h⟩
/-- d[k] -/
def dTGet (i : Nat) (db : DT) : DT := fun Γ φ => (∃ e ks xs, Γ[i]? = some e ∧ dtOf e = some (ks, xs)) ∧ db Γ fun e' Γ1 => wf e' fun y => ∃ e ks xs k x, Γ1[i]? = some e ∧ dtOf e = some (ks, xs) ∧ keysOf y = some k ∧ lookD ks xs k = some x ∧ φ (.d x) Γ1
instance snd_tget {i : Nat} [b : Snd K E ψ tb db] : Snd K E ψ (tDGetT (tVar i) tb) (dTGet i db) := ⟨fun {c F H σ Γ φ Q} I eo h q => by
  obtain ⟨⟨e, ks, xs, g, hk⟩, h⟩ := h
  obtain ⟨v, hv, hh⟩ := I.at_ i _ g (dt_no hk)
  obtain ⟨a, kvs, rfl, _⟩ := hh.dt I.fh hk
  refine ⟨_, hv, ?_⟩
  refine b.frz (φ := fun _ _ => True) (k := fun y Γ1 => ∃ e ks xs k x, Γ1[i]? = some e ∧ dtOf e = some (ks, xs) ∧ keysOf y = some k ∧ lookD ks xs k = some x ∧ φ (.d x) Γ1) I eo h fun F1 H1 w y Γ1 I1 s1 rp h1 => ?_
  obtain ⟨e1, ks1, xs1, k, x, g1, hk1, hy, hl, h1⟩ := h1
  obtain ⟨v', hv', hh1⟩ := I1.at_ i _ g1 (dt_no hk1)
  rw [hv] at hv'
  cases hv'
  obtain ⟨a', kvs1, ea, ha, ek, rs⟩ := hh1.dt I1.fh hk1
  cases ea
  obtain ⟨u, hu, ru⟩ := (valV_look ek rs).1 x hl
  obtain ⟨b, rfl, hb⟩ := keysOf_rep rp hy
  refine ⟨a, u, rfl, ?_, q F1 H1 u _ Γ1 I1 s1 (Res.d ru) h1⟩
  rw [← hu]
  exact DGet.t (k := k) ha (I1.fh _ _ hb)⟩
/-- k in d -/
def dTIn (neg : Bool) (i : Nat) (db : DT) : DT := fun Γ φ => db Γ fun e' Γ1 => wf e' fun y => ∃ e ks xs k, Γ1[i]? = some e ∧ dtOf e = some (ks, xs) ∧ keysOf y = some k ∧ φ (.d (.bl (if neg then !(lookD ks xs k).isSome else (lookD ks xs k).isSome))) Γ1
theorem look_someT {F : Hp} {kvs : List (List Key × V)} {ks : List (List Key)} {ds : List D} {k : List Key} (ek : kvs.map (·.1) = ks) (rs : Reps F (kvs.map (·.2)) ds) : (valV kvs k).isSome = (lookD ks ds k).isSome := by
  obtain ⟨h1, h2⟩ := valV_look (j := k) ek rs
  cases e : lookD ks ds k with
  | none => rw [h2 e]; rfl
  | some x =>
    obtain ⟨v, hv, _⟩ := h1 x e
    rw [hv]
    rfl
instance snd_tin {i : Nat} [b : Snd K E ψ tb db] : Snd K E ψ (tDInT tb (tVar i)) (dTIn false i db) := ⟨fun {c F H σ Γ φ Q} I eo h q => by
  refine b.frz (φ := fun _ _ => True) (k := fun y Γ1 => ∃ e ks xs k, Γ1[i]? = some e ∧ dtOf e = some (ks, xs) ∧ keysOf y = some k ∧ φ (.d (.bl (lookD ks xs k).isSome)) Γ1) I eo h fun F1 H1 w y Γ1 I1 s1 rp h1 => ?_
  obtain ⟨e1, ks1, xs1, k, g1, hk1, hy, h1⟩ := h1
  obtain ⟨v', hv', hh1⟩ := I1.at_ i _ g1 (dt_no hk1)
  obtain ⟨a, kvs1, rfl, ha, ek, rs⟩ := hh1.dt I1.fh hk1
  obtain ⟨b, rfl, hb⟩ := keysOf_rep rp hy
  refine ⟨_, hv', a, _, rfl, DGet.t (k := k) ha (I1.fh _ _ hb), ?_⟩
  rw [look_someT ek rs]
  exact q F1 H1 _ _ Γ1 I1 s1 (Res.d (.bl _)) h1⟩
instance snd_tnotin {i : Nat} [b : Snd K E ψ tb db] : Snd K E ψ (tDNotInT tb (tVar i)) (dTIn true i db) := ⟨fun {c F H σ Γ φ Q} I eo h q => by
  refine b.frz (φ := fun _ _ => True) (k := fun y Γ1 => ∃ e ks xs k, Γ1[i]? = some e ∧ dtOf e = some (ks, xs) ∧ keysOf y = some k ∧ φ (.d (.bl (!(lookD ks xs k).isSome))) Γ1) I eo h fun F1 H1 w y Γ1 I1 s1 rp h1 => ?_
  obtain ⟨e1, ks1, xs1, k, g1, hk1, hy, h1⟩ := h1
  obtain ⟨v', hv', hh1⟩ := I1.at_ i _ g1 (dt_no hk1)
  obtain ⟨a, kvs1, rfl, ha, ek, rs⟩ := hh1.dt I1.fh hk1
  obtain ⟨b, rfl, hb⟩ := keysOf_rep rp hy
  refine ⟨_, hv', a, _, rfl, DGet.t (k := k) ha (I1.fh _ _ hb), ?_⟩
  rw [look_someT ek rs]
  exact q F1 H1 _ _ Γ1 I1 s1 (Res.d (.bl _)) h1⟩
/-- d.get(k, x) -/
def dTGet2 (i : Nat) (db dx : DT) : DT := fun Γ φ => (∃ e ks xs, Γ[i]? = some e ∧ dtOf e = some (ks, xs)) ∧ db Γ fun e' Γ1 => wf e' fun y => dx Γ1 fun e2 Γ2 => wf e2 fun z => ∃ e ks xs k, Γ2[i]? = some e ∧ dtOf e = some (ks, xs) ∧ keysOf y = some k ∧ φ (.d ((lookD ks xs k).getD z)) Γ2
instance snd_tget2 {i : Nat} [b : Snd K E ψ tb db] [x : Snd K E ψ tx dx] : Snd K E ψ (tDGet2T (tVar i) tb tx) (dTGet2 i db dx) := ⟨fun {c F H σ Γ φ Q} I eo h q => by
  obtain ⟨⟨e, ks, xs, g, hk⟩, h⟩ := h
  obtain ⟨v, hv, hh⟩ := I.at_ i _ g (dt_no hk)
  obtain ⟨a, kvs, rfl, ha0, _⟩ := hh.dt I.fh hk
  refine ⟨_, hv, a, rfl, .inr ⟨kvs, .inl ha0⟩, ?_⟩
  refine b.frz (φ := fun _ _ => True) (k := fun y Γ1 => dx Γ1 fun e2 Γ2 => wf e2 fun z => ∃ e ks xs k, Γ2[i]? = some e ∧ dtOf e = some (ks, xs) ∧ keysOf y = some k ∧ φ (.d ((lookD ks xs k).getD z)) Γ2) I eo h fun F1 H1 w y Γ1 I1 s1 rp h1 => ?_
  refine x.frz (φ := fun _ _ => True) (k := fun z Γ2 => ∃ e ks xs k, Γ2[i]? = some e ∧ dtOf e = some (ks, xs) ∧ keysOf y = some k ∧ φ (.d ((lookD ks xs k).getD z)) Γ2) I1 eo h1 fun F2 H2 u z Γ2 I2 s2 rz h2 => ?_
  obtain ⟨e1, ks1, xs1, k, g1, hk1, hy, h2⟩ := h2
  obtain ⟨v', hv', hh1⟩ := I2.at_ i _ g1 (dt_no hk1)
  rw [hv] at hv'
  cases hv'
  obtain ⟨a', kvs1, ea, ha, ek, rs⟩ := hh1.dt I2.fh hk1
  cases ea
  obtain ⟨b, rfl, hb⟩ := keysOf_rep rp hy
  refine ⟨_, DGet.t (k := k) ha (I2.fh _ _ (s2 _ _ hb)), ?_⟩
  obtain ⟨z1, z2⟩ := valV_look (j := k) ek rs
  cases el : lookD ks1 xs1 k with
  | none =>
    rw [z2 el]
    rw [el] at h2
    exact q F2 H2 _ _ Γ2 I2 (s1.trans s2) (Res.d rz) h2
  | some y2 =>
    obtain ⟨w2, hw, rw1⟩ := z1 y2 el
    rw [hw]
    rw [el] at h2
    exact q F2 H2 _ _ Γ2 I2 (s1.trans s2) (Res.d rw1) h2⟩
end
/-- d[k] = v -/
def hasT (ks : List (List Key)) (j : List Key) : Bool := ks.any fun k => decide (k = j)
def putTs (ks : List (List Key)) (j : List Key) : List (List Key) := if hasT ks j = true then ks else ks ++ [j]
def putTx : List (List Key) → List D → List Key → D → List D
  | k :: ks, x :: xs, j, y => (if k = j then y else x) :: putTx ks xs j y
  | _, xs, _, _ => xs
def putTD (ks : List (List Key)) (xs : List D) (j : List Key) (y : D) : List D := if hasT ks j = true then putTx ks xs j y else xs ++ [y]
theorem putT_rep {F : Hp} {j : List Key} {v : V} {y : D} (ry : Rep F v y) {kvs : List (List Key × V)} {ks : List (List Key)} {xs : List D} (ek : kvs.map (·.1) = ks) (rs : Reps F (kvs.map (·.2)) xs) :
    (putK kvs j v).map (·.1) = putTs ks j ∧ Reps F ((putK kvs j v).map (·.2)) (putTD ks xs j y) := by
  unfold putK putTs putTD
  have ea : (kvs.any fun kv => decide (kv.1 = j)) = hasT ks j := by
    subst ek
    unfold hasT
    rw [List.any_map]
    rfl
  rw [ea]
  by_cases hj : hasT ks j = true
  · rw [if_pos hj, if_pos hj, if_pos hj]
    constructor
    · rw [← ek, List.map_map]
      refine List.map_congr_left fun p _ => ?_
      show (if p.1 = j then (p.1, v) else p).1 = p.1
      split <;> rfl
    · clear ea hj
      subst ek
      induction kvs generalizing xs with
      | nil =>
        cases rs
        exact .nil
      | cons p r ih =>
        cases rs with
        | cons a b =>
          rw [List.map_cons, List.map_cons]
          refine .cons ?_ (ih b)
          show Rep F (if p.1 = j then (p.1, v) else p).2 (if p.1 = j then y else _)
          by_cases z : p.1 = j
          · rw [if_pos z, if_pos z]
            exact ry
          · rw [if_neg z, if_neg z]
            exact a
  · rw [if_neg hj, if_neg hj, if_neg hj]
    exact ⟨by rw [List.map_append, ek]; rfl, by rw [List.map_append]; exact rs.app (.cons ry .nil)⟩
section
variable {K : PySem.W.Frag} [HasT K] {E : XK} {ψ : Value → Prop} {ta tb : TE} {da db : DT}
def dTPut (i : Nat) (dj da : DT) : DSt := fun Γ P => da Γ fun e Γ1 => wf e fun x => (∃ ks xs, Γ1[i]? = some (.dT ks xs)) ∧ dj Γ1 fun e' Γ2 => wf e' fun y => ∃ ks xs k, Γ2[i]? = some (.dT ks xs) ∧ keysOf y = some k ∧ ks.length ≤ 100000 ∧ P.nx (Γ2.set i (.dT (putTs ks k) (putTD ks xs k x)))
instance snds_tput {i : Nat} [a : Snd K E ψ ta da] [b : Snd K E ψ tb db] : SndS K E ψ (sDPutT (tVar i) tb ta) (dTPut i db da) := ⟨fun {c F H σ Γ P D} I eo h m => by
  refine a.frz (φ := fun _ _ => True) (k := fun x Γ1 => (∃ ks xs, Γ1[i]? = some (.dT ks xs)) ∧ db Γ1 fun e' Γ2 => wf e' fun y => ∃ ks xs k, Γ2[i]? = some (.dT ks xs) ∧ keysOf y = some k ∧ ks.length ≤ 100000 ∧ P.nx (Γ2.set i (.dT (putTs ks k) (putTD ks xs k x)))) I eo h fun F1 H1 w x Γ1 I1 s1 rp h1 => ?_
  obtain ⟨⟨ks0, xs0, g⟩, h1⟩ := h1
  obtain ⟨v, hv, p, kvs, rfl, fp, h0, hp, ek, rs⟩ := I1.at_ i _ g (fun z => nomatch z)
  refine ⟨_, hv, ?_⟩
  refine b.frz (φ := fun _ _ => True) (k := fun y Γ2 => ∃ ks xs k, Γ2[i]? = some (.dT ks xs) ∧ keysOf y = some k ∧ ks.length ≤ 100000 ∧ P.nx (Γ2.set i (.dT (putTs ks k) (putTD ks xs k x)))) I1 eo h1 fun F2 H2 u y Γ2 I2 s2 ry h2 => ?_
  obtain ⟨ks, xs, k, g2, hy, hl, h2⟩ := h2
  obtain ⟨v', hv', p', kvs2, ev, fp1, h01, hp1, ek1, rs1⟩ := I2.at_ i _ g2 (fun z => nomatch z)
  rw [hv] at hv'
  cases hv'
  cases ev
  have ll : kvs2.length = ks.length := by rw [← ek1, List.length_map]
  obtain ⟨k1, k2⟩ := putT_rep (rp.mono s2) ek1 rs1 (j := k)
  obtain ⟨b, rfl, hb⟩ := keysOf_rep ry hy
  refine ⟨p, _, rfl, DPut.t (k := k) hp1 (I2.fh _ _ hb) (by rw [ll]; exact Nat.lt_of_le_of_lt hl (by decide)), ?_⟩
  exact m.nx _ _ _ _ (I2.slot (e' := .dT (putTs ks k) (putTD ks xs k x)) g2 hv rfl fp1 h01 ⟨p, _, rfl, fp1, h01, upd_same, k1, k2⟩ (fun z => nomatch z) rfl) h2⟩
/-- sorted(d): the keys, rising -/
def sortKs (ks : List (List Key)) : List (List Key) := ks.mergeSort (PySem.W.dataLe false keyD)
def dSortT (xs : List D) (φ : En → Prop) : Prop := match xs with
  | [.dT ks _] => ks.length ≤ 1000 ∧ PySem.W.AllAlike (ks.map keyD) ∧ (∀ k ∈ ks, k ≠ []) ∧ (ks.Nodup → φ (.lst ((sortKs ks).map tupD)))
  | _ => False
theorem keys_zip {H : Hp} {kvs : List (List Key × V)} {bs : List Addr} (h : IsKeys H kvs bs) : bs.length = kvs.length ∧ ∀ z ∈ bs.zip kvs, H z.1 = some (.tup (z.2.1.map kV)) := by
  unfold IsKeys at h
  induction h with
  | nil => exact ⟨rfl, by simp⟩
  | cons a _ ih =>
    refine ⟨by rw [List.length_cons, List.length_cons, ih.1], fun z hz => ?_⟩
    rw [List.zip_cons_cons] at hz
    rcases List.mem_cons.mp hz with rfl | w
    · exact a
    · exact ih.2 z w
theorem sort_zip {bs : List Addr} {kvs : List (List Key × V)} (hl : bs.length = kvs.length) : (((bs.zip kvs).mergeSort (PySem.W.dataLe false fun z => keyD z.2.1)).map fun z => z.2.1) = sortKs (kvs.map (·.1)) := by
  unfold sortKs
  rw [PySem.W.sort_maps (r := PySem.W.dataLe false fun z : Addr × List Key × V => keyD z.2.1) (s := PySem.W.dataLe false keyD) (fun z : Addr × List Key × V => z.2.1) (fun a _ b _ => rfl)]
  have : (bs.zip kvs).map (fun z => z.2.1) = kvs.map (·.1) := by
    have e := List.map_snd_zip (l₁ := bs) (l₂ := kvs) (by omega)
    have e2 := congrArg (List.map (·.1)) e
    rw [List.map_map] at e2
    exact e2
  rw [this]
theorem reps_of {α : Type} {F : Hp} {g : α → V} {f : α → D} : ∀ {l : List α}, (∀ a ∈ l, Rep F (g a) (f a)) → Reps F (l.map g) (l.map f)
  | [], _ => .nil
  | a :: r, h => .cons (h a List.mem_cons_self) (reps_of fun b hb => h b (List.mem_cons_of_mem _ hb))
instance snd_sortDT : SndC K rSortDT dSortT := ⟨fun {c F H σ Γ xs ds φ Q} I r h q => by
  match ds, r, h with
  | [.dT ks xs], r, h =>
    obtain ⟨h1, h2, h3, h4⟩ := h
    obtain ⟨v, rfl, rp⟩ := one_of r
    cases rp with
    | @dT a kvs _ _ e ek rs =>
      have ha := I.fh _ _ e
      subst ek
      refine ⟨a, kvs, rfl, .inl ha, by simpa using h1, ?_, fun p hp => h3 _ (List.mem_map.mpr ⟨p, hp, rfl⟩), fun p bs hp hik nd => ?_⟩
      · have : (kvs.map fun p => keyD p.1) = (kvs.map (·.1)).map keyD := by rw [List.map_map]; rfl
        rw [this]
        exact h2
      · obtain ⟨hl, hz⟩ := keys_zip hik
        have I2 := I.tups
        have rr : Reps (tupF F H) (((bs.zip kvs).mergeSort (PySem.W.dataLe false fun z => keyD z.2.1)).map fun z => V.ref z.1) ((sortKs (kvs.map (·.1))).map tupD) := by
          rw [← sort_zip hl, List.map_map]
          refine reps_of fun z hzm => ?_
          exact rep_tupD (tupF_at I.fh (hz z ((List.mergeSort_perm _ _).mem_iff.mp hzm)))
        obtain ⟨I3, r3⟩ := I2.newL hp rr
        exact q _ _ _ _ I3 tupF_same r3 (h4 nd)⟩
end
end Da

set_option Elab.async false
set_option maxRecDepth 100000
set_option maxHeartbeats 4000000
set_option linter.all false
namespace Da
open PySem PySem.Spec PyProof.Rows L2 RZ HmS
/-! ### promises of defs that may raise -/
def sx1 (k : D → (En → Prop) → (Value → Prop) → Prop) : DSp := fun ds φ ψ => match ds with | [x] => k x φ ψ | _ => False
def sx2 (k : D → D → (En → Prop) → (Value → Prop) → Prop) : DSp := fun ds φ ψ => match ds with | [x, y] => k x y φ ψ | _ => False
def sx3 (k : D → D → D → (En → Prop) → (Value → Prop) → Prop) : DSp := fun ds φ ψ => match ds with | [x, y, z] => k x y z φ ψ | _ => False
def sx4 (k : D → D → D → D → (En → Prop) → (Value → Prop) → Prop) : DSp := fun ds φ ψ => match ds with | [x, y, z, u] => k x y z u φ ψ | _ => False
def sx5 (k : D → D → D → D → D → (En → Prop) → (Value → Prop) → Prop) : DSp := fun ds φ ψ => match ds with | [x, y, z, u, v] => k x y z u v φ ψ | _ => False
section
variable {K : PySem.W.Frag} [HasT K] {t : TS} {dts : (Value → Prop) → DSt} {N : List Str} {vs : List V} {H : Hp} {Q : VK} {E' : XK}
theorem lex1 {k : D → (En → Prop) → (Value → Prop) → Prop} (h : spX K (sx1 k) vs H Q E') : vs.length = 1 := lenX h fun ds _ _ e => by match ds, e with | [_], _ => rfl
theorem lex2 {k : D → D → (En → Prop) → (Value → Prop) → Prop} (h : spX K (sx2 k) vs H Q E') : vs.length = 2 := lenX h fun ds _ _ e => by match ds, e with | [_, _], _ => rfl
theorem lex3 {k : D → D → D → (En → Prop) → (Value → Prop) → Prop} (h : spX K (sx3 k) vs H Q E') : vs.length = 3 := lenX h fun ds _ _ e => by match ds, e with | [_, _, _], _ => rfl
theorem lex4 {k : D → D → D → D → (En → Prop) → (Value → Prop) → Prop} (h : spX K (sx4 k) vs H Q E') : vs.length = 4 := lenX h fun ds _ _ e => by match ds, e with | [_, _, _, _], _ => rfl
theorem lex5 {k : D → D → D → D → D → (En → Prop) → (Value → Prop) → Prop} (h : spX K (sx5 k) vs H Q E') : vs.length = 5 := lenX h fun ds _ _ e => by match ds, e with | [_, _, _, _, _], _ => rfl
theorem bodx1 {k : D → (En → Prop) → (Value → Prop) → Prop} [s : ∀ ψ, SndS K E' ψ t (dts ψ)] (h : spX K (sx1 k) vs H Q E') (hd : ∀ x φ ψ, k x φ ψ → dts ψ (st0 N [x]) (po φ)) : t (bodyGoal Q) (L2.start N vs) H :=
  bodyX (s := s) h fun ds φ ψ e => by match ds, e with | [x], e => exact hd x φ ψ e
theorem bodx2 {k : D → D → (En → Prop) → (Value → Prop) → Prop} [s : ∀ ψ, SndS K E' ψ t (dts ψ)] (h : spX K (sx2 k) vs H Q E') (hd : ∀ x y φ ψ, k x y φ ψ → dts ψ (st0 N [x, y]) (po φ)) : t (bodyGoal Q) (L2.start N vs) H :=
  bodyX (s := s) h fun ds φ ψ e => by match ds, e with | [x, y], e => exact hd x y φ ψ e
theorem bodx3 {k : D → D → D → (En → Prop) → (Value → Prop) → Prop} [s : ∀ ψ, SndS K E' ψ t (dts ψ)] (h : spX K (sx3 k) vs H Q E') (hd : ∀ x y z φ ψ, k x y z φ ψ → dts ψ (st0 N [x, y, z]) (po φ)) : t (bodyGoal Q) (L2.start N vs) H :=
  bodyX (s := s) h fun ds φ ψ e => by match ds, e with | [x, y, z], e => exact hd x y z φ ψ e
theorem bodx4 {k : D → D → D → D → (En → Prop) → (Value → Prop) → Prop} [s : ∀ ψ, SndS K E' ψ t (dts ψ)] (h : spX K (sx4 k) vs H Q E') (hd : ∀ x y z u φ ψ, k x y z u φ ψ → dts ψ (st0 N [x, y, z, u]) (po φ)) : t (bodyGoal Q) (L2.start N vs) H :=
  bodyX (s := s) h fun ds φ ψ e => by match ds, e with | [x, y, z, u], e => exact hd x y z u φ ψ e
theorem bodx5 {k : D → D → D → D → D → (En → Prop) → (Value → Prop) → Prop} [s : ∀ ψ, SndS K E' ψ t (dts ψ)] (h : spX K (sx5 k) vs H Q E') (hd : ∀ x y z u v φ ψ, k x y z u v φ ψ → dts ψ (st0 N [x, y, z, u, v]) (po φ)) : t (bodyGoal Q) (L2.start N vs) H :=
  bodyX (s := s) h fun ds φ ψ e => by match ds, e with | [x, y, z, u, v], e => exact hd x y z u v φ ψ e
end
/-! ### raise -/
structure ErrT (K : PySem.W.Frag) (mg : Str → Option Value) (n : Str) (C : Addr) : Prop where
  x : PySem.W.excIn K C [.type "ValueError", .type "Exception", .type "BaseException", .type "object"] "ValueError.__new__" = true
  g : mg n = some (.ref C)
  k : PySem.W.keepIn K (.ref C) = true
  b : PySem.W.subIn K (.ref C) (.type "BaseException") = some true
  t : PySem.W.typeIn K (.ref C) = some (.type "type")
theorem ps_rse {X : Cx} {n m : Str} {C : Addr} {E : XK} {j : Nat} {p p2 pos pos' : Pos} (T : ErrT X.K X.mg n C) (hc : X.calm = true) (tk : Takes X (fun cls d _ H => E cls d H)) (hg : Gl X n) (hdb : (n == ("__debug__" : Str)) = false := by decide) :
    PS X (.Raise (some (.Call (.Name n p) [.Constant (.str m) j p2] [] pos)) none pos') (tRse E (.ref C)) :=
  ps_raise hc tk (pmk_own PySem.F.excBase_ValueError T.x T.g T.k (raises_own T.b T.t) hg hdb)
/-! ### x(lambda: body), x a def that tells by a word what the call raised -/
def TTwhy (wo : Value → Str → Prop) (okw : Str) : (XK → Hp → VK → Prop) → Hp → VK → Prop := fun tl H Q => tl (fun cls _ H' => ∃ w, wo cls w ∧ Q (.str w) H') H fun _ H' => Q (.str okw) H'
/-- what a lambda sees: what stays for ever -/
def onlyE : En → En
  | .d x => .d x
  | _ => .no
def dWhy (wo : Value → Str → Prop) (okw : Str) (den : (Value → Prop) → DT) : DT := fun Γ φ => ∃ ψ : Value → Prop, (∀ C, ψ C → ∃ w, wo C w ∧ φ (.d (.str w)) Γ) ∧ den ψ (Γ.map onlyE) fun _ _ => φ (.d (.str okw)) Γ
section
variable {K : PySem.W.Frag} [HasT K]
theorem onlyE_some {e x : En} (h : onlyE e = x) (n : x ≠ .no) : ∃ y, e = .d y ∧ x = .d y := by
  cases e with
  | d y => exact ⟨y, rfl, h.symm⟩
  | _ => exact absurd h.symm n
theorem Is.only {c : Ct K} {F H H1 : Hp} {σ : L2.St} {Γ : List En} (I : Is c F H σ Γ) (sh : NS H H1) (tb : TbOk K H1) : Is (c0 K F H1) F H1 σ (Γ.map onlyE) := by
  have on : ∀ (i : Nat) (e : En), (Γ.map onlyE)[i]? = some e → e ≠ .no → ∃ y, Γ[i]? = some (.d y) ∧ e = .d y := fun i e g n => by
    rw [List.getElem?_map] at g
    cases q : Γ[i]? with
    | none => rw [q] at g; cases g
    | some u =>
      rw [q] at g
      obtain ⟨y, rfl, e2⟩ := onlyE_some (Option.some.inj g) n
      exact ⟨y, rfl, e2⟩
  refine ⟨Same.refl F, fun a o e => sh a o (I.fn a o e) (I.fh a o e), fun a o e => .inl e, fun a o _ e => (ntH_some e).1, (fun p e => nomatch e), by rw [List.length_map]; exact I.len, fun i e g n => ?_, fun i j b e e' ij g g' o o' s s' => ?_, I.fn, tb, fun a o e => (ntH_some e).2⟩
  · obtain ⟨y, g2, rfl⟩ := on i e g n
    obtain ⟨v, hv, r⟩ := I.at_ i _ g2 (fun z => nomatch z)
    exact ⟨v, hv, r⟩
  · obtain ⟨y, _, rfl⟩ := on i e g (fun z => by rw [z] at o; cases o)
    cases o
instance snd_lam {E : XK} {ψ : Value → Prop} {wo : Value → Str → Prop} {okw : Str} {t : XK → TE} {den : (Value → Prop) → DT} [s : ∀ E' ψ', Snd K E' ψ' (t E') (den ψ')] : Snd K E ψ (LamX.tLam (HasT.T K) (TTwhy wo okw) t) (dWhy wo okw den) := ⟨fun {c F H σ Γ φ Q} I eo h q => by
  obtain ⟨ψ', h1, h2⟩ := h
  refine ⟨I.tb, fun H1 ex tb1 => ?_⟩
  have sh : NS H H1 := fun b o n e => ex b o e n
  have bk : ∀ {H2 : Hp}, NS H1 H2 → TbOk K H2 → Is c F H2 σ Γ := fun {H2} s2 t2 => I.growN (Same.refl F) (sh.trans s2) t2 (fun a o e => s2 a o (I.fn a o e) (sh a o (I.fn a o e) (I.fh a o e))) I.fn fun a o e => .inl e
  refine (s _ ψ').run (I.only sh tb1) (fun C H' k _ t2 z => ?_) h2 fun F2 H2 v e Γ2 I2 _ _ z => ?_
  · obtain ⟨w, hw, hφ⟩ := h1 C z
    exact ⟨w, hw, q F H' _ _ Γ (bk (fun b o n e => k b o (fun z => nomatch z) (ntH_of e n)) t2) (Same.refl F) (Res.d (.str w)) hφ⟩
  · exact q F H2 _ _ Γ (bk (fun b o n e => I2.h0 b o (fun z => nomatch z) (ntH_of e n)) I2.tb) (Same.refl F) (Res.d (.str okw)) z⟩
end
/-! ### a def whose code object is known -/
structure FunL (K : PySem.W.Frag) (x : Str) (st : Stmt) (f : Addr) (fd : FuncData) (c : Addr) : Prop where
  ex : ∃ (oc : Value) (od : Option Addr) (kV doc pm : Value) (an : Option Addr) (ct : Value) (osl : Array (Option Value)),
    fd = PySem.W.fnOf x x (defArgs st) (defBody st) (defScope st) .none kV doc pm an (.ref c) ct ∧ K.lookup f = some ⟨oc, od, .func fd, osl⟩ ∧ PySem.W.codeIn K (.ref c) x = true
section
variable {P : Program} {w : World} {K : PySem.W.Frag} {mg : Str → Option Value} {base : Heap}
theorem okL {x : Str} {st : Stmt} {f c : Addr} {fd : FuncData} {N ps : List Str} {k : Nat} {sp : Sp} (F : FunL K x st f fd c) (S : FnScope N ps (defScope st)) (len : ∀ vs H Q E, sp vs H Q E → vs.length = ps.length)
    (hb : ∀ (A : Around) (outer : List Env) (s : Shared) (H : Hp) (vs : List V) (Q : VK) (E : XK), Room k (A.deeper (envOfC x (defScope st) s.heap.objs.size f (.ref c))) → sp vs H Q E →
      ∃ t, PSs (cxOf CX0 P w K mg base N x (defScope st) f (.ref c) A outer s H E).nox (defBody st) t ∧ t { nx := fun _ H' => Q .non H', rt := Q } (start N vs) H) : FnOk P w K mg base CX0 (k + 1) f fd ps sp := by
  obtain ⟨oc, od, kV, doc, pm, an, ct, osl, rfl, lk, hcd⟩ := F.ex
  refine fn_of lk hcd S len fun A outer s H vs Q E hr hsp => ?_
  obtain ⟨t, h, q⟩ := hb A outer s H vs Q E hr hsp
  exact ⟨t, h.nox, q⟩
theorem pe_lam {X : Cx} {T : List (Addr × Str)} {TT : (XK → Hp → VK → Prop) → Hp → VK → Prop} {x a : Str} {st : Stmt} {g c P : Addr} {fd : FuncData} {k : Nat} {Ng : List Str} {params : Arguments} {body : Expr} {scope : Scope} {t : XK → TE} {p lpos pos : Pos}
    (F : Fun X.K x x st g fd) (hg : Gl X x) (hm : X.mg x = some (.ref g)) (hk : PySem.W.keepIn X.K (.ref g) = true) (hb : L2.Binds X.K fd [a] []) (Sg : FnScope Ng [a] (defScope st)) (hNg : Ng[0]? = some a) (hva : Vis (defScope st) a)
    (hG : ∀ cd, LamX.GivesTo X Ng x (defScope st) g cd (defBody st) a (X.env.qual ++ "<lambda>") TT)
    (TB : LamX.TabB X.base X.mg c P) (hcode : X.env.code = .ref c) (hmT : (P, X.env.qual ++ "<lambda>") ∈ T) (hu : ∀ p ∈ T, p.1 = P → p.2 = X.env.qual ++ "<lambda>") (hr : Room (k + 2) X.A) (L : LamX.LamS X.env.scope scope) (hdef : defaultsOf params X.env = ([], []))
    (hbind : ∀ (q : Str) (cl : List (Str × Addr)) (pm cv ctv : Value), bindArgs (PySem.W.kla_fn "<lambda>" q params body scope cl pm cv ctv) ⟨[], []⟩ = pure [])
    (hbody : ∀ (A : Around) (outer : List Env) (s : Shared) (H : Hp) (E : XK) (f c' : Addr), Room k (A.deeper (LamX.lamEnv X scope s.heap.objs.size f c')) → PE (LamX.lamCx X A outer s H E scope f c') body (t E))
    (hdb : (x == ("__debug__" : Str)) = false := by decide) (hd : (a == ("__debug__" : Str)) = false := by decide) (hcd : (a == ("__classdict__" : Str)) = false := by decide) :
    PE X (.Call (.Name x p) [.Lambda params body scope lpos] [] pos) (LamX.tLam T TT t) := by
  obtain ⟨oc, od, kV, doc, pm, an, cdv, ct, osl, rfl, lk, hcg⟩ := F.ex
  exact LamX.pe_lamcall hg hm hk lk hcg hb Sg hNg hva (hG _) TB hcode hmT hu hr L hdef hbind hbody hdb hd hcd
end
/-- a law with lambdas within its defs: the tables of the code objects that make them -/
theorem TbOk.start {K : PySem.W.Frag} [t : HasT K] {H : Hp} (h : ∀ p ∈ t.T, H p.1 = some (.tbl #[])) : TbOk K H := fun p hp => LamX.TabS.nil (h p hp)
end Da

set_option Elab.async false
set_option maxRecDepth 100000
set_option maxHeartbeats 4000000
set_option linter.all false
namespace Da
open PySem PySem.Spec PyProof.Rows L2 RZ HmS
/-! ### len(set(xs)), ints of whatever kind -/
def metN (ns : List Int) : Nat := (PyProof.Rows.firstMet (fun i => ns.getD i 0) ns.length).length
theorem met_len {ns : List Int} : ∀ i, (PyProof.Rows.firstMet (fun i => ns.getD i 0) i).length ≤ i
  | 0 => Nat.le_refl _
  | i + 1 => by
    rw [PyProof.Rows.firstMet_succ]
    unfold PyProof.Rows.step_dedup
    have := met_len (ns := ns) i
    split
    · omega
    · rw [List.length_append, List.length_singleton]; omega
theorem met_full {ns : List Int} : ∀ i, i ≤ ns.length → (PyProof.Rows.firstMet (fun i => ns.getD i 0) i).length = i → PyProof.Rows.firstMet (fun i => ns.getD i 0) i = ns.take i ∧ (ns.take i).Nodup
  | 0, _, _ => ⟨rfl, List.nodup_nil⟩
  | i + 1, hi, h => by
    have hlt : i < ns.length := hi
    have e1 : ns.getD i 0 = ns[i] := by rw [List.getD_eq_getElem?_getD, List.getElem?_eq_getElem hlt] <;> rfl
    have e2 : ns.take (i + 1) = ns.take i ++ [ns[i]] := by rw [List.take_add_one, List.getElem?_eq_getElem hlt] <;> rfl
    rw [PyProof.Rows.firstMet_succ] at h ⊢
    unfold PyProof.Rows.step_dedup at h ⊢
    have l := met_len (ns := ns) i
    split at h
    · omega
    · rename_i no
      rw [List.length_append, List.length_singleton] at h
      obtain ⟨e, nd⟩ := met_full i (Nat.le_of_lt hlt) (by omega)
      rw [if_neg no, e, e1, e2]
      refine ⟨rfl, List.nodup_append.mpr ⟨nd, by simp, fun x hx y hy exy => no ?_⟩⟩
      rw [List.mem_singleton] at hy
      subst hy
      subst exy
      rw [e]
      exact List.any_eq_true.mpr ⟨_, hx, by rw [e1]; exact beq_iff_eq.mpr rfl⟩
theorem met_iff {ns : List Int} : metN ns = ns.length ↔ ns.Nodup := by
  refine ⟨fun h => ?_, fun h => ?_⟩
  · have := (met_full ns.length (Nat.le_refl _) h).2
    rw [List.take_length] at this
    exact this
  · unfold metN
    rw [RZ.firstMet_nodup h ns.length (Nat.le_refl _), List.take_length]
def tLenSetN (K : PySem.W.Frag) (ta : TE) : TE := fun σ H Q => ta σ H fun x H1 => ∃ (l : Addr) (ns : List Int), x = .ref l ∧ SqL K H1 l (ns.map V.int) ∧ ns.length ≤ 4000 ∧ Q (.int (metN ns : Nat)) H1
theorem pe_lenSetN {X : Cx} {a : Expr} {ta : TE} {K : PySem.W.Frag} {p p2 q pos : Pos} (hg : Gl X "len") (hm : X.mg "len" = none) (hg2 : Gl X "set") (hm2 : X.mg "set" = none) (ha : PE X a ta) (hc : X.calm = true := by rfl)
    (na : starEach [a] X.env = (false, eval a X.env) :: starEach [] X.env := by rfl) (hK : X.K = K := by rfl) : PE X (.Call (.Name "len" p) [.Call (.Name "set" p2) [a] [] q] [] pos) (tLenSetN K ta) := by
  subst hK
  refine ⟨fun pins s σ H Q I h => ?_⟩
  refine Call_ (ld_blt I hg hm boot_len ?_)
  refine PyProof.Rows.callWith_builtin1 (PyProof.Rows.args_cons ?_ rfl) rfl rfl
  refine Call_ (ld_blt I hg2 hm2 boot_set ?_)
  refine PyProof.Rows.callWith_type1 (PyProof.Rows.args_cons (thn (ha.run pins s σ H _ I h) fun v s1 ⟨x, H1, I1, r1, q1⟩ => PyProof.Rows.args_nil ?_) na) na rfl
  obtain ⟨l, ns, rfl, hq, hl, q1⟩ := q1
  cases r1
  obtain ⟨its, r, pl, hz⟩ := I1.list hq
  have hlen : its.toArray.size = ns.length := by rw [List.size_toArray, ← r.length, List.length_map]
  refine call_set_list (I1.ok.hd hc) pl.isList (by simpa using intsAre_vals r) (by rw [hlen]; unfold scanBound; omega) fun h' tk hS hk => ?_
  refine PyProof.Rows.args_nil ?_
  rw [hlen] at hS
  obtain ⟨o, es, ep, t, ho, hex, hd, _, _, _, hf, hn⟩ := hS
  have I2 : Inv X pins σ H1 { s1 with heap := h', toks := tk } := I1.kept fun b o e => hk b o (Heap.lt_size e) e
  have hm : metN ns ≤ ns.length := met_len _
  exact call_len_set ho hex hd hf (by rw [hn]; unfold metN at hm; omega) ⟨.int (metN ns : Nat), H1, I2.tok _, ⟨_, by rw [hn]; rfl⟩, q1⟩
def dLenSetN (da : DT) : DT := fun Γ φ => da Γ fun e Γ1 => wl e fun xs => ∃ is : List Int, xs = is.map D.int ∧ is.length ≤ 4000 ∧ φ (.d (.int (metN is))) Γ1
instance snd_lenSetN {K : PySem.W.Frag} [HasT K] {E : XK} {ψ : Value → Prop} {ta : TE} {da : DT} [a : Snd K E ψ ta da] : Snd K E ψ (tLenSetN K ta) (dLenSetN da) := ⟨fun {c F H σ Γ φ Q} I eo h q => a.run I eo h fun F1 H1 v e Γ1 I1 s1 r1 h1 => by
  obtain ⟨F2, p, vs, xs, rfl, I2, s2, ep, rs, is, rfl, hl, h2⟩ := r1.frzL I1 h1
  rw [rs.of_ints] at ep
  exact ⟨p, is, rfl, SqL.of (I2.fh _ _ ep), hl, q F2 H1 _ _ Γ1 I2 (s1.trans s2) (Res.d (.int _)) h2⟩⟩
end Da

set_option Elab.async false
set_option maxRecDepth 100000
set_option maxHeartbeats 4000000
set_option linter.all false
namespace Da
open PySem PySem.Spec PyProof.Rows L2 RZ HmS
/-! ### a tuple many times -/
def dRepT (x y : D) (φ : En → Prop) : Prop := match x, y with
  | .tup xs, .int k => xs ≠ [] ∧ 2 ≤ k ∧ k ≤ 1000 ∧ xs.length ≤ 1000 ∧ φ (.d (.tup (List.replicate k.toNat xs).flatten))
  | _, _ => False
instance snd_repT {K : PySem.W.Frag} [HasT K] : SndR K (rRepT K) dRepT := ⟨fun {c F H σ Γ x y d e φ Q} I rx ry h q => by
  match d, e, rx, ry, h with
  | .tup ds, .int k, .tup (vs := vs) e1 r1, .int _, h =>
    obtain ⟨h0, h1, h2, h3, h⟩ := h
    refine ⟨_, k, vs, rfl, rfl, SqT.of (I.fh _ _ e1), fun z => h0 ?_, h1, h2, by rw [r1.length]; exact h3, fun p hp => ?_⟩
    · subst z
      cases r1
      rfl
    · obtain ⟨I2, s2, _⟩ := I.new (o := .tup (List.replicate k.toNat vs).flatten) hp
      exact q _ _ _ _ I2 s2 (Res.d (.tup upd_same ((r1.flat k.toNat).mono s2))) h⟩
end Da

set_option Elab.async false
set_option maxRecDepth 100000
set_option maxHeartbeats 4000000
set_option linter.all false
namespace Dl
/-! ### the mathematics of deals: which fall, by which chains -/
abbrev Mv := Int × Int × Int
def mvd (d : List Mv) : List Int := d.map (·.1)
def dl (ds : List (List Mv)) (i : Nat) : List Mv := ds.getD i []
def movers (ds : List (List Mv)) (p : Nat) (s : Int) : List Nat := (List.range p).filter fun i => (mvd (dl ds i)).contains s
def lk : List (Nat × List Nat) → Nat → Option (List Nat)
  | [], _ => none
  | (k, c) :: r, q => if k = q then some c else lk r q
def leans (ds : List (List Mv)) (p : Nat) : List Nat := (mvd (dl ds p)).flatMap fun s => (movers ds p s).getLast?.toList
section
variable (mn : List Nat → List (List Nat) → List Nat) (ds : List (List Mv)) (f : Int)
def chain1 (n : Nat) (g : List (Nat × List Nat)) : Option (List Nat) :=
  if (mvd (dl ds n)).contains f then some [n]
  else match (leans ds n).filterMap (fun q => lk g q) with
    | [] => none
    | c :: cs => some (mn c cs ++ [n])
def chainsN : Nat → List (Nat × List Nat)
  | 0 => []
  | n + 1 => match chain1 mn ds f n (chainsN n) with
    | none => chainsN n
    | some c => chainsN n ++ [(n, c)]
def gone (n : Nat) : List Nat := (chainsN mn ds f n).map (·.1)
end
theorem mem_movers {ds : List (List Mv)} {p i : Nat} {s : Int} : i ∈ movers ds p s ↔ i < p ∧ s ∈ mvd (dl ds i) := by
  unfold movers
  rw [List.mem_filter, List.mem_range, List.contains_iff_mem]
theorem movers_pw {ds : List (List Mv)} {p : Nat} {s : Int} : (movers ds p s).Pairwise (· < ·) := List.Pairwise.filter _ List.pairwise_lt_range
theorem le_last {l : List Nat} (h : l.Pairwise (· < ·)) {i m : Nat} (hi : i ∈ l) (hm : l.getLast? = some m) : i ≤ m := by
  induction l with
  | nil => simp at hi
  | cons a r ih =>
    rw [List.pairwise_cons] at h
    cases r with
    | nil =>
      simp at hi hm
      omega
    | cons b t =>
      rw [List.getLast?_cons_cons] at hm
      rcases List.mem_cons.mp hi with z | z
      · have hb := h.1 b List.mem_cons_self
        have := h.1 m (List.mem_of_getLast? hm)
        omega
      · exact ih h.2 z hm
theorem mem_leans {ds : List (List Mv)} {p q : Nat} : q ∈ leans ds p ↔ ∃ s ∈ mvd (dl ds p), (movers ds p s).getLast? = some q := by
  unfold leans
  rw [List.mem_flatMap]
  constructor
  · rintro ⟨s, hs, h⟩
    exact ⟨s, hs, by simpa using h⟩
  · rintro ⟨s, hs, h⟩
    exact ⟨s, hs, by simpa using h⟩
theorem leans_lt {ds : List (List Mv)} {p q : Nat} (h : q ∈ leans ds p) : q < p := by
  obtain ⟨s, _, h⟩ := mem_leans.mp h
  exact (mem_movers.mp (List.mem_of_getLast? h)).1
theorem lookup_mem {g : List (Nat × List Nat)} {q : Nat} {c : List Nat} (h : lk g q = some c) : (q, c) ∈ g := by
  induction g with
  | nil => cases h
  | cons a r ih =>
    obtain ⟨k, v⟩ := a
    unfold lk at h
    by_cases z : k = q
    · subst z
      rw [if_pos rfl] at h
      cases h
      exact List.mem_cons_self
    · rw [if_neg z] at h
      exact List.mem_cons_of_mem _ (ih h)
theorem lookup_some {g : List (Nat × List Nat)} {q : Nat} (h : q ∈ g.map (·.1)) : ∃ c, lk g q = some c := by
  induction g with
  | nil => simp at h
  | cons a r ih =>
    obtain ⟨k, v⟩ := a
    unfold lk
    by_cases z : k = q
    · exact ⟨v, if_pos z⟩
    · rw [if_neg z]
      rw [List.map_cons, List.mem_cons] at h
      exact ih (h.resolve_left fun w => z w.symm)
section
variable {mn : List Nat → List (List Nat) → List Nat} {ds : List (List Mv)} {f : Int}
/-- falls, by what falls ahead -/
def Fl (mn : List Nat → List (List Nat) → List Nat) (ds : List (List Mv)) (f : Int) (p : Nat) : Prop := p ∈ gone mn ds f (p + 1)
theorem chain1_isSome {n : Nat} {g : List (Nat × List Nat)} : (chain1 mn ds f n g).isSome = true ↔ f ∈ mvd (dl ds n) ∨ ∃ q ∈ leans ds n, q ∈ g.map (·.1) := by
  unfold chain1
  by_cases z : f ∈ mvd (dl ds n)
  · rw [if_pos (by rw [List.contains_iff_mem]; exact z)]
    simp [z]
  · rw [if_neg (by rw [List.contains_iff_mem]; exact z)]
    constructor
    · intro h
      right
      cases e : (leans ds n).filterMap (fun q => lk g q) with
      | nil => rw [e] at h; cases h
      | cons c cs =>
        have : c ∈ (leans ds n).filterMap (fun q => lk g q) := by rw [e]; exact List.mem_cons_self
        obtain ⟨q, hq, hc⟩ := List.mem_filterMap.mp this
        exact ⟨q, hq, List.mem_map.mpr ⟨_, lookup_mem hc, rfl⟩⟩
    · rintro (h | ⟨q, hq, hg⟩)
      · exact absurd h z
      · obtain ⟨c, hc⟩ := lookup_some hg
        have : c ∈ (leans ds n).filterMap (fun q => lk g q) := List.mem_filterMap.mpr ⟨q, hq, hc⟩
        cases e : (leans ds n).filterMap (fun q => lk g q) with
        | nil => rw [e] at this; simp at this
        | cons c cs => rfl
theorem gone_succ (n : Nat) : gone mn ds f (n + 1) = if (chain1 mn ds f n (chainsN mn ds f n)).isSome = true then gone mn ds f n ++ [n] else gone mn ds f n := by
  unfold gone
  rw [chainsN]
  cases chain1 mn ds f n (chainsN mn ds f n) with
  | none => rfl
  | some c => simp
theorem gone_lt {n q : Nat} (h : q ∈ gone mn ds f n) : q < n := by
  induction n with
  | zero => simp [gone, chainsN] at h
  | succ n ih =>
    rw [gone_succ] at h
    split at h
    · rcases List.mem_append.mp h with z | z
      · have := ih z
        omega
      · simp at z
        omega
    · have := ih h
      omega
theorem gone_pw (n : Nat) : (gone mn ds f n).Pairwise (· < ·) := by
  induction n with
  | zero => simp [gone, chainsN]
  | succ n ih =>
    rw [gone_succ]
    split
    · rw [List.pairwise_append]
      refine ⟨ih, by simp, fun a ha b hb => ?_⟩
      simp at hb
      have := gone_lt ha
      omega
    · exact ih
theorem mem_gone {n q : Nat} : q ∈ gone mn ds f n ↔ q < n ∧ Fl mn ds f q := by
  induction n with
  | zero => simp [gone, chainsN]
  | succ n ih =>
    by_cases z : q = n
    · subst z
      exact ⟨fun h => ⟨by omega, h⟩, fun h => h.2⟩
    · rw [gone_succ]
      have : q ∈ (if (chain1 mn ds f n (chainsN mn ds f n)).isSome = true then gone mn ds f n ++ [n] else gone mn ds f n) ↔ q ∈ gone mn ds f n := by
        split
        · rw [List.mem_append, List.mem_singleton]
          exact ⟨fun h => h.resolve_right z, .inl⟩
        · exact Iff.rfl
      rw [this, ih]
      exact ⟨fun h => ⟨by omega, h.2⟩, fun h => ⟨by omega, h.2⟩⟩
theorem fl_iff {p : Nat} : Fl mn ds f p ↔ f ∈ mvd (dl ds p) ∨ ∃ q ∈ leans ds p, Fl mn ds f q := by
  unfold Fl
  rw [gone_succ]
  have e := chain1_isSome (mn := mn) (ds := ds) (f := f) (n := p) (g := chainsN mn ds f p)
  have nin : p ∉ gone mn ds f p := fun h => by have := gone_lt h; omega
  have key : (∃ q ∈ leans ds p, q ∈ (chainsN mn ds f p).map (·.1)) ↔ ∃ q ∈ leans ds p, q ∈ gone mn ds f (q + 1) := by
    constructor
    · rintro ⟨q, hq, h⟩
      exact ⟨q, hq, (mem_gone (n := p).mp h).2⟩
    · rintro ⟨q, hq, h⟩
      exact ⟨q, hq, mem_gone.mpr ⟨leans_lt hq, h⟩⟩
  rw [key] at e
  rw [← e]
  split
  · rename_i h
    simp [h]
  · rename_i h
    exact ⟨fun z => absurd z nin, fun z => absurd z h⟩
/-- whoever moves behind a fallen deal what it moved, falls -/
theorem fl_behind {s : Int} {r : Nat} (hr : Fl mn ds f r) (sr : s ∈ mvd (dl ds r)) : ∀ q, r < q → s ∈ mvd (dl ds q) → Fl mn ds f q := by
  intro q
  induction q using Nat.strongRecOn with
  | ind q ih =>
    intro rq sq
    cases e : (movers ds q s).getLast? with
    | none =>
      have : r ∈ movers ds q s := mem_movers.mpr ⟨rq, sr⟩
      rw [List.getLast?_eq_none_iff] at e
      rw [e] at this
      simp at this
    | some l =>
      have hl := mem_movers.mp (List.mem_of_getLast? e)
      have rl : r ≤ l := le_last movers_pw (mem_movers.mpr ⟨rq, sr⟩) e
      have fl : Fl mn ds f l := by
        by_cases z : r = l
        · rw [← z]
          exact hr
        · exact ih l hl.1 (by omega) hl.2
      exact fl_iff.mpr (.inr ⟨l, mem_leans.mpr ⟨s, sq, e⟩, fl⟩)
theorem chainsN_congr {ds' : List (List Mv)} {n : Nat} (h : ∀ i, i < n → dl ds i = dl ds' i) : chainsN mn ds f n = chainsN mn ds' f n := by
  induction n with
  | zero => rfl
  | succ n ih =>
    have e := ih fun i hi => h i (by omega)
    have em : ∀ s, movers ds n s = movers ds' n s := fun s => by
      unfold movers
      refine List.filter_congr fun i hi => ?_
      rw [h i (by have := List.mem_range.mp hi; omega)]
    have el : leans ds n = leans ds' n := by
      unfold leans
      rw [h n (by omega)]
      simp only [em]
    have ec : chain1 mn ds f n (chainsN mn ds f n) = chain1 mn ds' f n (chainsN mn ds' f n) := by
      unfold chain1
      rw [h n (by omega), el, e]
    rw [chainsN, chainsN, ec, e]
theorem dl_take {m i : Nat} (h : i < m) : dl (ds.take m) i = dl ds i := by
  unfold dl
  rw [List.getD_eq_getElem?_getD, List.getD_eq_getElem?_getD, List.getElem?_take, if_pos h]
theorem chainsN_take {m n : Nat} (h : n ≤ m) : chainsN mn (ds.take m) f n = chainsN mn ds f n := chainsN_congr fun i hi => dl_take (by omega)
/-! ### chains -/
inductive IsCh (ds : List (List Mv)) (f : Int) : List Nat → Nat → Prop where
  | base {p : Nat} : f ∈ mvd (dl ds p) → IsCh ds f [p] p
  | step {c : List Nat} {q p : Nat} : IsCh ds f c q → q ∈ leans ds p → IsCh ds f (c ++ [p]) p
theorem chains_ok (hmn : ∀ c cs, mn c cs ∈ c :: cs) {n p : Nat} {c : List Nat} (h : (p, c) ∈ chainsN mn ds f n) : IsCh ds f c p ∧ p < n := by
  induction n generalizing p c with
  | zero => simp [chainsN] at h
  | succ n ih =>
    rw [chainsN] at h
    cases e : chain1 mn ds f n (chainsN mn ds f n) with
    | none =>
      rw [e] at h
      have := ih h
      exact ⟨this.1, by omega⟩
    | some d =>
      rw [e] at h
      rcases List.mem_append.mp h with z | z
      · have := ih z
        exact ⟨this.1, by omega⟩
      · rw [List.mem_singleton] at z
        cases z
        refine ⟨?_, by omega⟩
        unfold chain1 at e
        split at e
        · rename_i hf
          cases e
          exact .base (List.contains_iff_mem.mp hf)
        · split at e
          · cases e
          · rename_i c1 cs he
            cases e
            have hm := hmn c1 cs
            rw [← he] at hm
            obtain ⟨q, hq, hc⟩ := List.mem_filterMap.mp hm
            exact .step (ih (lookup_mem hc)).1 hq
theorem IsCh.ne {c : List Nat} {p : Nat} (h : IsCh ds f c p) : c ≠ [] := by cases h <;> simp
theorem IsCh.last {c : List Nat} {p : Nat} (h : IsCh ds f c p) : c.getLast? = some p := by cases h <;> simp
theorem IsCh.le {c : List Nat} {p : Nat} (h : IsCh ds f c p) : ∀ i ∈ c, i ≤ p := by
  induction h with
  | base _ => simp
  | step h1 h2 ih =>
    intro i hi
    have := leans_lt h2
    rcases List.mem_append.mp hi with z | z
    · have := ih i z
      omega
    · simp at z
      omega
theorem IsCh.pw {c : List Nat} {p : Nat} (h : IsCh ds f c p) : c.Pairwise (· < ·) := by
  induction h with
  | base _ => simp
  | step h1 h2 ih =>
    have := leans_lt h2
    rw [List.pairwise_append]
    refine ⟨ih, by simp, fun a ha b hb => ?_⟩
    simp at hb
    have := h1.le a ha
    omega
theorem IsCh.fl {c : List Nat} {p : Nat} (h : IsCh ds f c p) : ∀ i ∈ c, Fl mn ds f i := by
  have last : ∀ {c p}, IsCh ds f c p → (∀ i ∈ c, Fl mn ds f i) → Fl mn ds f p := fun h a => a _ (List.mem_of_getLast? h.last)
  induction h with
  | base h =>
    intro i hi
    simp at hi
    subst hi
    exact fl_iff.mpr (.inl h)
  | step h1 h2 ih =>
    intro i hi
    rcases List.mem_append.mp hi with z | z
    · exact ih i z
    · simp at z
      subst z
      exact fl_iff.mpr (.inr ⟨_, h2, last h1 ih⟩)
theorem IsCh.head {c : List Nat} {p : Nat} (h : IsCh ds f c p) : ∃ a r, c = a :: r ∧ f ∈ mvd (dl ds a) := by
  induction h with
  | base h => exact ⟨_, _, rfl, h⟩
  | step h1 h2 ih =>
    obtain ⟨a, r, rfl, h⟩ := ih
    exact ⟨a, _, rfl, h⟩
/-- each but the first leans on the one ahead -/
def linked (ds : List (List Mv)) : List Nat → Bool
  | a :: b :: r => (leans ds b).contains a && linked ds (b :: r)
  | _ => true
theorem linked_snoc {c : List Nat} {q p : Nat} (h : linked ds c = true) (l : c.getLast? = some q) (k : q ∈ leans ds p) : linked ds (c ++ [p]) = true := by
  induction c with
  | nil => simp at l
  | cons a r ih =>
    cases r with
    | nil =>
      simp at l
      subst l
      show ((leans ds p).contains a && true) = true
      rw [Bool.and_true, List.contains_iff_mem]
      exact k
    | cons b t =>
      rw [List.getLast?_cons_cons] at l
      have h : ((leans ds b).contains a && linked ds (b :: t)) = true := h
      rw [Bool.and_eq_true] at h
      show ((leans ds b).contains a && linked ds (b :: t ++ [p])) = true
      rw [Bool.and_eq_true]
      exact ⟨h.1, ih h.2 l⟩
theorem IsCh.linked {c : List Nat} {p : Nat} (h : IsCh ds f c p) : Dl.linked ds c = true := by
  induction h with
  | base h => rfl
  | step h1 h2 ih => exact linked_snoc ih h1.last h2
end
end Dl

set_option Elab.async false
set_option maxRecDepth 100000
set_option maxHeartbeats 4000000
set_option linter.all false
namespace Dl
/-! ### the mathematics of owners -/
structure OwOk (os : List Int) : Prop where
  l0 : 1 ≤ os.length
  l1 : os.length ≤ 12
  rng : ∀ o ∈ os, 0 ≤ o ∧ o ≤ 5
structure MvOk (os : List Int) (m : Mv) : Prop where
  s0 : 0 ≤ m.1
  s1 : m.1 < os.length
  g0 : 0 ≤ m.2.1
  g1 : m.2.1 ≤ 5
  t0 : 0 ≤ m.2.2
  t1 : m.2.2 ≤ 5
  ne : m.2.1 ≠ m.2.2
  own : os[m.1.toNat]? = some m.2.1
structure DlOk (os : List Int) (d : List Mv) : Prop where
  l0 : 1 ≤ d.length
  l1 : d.length ≤ 6
  mv : ∀ m ∈ d, MvOk os m
  once : (mvd d).Nodup
def doneD (os : List Int) (d : List Mv) : List Int := d.foldl (fun o m => o.set m.1.toNat m.2.2) os
def doneM (os : List Int) (ds : List (List Mv)) : List Int := ds.foldl doneD os
def DlsOk : List Int → List (List Mv) → Prop
  | _, [] => True
  | os, d :: r => DlOk os d ∧ DlsOk (doneD os d) r
theorem doneD_len (os : List Int) (d : List Mv) : (doneD os d).length = os.length := by
  unfold doneD
  induction d generalizing os with
  | nil => rfl
  | cons m r ih => rw [List.foldl_cons, ih, List.length_set]
theorem doneM_len (os : List Int) (ds : List (List Mv)) : (doneM os ds).length = os.length := by
  unfold doneM
  induction ds generalizing os with
  | nil => rfl
  | cons m r ih => rw [List.foldl_cons, ih, doneD_len]
theorem doneM_snoc (os : List Int) (ds : List (List Mv)) (d : List Mv) : doneM os (ds ++ [d]) = doneD (doneM os ds) d := by unfold doneM; rw [List.foldl_append]; rfl
theorem doneD_snoc (os : List Int) (d : List Mv) (m : Mv) : doneD os (d ++ [m]) = (doneD os d).set m.1.toNat m.2.2 := by unfold doneD; rw [List.foldl_append]; rfl
theorem doneD_out {i : Nat} {d : List Mv} (h : ∀ m ∈ d, m.1.toNat ≠ i) (os : List Int) : (doneD os d)[i]? = os[i]? := by
  unfold doneD
  induction d generalizing os with
  | nil => rfl
  | cons m r ih =>
    rw [List.foldl_cons, ih (fun x hx => h x (List.mem_cons_of_mem _ hx)), List.getElem?_set_ne (h m List.mem_cons_self)]
theorem doneD_eq {i : Nat} {d : List Mv} {o o' : List Int} (hl : o.length = o'.length) (h : o[i]? = o'[i]?) : (doneD o d)[i]? = (doneD o' d)[i]? := by
  unfold doneD
  induction d generalizing o o' with
  | nil => exact h
  | cons m r ih =>
    rw [List.foldl_cons, List.foldl_cons]
    refine ih (by rw [List.length_set, List.length_set, hl]) ?_
    rw [List.getElem?_set, List.getElem?_set, hl, h]
theorem dlsOk_snoc {os : List Int} {ds : List (List Mv)} {d : List Mv} : DlsOk os (ds ++ [d]) ↔ DlsOk os ds ∧ DlOk (doneM os ds) d := by
  induction ds generalizing os with
  | nil =>
    show DlOk os d ∧ True ↔ True ∧ DlOk os d
    exact ⟨fun h => ⟨trivial, h.1⟩, fun h => ⟨h.2, trivial⟩⟩
  | cons x r ih =>
    show DlOk os x ∧ DlsOk (doneD os x) (r ++ [d]) ↔ (DlOk os x ∧ DlsOk (doneD os x) r) ∧ DlOk (doneM (doneD os x) r) d
    rw [ih]
    exact ⟨fun h => ⟨⟨h.1, h.2.1⟩, h.2.2⟩, fun h => ⟨h.1.1, h.1.2, h.2⟩⟩
theorem take_succ_dl {ds : List (List Mv)} {n : Nat} (h : n < ds.length) : ds.take (n + 1) = ds.take n ++ [dl ds n] := by
  unfold dl
  rw [List.take_add_one, List.getD_eq_getElem?_getD, List.getElem?_eq_getElem h]
  rfl
theorem dlsOk_take {os : List Int} {ds : List (List Mv)} (h : DlsOk os ds) (n : Nat) : DlsOk os (ds.take n) := by
  induction ds generalizing os n with
  | nil =>
    rw [List.take_nil]
    trivial
  | cons x r ih =>
    cases n with
    | zero => trivial
    | succ n => exact ⟨h.1, ih h.2 n⟩
theorem dlsOk_at {os : List Int} {ds : List (List Mv)} (h : DlsOk os ds) {n : Nat} (hn : n < ds.length) : DlOk (doneM os (ds.take n)) (dl ds n) := by
  have := dlsOk_take h (n + 1)
  rw [take_succ_dl hn, dlsOk_snoc] at this
  exact this.2
theorem dlsOk_mv {os : List Int} {ds : List (List Mv)} (h : DlsOk os ds) : ∀ d ∈ ds, ∀ m ∈ d, 0 ≤ m.1 ∧ m.1 < os.length := by
  induction ds generalizing os with
  | nil => simp
  | cons x r ih =>
    intro d hd m hm
    rcases List.mem_cons.mp hd with z | z
    · subst z
      exact ⟨(h.1.mv m hm).s0, (h.1.mv m hm).s1⟩
    · have := ih h.2 d z m hm
      rw [doneD_len] at this
      exact this
theorem dlsOk_ln {os : List Int} {ds : List (List Mv)} (h : DlsOk os ds) : ∀ d ∈ ds, d.length ≤ 6 := by
  induction ds generalizing os with
  | nil => simp
  | cons x r ih =>
    intro d hd
    rcases List.mem_cons.mp hd with z | z
    · subst z
      exact h.1.l1
    · exact ih h.2 d z
theorem dl_mem {ds : List (List Mv)} {n : Nat} (h : n < ds.length) : dl ds n ∈ ds := by
  unfold dl
  rw [List.getD_eq_getElem?_getD, List.getElem?_eq_getElem h]
  exact List.getElem_mem h
theorem doneM_rng {os : List Int} {ds : List (List Mv)} (h : DlsOk os ds) (r : ∀ o ∈ os, 0 ≤ o ∧ o ≤ 5) : ∀ o ∈ doneM os ds, 0 ≤ o ∧ o ≤ 5 := by
  have one : ∀ (d : List Mv) (os : List Int), (∀ m ∈ d, 0 ≤ m.2.2 ∧ m.2.2 ≤ 5) → (∀ o ∈ os, 0 ≤ o ∧ o ≤ 5) → ∀ o ∈ doneD os d, 0 ≤ o ∧ o ≤ 5 := by
    intro d
    induction d with
    | nil => exact fun _ _ h => h
    | cons m r ih =>
      intro os hm ho o h
      have h : o ∈ doneD (os.set m.1.toNat m.2.2) r := h
      refine ih _ (fun x hx => hm x (List.mem_cons_of_mem _ hx)) (fun x hx => ?_) o h
      rcases List.mem_or_eq_of_mem_set hx with z | z
      · exact ho x z
      · rw [z]
        exact hm m List.mem_cons_self
  induction ds generalizing os with
  | nil => exact r
  | cons x q ih =>
    show ∀ o ∈ doneM (doneD os x) q, 0 ≤ o ∧ o ≤ 5
    exact ih h.2 (one x os (fun m hm => ⟨(h.1.mv m hm).t0, (h.1.mv m hm).t1⟩) r)
/-! ### what stands -/
section
variable (mn : List Nat → List (List Nat) → List Nat) (ds : List (List Mv)) (f : Int)
def restN : Nat → List (List Mv)
  | 0 => []
  | n + 1 => if (gone mn ds f ds.length).contains n then restN n else restN n ++ [dl ds n]
end
section
variable {mn : List Nat → List (List Nat) → List Nat} {ds : List (List Mv)} {f : Int} {os : List Int}
theorem gone_has {n : Nat} (h : n < ds.length) : (gone mn ds f ds.length).contains n = true ↔ Fl mn ds f n := by
  rw [List.contains_iff_mem, mem_gone]
  exact ⟨fun h => h.2, fun z => ⟨h, z⟩⟩
theorem rest_fl {n : Nat} (h : n < ds.length) (z : Fl mn ds f n) : restN mn ds f (n + 1) = restN mn ds f n := by
  rw [restN, if_pos ((gone_has h).mpr z)]
theorem rest_st {n : Nat} (h : n < ds.length) (z : ¬ Fl mn ds f n) : restN mn ds f (n + 1) = restN mn ds f n ++ [dl ds n] := by
  rw [restN, if_neg fun w => z ((gone_has h).mp w)]
theorem mvd_of {d : List Mv} {m : Mv} (h : m ∈ d) : m.1 ∈ mvd d := List.mem_map.mpr ⟨m, h, rfl⟩
theorem of_mvd {d : List Mv} {s : Int} (h : s ∈ mvd d) : ∃ m ∈ d, m.1 = s := List.mem_map.mp h
theorem done_out {d : List Mv} {s : Int} (h0 : 0 ≤ s) (hd : ∀ m ∈ d, 0 ≤ m.1) (h : s ∉ mvd d) (o : List Int) : (doneD o d)[s.toNat]? = o[s.toNat]? :=
  doneD_out (fun m hm z => h (by have := hd m hm; rw [show s = m.1 by omega]; exact mvd_of hm)) o
theorem rest_ok (ok : DlsOk os ds) {n : Nat} (hn : n ≤ ds.length) : DlsOk os (restN mn ds f n) ∧
    ∀ s : Int, 0 ≤ s → (∀ r, r < n → Fl mn ds f r → s ∉ mvd (dl ds r)) → (doneM os (restN mn ds f n))[s.toNat]? = (doneM os (ds.take n))[s.toNat]? := by
  induction n with
  | zero => exact ⟨trivial, fun _ _ _ => by rw [List.take_zero]; rfl⟩
  | succ n ih =>
    obtain ⟨i1, i2⟩ := ih (by omega)
    have hn : n < ds.length := hn
    have od := dlsOk_at ok hn
    rw [take_succ_dl hn, doneM_snoc]
    by_cases z : Fl mn ds f n
    · rw [rest_fl hn z]
      refine ⟨i1, fun s h0 h => ?_⟩
      rw [i2 s h0 fun r hr => h r (by omega)]
      exact (done_out h0 (fun m hm => (od.mv m hm).s0) (h n (by omega) z) _).symm
    · rw [rest_st hn z, doneM_snoc]
      refine ⟨dlsOk_snoc.mpr ⟨i1, od.l0, od.l1, fun m hm => ?_, od.once⟩, fun s h0 h => ?_⟩
      · have k := od.mv m hm
        have e := i2 m.1 k.s0 fun r hr fr mr => z (fl_behind fr mr n hr (mvd_of hm))
        exact ⟨k.s0, by have := k.s1; rw [doneM_len] at this ⊢; exact this, k.g0, k.g1, k.t0, k.t1, k.ne, by rw [e]; exact k.own⟩
      · exact doneD_eq (by rw [doneM_len, doneM_len]) (i2 s h0 fun r hr => h r (by omega))
/-- the owner behind what stands is the one ahead of the first fallen deal that moves the stamp -/
theorem rest_first (ok : DlsOk os ds) {s : Int} (h0 : 0 ≤ s) {p : Nat} (hp : p < ds.length) (fp : Fl mn ds f p) (sp : s ∈ mvd (dl ds p)) (first : ∀ r, r < p → Fl mn ds f r → s ∉ mvd (dl ds r)) :
    ∀ n, p ≤ n → n ≤ ds.length → (doneM os (restN mn ds f n))[s.toNat]? = (doneM os (ds.take p))[s.toNat]? := by
  intro n
  induction n with
  | zero =>
    intro h1 _
    have : p = 0 := by omega
    subst this
    rfl
  | succ n ih =>
    intro h1 h2
    by_cases z : p = n + 1
    · subst z
      exact (rest_ok ok h2).2 s h0 first
    · have i := ih (by omega) (by omega)
      have hn : n < ds.length := h2
      by_cases w : Fl mn ds f n
      · rw [rest_fl hn w]
        exact i
      · rw [rest_st hn w, doneM_snoc]
        have od := dlsOk_at ok hn
        have ns : s ∉ mvd (dl ds n) := fun y => w (by
          by_cases e : p = n
          · subst e
            exact fp
          · exact fl_behind fp sp n (by omega) y)
        rw [done_out h0 (fun m hm => (od.mv m hm).s0) ns]
        exact i
theorem rest_len (n : Nat) : (restN mn ds f n).length ≤ n := by
  induction n with
  | zero => exact Nat.le_refl _
  | succ n ih =>
    rw [restN]
    split
    · omega
    · rw [List.length_append, List.length_singleton]
      omega
theorem rest_not {n : Nat} (hn : n ≤ ds.length) : ∀ d ∈ restN mn ds f n, f ∉ mvd d := by
  induction n with
  | zero => simp [restN]
  | succ n ih =>
    have hn : n < ds.length := hn
    by_cases z : Fl mn ds f n
    · rw [rest_fl hn z]
      exact ih (by omega)
    · rw [rest_st hn z]
      intro d hd
      rcases List.mem_append.mp hd with w | w
      · exact ih (by omega) d w
      · rw [List.mem_singleton] at w
        subst w
        exact fun y => z (fl_iff.mpr (.inl y))
theorem none_gone {rs : List (List Mv)} (h : ∀ d ∈ rs, f ∉ mvd d) (n : Nat) : chainsN mn rs f n = [] := by
  induction n with
  | zero => rfl
  | succ n ih =>
    rw [chainsN, ih]
    have : f ∉ mvd (dl rs n) := by
      unfold dl
      rw [List.getD_eq_getElem?_getD]
      cases e : rs[n]? with
      | none => simp [mvd]
      | some d => exact h d (List.mem_of_getElem? e)
    have : chain1 mn rs f n [] = none := by
      unfold chain1
      rw [if_neg (by rw [List.contains_iff_mem]; exact this)]
      have : (leans rs n).filterMap (fun q => lk [] q) = [] := by
        rw [List.filterMap_eq_nil_iff]
        exact fun _ _ => rfl
      rw [this]
    rw [this]
theorem rest_all {rs : List (List Mv)} (h : ∀ d ∈ rs, f ∉ mvd d) : ∀ n, n ≤ rs.length → restN mn rs f n = rs.take n := by
  intro n
  induction n with
  | zero => intro _; rfl
  | succ n ih =>
    intro hn
    have e : gone mn rs f rs.length = [] := by
      unfold gone
      rw [none_gone h]
      rfl
    rw [restN, e, take_succ_dl hn, ih (by omega)]
    rfl
theorem done_not {rs : List (List Mv)} {i : Nat} (h : ∀ d ∈ rs, ∀ m ∈ d, m.1.toNat ≠ i) (os : List Int) : (doneM os rs)[i]? = os[i]? := by
  unfold doneM
  induction rs generalizing os with
  | nil => rfl
  | cons d r ih => rw [List.foldl_cons, ih (fun x hx => h x (List.mem_cons_of_mem _ hx)), doneD_out (h d List.mem_cons_self)]
theorem gone_prefix {n m : Nat} (h : n ≤ m) : gone mn ds f n = (gone mn ds f m).filter fun q => decide (q < n) := by
  induction m with
  | zero =>
    have : n = 0 := by omega
    subst this
    simp [gone, chainsN]
  | succ m ih =>
    by_cases z : n = m + 1
    · subst z
      rw [List.filter_eq_self.mpr]
      intro a ha
      exact decide_eq_true (gone_lt ha)
    · rw [gone_succ, ih (by omega)]
      split
      · rw [List.filter_append, List.filter_cons_of_neg (by simp; omega), List.filter_nil, List.append_nil]
      · rfl
theorem gone_take {m n : Nat} (h : n ≤ m) : gone mn (ds.take m) f n = gone mn ds f n := by
  unfold gone
  rw [chainsN_take h]
end
end Dl

set_option Elab.async false
set_option maxRecDepth 100000
set_option maxHeartbeats 4000000
set_option linter.all false
set_option synthInstance.maxHeartbeats 4000000
set_option synthInstance.maxSize 10000

namespace Dl
open PySem PySem.Spec PyProof.Rows L2 RZ HmS Da
def topSt (i : Nat) : Stmt := PySem.Challenge.pw_hingemount_k44_owners_and_deals_refused.main.body.getD i (.Pass ⟨0, 0, 0, 0⟩)
abbrev st_is_whole : Stmt := topSt 7
abbrev nm_is_whole : List Str := ["thing"]
abbrev ps_is_whole : List Str := ["thing"]
theorem sc_is_whole : FnScope nm_is_whole ps_is_whole (defScope st_is_whole) := ⟨rfl, rfl, rfl, by decide +kernel, rfl, by decide +kernel, by decide +kernel⟩
abbrev st_is_whole_within : Stmt := topSt 8
abbrev nm_is_whole_within : List Str := ["thing", "least", "most"]
abbrev ps_is_whole_within : List Str := ["thing", "least", "most"]
theorem sc_is_whole_within : FnScope nm_is_whole_within ps_is_whole_within (defScope st_is_whole_within) := ⟨rfl, rfl, rfl, by decide +kernel, rfl, by decide +kernel, by decide +kernel⟩
abbrev st_is_tuple : Stmt := topSt 9
abbrev nm_is_tuple : List Str := ["thing", "fewest", "most"]
abbrev ps_is_tuple : List Str := ["thing", "fewest", "most"]
theorem sc_is_tuple : FnScope nm_is_tuple ps_is_tuple (defScope st_is_tuple) := ⟨rfl, rfl, rfl, by decide +kernel, rfl, by decide +kernel, by decide +kernel⟩
abbrev st_is_rising : Stmt := topSt 10
abbrev nm_is_rising : List Str := ["things", "ahead", "behind"]
abbrev ps_is_rising : List Str := ["things"]
theorem sc_is_rising : FnScope nm_is_rising ps_is_rising (defScope st_is_rising) := ⟨rfl, rfl, rfl, by decide +kernel, rfl, by decide +kernel, by decide +kernel⟩
abbrev st_is_rising_within : Stmt := topSt 11
abbrev nm_is_rising_within : List Str := ["thing", "least", "most", "part"]
abbrev ps_is_rising_within : List Str := ["thing", "least", "most"]
theorem sc_is_rising_within : FnScope nm_is_rising_within ps_is_rising_within (defScope st_is_rising_within) := ⟨rfl, rfl, rfl, by decide +kernel, rfl, by decide +kernel, by decide +kernel⟩
abbrev st_is_each_once : Stmt := topSt 12
abbrev nm_is_each_once : List Str := ["things"]
abbrev ps_is_each_once : List Str := ["things"]
theorem sc_is_each_once : FnScope nm_is_each_once ps_is_each_once (defScope st_is_each_once) := ⟨rfl, rfl, rfl, by decide +kernel, rfl, by decide +kernel, by decide +kernel⟩
abbrev st_is_owner : Stmt := topSt 14
abbrev nm_is_owner : List Str := ["thing"]
abbrev ps_is_owner : List Str := ["thing"]
theorem sc_is_owner : FnScope nm_is_owner ps_is_owner (defScope st_is_owner) := ⟨rfl, rfl, rfl, by decide +kernel, rfl, by decide +kernel, by decide +kernel⟩
abbrev st_is_owners : Stmt := topSt 15
abbrev nm_is_owners : List Str := ["thing", "part"]
abbrev ps_is_owners : List Str := ["thing"]
theorem sc_is_owners : FnScope nm_is_owners ps_is_owners (defScope st_is_owners) := ⟨rfl, rfl, rfl, by decide +kernel, rfl, by decide +kernel, by decide +kernel⟩
abbrev st_is_move : Stmt := topSt 16
abbrev nm_is_move : List Str := ["owners", "thing", "stamp", "giver", "taker"]
abbrev ps_is_move : List Str := ["owners", "thing"]
theorem sc_is_move : FnScope nm_is_move ps_is_move (defScope st_is_move) := ⟨rfl, rfl, rfl, by decide +kernel, rfl, by decide +kernel, by decide +kernel⟩
abbrev st_is_deal : Stmt := topSt 17
abbrev nm_is_deal : List Str := ["owners", "thing", "part"]
abbrev ps_is_deal : List Str := ["owners", "thing"]
theorem sc_is_deal : FnScope nm_is_deal ps_is_deal (defScope st_is_deal) := ⟨rfl, rfl, rfl, by decide +kernel, rfl, by decide +kernel, by decide +kernel⟩
abbrev st_is_deals : Stmt := topSt 18
abbrev nm_is_deals : List Str := ["owners", "thing", "now", "part"]
abbrev ps_is_deals : List Str := ["owners", "thing"]
theorem sc_is_deals : FnScope nm_is_deals ps_is_deals (defScope st_is_deals) := ⟨rfl, rfl, rfl, by decide +kernel, rfl, by decide +kernel, by decide +kernel⟩
abbrev st_moved_by : Stmt := topSt 19
abbrev nm_moved_by : List Str := ["deal", "move"]
abbrev ps_moved_by : List Str := ["deal"]
theorem sc_moved_by : FnScope nm_moved_by ps_moved_by (defScope st_moved_by) := ⟨rfl, rfl, rfl, by decide +kernel, rfl, by decide +kernel, by decide +kernel⟩
abbrev st_owners_done : Stmt := topSt 20
abbrev nm_owners_done : List Str := ["owners", "deals", "behind", "deal", "stamp", "_", "taker"]
abbrev ps_owners_done : List Str := ["owners", "deals"]
theorem sc_owners_done : FnScope nm_owners_done ps_owners_done (defScope st_owners_done) := ⟨rfl, rfl, rfl, by decide +kernel, rfl, by decide +kernel, by decide +kernel⟩
abbrev st_check_deals : Stmt := topSt 21
abbrev nm_check_deals : List Str := ["owners", "deals"]
abbrev ps_check_deals : List Str := ["owners", "deals"]
theorem sc_check_deals : FnScope nm_check_deals ps_check_deals (defScope st_check_deals) := ⟨rfl, rfl, rfl, by decide +kernel, rfl, by decide +kernel, by decide +kernel⟩
abbrev st_check_false : Stmt := topSt 22
abbrev nm_check_false : List Str := ["owners", "deals", "stamp"]
abbrev ps_check_false : List Str := ["owners", "deals", "stamp"]
theorem sc_check_false : FnScope nm_check_false ps_check_false (defScope st_check_false) := ⟨rfl, rfl, rfl, by decide +kernel, rfl, by decide +kernel, by decide +kernel⟩
abbrev st_check_place : Stmt := topSt 23
abbrev nm_check_place : List Str := ["owners", "deals", "stamp", "place"]
abbrev ps_check_place : List Str := ["owners", "deals", "stamp", "place"]
theorem sc_check_place : FnScope nm_check_place ps_check_place (defScope st_check_place) := ⟨rfl, rfl, rfl, by decide +kernel, rfl, by decide +kernel, by decide +kernel⟩
abbrev st_owners_behind : Stmt := topSt 24
abbrev nm_owners_behind : List Str := ["owners", "deals", "many"]
abbrev ps_owners_behind : List Str := ["owners", "deals", "many"]
theorem sc_owners_behind : FnScope nm_owners_behind ps_owners_behind (defScope st_owners_behind) := ⟨rfl, rfl, rfl, by decide +kernel, rfl, by decide +kernel, by decide +kernel⟩
abbrev st_leaned_on : Stmt := topSt 25
abbrev nm_leaned_on : List Str := ["deals", "place", "told", "stamp", "movers", "at"]
abbrev ps_leaned_on : List Str := ["deals", "place"]
theorem sc_leaned_on : FnScope nm_leaned_on ps_leaned_on (defScope st_leaned_on) := ⟨rfl, rfl, rfl, by decide +kernel, rfl, by decide +kernel, by decide +kernel⟩
abbrev st_first_chain : Stmt := topSt 26
abbrev nm_first_chain : List Str := ["deals", "stamp", "place", "chains", "behind", "at"]
abbrev ps_first_chain : List Str := ["deals", "stamp", "place", "chains"]
theorem sc_first_chain : FnScope nm_first_chain ps_first_chain (defScope st_first_chain) := ⟨rfl, rfl, rfl, by decide +kernel, rfl, by decide +kernel, by decide +kernel⟩
abbrev st_chains_by : Stmt := topSt 27
abbrev nm_chains_by : List Str := ["deals", "stamp", "chains", "place", "chain"]
abbrev ps_chains_by : List Str := ["deals", "stamp"]
theorem sc_chains_by : FnScope nm_chains_by ps_chains_by (defScope st_chains_by) := ⟨rfl, rfl, rfl, by decide +kernel, rfl, by decide +kernel, by decide +kernel⟩
abbrev st_fallen : Stmt := topSt 28
abbrev nm_fallen : List Str := ["owners", "deals", "stamp"]
abbrev ps_fallen : List Str := ["owners", "deals", "stamp"]
theorem sc_fallen : FnScope nm_fallen ps_fallen (defScope st_fallen) := ⟨rfl, rfl, rfl, by decide +kernel, rfl, by decide +kernel, by decide +kernel⟩
abbrev st_owners_left : Stmt := topSt 29
abbrev nm_owners_left : List Str := ["owners", "deals", "stamp", "chains", "place", "deal"]
abbrev ps_owners_left : List Str := ["owners", "deals", "stamp"]
theorem sc_owners_left : FnScope nm_owners_left ps_owners_left (defScope st_owners_left) := ⟨rfl, rfl, rfl, by decide +kernel, rfl, by decide +kernel, by decide +kernel⟩
abbrev st_chain_of : Stmt := topSt 30
abbrev nm_chain_of : List Str := ["owners", "deals", "stamp", "place"]
abbrev ps_chain_of : List Str := ["owners", "deals", "stamp", "place"]
theorem sc_chain_of : FnScope nm_chain_of ps_chain_of (defScope st_chain_of) := ⟨rfl, rfl, rfl, by decide +kernel, rfl, by decide +kernel, by decide +kernel⟩
abbrev st_is_chain : Stmt := topSt 31
abbrev nm_is_chain : List Str := ["owners", "deals", "stamp", "place", "thing", "ahead", "at"]
abbrev ps_is_chain : List Str := ["owners", "deals", "stamp", "place", "thing"]
theorem sc_is_chain : FnScope nm_is_chain ps_is_chain (defScope st_is_chain) := ⟨rfl, rfl, rfl, by decide +kernel, rfl, by decide +kernel, by decide +kernel⟩
abbrev st__law_pen : Stmt := topSt 33
abbrev nm__law_pen : List Str := ["_law_cell"]
abbrev ps__law_pen : List Str := ["_law_cell"]
theorem sc__law_pen : FnScope nm__law_pen ps__law_pen (defScope st__law_pen) := ⟨rfl, rfl, rfl, by decide +kernel, rfl, by decide +kernel, by decide +kernel⟩
abbrev st__law_cell_at : Stmt := topSt 34
abbrev nm__law_cell_at : List Str := ["_law_script", "_law_k"]
abbrev ps__law_cell_at : List Str := ["_law_script", "_law_k"]
theorem sc__law_cell_at : FnScope nm__law_cell_at ps__law_cell_at (defScope st__law_cell_at) := ⟨rfl, rfl, rfl, by decide +kernel, rfl, by decide +kernel, by decide +kernel⟩
abbrev st__law_draw : Stmt := topSt 35
abbrev nm__law_draw : List Str := ["_law_pen_here", "_law_bound", "_law_found", "_law_stir"]
abbrev ps__law_draw : List Str := ["_law_pen_here", "_law_bound"]
theorem sc__law_draw : FnScope nm__law_draw ps__law_draw (defScope st__law_draw) := ⟨rfl, rfl, rfl, by decide +kernel, rfl, by decide +kernel, by decide +kernel⟩
abbrev st__law_owners : Stmt := topSt 36
abbrev nm__law_owners : List Str := ["_law_pen_here", "_law_many", "_law_k"]
abbrev ps__law_owners : List Str := ["_law_pen_here"]
theorem sc__law_owners : FnScope nm__law_owners ps__law_owners (defScope st__law_owners) := ⟨rfl, rfl, rfl, by decide +kernel, rfl, by decide +kernel, by decide +kernel⟩
abbrev st__law_mixed : Stmt := topSt 37
abbrev nm__law_mixed : List Str := ["_law_pen_here", "_law_some", "_law_left", "_law_k"]
abbrev ps__law_mixed : List Str := ["_law_pen_here", "_law_some"]
theorem sc__law_mixed : FnScope nm__law_mixed ps__law_mixed (defScope st__law_mixed) := ⟨rfl, rfl, rfl, by decide +kernel, rfl, by decide +kernel, by decide +kernel⟩
abbrev st__law_deal : Stmt := topSt 38
abbrev nm__law_deal : List Str := ["_law_pen_here", "_law_owners_here", "_law_stamps", "_law_found", "_law_stamp"]
abbrev ps__law_deal : List Str := ["_law_pen_here", "_law_owners_here"]
theorem sc__law_deal : FnScope nm__law_deal ps__law_deal (defScope st__law_deal) := ⟨rfl, rfl, rfl, by decide +kernel, rfl, by decide +kernel, by decide +kernel⟩
abbrev st__law_behind : Stmt := topSt 39
abbrev nm__law_behind : List Str := ["_law_owners_here", "_law_deals_here", "_law_found", "_law_deal_here", "_law_stamp", "_law_giver", "_law_taker"]
abbrev ps__law_behind : List Str := ["_law_owners_here", "_law_deals_here"]
theorem sc__law_behind : FnScope nm__law_behind ps__law_behind (defScope st__law_behind) := ⟨rfl, rfl, rfl, by decide +kernel, rfl, by decide +kernel, by decide +kernel⟩
abbrev st__law_deals : Stmt := topSt 40
abbrev nm__law_deals : List Str := ["_law_pen_here", "_law_owners_here", "_law_most", "_law_found", "_law_k"]
abbrev ps__law_deals : List Str := ["_law_pen_here", "_law_owners_here", "_law_most"]
theorem sc__law_deals : FnScope nm__law_deals ps__law_deals (defScope st__law_deals) := ⟨rfl, rfl, rfl, by decide +kernel, rfl, by decide +kernel, by decide +kernel⟩
abbrev st__law_thing : Stmt := topSt 41
abbrev nm__law_thing : List Str := ["_law_pen_here", "_law_deep", "_law_way", "_law_parts", "_law_k"]
abbrev ps__law_thing : List Str := ["_law_pen_here", "_law_deep"]
theorem sc__law_thing : FnScope nm__law_thing ps__law_thing (defScope st__law_thing) := ⟨rfl, rfl, rfl, by decide +kernel, rfl, by decide +kernel, by decide +kernel⟩
abbrev st__law_spoilt : Stmt := topSt 42
abbrev nm__law_spoilt : List Str := ["_law_pen_here", "_law_thing_here", "_law_at", "_law_way"]
abbrev ps__law_spoilt : List Str := ["_law_pen_here", "_law_thing_here"]
theorem sc__law_spoilt : FnScope nm__law_spoilt ps__law_spoilt (defScope st__law_spoilt) := ⟨rfl, rfl, rfl, by decide +kernel, rfl, by decide +kernel, by decide +kernel⟩
abbrev st__law_is_in : Stmt := topSt 43
abbrev nm__law_is_in : List Str := ["_law_thing_here", "_law_least", "_law_most"]
abbrev ps__law_is_in : List Str := ["_law_thing_here", "_law_least", "_law_most"]
theorem sc__law_is_in : FnScope nm__law_is_in ps__law_is_in (defScope st__law_is_in) := ⟨rfl, rfl, rfl, by decide +kernel, rfl, by decide +kernel, by decide +kernel⟩
abbrev st__law_are_owners : Stmt := topSt 44
abbrev nm__law_are_owners : List Str := ["_law_thing_here", "_law_one"]
abbrev ps__law_are_owners : List Str := ["_law_thing_here"]
theorem sc__law_are_owners : FnScope nm__law_are_owners ps__law_are_owners (defScope st__law_are_owners) := ⟨rfl, rfl, rfl, by decide +kernel, rfl, by decide +kernel, by decide +kernel⟩
abbrev st__law_is_deal : Stmt := topSt 45
abbrev nm__law_is_deal : List Str := ["_law_many", "_law_thing_here", "_law_move"]
abbrev ps__law_is_deal : List Str := ["_law_many", "_law_thing_here"]
theorem sc__law_is_deal : FnScope nm__law_is_deal ps__law_is_deal (defScope st__law_is_deal) := ⟨rfl, rfl, rfl, by decide +kernel, rfl, by decide +kernel, by decide +kernel⟩
abbrev st__law_are_deals : Stmt := topSt 46
abbrev nm__law_are_deals : List Str := ["_law_owners_here", "_law_thing_here", "_law_deal_here"]
abbrev ps__law_are_deals : List Str := ["_law_owners_here", "_law_thing_here"]
theorem sc__law_are_deals : FnScope nm__law_are_deals ps__law_are_deals (defScope st__law_are_deals) := ⟨rfl, rfl, rfl, by decide +kernel, rfl, by decide +kernel, by decide +kernel⟩
abbrev st__law_why : Stmt := topSt 47
abbrev nm__law_why : List Str := ["_law_call"]
abbrev ps__law_why : List Str := ["_law_call"]
theorem sc__law_why : FnScope nm__law_why ps__law_why (defScope st__law_why) := ⟨rfl, rfl, rfl, by decide +kernel, rfl, by decide +kernel, by decide +kernel⟩
abbrev st__law_right : Stmt := topSt 48
abbrev nm__law_right : List Str := ["_law_owners_here", "_law_deals_here", "_law_stamp", "_law_place", "_law_due", "_law_dues", "_law_good", "_law_both", "_law_said", "_law_one"]
abbrev ps__law_right : List Str := ["_law_owners_here", "_law_deals_here", "_law_stamp", "_law_place"]
theorem sc__law_right : FnScope nm__law_right ps__law_right (defScope st__law_right) := ⟨rfl, rfl, rfl, by decide +kernel, rfl, by decide +kernel, by decide +kernel⟩
abbrev st__law_bad_deals : Stmt := topSt 49
abbrev nm__law_bad_deals : List Str := ["_law_owners_here", "_law_deals_here", "_law_first", "_law_back", "_law_found"]
abbrev ps__law_bad_deals : List Str := ["_law_owners_here", "_law_deals_here"]
theorem sc__law_bad_deals : FnScope nm__law_bad_deals ps__law_bad_deals (defScope st__law_bad_deals) := ⟨rfl, rfl, rfl, by decide +kernel, rfl, by decide +kernel, by decide +kernel⟩
abbrev st_law : Stmt := topSt 50
abbrev nm_law : List Str := ["_law_script", "_law_pen_here", "_law_owners_here", "_law_deals_here", "_law_turn", "_law_one", "_law_two", "_law_stamp", "_law_place", "_law_bad", "_law_many", "_law_at"]
abbrev ps_law : List Str := ["_law_script"]
theorem sc_law : FnScope nm_law ps_law (defScope st_law) := ⟨rfl, rfl, rfl, by decide +kernel, rfl, by decide +kernel, by decide +kernel⟩
def dNm : List Str := (["is_whole", "is_whole_within", "is_tuple", "is_rising", "is_rising_within", "is_each_once", "is_owner", "is_owners"] : List Str) ++ (["is_move", "is_deal", "is_deals", "moved_by", "owners_done", "check_deals", "check_false", "check_place"] : List Str) ++ (["owners_behind", "leaned_on", "first_chain", "chains_by", "fallen", "owners_left", "chain_of", "is_chain"] : List Str) ++ (["_law_pen", "_law_cell_at", "_law_draw", "_law_owners", "_law_mixed", "_law_deal", "_law_behind", "_law_deals"] : List Str) ++ (["_law_thing", "_law_spoilt", "_law_is_in", "_law_are_owners", "_law_is_deal", "_law_are_deals", "_law_why", "_law_right"] : List Str) ++ (["_law_bad_deals", "law"] : List Str)
def dSt : List Stmt := ([st_is_whole, st_is_whole_within, st_is_tuple, st_is_rising, st_is_rising_within, st_is_each_once, st_is_owner, st_is_owners] : List Stmt) ++ ([st_is_move, st_is_deal, st_is_deals, st_moved_by, st_owners_done, st_check_deals, st_check_false, st_check_place] : List Stmt) ++ ([st_owners_behind, st_leaned_on, st_first_chain, st_chains_by, st_fallen, st_owners_left, st_chain_of, st_is_chain] : List Stmt) ++ ([st__law_pen, st__law_cell_at, st__law_draw, st__law_owners, st__law_mixed, st__law_deal, st__law_behind, st__law_deals] : List Stmt) ++ ([st__law_thing, st__law_spoilt, st__law_is_in, st__law_are_owners, st__law_is_deal, st__law_are_deals, st__law_why, st__law_right] : List Stmt) ++ ([st__law_bad_deals, st_law] : List Stmt)

def bnm : List Str := (["len", "int", "range", "sorted", "tuple", "enumerate", "isinstance", "bool"] : List Str) ++ (["str", "all", "any", "zip", "max", "min", "list", "set"] : List Str) ++ (["sum", "repr", "dict"] : List Str)
structure Txt (K : PySem.W.Frag) (mg : Str → Option Value) (ad : Nat → Addr) (fd : Nat → FuncData) : Prop where
  z : ∀ i, i < 19 → mg (bnm.getD i "") = none
  g : ∀ i, i < 42 → mg (dNm.getD i "") = some (.ref (ad i))
  k : ∀ i, i < 42 → PySem.W.keepIn K (.ref (ad i)) = true
  f : ∀ i, i < 42 → Fun K (dNm.getD i "") (dNm.getD i "") (dSt.getD i (topSt 0)) (ad i) (fd i)
section
variable {P : Program} {w : World} {K : PySem.W.Frag} {mg : Str → Option Value} {base : Heap} {ad : Nat → Addr} {fd : Nat → FuncData}
theorem bd_is_whole (T : Txt K mg ad fd) : Binds K (fd 0) ps_is_whole [] := (show Fun K "is_whole" "is_whole" st_is_whole (ad 0) (fd 0) from T.f 0 (by decide)).binds fun _ _ _ _ _ _ us hl => match us, hl with | [_], _ => rfl
theorem bd_is_whole_within (T : Txt K mg ad fd) : Binds K (fd 1) ps_is_whole_within [] := (show Fun K "is_whole_within" "is_whole_within" st_is_whole_within (ad 1) (fd 1) from T.f 1 (by decide)).binds fun _ _ _ _ _ _ us hl => match us, hl with | [_, _, _], _ => rfl
theorem bd_is_tuple (T : Txt K mg ad fd) : Binds K (fd 2) ps_is_tuple [] := (show Fun K "is_tuple" "is_tuple" st_is_tuple (ad 2) (fd 2) from T.f 2 (by decide)).binds fun _ _ _ _ _ _ us hl => match us, hl with | [_, _, _], _ => rfl
theorem bd_is_rising (T : Txt K mg ad fd) : Binds K (fd 3) ps_is_rising [] := (show Fun K "is_rising" "is_rising" st_is_rising (ad 3) (fd 3) from T.f 3 (by decide)).binds fun _ _ _ _ _ _ us hl => match us, hl with | [_], _ => rfl
theorem bd_is_rising_within (T : Txt K mg ad fd) : Binds K (fd 4) ps_is_rising_within [] := (show Fun K "is_rising_within" "is_rising_within" st_is_rising_within (ad 4) (fd 4) from T.f 4 (by decide)).binds fun _ _ _ _ _ _ us hl => match us, hl with | [_, _, _], _ => rfl
theorem bd_is_each_once (T : Txt K mg ad fd) : Binds K (fd 5) ps_is_each_once [] := (show Fun K "is_each_once" "is_each_once" st_is_each_once (ad 5) (fd 5) from T.f 5 (by decide)).binds fun _ _ _ _ _ _ us hl => match us, hl with | [_], _ => rfl
theorem bd_is_owner (T : Txt K mg ad fd) : Binds K (fd 6) ps_is_owner [] := (show Fun K "is_owner" "is_owner" st_is_owner (ad 6) (fd 6) from T.f 6 (by decide)).binds fun _ _ _ _ _ _ us hl => match us, hl with | [_], _ => rfl
theorem bd_is_owners (T : Txt K mg ad fd) : Binds K (fd 7) ps_is_owners [] := (show Fun K "is_owners" "is_owners" st_is_owners (ad 7) (fd 7) from T.f 7 (by decide)).binds fun _ _ _ _ _ _ us hl => match us, hl with | [_], _ => rfl
theorem bd_is_move (T : Txt K mg ad fd) : Binds K (fd 8) ps_is_move [] := (show Fun K "is_move" "is_move" st_is_move (ad 8) (fd 8) from T.f 8 (by decide)).binds fun _ _ _ _ _ _ us hl => match us, hl with | [_, _], _ => rfl
theorem bd_is_deal (T : Txt K mg ad fd) : Binds K (fd 9) ps_is_deal [] := (show Fun K "is_deal" "is_deal" st_is_deal (ad 9) (fd 9) from T.f 9 (by decide)).binds fun _ _ _ _ _ _ us hl => match us, hl with | [_, _], _ => rfl
theorem bd_is_deals (T : Txt K mg ad fd) : Binds K (fd 10) ps_is_deals [] := (show Fun K "is_deals" "is_deals" st_is_deals (ad 10) (fd 10) from T.f 10 (by decide)).binds fun _ _ _ _ _ _ us hl => match us, hl with | [_, _], _ => rfl
theorem bd_moved_by (T : Txt K mg ad fd) : Binds K (fd 11) ps_moved_by [] := (show Fun K "moved_by" "moved_by" st_moved_by (ad 11) (fd 11) from T.f 11 (by decide)).binds fun _ _ _ _ _ _ us hl => match us, hl with | [_], _ => rfl
theorem bd_owners_done (T : Txt K mg ad fd) : Binds K (fd 12) ps_owners_done [] := (show Fun K "owners_done" "owners_done" st_owners_done (ad 12) (fd 12) from T.f 12 (by decide)).binds fun _ _ _ _ _ _ us hl => match us, hl with | [_, _], _ => rfl
theorem bd_check_deals (T : Txt K mg ad fd) : Binds K (fd 13) ps_check_deals [] := (show Fun K "check_deals" "check_deals" st_check_deals (ad 13) (fd 13) from T.f 13 (by decide)).binds fun _ _ _ _ _ _ us hl => match us, hl with | [_, _], _ => rfl
theorem bd_check_false (T : Txt K mg ad fd) : Binds K (fd 14) ps_check_false [] := (show Fun K "check_false" "check_false" st_check_false (ad 14) (fd 14) from T.f 14 (by decide)).binds fun _ _ _ _ _ _ us hl => match us, hl with | [_, _, _], _ => rfl
theorem bd_check_place (T : Txt K mg ad fd) : Binds K (fd 15) ps_check_place [] := (show Fun K "check_place" "check_place" st_check_place (ad 15) (fd 15) from T.f 15 (by decide)).binds fun _ _ _ _ _ _ us hl => match us, hl with | [_, _, _, _], _ => rfl
theorem bd_owners_behind (T : Txt K mg ad fd) : Binds K (fd 16) ps_owners_behind [] := (show Fun K "owners_behind" "owners_behind" st_owners_behind (ad 16) (fd 16) from T.f 16 (by decide)).binds fun _ _ _ _ _ _ us hl => match us, hl with | [_, _, _], _ => rfl
theorem bd_leaned_on (T : Txt K mg ad fd) : Binds K (fd 17) ps_leaned_on [] := (show Fun K "leaned_on" "leaned_on" st_leaned_on (ad 17) (fd 17) from T.f 17 (by decide)).binds fun _ _ _ _ _ _ us hl => match us, hl with | [_, _], _ => rfl
theorem bd_first_chain (T : Txt K mg ad fd) : Binds K (fd 18) ps_first_chain [] := (show Fun K "first_chain" "first_chain" st_first_chain (ad 18) (fd 18) from T.f 18 (by decide)).binds fun _ _ _ _ _ _ us hl => match us, hl with | [_, _, _, _], _ => rfl
theorem bd_chains_by (T : Txt K mg ad fd) : Binds K (fd 19) ps_chains_by [] := (show Fun K "chains_by" "chains_by" st_chains_by (ad 19) (fd 19) from T.f 19 (by decide)).binds fun _ _ _ _ _ _ us hl => match us, hl with | [_, _], _ => rfl
theorem bd_fallen (T : Txt K mg ad fd) : Binds K (fd 20) ps_fallen [] := (show Fun K "fallen" "fallen" st_fallen (ad 20) (fd 20) from T.f 20 (by decide)).binds fun _ _ _ _ _ _ us hl => match us, hl with | [_, _, _], _ => rfl
theorem bd_owners_left (T : Txt K mg ad fd) : Binds K (fd 21) ps_owners_left [] := (show Fun K "owners_left" "owners_left" st_owners_left (ad 21) (fd 21) from T.f 21 (by decide)).binds fun _ _ _ _ _ _ us hl => match us, hl with | [_, _, _], _ => rfl
theorem bd_chain_of (T : Txt K mg ad fd) : Binds K (fd 22) ps_chain_of [] := (show Fun K "chain_of" "chain_of" st_chain_of (ad 22) (fd 22) from T.f 22 (by decide)).binds fun _ _ _ _ _ _ us hl => match us, hl with | [_, _, _, _], _ => rfl
theorem bd_is_chain (T : Txt K mg ad fd) : Binds K (fd 23) ps_is_chain [] := (show Fun K "is_chain" "is_chain" st_is_chain (ad 23) (fd 23) from T.f 23 (by decide)).binds fun _ _ _ _ _ _ us hl => match us, hl with | [_, _, _, _, _], _ => rfl
theorem bd__law_pen (T : Txt K mg ad fd) : Binds K (fd 24) ps__law_pen [] := (show Fun K "_law_pen" "_law_pen" st__law_pen (ad 24) (fd 24) from T.f 24 (by decide)).binds fun _ _ _ _ _ _ us hl => match us, hl with | [_], _ => rfl
theorem bd__law_cell_at (T : Txt K mg ad fd) : Binds K (fd 25) ps__law_cell_at [] := (show Fun K "_law_cell_at" "_law_cell_at" st__law_cell_at (ad 25) (fd 25) from T.f 25 (by decide)).binds fun _ _ _ _ _ _ us hl => match us, hl with | [_, _], _ => rfl
theorem bd__law_draw (T : Txt K mg ad fd) : Binds K (fd 26) ps__law_draw [] := (show Fun K "_law_draw" "_law_draw" st__law_draw (ad 26) (fd 26) from T.f 26 (by decide)).binds fun _ _ _ _ _ _ us hl => match us, hl with | [_, _], _ => rfl
theorem bd__law_owners (T : Txt K mg ad fd) : Binds K (fd 27) ps__law_owners [] := (show Fun K "_law_owners" "_law_owners" st__law_owners (ad 27) (fd 27) from T.f 27 (by decide)).binds fun _ _ _ _ _ _ us hl => match us, hl with | [_], _ => rfl
theorem bd__law_mixed (T : Txt K mg ad fd) : Binds K (fd 28) ps__law_mixed [] := (show Fun K "_law_mixed" "_law_mixed" st__law_mixed (ad 28) (fd 28) from T.f 28 (by decide)).binds fun _ _ _ _ _ _ us hl => match us, hl with | [_, _], _ => rfl
theorem bd__law_deal (T : Txt K mg ad fd) : Binds K (fd 29) ps__law_deal [] := (show Fun K "_law_deal" "_law_deal" st__law_deal (ad 29) (fd 29) from T.f 29 (by decide)).binds fun _ _ _ _ _ _ us hl => match us, hl with | [_, _], _ => rfl
theorem bd__law_behind (T : Txt K mg ad fd) : Binds K (fd 30) ps__law_behind [] := (show Fun K "_law_behind" "_law_behind" st__law_behind (ad 30) (fd 30) from T.f 30 (by decide)).binds fun _ _ _ _ _ _ us hl => match us, hl with | [_, _], _ => rfl
theorem bd__law_deals (T : Txt K mg ad fd) : Binds K (fd 31) ps__law_deals [] := (show Fun K "_law_deals" "_law_deals" st__law_deals (ad 31) (fd 31) from T.f 31 (by decide)).binds fun _ _ _ _ _ _ us hl => match us, hl with | [_, _, _], _ => rfl
theorem bd__law_thing (T : Txt K mg ad fd) : Binds K (fd 32) ps__law_thing [] := (show Fun K "_law_thing" "_law_thing" st__law_thing (ad 32) (fd 32) from T.f 32 (by decide)).binds fun _ _ _ _ _ _ us hl => match us, hl with | [_, _], _ => rfl
theorem bd__law_spoilt (T : Txt K mg ad fd) : Binds K (fd 33) ps__law_spoilt [] := (show Fun K "_law_spoilt" "_law_spoilt" st__law_spoilt (ad 33) (fd 33) from T.f 33 (by decide)).binds fun _ _ _ _ _ _ us hl => match us, hl with | [_, _], _ => rfl
theorem bd__law_is_in (T : Txt K mg ad fd) : Binds K (fd 34) ps__law_is_in [] := (show Fun K "_law_is_in" "_law_is_in" st__law_is_in (ad 34) (fd 34) from T.f 34 (by decide)).binds fun _ _ _ _ _ _ us hl => match us, hl with | [_, _, _], _ => rfl
theorem bd__law_are_owners (T : Txt K mg ad fd) : Binds K (fd 35) ps__law_are_owners [] := (show Fun K "_law_are_owners" "_law_are_owners" st__law_are_owners (ad 35) (fd 35) from T.f 35 (by decide)).binds fun _ _ _ _ _ _ us hl => match us, hl with | [_], _ => rfl
theorem bd__law_is_deal (T : Txt K mg ad fd) : Binds K (fd 36) ps__law_is_deal [] := (show Fun K "_law_is_deal" "_law_is_deal" st__law_is_deal (ad 36) (fd 36) from T.f 36 (by decide)).binds fun _ _ _ _ _ _ us hl => match us, hl with | [_, _], _ => rfl
theorem bd__law_are_deals (T : Txt K mg ad fd) : Binds K (fd 37) ps__law_are_deals [] := (show Fun K "_law_are_deals" "_law_are_deals" st__law_are_deals (ad 37) (fd 37) from T.f 37 (by decide)).binds fun _ _ _ _ _ _ us hl => match us, hl with | [_, _], _ => rfl
theorem bd__law_why (T : Txt K mg ad fd) : Binds K (fd 38) ps__law_why [] := (show Fun K "_law_why" "_law_why" st__law_why (ad 38) (fd 38) from T.f 38 (by decide)).binds fun _ _ _ _ _ _ us hl => match us, hl with | [_], _ => rfl
theorem bd__law_right (T : Txt K mg ad fd) : Binds K (fd 39) ps__law_right [] := (show Fun K "_law_right" "_law_right" st__law_right (ad 39) (fd 39) from T.f 39 (by decide)).binds fun _ _ _ _ _ _ us hl => match us, hl with | [_, _, _, _], _ => rfl
theorem bd__law_bad_deals (T : Txt K mg ad fd) : Binds K (fd 40) ps__law_bad_deals [] := (show Fun K "_law_bad_deals" "_law_bad_deals" st__law_bad_deals (ad 40) (fd 40) from T.f 40 (by decide)).binds fun _ _ _ _ _ _ us hl => match us, hl with | [_, _], _ => rfl
theorem bd_law (T : Txt K mg ad fd) : Binds K (fd 41) ps_law [] := (show Fun K "law" "law" st_law (ad 41) (fd 41) from T.f 41 (by decide)).binds fun _ _ _ _ _ _ us hl => match us, hl with | [_], _ => rfl

end
end Dl

set_option Elab.async false
set_option maxRecDepth 100000
set_option maxHeartbeats 4000000
set_option linter.all false
set_option synthInstance.maxHeartbeats 4000000
set_option synthInstance.maxSize 10000

namespace Dl
open PySem PySem.Spec PyProof.Rows L2 RZ HmS Da
section
variable {P : Program} {w : World} {K : PySem.W.Frag} [HasT K] {mg : Str → Option Value} {base : Heap} {ad : Nat → Addr} {fd : Nat → FuncData}
/-! ### kinds -/
def isW : D → Bool
  | .int _ => true
  | _ => false
def inB (x : D) (a b : Int) : Bool := match x with
  | .int i => decide (a ≤ i) && decide (i ≤ b)
  | _ => false
def tupB (x : D) (a b : Int) : Bool := match x with
  | .tup xs => decide (a ≤ xs.length) && decide ((xs.length : Int) ≤ b)
  | _ => false
def kIsW (x : D) (φ : En → Prop) : Prop := x.ty.isSome = true ∧ φ (.d (.bl (isW x)))
def kIn (x a b : D) (φ : En → Prop) : Prop := ∃ i j : Int, a = .int i ∧ b = .int j ∧ x.ty.isSome = true ∧ φ (.d (.bl (inB x i j)))
def kTup (x a b : D) (φ : En → Prop) : Prop := ∃ i j : Int, a = .int i ∧ b = .int j ∧ x.ty.isSome = true ∧ φ (.d (.bl (tupB x i j)))
theorem ok_is_whole (T : Txt K mg ad fd) : FnOk P w K mg base CX0 1 (ad 0) (fd 0) ps_is_whole (spX K (sp1 kIsW)) := by
  refine (show Fun K "is_whole" "is_whole" st_is_whole (ad 0) (fd 0) from T.f 0 (by decide)).ok sc_is_whole (fun vs H Q E h => len1 h) (fun cdv A outer s H vs Q E hr h => ?_)
  have hu := hu_of hr
  have hu65 := hu65_of hr
  refine ⟨_, (pss_one (ps_ret (pe_and (pe_callB (r := rIsi K) call_isi (by rfl) (T.z 6 (by decide)) (by decide +kernel) (pa_cons (pv 0) (pa_cons (pe_bltn (v := .ty "int") (by rfl) (T.z 1 (by decide)) (by decide +kernel) rfl) pa_nil))) (pe_one (pe_not (pe_callB (r := rIsi K) call_isi (by rfl) (T.z 6 (by decide)) (by decide +kernel) (pa_cons (pv 0) (pa_cons (pe_bltn (v := .ty "bool") (by rfl) (T.z 7 (by decide)) (by decide +kernel) rfl) pa_nil)))))))), ?_⟩
  refine body1 h fun x φ hk => ?_
  rw [show st0 nm_is_whole [x] = [.d x] from rfl]
  obtain ⟨hx, hk⟩ := hk
  cases x with
  | ins C ns xs => exact absurd hx Bool.false_ne_true
  | int i => exact ⟨by decide, _, rfl, by decide, _, rfl, hk⟩
  | bl i => exact ⟨by decide, _, rfl, by decide, _, rfl, hk⟩
  | _ => exact ⟨by decide, _, rfl, hk⟩
theorem ok_is_whole_within (T : Txt K mg ad fd) : FnOk P w K mg base CX0 2 (ad 1) (fd 1) ps_is_whole_within (spX K (sp3 kIn)) := by
  refine (show Fun K "is_whole_within" "is_whole_within" st_is_whole_within (ad 1) (fd 1) from T.f 1 (by decide)).ok sc_is_whole_within (fun vs H Q E h => len3 h) (fun cdv A outer s H vs Q E hr h => ?_)
  have hu := hu_of hr
  have hu65 := hu65_of hr
  refine ⟨_, (pss_one (ps_ret (pe_and (pe_call (ok_is_whole (K := K) T) (hr.mono (by omega)) (by rfl) (T.g 0 (by decide)) (T.k 0 (by decide)) (bd_is_whole T) .nil pass0 (pa_cons (pv 0) pa_nil)) (pe_one (pe_chain op_le op_le (pv 1) (pv 0) (pv 2)))))), ?_⟩
  refine body3 h fun x y z φ hk => ?_
  rw [show st0 nm_is_whole_within [x, y, z] = [.d x, .d y, .d z] from rfl]
  obtain ⟨i, j, rfl, rfl, hx, hk⟩ := hk
  (try simp only [dVar, dC, dNil, dCons, dTup, dLst, dOp, onI, dI, dI0, dUn, dEq, dNe, dIxT, dIxL, dIxLv, dAndV, dOrV, dNotV, dB, dAnd, dOr, dNot, dYes, dIf, dChain, dCB, dLenR, dLenv, dListR, dTupR, dMxR, dMnR, dIntR, dIsi, dNoPart, dPart, dSl, dCatA, dCat, dRep, dIn, dInD, dIsN, D.isN, dCall, dCallP, dCallS, dPen0, dTruv, dRg1, dRg2, dLstRg, dTupRg, dLenSet, wf, wb, wi, wt, wl, vD, isSc, dSeq, dNext, dRet, dRetv, dRetN, dIfS, dAsg, dAsgT, dgTup, dgCons, dPar, dApp, dExt, dSetL, dPopAt, dRse, dNever, dDrop, dITup, dILst, dIRng1, dIRng2, dIDn, dIEnT, dIEnL, dIZip, po, poP, sp0, sp1, sp2, sp3, sp4, sp5, pp0, pp1, pp2, pp3, List.set_cons_zero, List.set_cons_succ, List.getElem?_cons_zero, List.getElem?_cons_succ, List.all_nil, List.map_nil, List.append_nil, List.cons_append, List.nil_append, true_and, ite_true, if_true])
  refine ⟨hx, ?_⟩
  cases x with
  | int n =>
    refine ifT rfl ?_
    (try simp only [dVar, dC, dNil, dCons, dTup, dLst, dOp, onI, dI, dI0, dUn, dEq, dNe, dIxT, dIxL, dIxLv, dAndV, dOrV, dNotV, dB, dAnd, dOr, dNot, dYes, dIf, dChain, dCB, dLenR, dLenv, dListR, dTupR, dMxR, dMnR, dIntR, dIsi, dNoPart, dPart, dSl, dCatA, dCat, dRep, dIn, dInD, dIsN, D.isN, dCall, dCallP, dCallS, dPen0, dTruv, dRg1, dRg2, dLstRg, dTupRg, dLenSet, wf, wb, wi, wt, wl, vD, isSc, dSeq, dNext, dRet, dRetv, dRetN, dIfS, dAsg, dAsgT, dgTup, dgCons, dPar, dApp, dExt, dSetL, dPopAt, dRse, dNever, dDrop, dITup, dILst, dIRng1, dIRng2, dIDn, dIEnT, dIEnL, dIZip, po, poP, sp0, sp1, sp2, sp3, sp4, sp5, pp0, pp1, pp2, pp3, List.set_cons_zero, List.set_cons_succ, List.getElem?_cons_zero, List.getElem?_cons_succ, List.all_nil, List.map_nil, List.append_nil, List.cons_append, List.nil_append, true_and, ite_true, if_true])
    refine ifB (fun c => ?_) (fun c => ?_)
    · rw [inB, c, Bool.true_and] at hk
      exact hk
    · rw [inB, c, Bool.false_and] at hk
      exact hk
  | _ => exact hk
theorem ok_is_tuple (T : Txt K mg ad fd) : FnOk P w K mg base CX0 1 (ad 2) (fd 2) ps_is_tuple (spX K (sp3 kTup)) := by
  refine (show Fun K "is_tuple" "is_tuple" st_is_tuple (ad 2) (fd 2) from T.f 2 (by decide)).ok sc_is_tuple (fun vs H Q E h => len3 h) (fun cdv A outer s H vs Q E hr h => ?_)
  have hu := hu_of hr
  have hu65 := hu65_of hr
  refine ⟨_, (pss_one (ps_ret (pe_and (pe_callB (r := rIsi K) call_isi (by rfl) (T.z 6 (by decide)) (by decide +kernel) (pa_cons (pv 0) (pa_cons (pe_bltn (v := .ty "tuple") (by rfl) (T.z 4 (by decide)) (by decide +kernel) rfl) pa_nil))) (pe_one (pe_chain op_le op_le (pv 1) (pe_callB (r := Da.rLen K) cl_len (by rfl) (T.z 0 (by decide)) (by decide +kernel) (pa_cons (pv 0) pa_nil)) (pv 2)))))), ?_⟩
  refine body3 h fun x y z φ hk => ?_
  rw [show st0 nm_is_tuple [x, y, z] = [.d x, .d y, .d z] from rfl]
  obtain ⟨i, j, rfl, rfl, hx, hk⟩ := hk
  cases x with
  | ins C ns xs => exact absurd hx Bool.false_ne_true
  | tup xs =>
    (try simp only [dVar, dC, dNil, dCons, dTup, dLst, dOp, onI, dI, dI0, dUn, dEq, dNe, dIxT, dIxL, dIxLv, dAndV, dOrV, dNotV, dB, dAnd, dOr, dNot, dYes, dIf, dChain, dCB, dLenR, dLenv, dListR, dTupR, dMxR, dMnR, dIntR, dIsi, dNoPart, dPart, dSl, dCatA, dCat, dRep, dIn, dInD, dIsN, D.isN, dCall, dCallP, dCallS, dPen0, dTruv, dRg1, dRg2, dLstRg, dTupRg, dLenSet, wf, wb, wi, wt, wl, vD, isSc, dSeq, dNext, dRet, dRetv, dRetN, dIfS, dAsg, dAsgT, dgTup, dgCons, dPar, dApp, dExt, dSetL, dPopAt, dRse, dNever, dDrop, dITup, dILst, dIRng1, dIRng2, dIDn, dIEnT, dIEnL, dIZip, po, poP, sp0, sp1, sp2, sp3, sp4, sp5, pp0, pp1, pp2, pp3, List.set_cons_zero, List.set_cons_succ, List.getElem?_cons_zero, List.getElem?_cons_succ, List.all_nil, List.map_nil, List.append_nil, List.cons_append, List.nil_append, true_and, ite_true, if_true])
    refine ⟨by decide, _, rfl, ifT rfl ?_⟩
    (try simp only [dVar, dC, dNil, dCons, dTup, dLst, dOp, onI, dI, dI0, dUn, dEq, dNe, dIxT, dIxL, dIxLv, dAndV, dOrV, dNotV, dB, dAnd, dOr, dNot, dYes, dIf, dChain, dCB, dLenR, dLenv, dListR, dTupR, dMxR, dMnR, dIntR, dIsi, dNoPart, dPart, dSl, dCatA, dCat, dRep, dIn, dInD, dIsN, D.isN, dCall, dCallP, dCallS, dPen0, dTruv, dRg1, dRg2, dLstRg, dTupRg, dLenSet, wf, wb, wi, wt, wl, vD, isSc, dSeq, dNext, dRet, dRetv, dRetN, dIfS, dAsg, dAsgT, dgTup, dgCons, dPar, dApp, dExt, dSetL, dPopAt, dRse, dNever, dDrop, dITup, dILst, dIRng1, dIRng2, dIDn, dIEnT, dIEnL, dIZip, po, poP, sp0, sp1, sp2, sp3, sp4, sp5, pp0, pp1, pp2, pp3, List.set_cons_zero, List.set_cons_succ, List.getElem?_cons_zero, List.getElem?_cons_succ, List.all_nil, List.map_nil, List.append_nil, List.cons_append, List.nil_append, true_and, ite_true, if_true])
    refine ifB (fun c => ?_) (fun c => ?_)
    · rw [tupB, c, Bool.true_and] at hk
      exact hk
    · rw [tupB, c, Bool.false_and] at hk
      exact hk
  | _ =>
    (try simp only [dVar, dC, dNil, dCons, dTup, dLst, dOp, onI, dI, dI0, dUn, dEq, dNe, dIxT, dIxL, dIxLv, dAndV, dOrV, dNotV, dB, dAnd, dOr, dNot, dYes, dIf, dChain, dCB, dLenR, dLenv, dListR, dTupR, dMxR, dMnR, dIntR, dIsi, dNoPart, dPart, dSl, dCatA, dCat, dRep, dIn, dInD, dIsN, D.isN, dCall, dCallP, dCallS, dPen0, dTruv, dRg1, dRg2, dLstRg, dTupRg, dLenSet, wf, wb, wi, wt, wl, vD, isSc, dSeq, dNext, dRet, dRetv, dRetN, dIfS, dAsg, dAsgT, dgTup, dgCons, dPar, dApp, dExt, dSetL, dPopAt, dRse, dNever, dDrop, dITup, dILst, dIRng1, dIRng2, dIDn, dIEnT, dIEnL, dIZip, po, poP, sp0, sp1, sp2, sp3, sp4, sp5, pp0, pp1, pp2, pp3, List.set_cons_zero, List.set_cons_succ, List.getElem?_cons_zero, List.getElem?_cons_succ, List.all_nil, List.map_nil, List.append_nil, List.cons_append, List.nil_append, true_and, ite_true, if_true])
    exact ⟨by decide, _, rfl, hk⟩
def kOwn (x : D) (φ : En → Prop) : Prop := x.ty.isSome = true ∧ φ (.d (.bl (inB x 0 5)))
theorem ok_is_owner (T : Txt K mg ad fd) : FnOk P w K mg base CX0 3 (ad 6) (fd 6) ps_is_owner (spX K (sp1 kOwn)) := by
  refine (show Fun K "is_owner" "is_owner" st_is_owner (ad 6) (fd 6) from T.f 6 (by decide)).ok sc_is_owner (fun vs H Q E h => len1 h) (fun cdv A outer s H vs Q E hr h => ?_)
  have hu := hu_of hr
  have hu65 := hu65_of hr
  refine ⟨_, (pss_one (ps_ret (pe_call (ok_is_whole_within (K := K) T) (hr.mono (by omega)) (by rfl) (T.g 1 (by decide)) (T.k 1 (by decide)) (bd_is_whole_within T) .nil pass0 (pa_cons (pv 0) (pa_cons pe_int (pa_cons pe_int pa_nil)))))), ?_⟩
  refine body1 h fun x φ hk => ?_
  rw [show st0 nm_is_owner [x] = [.d x] from rfl]
  (try simp only [dVar, dC, dNil, dCons, dTup, dLst, dOp, onI, dI, dI0, dUn, dEq, dNe, dIxT, dIxL, dIxLv, dAndV, dOrV, dNotV, dB, dAnd, dOr, dNot, dYes, dIf, dChain, dCB, dLenR, dLenv, dListR, dTupR, dMxR, dMnR, dIntR, dIsi, dNoPart, dPart, dSl, dCatA, dCat, dRep, dIn, dInD, dIsN, D.isN, dCall, dCallP, dCallS, dPen0, dTruv, dRg1, dRg2, dLstRg, dTupRg, dLenSet, wf, wb, wi, wt, wl, vD, isSc, dSeq, dNext, dRet, dRetv, dRetN, dIfS, dAsg, dAsgT, dgTup, dgCons, dPar, dApp, dExt, dSetL, dPopAt, dRse, dNever, dDrop, dITup, dILst, dIRng1, dIRng2, dIDn, dIEnT, dIEnL, dIZip, po, poP, sp0, sp1, sp2, sp3, sp4, sp5, pp0, pp1, pp2, pp3, List.set_cons_zero, List.set_cons_succ, List.getElem?_cons_zero, List.getElem?_cons_succ, List.all_nil, List.map_nil, List.append_nil, List.cons_append, List.nil_append, true_and, ite_true, if_true])
  exact ⟨0, 5, rfl, rfl, hk.1, hk.2⟩
/-! ### owners, deals -/
def owD (os : List Int) : D := .tup (os.map .int)
def mvD (m : Mv) : D := .tup [.int m.1, .int m.2.1, .int m.2.2]
def dlD (d : List Mv) : D := .tup (d.map mvD)
def dsD (ds : List (List Mv)) : D := .tup (ds.map dlD)
def kOwns (x : D) (φ : En → Prop) : Prop := ∃ os, x = owD os ∧ OwOk os ∧ φ (.d (.bl true))
theorem ok_is_owners (T : Txt K mg ad fd) : FnOk P w K mg base CX0 4 (ad 7) (fd 7) ps_is_owners (spX K (sp1 kOwns)) := by
  refine (show Fun K "is_owners" "is_owners" st_is_owners (ad 7) (fd 7) from T.f 7 (by decide)).ok sc_is_owners (fun vs H Q E h => len1 h) (fun cdv A outer s H vs Q E hr h => ?_)
  have hu := hu_of hr
  have hu65 := hu65_of hr
  refine ⟨_, (pss_one (ps_ret (pe_and (pe_call (ok_is_tuple (K := K) T) (hr.mono (by omega)) (by rfl) (T.g 2 (by decide)) (T.k 2 (by decide)) (bd_is_tuple T) .nil pass0 (pa_cons (pv 0) (pa_cons pe_int (pa_cons pe_int pa_nil)))) (pe_one (pe_callB (r := rAll K) (cr_all rfl) (by rfl) (T.z 9 (by decide)) (by decide +kernel) (pa_cons (pe_lc (own := [("part", 1)]) (g := (gName 1)) (tt := tYes) rfl sc_is_owners.nd (pi_tupK (K := K) (pv 0))
      (blkOk_by (N := nm_is_owners) (sc := defScope st_is_owners) (by decide +kernel)) (fun _ _ _ _ _ => by exact (pg_name (i := 1) sc_is_owners.nd rfl (Or.inl rfl))) (fun _ _ _ _ _ => pts_nil)
      (fun _ _ _ _ _ => by exact (pe_call (ok_is_owner (K := K) T) (hr.mono (by omega)) (by rfl) (T.g 6 (by decide)) (T.k 6 (by decide)) (bd_is_owner T) .nil pass0 (pa_cons (pv 1) pa_nil)))) pa_nil)))))), ?_⟩
  refine body1 h fun x φ hk => ?_
  rw [show st0 nm_is_owners [x] = [.d x, .no] from rfl]
  obtain ⟨os, rfl, ok, hk⟩ := hk
  (try simp only [dVar, dC, dNil, dCons, dTup, dLst, dOp, onI, dI, dI0, dUn, dEq, dNe, dIxT, dIxL, dIxLv, dAndV, dOrV, dNotV, dB, dAnd, dOr, dNot, dYes, dIf, dChain, dCB, dLenR, dLenv, dListR, dTupR, dMxR, dMnR, dIntR, dIsi, dNoPart, dPart, dSl, dCatA, dCat, dRep, dIn, dInD, dIsN, D.isN, dCall, dCallP, dCallS, dPen0, dTruv, dRg1, dRg2, dLstRg, dTupRg, dLenSet, wf, wb, wi, wt, wl, vD, isSc, dSeq, dNext, dRet, dRetv, dRetN, dIfS, dAsg, dAsgT, dgTup, dgCons, dPar, dApp, dExt, dSetL, dPopAt, dRse, dNever, dDrop, dITup, dILst, dIRng1, dIRng2, dIDn, dIEnT, dIEnL, dIZip, po, poP, sp0, sp1, sp2, sp3, sp4, sp5, pp0, pp1, pp2, pp3, List.set_cons_zero, List.set_cons_succ, List.getElem?_cons_zero, List.getElem?_cons_succ, List.all_nil, List.map_nil, List.append_nil, List.cons_append, List.nil_append, true_and, ite_true, if_true])
  refine ⟨1, 12, rfl, rfl, rfl, ?_⟩
  have l0 := ok.l0
  have l1 := ok.l1
  have e1 : tupB (owD os) 1 12 = true := by
    simp only [owD, tupB, List.length_map, Bool.and_eq_true, decide_eq_true_eq]
    omega
  rw [e1]
  refine ifT rfl ?_
  refine dLc_pure (items := os.map .int) (Γ1 := [.d (owD os), .no]) (Γw := [.d (owD os), .no]) (fun _ => .bl true) rfl (fun ψ h => h) rfl rfl (by rw [List.length_map]; omega) (fun d hd ψ q => ?_) ?_
  · obtain ⟨o, ho, rfl⟩ := List.mem_map.mp hd
    have r := ok.rng o ho
    refine ⟨rfl, rfl, q _ _ ?_ rfl⟩
    have : inB (.int o) 0 5 = true := by simp only [inB, Bool.and_eq_true, decide_eq_true_eq]; exact r
    rw [this]
    rfl
  · refine ⟨List.replicate os.length true, by rw [List.map_map, List.map_replicate]; exact List.map_const .., ?_⟩
    have : (List.replicate os.length true).all id = true := by rw [List.all_replicate]; simp
    rw [this]
    exact hk
def kMvd (x : D) (φ : En → Prop) : Prop := ∃ d : List Mv, x = dlD d ∧ d.length ≤ 100 ∧ φ (.lst ((d.map (·.1)).map .int))
theorem ok_moved_by (T : Txt K mg ad fd) : FnOk P w K mg base CX0 1 (ad 11) (fd 11) ps_moved_by (spX K (sp1 kMvd)) := by
  refine (show Fun K "moved_by" "moved_by" st_moved_by (ad 11) (fd 11) from T.f 11 (by decide)).ok sc_moved_by (fun vs H Q E h => len1 h) (fun cdv A outer s H vs Q E hr h => ?_)
  have hu := hu_of hr
  have hu65 := hu65_of hr
  refine ⟨_, (pss_one (ps_ret (pe_lc (own := [("move", 1)]) (g := (gName 1)) (tt := tYes) rfl sc_moved_by.nd (pi_tupK (K := K) (pv 0))
      (blkOk_by (N := nm_moved_by) (sc := defScope st_moved_by) (by decide +kernel)) (fun _ _ _ _ _ => by exact (pg_name (i := 1) sc_moved_by.nd rfl (Or.inl rfl))) (fun _ _ _ _ _ => pts_nil)
      (fun _ _ _ _ _ => by exact (pe_ix (r := rIxT K) ix_tup (pv 1) pe_int (fun _ _ => rfl)))))), ?_⟩
  refine body1 h fun x φ hk => ?_
  rw [show st0 nm_moved_by [x] = [.d x, .no] from rfl]
  obtain ⟨d, rfl, hl, hk⟩ := hk
  refine dLc_pure (items := d.map mvD) (Γ1 := [.d (dlD d), .no]) (Γw := [.d (dlD d), .no]) (fun x => match x with | .tup (y :: _) => y | _ => .non) rfl (fun ψ h => h) rfl rfl (by rw [List.length_map]; omega) (fun y hy ψ q => ?_) ?_
  · obtain ⟨m, hm, rfl⟩ := List.mem_map.mp hy
    exact ⟨rfl, _, rfl, q _ _ rfl rfl⟩
  · rw [List.map_map] at hk ⊢
    exact hk
end
end Dl

set_option Elab.async false
set_option maxRecDepth 100000
set_option maxHeartbeats 4000000
set_option linter.all false
set_option synthInstance.maxHeartbeats 4000000
set_option synthInstance.maxSize 10000

namespace Dl
open PySem PySem.Spec PyProof.Rows L2 RZ HmS Da
section
variable {P : Program} {w : World} {K : PySem.W.Frag} [HasT K] {mg : Str → Option Value} {base : Heap} {ad : Nat → Addr} {fd : Nat → FuncData}
def kMove (o x : D) (φ : En → Prop) : Prop := ∃ os m, o = owD os ∧ x = mvD m ∧ MvOk os m ∧ os.length ≤ 12 ∧ φ (.d (.bl true))
theorem inB_of {i a b : Int} (h : a ≤ i) (h' : i ≤ b) : inB (.int i) a b = true := by simp only [inB, Bool.and_eq_true, decide_eq_true_eq]; exact ⟨h, h'⟩
theorem fit_int (i : Int) : (D.int i).fit = true := by simp [D.fit, D.flat, D.py, SeqAt.shaped, PyData.canLay0, PyData.depth]
theorem eqv_int (i j : Int) : (D.int i).eqv (.int j) = decide (i = j) := by simp only [D.eqv, D.py, PyData.eqv]; exact Bool.beq_eq_decide_eq ..
theorem ok_is_move (T : Txt K mg ad fd) : FnOk P w K mg base CX0 4 (ad 8) (fd 8) ps_is_move (spX K (sp2 kMove)) := by
  refine (show Fun K "is_move" "is_move" st_is_move (ad 8) (fd 8) from T.f 8 (by decide)).ok sc_is_move (fun vs H Q E h => len2 h) (fun cdv A outer s H vs Q E hr h => ?_)
  have hu := hu_of hr
  have hu65 := hu65_of hr
  refine ⟨_, (pss_cons (ps_if (pt_not (pt_val (pe_call (ok_is_tuple (K := K) T) (hr.mono (by omega)) (by rfl) (T.g 2 (by decide)) (T.k 2 (by decide)) (bd_is_tuple T) .nil pass0 (pa_cons (pv 1) (pa_cons pe_int (pa_cons pe_int pa_nil))))))
    (pss_one (ps_ret pe_bl))
    pss_nil)
  (pss_cons (ps_asg (pv 1) (pg_tupK (K := K) (n := 3) rfl (pgs_cons (pg_name (i := 2) sc_is_move.nd rfl (Or.inl rfl)) (pgs_cons (pg_name (i := 3) sc_is_move.nd rfl (Or.inl rfl)) (pgs_cons (pg_name (i := 4) sc_is_move.nd rfl (Or.inl rfl)) pgs_nil)))))
  (pss_cons (ps_if (PW.pt (pw_or (pt_not (pt_val (pe_call (ok_is_whole_within (K := K) T) (hr.mono (by omega)) (by rfl) (T.g 1 (by decide)) (T.k 1 (by decide)) (bd_is_whole_within T) .nil pass0 (pa_cons (pv 2) (pa_cons pe_int (pa_cons (pe_op op_sub (pe_callB (r := Da.rLen K) cl_len (by rfl) (T.z 0 (by decide)) (by decide +kernel) (pa_cons (pv 0) pa_nil)) pe_int) pa_nil)))))) (pw_or (pt_not (pt_val (pe_call (ok_is_owner (K := K) T) (hr.mono (by omega)) (by rfl) (T.g 6 (by decide)) (T.k 6 (by decide)) (bd_is_owner T) .nil pass0 (pa_cons (pv 3) pa_nil)))) (pw_or1 (pt_not (pt_val (pe_call (ok_is_owner (K := K) T) (hr.mono (by omega)) (by rfl) (T.g 6 (by decide)) (T.k 6 (by decide)) (bd_is_owner T) .nil pass0 (pa_cons (pv 4) pa_nil))))))))
    (pss_one (ps_ret pe_bl))
    pss_nil)
  (pss_one (ps_ret (pe_and (pe_cmpR (r := rNeD K) (op_neD hr.units) (pv 3) (pv 4) (nomark _)) (pe_one (pe_cmpR (r := rEqD K) (op_eqD hr.units) (pe_ix (r := rIxT K) ix_tup (pv 0) (pv 2) (fun _ _ => rfl)) (pv 3) (nomark _))))))))), ?_⟩
  refine body2 h fun x y φ hk => ?_
  rw [show st0 nm_is_move [x, y] = [.d x, .d y, .no, .no, .no] from rfl]
  obtain ⟨os, m, rfl, rfl, ok, ol, hk⟩ := hk
  (try simp only [dVar, dC, dNil, dCons, dTup, dLst, dOp, onI, dI, dI0, dUn, dEq, dNe, dIxT, dIxL, dIxLv, dAndV, dOrV, dNotV, dB, dAnd, dOr, dNot, dYes, dIf, dChain, dCB, dLenR, dLenv, dListR, dTupR, dMxR, dMnR, dIntR, dIsi, dNoPart, dPart, dSl, dCatA, dCat, dRep, dIn, dInD, dIsN, D.isN, dCall, dCallP, dCallS, dPen0, dTruv, dRg1, dRg2, dLstRg, dTupRg, dLenSet, wf, wb, wi, wt, wl, vD, isSc, dSeq, dNext, dRet, dRetv, dRetN, dIfS, dAsg, dAsgT, dgTup, dgCons, dPar, dApp, dExt, dSetL, dPopAt, dRse, dNever, dDrop, dITup, dILst, dIRng1, dIRng2, dIDn, dIEnT, dIEnL, dIZip, po, poP, sp0, sp1, sp2, sp3, sp4, sp5, pp0, pp1, pp2, pp3, List.set_cons_zero, List.set_cons_succ, List.getElem?_cons_zero, List.getElem?_cons_succ, List.all_nil, List.map_nil, List.append_nil, List.cons_append, List.nil_append, true_and, ite_true, if_true, mvD, owD])
  refine ⟨3, 3, rfl, rfl, rfl, ifF rfl ?_⟩
  (try simp only [dVar, dC, dNil, dCons, dTup, dLst, dOp, onI, dI, dI0, dUn, dEq, dNe, dIxT, dIxL, dIxLv, dAndV, dOrV, dNotV, dB, dAnd, dOr, dNot, dYes, dIf, dChain, dCB, dLenR, dLenv, dListR, dTupR, dMxR, dMnR, dIntR, dIsi, dNoPart, dPart, dSl, dCatA, dCat, dRep, dIn, dInD, dIsN, D.isN, dCall, dCallP, dCallS, dPen0, dTruv, dRg1, dRg2, dLstRg, dTupRg, dLenSet, wf, wb, wi, wt, wl, vD, isSc, dSeq, dNext, dRet, dRetv, dRetN, dIfS, dAsg, dAsgT, dgTup, dgCons, dPar, dApp, dExt, dSetL, dPopAt, dRse, dNever, dDrop, dITup, dILst, dIRng1, dIRng2, dIDn, dIEnT, dIEnL, dIZip, po, poP, sp0, sp1, sp2, sp3, sp4, sp5, pp0, pp1, pp2, pp3, List.set_cons_zero, List.set_cons_succ, List.getElem?_cons_zero, List.getElem?_cons_succ, List.all_nil, List.map_nil, List.append_nil, List.cons_append, List.nil_append, true_and, ite_true, if_true])
  have s0 := ok.s0
  have s1 := ok.s1
  refine ⟨rfl, 0, _, rfl, rfl, rfl, ?_⟩
  rw [List.length_map, inB_of s0 (by omega)]
  refine ifF rfl ?_
  refine ⟨rfl, ?_⟩
  rw [inB_of ok.g0 ok.g1]
  refine ifF rfl ?_
  refine ⟨rfl, ?_⟩
  rw [inB_of ok.t0 ok.t1]
  refine ifF rfl ?_
  (try simp only [dVar, dC, dNil, dCons, dTup, dLst, dOp, onI, dI, dI0, dUn, dEq, dNe, dIxT, dIxL, dIxLv, dAndV, dOrV, dNotV, dB, dAnd, dOr, dNot, dYes, dIf, dChain, dCB, dLenR, dLenv, dListR, dTupR, dMxR, dMnR, dIntR, dIsi, dNoPart, dPart, dSl, dCatA, dCat, dRep, dIn, dInD, dIsN, D.isN, dCall, dCallP, dCallS, dPen0, dTruv, dRg1, dRg2, dLstRg, dTupRg, dLenSet, wf, wb, wi, wt, wl, vD, isSc, dSeq, dNext, dRet, dRetv, dRetN, dIfS, dAsg, dAsgT, dgTup, dgCons, dPar, dApp, dExt, dSetL, dPopAt, dRse, dNever, dDrop, dITup, dILst, dIRng1, dIRng2, dIDn, dIEnT, dIEnL, dIZip, po, poP, sp0, sp1, sp2, sp3, sp4, sp5, pp0, pp1, pp2, pp3, List.set_cons_zero, List.set_cons_succ, List.getElem?_cons_zero, List.getElem?_cons_succ, List.all_nil, List.map_nil, List.append_nil, List.cons_append, List.nil_append, true_and, ite_true, if_true])
  refine ⟨fit_int _, fit_int _, ?_⟩
  rw [eqv_int, decide_eq_false ok.ne]
  refine ifT rfl ?_
  (try simp only [dVar, dC, dNil, dCons, dTup, dLst, dOp, onI, dI, dI0, dUn, dEq, dNe, dIxT, dIxL, dIxLv, dAndV, dOrV, dNotV, dB, dAnd, dOr, dNot, dYes, dIf, dChain, dCB, dLenR, dLenv, dListR, dTupR, dMxR, dMnR, dIntR, dIsi, dNoPart, dPart, dSl, dCatA, dCat, dRep, dIn, dInD, dIsN, D.isN, dCall, dCallP, dCallS, dPen0, dTruv, dRg1, dRg2, dLstRg, dTupRg, dLenSet, wf, wb, wi, wt, wl, vD, isSc, dSeq, dNext, dRet, dRetv, dRetN, dIfS, dAsg, dAsgT, dgTup, dgCons, dPar, dApp, dExt, dSetL, dPopAt, dRse, dNever, dDrop, dITup, dILst, dIRng1, dIRng2, dIDn, dIEnT, dIEnL, dIZip, po, poP, sp0, sp1, sp2, sp3, sp4, sp5, pp0, pp1, pp2, pp3, List.set_cons_zero, List.set_cons_succ, List.getElem?_cons_zero, List.getElem?_cons_succ, List.all_nil, List.map_nil, List.append_nil, List.cons_append, List.nil_append, true_and, ite_true, if_true])
  have ea : atI (os.map D.int) m.1 = some (.int m.2.1) := by
    have z := atI_nat (xs := os.map D.int) (j := m.1.toNat) (v := .int m.2.1) (by rw [List.getElem?_map, ok.own]; rfl)
    rw [Int.toNat_of_nonneg s0] at z
    exact z
  refine ⟨_, ea, fit_int _, fit_int _, ?_⟩
  rw [eqv_int, decide_eq_true rfl]
  exact hk
def kOnce (x : D) (φ : En → Prop) : Prop := ∃ is : List Int, x = .lst (is.map .int) ∧ is.Nodup ∧ is.length ≤ 4000 ∧ φ (.d (.bl true))
theorem ok_is_each_once (T : Txt K mg ad fd) : FnOk P w K mg base CX0 1 (ad 5) (fd 5) ps_is_each_once (spX K (sp1 kOnce)) := by
  refine (show Fun K "is_each_once" "is_each_once" st_is_each_once (ad 5) (fd 5) from T.f 5 (by decide)).ok sc_is_each_once (fun vs H Q E h => len1 h) (fun cdv A outer s H vs Q E hr h => ?_)
  have hu := hu_of hr
  have hu65 := hu65_of hr
  refine ⟨_, (pss_one (ps_ret (pe_cmpR (r := rEqD K) (op_eqD hr.units) (pe_lenSetIK (K := K) (by rfl) (T.z 0 (by decide)) (by rfl) (T.z 15 (by decide)) (pv 0)) (pe_callB (r := Da.rLen K) cl_len (by rfl) (T.z 0 (by decide)) (by decide +kernel) (pa_cons (pv 0) pa_nil)) (nomark _)))), ?_⟩
  refine body1 h fun x φ hk => ?_
  rw [show st0 nm_is_each_once [x] = [.d x] from rfl]
  obtain ⟨is, rfl, nd, hl, hk⟩ := hk
  (try simp only [dVar, dC, dNil, dCons, dTup, dLst, dOp, onI, dI, dI0, dUn, dEq, dNe, dIxT, dIxL, dIxLv, dAndV, dOrV, dNotV, dB, dAnd, dOr, dNot, dYes, dIf, dChain, dCB, dLenR, dLenv, dListR, dTupR, dMxR, dMnR, dIntR, dIsi, dNoPart, dPart, dSl, dCatA, dCat, dRep, dIn, dInD, dIsN, D.isN, dCall, dCallP, dCallS, dPen0, dTruv, dRg1, dRg2, dLstRg, dTupRg, dLenSet, wf, wb, wi, wt, wl, vD, isSc, dSeq, dNext, dRet, dRetv, dRetN, dIfS, dAsg, dAsgT, dgTup, dgCons, dPar, dApp, dExt, dSetL, dPopAt, dRse, dNever, dDrop, dITup, dILst, dIRng1, dIRng2, dIDn, dIEnT, dIEnL, dIZip, po, poP, sp0, sp1, sp2, sp3, sp4, sp5, pp0, pp1, pp2, pp3, List.set_cons_zero, List.set_cons_succ, List.getElem?_cons_zero, List.getElem?_cons_succ, List.all_nil, List.map_nil, List.append_nil, List.cons_append, List.nil_append, true_and, ite_true, if_true])
  refine ⟨is, rfl, nd, hl, ?_⟩
  rw [fit_int, fit_int, eqv_int, List.length_map, decide_eq_true rfl]
  exact ⟨rfl, rfl, hk⟩
def kDeal (o x : D) (φ : En → Prop) : Prop := ∃ os d, o = owD os ∧ x = dlD d ∧ DlOk os d ∧ os.length ≤ 12 ∧ φ (.d (.bl true))
theorem tupB_of {xs : List D} {a b : Int} (h : a ≤ xs.length) (h' : (xs.length : Int) ≤ b) : tupB (.tup xs) a b = true := by simp only [tupB, Bool.and_eq_true, decide_eq_true_eq]; exact ⟨h, h'⟩
theorem rep_bls (n : Nat) : List.replicate n (D.bl true) = (List.replicate n true).map D.bl ∧ (List.replicate n true).all id = true := by
  refine ⟨by rw [List.map_replicate], ?_⟩
  rw [List.all_replicate]
  simp
theorem ok_is_deal (T : Txt K mg ad fd) : FnOk P w K mg base CX0 5 (ad 9) (fd 9) ps_is_deal (spX K (sp2 kDeal)) := by
  refine (show Fun K "is_deal" "is_deal" st_is_deal (ad 9) (fd 9) from T.f 9 (by decide)).ok sc_is_deal (fun vs H Q E h => len2 h) (fun cdv A outer s H vs Q E hr h => ?_)
  have hu := hu_of hr
  have hu65 := hu65_of hr
  refine ⟨_, (pss_cons (ps_if (PW.pt (pw_or (pt_not (pt_val (pe_call (ok_is_tuple (K := K) T) (hr.mono (by omega)) (by rfl) (T.g 2 (by decide)) (T.k 2 (by decide)) (bd_is_tuple T) .nil pass0 (pa_cons (pv 1) (pa_cons pe_int (pa_cons pe_int pa_nil)))))) (pw_or1 (pt_not (pt_val (pe_callB (r := rAll K) (cr_all rfl) (by rfl) (T.z 9 (by decide)) (by decide +kernel) (pa_cons (pe_lc (own := [("part", 2)]) (g := (gName 2)) (tt := tYes) rfl sc_is_deal.nd (pi_tupK (K := K) (pv 1))
      (blkOk_by (N := nm_is_deal) (sc := defScope st_is_deal) (by decide +kernel)) (fun _ _ _ _ _ => by exact (pg_name (i := 2) sc_is_deal.nd rfl (Or.inl rfl))) (fun _ _ _ _ _ => pts_nil)
      (fun _ _ _ _ _ => by exact (pe_call (ok_is_move (K := K) T) (hr.mono (by omega)) (by rfl) (T.g 8 (by decide)) (T.k 8 (by decide)) (bd_is_move T) .nil pass0 (pa_cons (pv 0) (pa_cons (pv 2) pa_nil))))) pa_nil)))))))
    (pss_one (ps_ret pe_bl))
    pss_nil)
  (pss_one (ps_ret (pe_call (ok_is_each_once (K := K) T) (hr.mono (by omega)) (by rfl) (T.g 5 (by decide)) (T.k 5 (by decide)) (bd_is_each_once T) .nil pass0 (pa_cons (pe_call (ok_moved_by (K := K) T) (hr.mono (by omega)) (by rfl) (T.g 11 (by decide)) (T.k 11 (by decide)) (bd_moved_by T) .nil pass0 (pa_cons (pv 1) pa_nil)) pa_nil))))), ?_⟩
  refine body2 h fun x y φ hk => ?_
  rw [show st0 nm_is_deal [x, y] = [.d x, .d y, .no] from rfl]
  obtain ⟨os, d, rfl, rfl, ok, ol, hk⟩ := hk
  have l0 := ok.l0
  have l1 := ok.l1
  (try simp only [dVar, dC, dNil, dCons, dTup, dLst, dOp, onI, dI, dI0, dUn, dEq, dNe, dIxT, dIxL, dIxLv, dAndV, dOrV, dNotV, dB, dAnd, dOr, dNot, dYes, dIf, dChain, dCB, dLenR, dLenv, dListR, dTupR, dMxR, dMnR, dIntR, dIsi, dNoPart, dPart, dSl, dCatA, dCat, dRep, dIn, dInD, dIsN, D.isN, dCall, dCallP, dCallS, dPen0, dTruv, dRg1, dRg2, dLstRg, dTupRg, dLenSet, wf, wb, wi, wt, wl, vD, isSc, dSeq, dNext, dRet, dRetv, dRetN, dIfS, dAsg, dAsgT, dgTup, dgCons, dPar, dApp, dExt, dSetL, dPopAt, dRse, dNever, dDrop, dITup, dILst, dIRng1, dIRng2, dIDn, dIEnT, dIEnL, dIZip, po, poP, sp0, sp1, sp2, sp3, sp4, sp5, pp0, pp1, pp2, pp3, List.set_cons_zero, List.set_cons_succ, List.getElem?_cons_zero, List.getElem?_cons_succ, List.all_nil, List.map_nil, List.append_nil, List.cons_append, List.nil_append, true_and, ite_true, if_true, dlD])
  refine ⟨1, 6, rfl, rfl, rfl, ?_⟩
  rw [tupB_of (by rw [List.length_map]; omega) (by rw [List.length_map]; omega)]
  refine ifF rfl ?_
  refine dLc_pure (items := d.map mvD) (Γ1 := [.d (owD os), .d (.tup (d.map mvD)), .no]) (Γw := [.d (owD os), .d (.tup (d.map mvD)), .no]) (fun _ => .bl true) rfl (fun ψ h => h) rfl rfl (by rw [List.length_map]; omega) (fun y hy ψ q => ?_) ?_
  · obtain ⟨m, hm, rfl⟩ := List.mem_map.mp hy
    (try simp only [dVar, dC, dNil, dCons, dTup, dLst, dOp, onI, dI, dI0, dUn, dEq, dNe, dIxT, dIxL, dIxLv, dAndV, dOrV, dNotV, dB, dAnd, dOr, dNot, dYes, dIf, dChain, dCB, dLenR, dLenv, dListR, dTupR, dMxR, dMnR, dIntR, dIsi, dNoPart, dPart, dSl, dCatA, dCat, dRep, dIn, dInD, dIsN, D.isN, dCall, dCallP, dCallS, dPen0, dTruv, dRg1, dRg2, dLstRg, dTupRg, dLenSet, wf, wb, wi, wt, wl, vD, isSc, dSeq, dNext, dRet, dRetv, dRetN, dIfS, dAsg, dAsgT, dgTup, dgCons, dPar, dApp, dExt, dSetL, dPopAt, dRse, dNever, dDrop, dITup, dILst, dIRng1, dIRng2, dIDn, dIEnT, dIEnL, dIZip, po, poP, sp0, sp1, sp2, sp3, sp4, sp5, pp0, pp1, pp2, pp3, List.set_cons_zero, List.set_cons_succ, List.getElem?_cons_zero, List.getElem?_cons_succ, List.all_nil, List.map_nil, List.append_nil, List.cons_append, List.nil_append, true_and, ite_true, if_true])
    exact ⟨os, m, rfl, rfl, ok.mv m hm, ol, q _ _ rfl rfl⟩
  · (try simp only [dVar, dC, dNil, dCons, dTup, dLst, dOp, onI, dI, dI0, dUn, dEq, dNe, dIxT, dIxL, dIxLv, dAndV, dOrV, dNotV, dB, dAnd, dOr, dNot, dYes, dIf, dChain, dCB, dLenR, dLenv, dListR, dTupR, dMxR, dMnR, dIntR, dIsi, dNoPart, dPart, dSl, dCatA, dCat, dRep, dIn, dInD, dIsN, D.isN, dCall, dCallP, dCallS, dPen0, dTruv, dRg1, dRg2, dLstRg, dTupRg, dLenSet, wf, wb, wi, wt, wl, vD, isSc, dSeq, dNext, dRet, dRetv, dRetN, dIfS, dAsg, dAsgT, dgTup, dgCons, dPar, dApp, dExt, dSetL, dPopAt, dRse, dNever, dDrop, dITup, dILst, dIRng1, dIRng2, dIDn, dIEnT, dIEnL, dIZip, po, poP, sp0, sp1, sp2, sp3, sp4, sp5, pp0, pp1, pp2, pp3, List.set_cons_zero, List.set_cons_succ, List.getElem?_cons_zero, List.getElem?_cons_succ, List.all_nil, List.map_nil, List.append_nil, List.cons_append, List.nil_append, true_and, ite_true, if_true])
    refine ⟨List.replicate d.length true, by rw [List.map_map, ← (rep_bls _).1]; exact List.map_const .., ?_⟩
    rw [(rep_bls _).2]
    refine ifF rfl ?_
    (try simp only [dVar, dC, dNil, dCons, dTup, dLst, dOp, onI, dI, dI0, dUn, dEq, dNe, dIxT, dIxL, dIxLv, dAndV, dOrV, dNotV, dB, dAnd, dOr, dNot, dYes, dIf, dChain, dCB, dLenR, dLenv, dListR, dTupR, dMxR, dMnR, dIntR, dIsi, dNoPart, dPart, dSl, dCatA, dCat, dRep, dIn, dInD, dIsN, D.isN, dCall, dCallP, dCallS, dPen0, dTruv, dRg1, dRg2, dLstRg, dTupRg, dLenSet, wf, wb, wi, wt, wl, vD, isSc, dSeq, dNext, dRet, dRetv, dRetN, dIfS, dAsg, dAsgT, dgTup, dgCons, dPar, dApp, dExt, dSetL, dPopAt, dRse, dNever, dDrop, dITup, dILst, dIRng1, dIRng2, dIDn, dIEnT, dIEnL, dIZip, po, poP, sp0, sp1, sp2, sp3, sp4, sp5, pp0, pp1, pp2, pp3, List.set_cons_zero, List.set_cons_succ, List.getElem?_cons_zero, List.getElem?_cons_succ, List.all_nil, List.map_nil, List.append_nil, List.cons_append, List.nil_append, true_and, ite_true, if_true])
    exact ⟨d, rfl, by omega, _, rfl, ok.once, by rw [List.length_map]; omega, hk⟩
def kDoneT (o x : D) (φ : En → Prop) : Prop := ∃ os ds, o = owD os ∧ x = dsD ds ∧ (∀ d ∈ ds, ∀ m ∈ d, 0 ≤ m.1 ∧ m.1 < os.length) ∧ φ (.d (owD (doneM os ds)))
def kDoneL (o x : D) (φ : En → Prop) : Prop := ∃ (os : List Int) (ds : List (List Mv)), o = owD os ∧ x = .lst (ds.map dlD) ∧ (∀ d ∈ ds, ∀ m ∈ d, 0 ≤ m.1 ∧ m.1 < os.length) ∧ φ (.d (owD (doneM os ds)))
theorem ixN_ok {n : Nat} {i : Int} (h0 : 0 ≤ i) (h1 : i < n) : ixN n i = some i.toNat := by
  unfold ixN
  rw [if_pos h0, if_pos h1]
theorem ok_owners_done_T (T : Txt K mg ad fd) : FnOk P w K mg base CX0 1 (ad 12) (fd 12) ps_owners_done (spX K (sp2 kDoneT)) := by
  refine (show Fun K "owners_done" "owners_done" st_owners_done (ad 12) (fd 12) from T.f 12 (by decide)).ok sc_owners_done (fun vs H Q E h => len2 h) (fun cdv A outer s H vs Q E hr h => ?_)
  have hu := hu_of hr
  have hu65 := hu65_of hr
  refine ⟨_, (pss_cons (ps_set (i := 2) sc_owners_done.nd rfl (Or.inl rfl) (pe_callTy (r := rList K) cl_list (by rfl) (T.z 14 (by decide)) (by decide +kernel) (pa_cons (pv 0) pa_nil)))
  (pss_cons (ps_for PassesOwn.never rfl (pi_tupK (K := K) (pv 1)) (pg_name (i := 3) sc_owners_done.nd rfl (Or.inl rfl))
    (pss_one (ps_for PassesOwn.never rfl (pi_tupK (K := K) (pv 3)) (pg_tupK (K := K) (n := 3) rfl (pgs_cons (pg_name (i := 4) sc_owners_done.nd rfl (Or.inl rfl)) (pgs_cons (pg_name (i := 5) sc_owners_done.nd rfl (Or.inl rfl)) (pgs_cons (pg_name (i := 6) sc_owners_done.nd rfl (Or.inl rfl)) pgs_nil))))
    (pss_one (ps_asg (pv 6) (pg_sub (pv 2) (pv 4) set_list))))))
  (pss_one (ps_ret (pe_callTy (r := rTuple K) cl_tuple (by rfl) (T.z 4 (by decide)) (by decide +kernel) (pa_cons (pv 2) pa_nil)))))), ?_⟩
  refine body2 h fun x y φ hk => ?_
  rw [show st0 nm_owners_done [x, y] = [.d x, .d y, .no, .no, .no, .no, .no] from rfl]
  obtain ⟨os, ds, rfl, rfl, ok, hk⟩ := hk
  (try simp only [dVar, dC, dNil, dCons, dTup, dLst, dOp, onI, dI, dI0, dUn, dEq, dNe, dIxT, dIxL, dIxLv, dAndV, dOrV, dNotV, dB, dAnd, dOr, dNot, dYes, dIf, dChain, dCB, dLenR, dLenv, dListR, dTupR, dMxR, dMnR, dIntR, dIsi, dNoPart, dPart, dSl, dCatA, dCat, dRep, dIn, dInD, dIsN, D.isN, dCall, dCallP, dCallS, dPen0, dTruv, dRg1, dRg2, dLstRg, dTupRg, dLenSet, wf, wb, wi, wt, wl, vD, isSc, dSeq, dNext, dRet, dRetv, dRetN, dIfS, dAsg, dAsgT, dgTup, dgCons, dPar, dApp, dExt, dSetL, dPopAt, dRse, dNever, dDrop, dITup, dILst, dIRng1, dIRng2, dIDn, dIEnT, dIEnL, dIZip, po, poP, sp0, sp1, sp2, sp3, sp4, sp5, pp0, pp1, pp2, pp3, List.set_cons_zero, List.set_cons_succ, List.getElem?_cons_zero, List.getElem?_cons_succ, List.all_nil, List.map_nil, List.append_nil, List.cons_append, List.nil_append, true_and, ite_true, if_true, owD, dsD])
  refine ⟨fun i Γ => ∃ v3 v4 v5 v6, Γ = [.d (owD os), .d (dsD ds), .lst ((doneM os (ds.take i)).map .int), v3, v4, v5, v6], ⟨_, _, _, _, rfl⟩, ?_⟩
  rintro i Γ ⟨v3, v4, v5, v6, rfl⟩
  refine ⟨fun e => ?_, fun y hy => ?_⟩
  · rw [e, List.length_map, List.take_length]
    (try simp only [dVar, dC, dNil, dCons, dTup, dLst, dOp, onI, dI, dI0, dUn, dEq, dNe, dIxT, dIxL, dIxLv, dAndV, dOrV, dNotV, dB, dAnd, dOr, dNot, dYes, dIf, dChain, dCB, dLenR, dLenv, dListR, dTupR, dMxR, dMnR, dIntR, dIsi, dNoPart, dPart, dSl, dCatA, dCat, dRep, dIn, dInD, dIsN, D.isN, dCall, dCallP, dCallS, dPen0, dTruv, dRg1, dRg2, dLstRg, dTupRg, dLenSet, wf, wb, wi, wt, wl, vD, isSc, dSeq, dNext, dRet, dRetv, dRetN, dIfS, dAsg, dAsgT, dgTup, dgCons, dPar, dApp, dExt, dSetL, dPopAt, dRse, dNever, dDrop, dITup, dILst, dIRng1, dIRng2, dIDn, dIEnT, dIEnL, dIZip, po, poP, sp0, sp1, sp2, sp3, sp4, sp5, pp0, pp1, pp2, pp3, List.set_cons_zero, List.set_cons_succ, List.getElem?_cons_zero, List.getElem?_cons_succ, List.all_nil, List.map_nil, List.append_nil, List.cons_append, List.nil_append, true_and, ite_true, if_true])
    exact hk
  · rw [List.getElem?_map] at hy
    cases hd : ds[i]? with
    | none => rw [hd] at hy; cases hy
    | some d =>
      rw [hd] at hy
      cases hy
      have et : ds.take (i + 1) = ds.take i ++ [d] := by rw [List.take_add_one, hd]; rfl
      have okd := ok d (List.mem_of_getElem? hd)
      refine ⟨fun j Γ => ∃ v4 v5 v6, Γ = [.d (owD os), .d (dsD ds), .lst ((doneD (doneM os (ds.take i)) (d.take j)).map .int), .d (dlD d), v4, v5, v6], ⟨_, _, _, rfl⟩, ?_⟩
      rintro j Γ ⟨w4, w5, w6, rfl⟩
      refine ⟨fun e => ?_, fun y hy => ?_⟩
      · rw [e, List.length_map, List.take_length, ← doneM_snoc, ← et]
        exact ⟨_, _, _, _, rfl⟩
      · rw [List.getElem?_map] at hy
        cases hm : d[j]? with
        | none => rw [hm] at hy; cases hy
        | some m =>
          rw [hm] at hy
          cases hy
          have em : d.take (j + 1) = d.take j ++ [m] := by rw [List.take_add_one, hm]; rfl
          have okm := okd m (List.mem_of_getElem? hm)
          (try simp only [dVar, dC, dNil, dCons, dTup, dLst, dOp, onI, dI, dI0, dUn, dEq, dNe, dIxT, dIxL, dIxLv, dAndV, dOrV, dNotV, dB, dAnd, dOr, dNot, dYes, dIf, dChain, dCB, dLenR, dLenv, dListR, dTupR, dMxR, dMnR, dIntR, dIsi, dNoPart, dPart, dSl, dCatA, dCat, dRep, dIn, dInD, dIsN, D.isN, dCall, dCallP, dCallS, dPen0, dTruv, dRg1, dRg2, dLstRg, dTupRg, dLenSet, wf, wb, wi, wt, wl, vD, isSc, dSeq, dNext, dRet, dRetv, dRetN, dIfS, dAsg, dAsgT, dgTup, dgCons, dPar, dApp, dExt, dSetL, dPopAt, dRse, dNever, dDrop, dITup, dILst, dIRng1, dIRng2, dIDn, dIEnT, dIEnL, dIZip, po, poP, sp0, sp1, sp2, sp3, sp4, sp5, pp0, pp1, pp2, pp3, List.set_cons_zero, List.set_cons_succ, List.getElem?_cons_zero, List.getElem?_cons_succ, List.all_nil, List.map_nil, List.append_nil, List.cons_append, List.nil_append, true_and, ite_true, if_true, mvD])
          refine ⟨rfl, ⟨_, rfl⟩, _, _, rfl, ixN_ok okm.1 (by rw [List.length_map, doneD_len, doneM_len]; exact okm.2), ?_⟩
          rw [em, doneD_snoc, List.map_set]
          exact ⟨_, _, _, rfl⟩
theorem ok_owners_done_L (T : Txt K mg ad fd) : FnOk P w K mg base CX0 1 (ad 12) (fd 12) ps_owners_done (spX K (sp2 kDoneL)) := by
  refine (show Fun K "owners_done" "owners_done" st_owners_done (ad 12) (fd 12) from T.f 12 (by decide)).ok sc_owners_done (fun vs H Q E h => len2 h) (fun cdv A outer s H vs Q E hr h => ?_)
  have hu := hu_of hr
  have hu65 := hu65_of hr
  refine ⟨_, (pss_cons (ps_set (i := 2) sc_owners_done.nd rfl (Or.inl rfl) (pe_callTy (r := rList K) cl_list (by rfl) (T.z 14 (by decide)) (by decide +kernel) (pa_cons (pv 0) pa_nil)))
  (pss_cons (ps_for PassesOwn.never rfl (pi_listK (K := K) (pv 1)) (pg_name (i := 3) sc_owners_done.nd rfl (Or.inl rfl))
    (pss_one (ps_for PassesOwn.never rfl (pi_tupK (K := K) (pv 3)) (pg_tupK (K := K) (n := 3) rfl (pgs_cons (pg_name (i := 4) sc_owners_done.nd rfl (Or.inl rfl)) (pgs_cons (pg_name (i := 5) sc_owners_done.nd rfl (Or.inl rfl)) (pgs_cons (pg_name (i := 6) sc_owners_done.nd rfl (Or.inl rfl)) pgs_nil))))
    (pss_one (ps_asg (pv 6) (pg_sub (pv 2) (pv 4) set_list))))))
  (pss_one (ps_ret (pe_callTy (r := rTuple K) cl_tuple (by rfl) (T.z 4 (by decide)) (by decide +kernel) (pa_cons (pv 2) pa_nil)))))), ?_⟩
  refine body2 h fun x y φ hk => ?_
  rw [show st0 nm_owners_done [x, y] = [.d x, .d y, .no, .no, .no, .no, .no] from rfl]
  obtain ⟨os, ds, rfl, rfl, ok, hk⟩ := hk
  (try simp only [dVar, dC, dNil, dCons, dTup, dLst, dOp, onI, dI, dI0, dUn, dEq, dNe, dIxT, dIxL, dIxLv, dAndV, dOrV, dNotV, dB, dAnd, dOr, dNot, dYes, dIf, dChain, dCB, dLenR, dLenv, dListR, dTupR, dMxR, dMnR, dIntR, dIsi, dNoPart, dPart, dSl, dCatA, dCat, dRep, dIn, dInD, dIsN, D.isN, dCall, dCallP, dCallS, dPen0, dTruv, dRg1, dRg2, dLstRg, dTupRg, dLenSet, wf, wb, wi, wt, wl, vD, isSc, dSeq, dNext, dRet, dRetv, dRetN, dIfS, dAsg, dAsgT, dgTup, dgCons, dPar, dApp, dExt, dSetL, dPopAt, dRse, dNever, dDrop, dITup, dILst, dIRng1, dIRng2, dIDn, dIEnT, dIEnL, dIZip, po, poP, sp0, sp1, sp2, sp3, sp4, sp5, pp0, pp1, pp2, pp3, List.set_cons_zero, List.set_cons_succ, List.getElem?_cons_zero, List.getElem?_cons_succ, List.all_nil, List.map_nil, List.append_nil, List.cons_append, List.nil_append, true_and, ite_true, if_true, owD, dsD])
  refine ⟨fun i Γ => ∃ v3 v4 v5 v6, Γ = [.d (owD os), .d (.lst (ds.map dlD)), .lst ((doneM os (ds.take i)).map .int), v3, v4, v5, v6], ⟨_, _, _, _, rfl⟩, ?_⟩
  rintro i Γ ⟨v3, v4, v5, v6, rfl⟩
  refine ⟨fun e => ?_, fun y hy => ?_⟩
  · rw [e, List.length_map, List.take_length]
    (try simp only [dVar, dC, dNil, dCons, dTup, dLst, dOp, onI, dI, dI0, dUn, dEq, dNe, dIxT, dIxL, dIxLv, dAndV, dOrV, dNotV, dB, dAnd, dOr, dNot, dYes, dIf, dChain, dCB, dLenR, dLenv, dListR, dTupR, dMxR, dMnR, dIntR, dIsi, dNoPart, dPart, dSl, dCatA, dCat, dRep, dIn, dInD, dIsN, D.isN, dCall, dCallP, dCallS, dPen0, dTruv, dRg1, dRg2, dLstRg, dTupRg, dLenSet, wf, wb, wi, wt, wl, vD, isSc, dSeq, dNext, dRet, dRetv, dRetN, dIfS, dAsg, dAsgT, dgTup, dgCons, dPar, dApp, dExt, dSetL, dPopAt, dRse, dNever, dDrop, dITup, dILst, dIRng1, dIRng2, dIDn, dIEnT, dIEnL, dIZip, po, poP, sp0, sp1, sp2, sp3, sp4, sp5, pp0, pp1, pp2, pp3, List.set_cons_zero, List.set_cons_succ, List.getElem?_cons_zero, List.getElem?_cons_succ, List.all_nil, List.map_nil, List.append_nil, List.cons_append, List.nil_append, true_and, ite_true, if_true])
    exact hk
  · rw [List.getElem?_map] at hy
    cases hd : ds[i]? with
    | none => rw [hd] at hy; cases hy
    | some d =>
      rw [hd] at hy
      cases hy
      have et : ds.take (i + 1) = ds.take i ++ [d] := by rw [List.take_add_one, hd]; rfl
      have okd := ok d (List.mem_of_getElem? hd)
      refine ⟨fun j Γ => ∃ v4 v5 v6, Γ = [.d (owD os), .d (.lst (ds.map dlD)), .lst ((doneD (doneM os (ds.take i)) (d.take j)).map .int), .d (dlD d), v4, v5, v6], ⟨_, _, _, rfl⟩, ?_⟩
      rintro j Γ ⟨w4, w5, w6, rfl⟩
      refine ⟨fun e => ?_, fun y hy => ?_⟩
      · rw [e, List.length_map, List.take_length, ← doneM_snoc, ← et]
        exact ⟨_, _, _, _, rfl⟩
      · rw [List.getElem?_map] at hy
        cases hm : d[j]? with
        | none => rw [hm] at hy; cases hy
        | some m =>
          rw [hm] at hy
          cases hy
          have em : d.take (j + 1) = d.take j ++ [m] := by rw [List.take_add_one, hm]; rfl
          have okm := okd m (List.mem_of_getElem? hm)
          (try simp only [dVar, dC, dNil, dCons, dTup, dLst, dOp, onI, dI, dI0, dUn, dEq, dNe, dIxT, dIxL, dIxLv, dAndV, dOrV, dNotV, dB, dAnd, dOr, dNot, dYes, dIf, dChain, dCB, dLenR, dLenv, dListR, dTupR, dMxR, dMnR, dIntR, dIsi, dNoPart, dPart, dSl, dCatA, dCat, dRep, dIn, dInD, dIsN, D.isN, dCall, dCallP, dCallS, dPen0, dTruv, dRg1, dRg2, dLstRg, dTupRg, dLenSet, wf, wb, wi, wt, wl, vD, isSc, dSeq, dNext, dRet, dRetv, dRetN, dIfS, dAsg, dAsgT, dgTup, dgCons, dPar, dApp, dExt, dSetL, dPopAt, dRse, dNever, dDrop, dITup, dILst, dIRng1, dIRng2, dIDn, dIEnT, dIEnL, dIZip, po, poP, sp0, sp1, sp2, sp3, sp4, sp5, pp0, pp1, pp2, pp3, List.set_cons_zero, List.set_cons_succ, List.getElem?_cons_zero, List.getElem?_cons_succ, List.all_nil, List.map_nil, List.append_nil, List.cons_append, List.nil_append, true_and, ite_true, if_true, mvD])
          refine ⟨rfl, ⟨_, rfl⟩, _, _, rfl, ixN_ok okm.1 (by rw [List.length_map, doneD_len, doneM_len]; exact okm.2), ?_⟩
          rw [em, doneD_snoc, List.map_set]
          exact ⟨_, _, _, rfl⟩
end
end Dl

set_option Elab.async false
set_option maxRecDepth 100000
set_option maxHeartbeats 4000000
set_option linter.all false
set_option synthInstance.maxHeartbeats 4000000
set_option synthInstance.maxSize 10000

namespace Dl
open PySem PySem.Spec PyProof.Rows L2 RZ HmS Da
section
variable {P : Program} {w : World} {K : PySem.W.Frag} [HasT K] {mg : Str → Option Value} {base : Heap} {ad : Nat → Addr} {fd : Nat → FuncData}
theorem at_map {α β : Type} {xs : List α} {g : α → β} {i : Nat} {y : β} (h : (xs.map g)[i]? = some y) : ∃ d, xs[i]? = some d ∧ y = g d := by
  rw [List.getElem?_map] at h
  cases e : xs[i]? with
  | none => rw [e] at h; cases h
  | some d =>
    rw [e] at h
    cases h
    exact ⟨d, rfl, rfl⟩
theorem dl_at {ds : List (List Mv)} {i : Nat} {d : List Mv} (h : ds[i]? = some d) : dl ds i = d ∧ i < ds.length := by
  refine ⟨?_, (List.getElem?_eq_some_iff.mp h).1⟩
  unfold dl
  rw [List.getD_eq_getElem?_getD, h]
  rfl
theorem dl_get {ds : List (List Mv)} {i : Nat} (h : i < ds.length) : ds[i]? = some (dl ds i) := by
  unfold dl
  rw [List.getD_eq_getElem?_getD, List.getElem?_eq_getElem h]
  rfl
theorem atI_ok {α : Type} {xs : List α} {i : Nat} {x : α} (h : xs[i]? = some x) : atI xs (i : Int) = some x := by
  unfold atI
  rw [ixN_ok (by omega) (by have := (List.getElem?_eq_some_iff.mp h).1; omega), Int.toNat_natCast]
  exact h
structure In2 (os : List Int) (ds : List (List Mv)) : Prop where
  ow : OwOk os
  vd : DlsOk os ds
  l : ds.length ≤ 10
theorem In2.ln {os : List Int} {ds : List (List Mv)} (h : In2 os ds) : ∀ d ∈ ds, d.length ≤ 6 := dlsOk_ln h.vd
theorem cutL_to {α : Type} {xs : List α} {n : Nat} : cutL xs none (some (n : Int)) = xs.take n := by
  unfold cutL
  rw [HT.sIx_none, HT.sIx_nat, List.drop_zero, Nat.sub_zero]
  by_cases h : n ≤ xs.length
  · rw [Nat.min_eq_left h]
  · rw [Nat.min_eq_right (by omega), List.take_length, List.take_of_length_le (by omega)]
def kChkD (o x : D) (φ : En → Prop) : Prop := ∃ os ds, o = owD os ∧ x = dsD ds ∧ In2 os ds ∧ φ (.d .non)
def kChkF (o x y : D) (φ : En → Prop) : Prop := ∃ os ds s, o = owD os ∧ x = dsD ds ∧ y = .int s ∧ In2 os ds ∧ 0 ≤ s ∧ s < os.length ∧ φ (.d .non)
def kChkP (o x y z : D) (φ : En → Prop) : Prop := ∃ os ds s, ∃ p : Nat, o = owD os ∧ x = dsD ds ∧ y = .int s ∧ z = .int p ∧ In2 os ds ∧ 0 ≤ s ∧ s < os.length ∧ p < ds.length ∧ φ (.d .non)
def kBehind (o x y : D) (φ : En → Prop) : Prop := ∃ os ds, ∃ n : Nat, o = owD os ∧ x = dsD ds ∧ y = .int n ∧ In2 os ds ∧ n ≤ ds.length ∧ φ (.d (owD (doneM os (ds.take n))))
def kDls (o x : D) (φ : En → Prop) : Prop := ∃ os ds, o = owD os ∧ x = dsD ds ∧ In2 os ds ∧ φ (.d (.bl true))
theorem ok_is_deals (T : Txt K mg ad fd) : FnOk P w K mg base CX0 6 (ad 10) (fd 10) ps_is_deals (spX K (sp2 kDls)) := by
  refine (show Fun K "is_deals" "is_deals" st_is_deals (ad 10) (fd 10) from T.f 10 (by decide)).ok sc_is_deals (fun vs H Q E h => len2 h) (fun cdv A outer s H vs Q E hr h => ?_)
  have hu := hu_of hr
  have hu65 := hu65_of hr
  refine ⟨_, (pss_cons (ps_if (pt_not (pt_val (pe_call (ok_is_tuple (K := K) T) (hr.mono (by omega)) (by rfl) (T.g 2 (by decide)) (T.k 2 (by decide)) (bd_is_tuple T) .nil pass0 (pa_cons (pv 1) (pa_cons pe_int (pa_cons pe_int pa_nil))))))
    (pss_one (ps_ret pe_bl))
    pss_nil)
  (pss_cons (ps_set (i := 2) sc_is_deals.nd rfl (Or.inl rfl) (pv 0))
  (pss_cons (ps_for PassesOwn.never rfl (pi_tupK (K := K) (pv 1)) (pg_name (i := 3) sc_is_deals.nd rfl (Or.inl rfl))
    (pss_cons (ps_if (pt_not (pt_val (pe_call (ok_is_deal (K := K) T) (hr.mono (by omega)) (by rfl) (T.g 9 (by decide)) (T.k 9 (by decide)) (bd_is_deal T) .nil pass0 (pa_cons (pv 2) (pa_cons (pv 3) pa_nil)))))
    (pss_one (ps_ret pe_bl))
    pss_nil)
  (pss_one (ps_set (i := 2) sc_is_deals.nd rfl (Or.inl rfl) (pe_call (ok_owners_done_T (K := K) T) (hr.mono (by omega)) (by rfl) (T.g 12 (by decide)) (T.k 12 (by decide)) (bd_owners_done T) .nil pass0 (pa_cons (pv 2) (pa_cons (pe_tup (pa_cons (pv 3) pa_nil)) pa_nil)))))))
  (pss_one (ps_ret pe_bl))))), ?_⟩
  refine body2 h fun x y φ hk => ?_
  rw [show st0 nm_is_deals [x, y] = [.d x, .d y, .no, .no] from rfl]
  obtain ⟨os, ds, rfl, rfl, ok, hk⟩ := hk
  have okl := ok.l
  (try simp only [dVar, dC, dNil, dCons, dTup, dLst, dOp, onI, dI, dI0, dUn, dEq, dNe, dIxT, dIxL, dIxLv, dAndV, dOrV, dNotV, dB, dAnd, dOr, dNot, dYes, dIf, dChain, dCB, dLenR, dLenv, dListR, dTupR, dMxR, dMnR, dIntR, dIsi, dNoPart, dPart, dSl, dCatA, dCat, dRep, dIn, dInD, dIsN, D.isN, dCall, dCallP, dCallS, dPen0, dTruv, dRg1, dRg2, dLstRg, dTupRg, dLenSet, wf, wb, wi, wt, wl, vD, isSc, dSeq, dNext, dRet, dRetv, dRetN, dIfS, dAsg, dAsgT, dgTup, dgCons, dPar, dApp, dExt, dSetL, dPopAt, dRse, dNever, dDrop, dITup, dILst, dIRng1, dIRng2, dIDn, dIEnT, dIEnL, dIZip, po, poP, sp0, sp1, sp2, sp3, sp4, sp5, pp0, pp1, pp2, pp3, List.set_cons_zero, List.set_cons_succ, List.getElem?_cons_zero, List.getElem?_cons_succ, List.all_nil, List.map_nil, List.append_nil, List.cons_append, List.nil_append, true_and, ite_true, if_true, dsD])
  refine ⟨0, 10, rfl, rfl, rfl, ?_⟩
  rw [tupB_of (by omega) (by rw [List.length_map]; omega)]
  refine ifF rfl ?_
  (try simp only [dVar, dC, dNil, dCons, dTup, dLst, dOp, onI, dI, dI0, dUn, dEq, dNe, dIxT, dIxL, dIxLv, dAndV, dOrV, dNotV, dB, dAnd, dOr, dNot, dYes, dIf, dChain, dCB, dLenR, dLenv, dListR, dTupR, dMxR, dMnR, dIntR, dIsi, dNoPart, dPart, dSl, dCatA, dCat, dRep, dIn, dInD, dIsN, D.isN, dCall, dCallP, dCallS, dPen0, dTruv, dRg1, dRg2, dLstRg, dTupRg, dLenSet, wf, wb, wi, wt, wl, vD, isSc, dSeq, dNext, dRet, dRetv, dRetN, dIfS, dAsg, dAsgT, dgTup, dgCons, dPar, dApp, dExt, dSetL, dPopAt, dRse, dNever, dDrop, dITup, dILst, dIRng1, dIRng2, dIDn, dIEnT, dIEnL, dIZip, po, poP, sp0, sp1, sp2, sp3, sp4, sp5, pp0, pp1, pp2, pp3, List.set_cons_zero, List.set_cons_succ, List.getElem?_cons_zero, List.getElem?_cons_succ, List.all_nil, List.map_nil, List.append_nil, List.cons_append, List.nil_append, true_and, ite_true, if_true])
  refine ⟨fun i Γ => ∃ v3, Γ = [.d (owD os), .d (.tup (ds.map dlD)), .d (owD (doneM os (ds.take i))), v3], ⟨_, rfl⟩, ?_⟩
  rintro i Γ ⟨v3, rfl⟩
  refine ⟨fun e => ?_, fun y hy => ?_⟩
  · (try simp only [dVar, dC, dNil, dCons, dTup, dLst, dOp, onI, dI, dI0, dUn, dEq, dNe, dIxT, dIxL, dIxLv, dAndV, dOrV, dNotV, dB, dAnd, dOr, dNot, dYes, dIf, dChain, dCB, dLenR, dLenv, dListR, dTupR, dMxR, dMnR, dIntR, dIsi, dNoPart, dPart, dSl, dCatA, dCat, dRep, dIn, dInD, dIsN, D.isN, dCall, dCallP, dCallS, dPen0, dTruv, dRg1, dRg2, dLstRg, dTupRg, dLenSet, wf, wb, wi, wt, wl, vD, isSc, dSeq, dNext, dRet, dRetv, dRetN, dIfS, dAsg, dAsgT, dgTup, dgCons, dPar, dApp, dExt, dSetL, dPopAt, dRse, dNever, dDrop, dITup, dILst, dIRng1, dIRng2, dIDn, dIEnT, dIEnL, dIZip, po, poP, sp0, sp1, sp2, sp3, sp4, sp5, pp0, pp1, pp2, pp3, List.set_cons_zero, List.set_cons_succ, List.getElem?_cons_zero, List.getElem?_cons_succ, List.all_nil, List.map_nil, List.append_nil, List.cons_append, List.nil_append, true_and, ite_true, if_true])
    exact hk
  · obtain ⟨d, hd, rfl⟩ := at_map hy
    obtain ⟨rfl, il⟩ := dl_at hd
    have okd := dlsOk_at ok.vd il
    (try simp only [dVar, dC, dNil, dCons, dTup, dLst, dOp, onI, dI, dI0, dUn, dEq, dNe, dIxT, dIxL, dIxLv, dAndV, dOrV, dNotV, dB, dAnd, dOr, dNot, dYes, dIf, dChain, dCB, dLenR, dLenv, dListR, dTupR, dMxR, dMnR, dIntR, dIsi, dNoPart, dPart, dSl, dCatA, dCat, dRep, dIn, dInD, dIsN, D.isN, dCall, dCallP, dCallS, dPen0, dTruv, dRg1, dRg2, dLstRg, dTupRg, dLenSet, wf, wb, wi, wt, wl, vD, isSc, dSeq, dNext, dRet, dRetv, dRetN, dIfS, dAsg, dAsgT, dgTup, dgCons, dPar, dApp, dExt, dSetL, dPopAt, dRse, dNever, dDrop, dITup, dILst, dIRng1, dIRng2, dIDn, dIEnT, dIEnL, dIZip, po, poP, sp0, sp1, sp2, sp3, sp4, sp5, pp0, pp1, pp2, pp3, List.set_cons_zero, List.set_cons_succ, List.getElem?_cons_zero, List.getElem?_cons_succ, List.all_nil, List.map_nil, List.append_nil, List.cons_append, List.nil_append, true_and, ite_true, if_true])
    refine ⟨doneM os (ds.take i), dl ds i, rfl, rfl, okd, by rw [doneM_len]; exact ok.ow.l1, ifF rfl ?_⟩
    (try simp only [dVar, dC, dNil, dCons, dTup, dLst, dOp, onI, dI, dI0, dUn, dEq, dNe, dIxT, dIxL, dIxLv, dAndV, dOrV, dNotV, dB, dAnd, dOr, dNot, dYes, dIf, dChain, dCB, dLenR, dLenv, dListR, dTupR, dMxR, dMnR, dIntR, dIsi, dNoPart, dPart, dSl, dCatA, dCat, dRep, dIn, dInD, dIsN, D.isN, dCall, dCallP, dCallS, dPen0, dTruv, dRg1, dRg2, dLstRg, dTupRg, dLenSet, wf, wb, wi, wt, wl, vD, isSc, dSeq, dNext, dRet, dRetv, dRetN, dIfS, dAsg, dAsgT, dgTup, dgCons, dPar, dApp, dExt, dSetL, dPopAt, dRse, dNever, dDrop, dITup, dILst, dIRng1, dIRng2, dIDn, dIEnT, dIEnL, dIZip, po, poP, sp0, sp1, sp2, sp3, sp4, sp5, pp0, pp1, pp2, pp3, List.set_cons_zero, List.set_cons_succ, List.getElem?_cons_zero, List.getElem?_cons_succ, List.all_nil, List.map_nil, List.append_nil, List.cons_append, List.nil_append, true_and, ite_true, if_true])
    refine ⟨by simp, doneM os (ds.take i), [dl ds i], rfl, rfl, fun d h m hm => ?_, ?_⟩
    · rw [List.mem_singleton] at h
      subst h
      exact ⟨(okd.mv m hm).s0, (okd.mv m hm).s1⟩
    · rw [take_succ_dl il, doneM_snoc]
      exact ⟨_, rfl⟩
theorem ok_check_deals (T : Txt K mg ad fd) : FnOk P w K mg base CX0 7 (ad 13) (fd 13) ps_check_deals (spX K (sp2 kChkD)) := by
  refine (show Fun K "check_deals" "check_deals" st_check_deals (ad 13) (fd 13) from T.f 13 (by decide)).ok sc_check_deals (fun vs H Q E h => len2 h) (fun cdv A outer s H vs Q E hr h => ?_)
  have hu := hu_of hr
  have hu65 := hu65_of hr
  refine ⟨_, (pss_cons (ps_if (pt_not (pt_val (pe_call (ok_is_owners (K := K) T) (hr.mono (by omega)) (by rfl) (T.g 7 (by decide)) (T.k 7 (by decide)) (bd_is_owners T) .nil pass0 (pa_cons (pv 0) pa_nil))))
    (pss_one ps_never)
    pss_nil)
  (pss_one (ps_if (pt_not (pt_val (pe_call (ok_is_deals (K := K) T) (hr.mono (by omega)) (by rfl) (T.g 10 (by decide)) (T.k 10 (by decide)) (bd_is_deals T) .nil pass0 (pa_cons (pv 0) (pa_cons (pv 1) pa_nil)))))
    (pss_one ps_never)
    pss_nil))), ?_⟩
  refine body2 h fun x y φ hk => ?_
  rw [show st0 nm_check_deals [x, y] = [.d x, .d y] from rfl]
  obtain ⟨os, ds, rfl, rfl, ok, hk⟩ := hk
  (try simp only [dVar, dC, dNil, dCons, dTup, dLst, dOp, onI, dI, dI0, dUn, dEq, dNe, dIxT, dIxL, dIxLv, dAndV, dOrV, dNotV, dB, dAnd, dOr, dNot, dYes, dIf, dChain, dCB, dLenR, dLenv, dListR, dTupR, dMxR, dMnR, dIntR, dIsi, dNoPart, dPart, dSl, dCatA, dCat, dRep, dIn, dInD, dIsN, D.isN, dCall, dCallP, dCallS, dPen0, dTruv, dRg1, dRg2, dLstRg, dTupRg, dLenSet, wf, wb, wi, wt, wl, vD, isSc, dSeq, dNext, dRet, dRetv, dRetN, dIfS, dAsg, dAsgT, dgTup, dgCons, dPar, dApp, dExt, dSetL, dPopAt, dRse, dNever, dDrop, dITup, dILst, dIRng1, dIRng2, dIDn, dIEnT, dIEnL, dIZip, po, poP, sp0, sp1, sp2, sp3, sp4, sp5, pp0, pp1, pp2, pp3, List.set_cons_zero, List.set_cons_succ, List.getElem?_cons_zero, List.getElem?_cons_succ, List.all_nil, List.map_nil, List.append_nil, List.cons_append, List.nil_append, true_and, ite_true, if_true])
  refine ⟨os, rfl, ok.ow, ifF rfl ?_⟩
  (try simp only [dVar, dC, dNil, dCons, dTup, dLst, dOp, onI, dI, dI0, dUn, dEq, dNe, dIxT, dIxL, dIxLv, dAndV, dOrV, dNotV, dB, dAnd, dOr, dNot, dYes, dIf, dChain, dCB, dLenR, dLenv, dListR, dTupR, dMxR, dMnR, dIntR, dIsi, dNoPart, dPart, dSl, dCatA, dCat, dRep, dIn, dInD, dIsN, D.isN, dCall, dCallP, dCallS, dPen0, dTruv, dRg1, dRg2, dLstRg, dTupRg, dLenSet, wf, wb, wi, wt, wl, vD, isSc, dSeq, dNext, dRet, dRetv, dRetN, dIfS, dAsg, dAsgT, dgTup, dgCons, dPar, dApp, dExt, dSetL, dPopAt, dRse, dNever, dDrop, dITup, dILst, dIRng1, dIRng2, dIDn, dIEnT, dIEnL, dIZip, po, poP, sp0, sp1, sp2, sp3, sp4, sp5, pp0, pp1, pp2, pp3, List.set_cons_zero, List.set_cons_succ, List.getElem?_cons_zero, List.getElem?_cons_succ, List.all_nil, List.map_nil, List.append_nil, List.cons_append, List.nil_append, true_and, ite_true, if_true])
  exact ⟨os, ds, rfl, rfl, ok, ifF rfl hk⟩
theorem ok_check_false (T : Txt K mg ad fd) : FnOk P w K mg base CX0 8 (ad 14) (fd 14) ps_check_false (spX K (sp3 kChkF)) := by
  refine (show Fun K "check_false" "check_false" st_check_false (ad 14) (fd 14) from T.f 14 (by decide)).ok sc_check_false (fun vs H Q E h => len3 h) (fun cdv A outer s H vs Q E hr h => ?_)
  have hu := hu_of hr
  have hu65 := hu65_of hr
  refine ⟨_, (pss_cons (ps_expr (pe_call (ok_check_deals (K := K) T) (hr.mono (by omega)) (by rfl) (T.g 13 (by decide)) (T.k 13 (by decide)) (bd_check_deals T) .nil pass0 (pa_cons (pv 0) (pa_cons (pv 1) pa_nil))))
  (pss_one (ps_if (pt_not (pt_val (pe_call (ok_is_whole_within (K := K) T) (hr.mono (by omega)) (by rfl) (T.g 1 (by decide)) (T.k 1 (by decide)) (bd_is_whole_within T) .nil pass0 (pa_cons (pv 2) (pa_cons pe_int (pa_cons (pe_op op_sub (pe_callB (r := Da.rLen K) cl_len (by rfl) (T.z 0 (by decide)) (by decide +kernel) (pa_cons (pv 0) pa_nil)) pe_int) pa_nil))))))
    (pss_one ps_never)
    pss_nil))), ?_⟩
  refine body3 h fun x y z φ hk => ?_
  rw [show st0 nm_check_false [x, y, z] = [.d x, .d y, .d z] from rfl]
  obtain ⟨os, ds, s, rfl, rfl, rfl, ok, s0, s1, hk⟩ := hk
  (try simp only [dVar, dC, dNil, dCons, dTup, dLst, dOp, onI, dI, dI0, dUn, dEq, dNe, dIxT, dIxL, dIxLv, dAndV, dOrV, dNotV, dB, dAnd, dOr, dNot, dYes, dIf, dChain, dCB, dLenR, dLenv, dListR, dTupR, dMxR, dMnR, dIntR, dIsi, dNoPart, dPart, dSl, dCatA, dCat, dRep, dIn, dInD, dIsN, D.isN, dCall, dCallP, dCallS, dPen0, dTruv, dRg1, dRg2, dLstRg, dTupRg, dLenSet, wf, wb, wi, wt, wl, vD, isSc, dSeq, dNext, dRet, dRetv, dRetN, dIfS, dAsg, dAsgT, dgTup, dgCons, dPar, dApp, dExt, dSetL, dPopAt, dRse, dNever, dDrop, dITup, dILst, dIRng1, dIRng2, dIDn, dIEnT, dIEnL, dIZip, po, poP, sp0, sp1, sp2, sp3, sp4, sp5, pp0, pp1, pp2, pp3, List.set_cons_zero, List.set_cons_succ, List.getElem?_cons_zero, List.getElem?_cons_succ, List.all_nil, List.map_nil, List.append_nil, List.cons_append, List.nil_append, true_and, ite_true, if_true, owD])
  refine ⟨os, ds, rfl, rfl, ok, ?_⟩
  (try simp only [dVar, dC, dNil, dCons, dTup, dLst, dOp, onI, dI, dI0, dUn, dEq, dNe, dIxT, dIxL, dIxLv, dAndV, dOrV, dNotV, dB, dAnd, dOr, dNot, dYes, dIf, dChain, dCB, dLenR, dLenv, dListR, dTupR, dMxR, dMnR, dIntR, dIsi, dNoPart, dPart, dSl, dCatA, dCat, dRep, dIn, dInD, dIsN, D.isN, dCall, dCallP, dCallS, dPen0, dTruv, dRg1, dRg2, dLstRg, dTupRg, dLenSet, wf, wb, wi, wt, wl, vD, isSc, dSeq, dNext, dRet, dRetv, dRetN, dIfS, dAsg, dAsgT, dgTup, dgCons, dPar, dApp, dExt, dSetL, dPopAt, dRse, dNever, dDrop, dITup, dILst, dIRng1, dIRng2, dIDn, dIEnT, dIEnL, dIZip, po, poP, sp0, sp1, sp2, sp3, sp4, sp5, pp0, pp1, pp2, pp3, List.set_cons_zero, List.set_cons_succ, List.getElem?_cons_zero, List.getElem?_cons_succ, List.all_nil, List.map_nil, List.append_nil, List.cons_append, List.nil_append, true_and, ite_true, if_true])
  refine ⟨0, _, rfl, rfl, rfl, ?_⟩
  rw [List.length_map, inB_of s0 (by omega)]
  exact ifF rfl hk
theorem ok_check_place (T : Txt K mg ad fd) : FnOk P w K mg base CX0 9 (ad 15) (fd 15) ps_check_place (spX K (sp4 kChkP)) := by
  refine (show Fun K "check_place" "check_place" st_check_place (ad 15) (fd 15) from T.f 15 (by decide)).ok sc_check_place (fun vs H Q E h => len4 h) (fun cdv A outer s H vs Q E hr h => ?_)
  have hu := hu_of hr
  have hu65 := hu65_of hr
  refine ⟨_, (pss_cons (ps_expr (pe_call (ok_check_false (K := K) T) (hr.mono (by omega)) (by rfl) (T.g 14 (by decide)) (T.k 14 (by decide)) (bd_check_false T) .nil pass0 (pa_cons (pv 0) (pa_cons (pv 1) (pa_cons (pv 2) pa_nil)))))
  (pss_one (ps_if (pt_not (pt_val (pe_call (ok_is_whole_within (K := K) T) (hr.mono (by omega)) (by rfl) (T.g 1 (by decide)) (T.k 1 (by decide)) (bd_is_whole_within T) .nil pass0 (pa_cons (pv 3) (pa_cons pe_int (pa_cons (pe_op op_sub (pe_callB (r := Da.rLen K) cl_len (by rfl) (T.z 0 (by decide)) (by decide +kernel) (pa_cons (pv 1) pa_nil)) pe_int) pa_nil))))))
    (pss_one ps_never)
    pss_nil))), ?_⟩
  refine body4 h fun x y z u φ hk => ?_
  rw [show st0 nm_check_place [x, y, z, u] = [.d x, .d y, .d z, .d u] from rfl]
  obtain ⟨os, ds, s, p, rfl, rfl, rfl, rfl, ok, s0, s1, p1, hk⟩ := hk
  (try simp only [dVar, dC, dNil, dCons, dTup, dLst, dOp, onI, dI, dI0, dUn, dEq, dNe, dIxT, dIxL, dIxLv, dAndV, dOrV, dNotV, dB, dAnd, dOr, dNot, dYes, dIf, dChain, dCB, dLenR, dLenv, dListR, dTupR, dMxR, dMnR, dIntR, dIsi, dNoPart, dPart, dSl, dCatA, dCat, dRep, dIn, dInD, dIsN, D.isN, dCall, dCallP, dCallS, dPen0, dTruv, dRg1, dRg2, dLstRg, dTupRg, dLenSet, wf, wb, wi, wt, wl, vD, isSc, dSeq, dNext, dRet, dRetv, dRetN, dIfS, dAsg, dAsgT, dgTup, dgCons, dPar, dApp, dExt, dSetL, dPopAt, dRse, dNever, dDrop, dITup, dILst, dIRng1, dIRng2, dIDn, dIEnT, dIEnL, dIZip, po, poP, sp0, sp1, sp2, sp3, sp4, sp5, pp0, pp1, pp2, pp3, List.set_cons_zero, List.set_cons_succ, List.getElem?_cons_zero, List.getElem?_cons_succ, List.all_nil, List.map_nil, List.append_nil, List.cons_append, List.nil_append, true_and, ite_true, if_true, dsD])
  refine ⟨os, ds, s, rfl, rfl, rfl, ok, s0, s1, ?_⟩
  (try simp only [dVar, dC, dNil, dCons, dTup, dLst, dOp, onI, dI, dI0, dUn, dEq, dNe, dIxT, dIxL, dIxLv, dAndV, dOrV, dNotV, dB, dAnd, dOr, dNot, dYes, dIf, dChain, dCB, dLenR, dLenv, dListR, dTupR, dMxR, dMnR, dIntR, dIsi, dNoPart, dPart, dSl, dCatA, dCat, dRep, dIn, dInD, dIsN, D.isN, dCall, dCallP, dCallS, dPen0, dTruv, dRg1, dRg2, dLstRg, dTupRg, dLenSet, wf, wb, wi, wt, wl, vD, isSc, dSeq, dNext, dRet, dRetv, dRetN, dIfS, dAsg, dAsgT, dgTup, dgCons, dPar, dApp, dExt, dSetL, dPopAt, dRse, dNever, dDrop, dITup, dILst, dIRng1, dIRng2, dIDn, dIEnT, dIEnL, dIZip, po, poP, sp0, sp1, sp2, sp3, sp4, sp5, pp0, pp1, pp2, pp3, List.set_cons_zero, List.set_cons_succ, List.getElem?_cons_zero, List.getElem?_cons_succ, List.all_nil, List.map_nil, List.append_nil, List.cons_append, List.nil_append, true_and, ite_true, if_true])
  refine ⟨0, _, rfl, rfl, rfl, ?_⟩
  rw [List.length_map, inB_of (by omega) (by omega)]
  exact ifF rfl hk
theorem ok_owners_behind (T : Txt K mg ad fd) : FnOk P w K mg base CX0 8 (ad 16) (fd 16) ps_owners_behind (spX K (sp3 kBehind)) := by
  refine (show Fun K "owners_behind" "owners_behind" st_owners_behind (ad 16) (fd 16) from T.f 16 (by decide)).ok sc_owners_behind (fun vs H Q E h => len3 h) (fun cdv A outer s H vs Q E hr h => ?_)
  have hu := hu_of hr
  have hu65 := hu65_of hr
  refine ⟨_, (pss_cons (ps_expr (pe_call (ok_check_deals (K := K) T) (hr.mono (by omega)) (by rfl) (T.g 13 (by decide)) (T.k 13 (by decide)) (bd_check_deals T) .nil pass0 (pa_cons (pv 0) (pa_cons (pv 1) pa_nil))))
  (pss_cons (ps_if (pt_not (pt_val (pe_call (ok_is_whole_within (K := K) T) (hr.mono (by omega)) (by rfl) (T.g 1 (by decide)) (T.k 1 (by decide)) (bd_is_whole_within T) .nil pass0 (pa_cons (pv 2) (pa_cons pe_int (pa_cons (pe_callB (r := Da.rLen K) cl_len (by rfl) (T.z 0 (by decide)) (by decide +kernel) (pa_cons (pv 1) pa_nil)) pa_nil))))))
    (pss_one ps_never)
    pss_nil)
  (pss_one (ps_ret (pe_call (ok_owners_done_T (K := K) T) (hr.mono (by omega)) (by rfl) (T.g 12 (by decide)) (T.k 12 (by decide)) (bd_owners_done T) .nil pass0 (pa_cons (pv 0) (pa_cons (pe_slice (r := rSlA K) sl_tupA (pv 1) po_none (po_some (pv 2))) pa_nil))))))), ?_⟩
  refine body3 h fun x y z φ hk => ?_
  rw [show st0 nm_owners_behind [x, y, z] = [.d x, .d y, .d z] from rfl]
  obtain ⟨os, ds, n, rfl, rfl, rfl, ok, n1, hk⟩ := hk
  (try simp only [dVar, dC, dNil, dCons, dTup, dLst, dOp, onI, dI, dI0, dUn, dEq, dNe, dIxT, dIxL, dIxLv, dAndV, dOrV, dNotV, dB, dAnd, dOr, dNot, dYes, dIf, dChain, dCB, dLenR, dLenv, dListR, dTupR, dMxR, dMnR, dIntR, dIsi, dNoPart, dPart, dSl, dCatA, dCat, dRep, dIn, dInD, dIsN, D.isN, dCall, dCallP, dCallS, dPen0, dTruv, dRg1, dRg2, dLstRg, dTupRg, dLenSet, wf, wb, wi, wt, wl, vD, isSc, dSeq, dNext, dRet, dRetv, dRetN, dIfS, dAsg, dAsgT, dgTup, dgCons, dPar, dApp, dExt, dSetL, dPopAt, dRse, dNever, dDrop, dITup, dILst, dIRng1, dIRng2, dIDn, dIEnT, dIEnL, dIZip, po, poP, sp0, sp1, sp2, sp3, sp4, sp5, pp0, pp1, pp2, pp3, List.set_cons_zero, List.set_cons_succ, List.getElem?_cons_zero, List.getElem?_cons_succ, List.all_nil, List.map_nil, List.append_nil, List.cons_append, List.nil_append, true_and, ite_true, if_true, dsD])
  refine ⟨os, ds, rfl, rfl, ok, ?_⟩
  (try simp only [dVar, dC, dNil, dCons, dTup, dLst, dOp, onI, dI, dI0, dUn, dEq, dNe, dIxT, dIxL, dIxLv, dAndV, dOrV, dNotV, dB, dAnd, dOr, dNot, dYes, dIf, dChain, dCB, dLenR, dLenv, dListR, dTupR, dMxR, dMnR, dIntR, dIsi, dNoPart, dPart, dSl, dCatA, dCat, dRep, dIn, dInD, dIsN, D.isN, dCall, dCallP, dCallS, dPen0, dTruv, dRg1, dRg2, dLstRg, dTupRg, dLenSet, wf, wb, wi, wt, wl, vD, isSc, dSeq, dNext, dRet, dRetv, dRetN, dIfS, dAsg, dAsgT, dgTup, dgCons, dPar, dApp, dExt, dSetL, dPopAt, dRse, dNever, dDrop, dITup, dILst, dIRng1, dIRng2, dIDn, dIEnT, dIEnL, dIZip, po, poP, sp0, sp1, sp2, sp3, sp4, sp5, pp0, pp1, pp2, pp3, List.set_cons_zero, List.set_cons_succ, List.getElem?_cons_zero, List.getElem?_cons_succ, List.all_nil, List.map_nil, List.append_nil, List.cons_append, List.nil_append, true_and, ite_true, if_true])
  refine ⟨0, _, rfl, rfl, rfl, ?_⟩
  rw [List.length_map, inB_of (by omega) (by omega)]
  refine ifF rfl ?_
  (try simp only [dVar, dC, dNil, dCons, dTup, dLst, dOp, onI, dI, dI0, dUn, dEq, dNe, dIxT, dIxL, dIxLv, dAndV, dOrV, dNotV, dB, dAnd, dOr, dNot, dYes, dIf, dChain, dCB, dLenR, dLenv, dListR, dTupR, dMxR, dMnR, dIntR, dIsi, dNoPart, dPart, dSl, dCatA, dCat, dRep, dIn, dInD, dIsN, D.isN, dCall, dCallP, dCallS, dPen0, dTruv, dRg1, dRg2, dLstRg, dTupRg, dLenSet, wf, wb, wi, wt, wl, vD, isSc, dSeq, dNext, dRet, dRetv, dRetN, dIfS, dAsg, dAsgT, dgTup, dgCons, dPar, dApp, dExt, dSetL, dPopAt, dRse, dNever, dDrop, dITup, dILst, dIRng1, dIRng2, dIDn, dIEnT, dIEnL, dIZip, po, poP, sp0, sp1, sp2, sp3, sp4, sp5, pp0, pp1, pp2, pp3, List.set_cons_zero, List.set_cons_succ, List.getElem?_cons_zero, List.getElem?_cons_succ, List.all_nil, List.map_nil, List.append_nil, List.cons_append, List.nil_append, true_and, ite_true, if_true])
  refine ⟨os, ds.take n, rfl, ?_, fun d hd => dlsOk_mv ok.vd d (List.mem_of_mem_take hd), hk⟩
  rw [cutL_to, dsD, List.map_take]
end
end Dl

set_option Elab.async false
set_option maxRecDepth 100000
set_option maxHeartbeats 4000000
set_option linter.all false
set_option synthInstance.maxHeartbeats 4000000
set_option synthInstance.maxSize 10000

namespace Dl
open PySem PySem.Spec PyProof.Rows L2 RZ HmS Da
section
variable {P : Program} {w : World} {K : PySem.W.Frag} [HasT K] {mg : Str → Option Value} {base : Heap} {ad : Nat → Addr} {fd : Nat → FuncData}
/-! ### rising -/
def risI : List Int → Bool
  | a :: b :: r => decide (a < b) && risI (b :: r)
  | _ => true
def prs : List Int → List (Int × Int)
  | a :: b :: r => (a, b) :: prs (b :: r)
  | _ => []
theorem risI_prs : ∀ is : List Int, risI is = (prs is).all fun p => decide (p.1 < p.2)
  | [] => rfl
  | [_] => rfl
  | a :: b :: r => by
    show (decide (a < b) && risI (b :: r)) = (decide (a < b) && (prs (b :: r)).all _)
    rw [risI_prs (b :: r)]
def prD (p : Int × Int) : D := .tup [.int p.1, .int p.2]
theorem zip_prs : ∀ is : List Int, zipD (is.map .int) ((is.map D.int).drop 1) = (prs is).map prD
  | [] => rfl
  | [_] => rfl
  | a :: b :: r => by
    show D.tup [.int a, .int b] :: zipD ((b :: r).map .int) (r.map D.int) = prD (a, b) :: (prs (b :: r)).map prD
    have := zip_prs (b :: r)
    rw [show ((b :: r).map D.int).drop 1 = r.map D.int from rfl] at this
    rw [this]
    rfl
theorem prs_len : ∀ is : List Int, (prs is).length ≤ is.length
  | [] => Nat.le_refl _
  | [_] => Nat.zero_le _
  | a :: b :: r => by
    have := prs_len (b :: r)
    simp only [prs, List.length_cons] at this ⊢
    omega
theorem cutL_from {α : Type} {xs : List α} {n : Nat} : cutL xs (some (n : Int)) none = xs.drop n := by
  unfold cutL
  rw [HT.sIx_none, HT.sIx_nat]
  by_cases h : n ≤ xs.length
  · rw [Nat.min_eq_left h, List.take_of_length_le (by rw [List.length_drop]; omega)]
  · rw [Nat.min_eq_right (by omega), List.drop_length, List.drop_of_length_le (by omega), List.take_nil]
theorem drop_last {α : Type} : ∀ xs : List α, xs.drop (xs.length - 1) = xs.getLast?.toList
  | [] => rfl
  | [_] => rfl
  | a :: b :: r => by
    rw [List.getLast?_cons_cons, ← drop_last (b :: r)]
    rfl
theorem cutL_last {α : Type} {xs : List α} : cutL xs (some (-1)) none = xs.getLast?.toList := by
  unfold cutL
  rw [HT.sIx_none]
  have : HT.sIx xs.length 0 (some (-1)) = xs.length - 1 := by
    show (if (-1 : Int) < 0 then ((-1 : Int) + (xs.length : Int)).toNat else min (-1 : Int).toNat xs.length) = _
    rw [if_pos (by omega)]
    omega
  rw [this, drop_last, List.take_of_length_le (by cases e : xs.getLast? with
    | none => exact Nat.zero_le _
    | some y =>
      cases xs with
      | nil => cases e
      | cons a r => simp only [Option.toList_some, List.length_cons, List.length_nil]; omega)]
def kRis (x : D) (φ : En → Prop) : Prop := ∃ is : List Int, x = .tup (is.map .int) ∧ is.length ≤ 1000 ∧ φ (.d (.bl (risI is)))
theorem ok_is_rising (T : Txt K mg ad fd) : FnOk P w K mg base CX0 1 (ad 3) (fd 3) ps_is_rising (spX K (sp1 kRis)) := by
  refine (show Fun K "is_rising" "is_rising" st_is_rising (ad 3) (fd 3) from T.f 3 (by decide)).ok sc_is_rising (fun vs H Q E h => len1 h) (fun cdv A outer s H vs Q E hr h => ?_)
  have hu := hu_of hr
  have hu65 := hu65_of hr
  refine ⟨_, (pss_one (ps_ret (pe_callB (r := rAll K) (cr_all rfl) (by rfl) (T.z 9 (by decide)) (by decide +kernel) (pa_cons (pe_lc (own := [("ahead", 1), ("behind", 2)]) (g := (gTup K 2 (gCons (gName 1) (gCons (gName 2) gNil)))) (tt := tYes) rfl sc_is_rising.nd (pi_zipAK (K := K) (by rfl) (T.z 11 (by decide)) (pa_cons (pv 0) (pa_cons (pe_slice (r := rSlA K) sl_tupA (pv 0) (po_some pe_int) po_none) pa_nil)))
      (blkOk_by (N := nm_is_rising) (sc := defScope st_is_rising) (by decide +kernel)) (fun _ _ _ _ _ => by exact (pg_tupK (K := K) (n := 2) rfl (pgs_cons (pg_name (i := 1) sc_is_rising.nd rfl (Or.inl rfl)) (pgs_cons (pg_name (i := 2) sc_is_rising.nd rfl (Or.inl rfl)) pgs_nil)))) (fun _ _ _ _ _ => pts_nil)
      (fun _ _ _ _ _ => by exact (pe_cmpR op_lt (pv 1) (pv 2) (nomark _)))) pa_nil)))), ?_⟩
  refine body1 h fun x φ hk => ?_
  rw [show st0 nm_is_rising [x] = [.d x, .no, .no] from rfl]
  obtain ⟨is, rfl, hl, hk⟩ := hk
  have pl := prs_len is
  (try simp only [dVar, dC, dNil, dCons, dTup, dLst, dOp, onI, dI, dI0, dUn, dEq, dNe, dIxT, dIxL, dIxLv, dAndV, dOrV, dNotV, dB, dAnd, dOr, dNot, dYes, dIf, dChain, dCB, dLenR, dLenv, dListR, dTupR, dMxR, dMnR, dIntR, dIsi, dNoPart, dPart, dSl, dCatA, dCat, dRep, dIn, dInD, dIsN, D.isN, dCall, dCallP, dCallS, dPen0, dTruv, dRg1, dRg2, dLstRg, dTupRg, dLenSet, wf, wb, wi, wt, wl, vD, isSc, dSeq, dNext, dRet, dRetv, dRetN, dIfS, dAsg, dAsgT, dgTup, dgCons, dPar, dApp, dExt, dSetL, dPopAt, dRse, dNever, dDrop, dITup, dILst, dIRng1, dIRng2, dIDn, dIEnT, dIEnL, dIZip, po, poP, sp0, sp1, sp2, sp3, sp4, sp5, pp0, pp1, pp2, pp3, List.set_cons_zero, List.set_cons_succ, List.getElem?_cons_zero, List.getElem?_cons_succ, List.all_nil, List.map_nil, List.append_nil, List.cons_append, List.nil_append, true_and, ite_true, if_true])
  refine dLc_pure (items := (prs is).map prD) (Γ1 := [.d (.tup (is.map .int)), .no, .no]) (Γw := [.d (.tup (is.map .int)), .no, .no]) (fun x => match x with | .tup [.int a, .int b] => .bl (decide (a < b)) | _ => .non) rfl (fun ψ h => ?_) rfl rfl (by rw [List.length_map]; omega) (fun d hd ψ q => ?_) ?_
  · (try simp only [dVar, dC, dNil, dCons, dTup, dLst, dOp, onI, dI, dI0, dUn, dEq, dNe, dIxT, dIxL, dIxLv, dAndV, dOrV, dNotV, dB, dAnd, dOr, dNot, dYes, dIf, dChain, dCB, dLenR, dLenv, dListR, dTupR, dMxR, dMnR, dIntR, dIsi, dNoPart, dPart, dSl, dCatA, dCat, dRep, dIn, dInD, dIsN, D.isN, dCall, dCallP, dCallS, dPen0, dTruv, dRg1, dRg2, dLstRg, dTupRg, dLenSet, wf, wb, wi, wt, wl, vD, isSc, dSeq, dNext, dRet, dRetv, dRetN, dIfS, dAsg, dAsgT, dgTup, dgCons, dPar, dApp, dExt, dSetL, dPopAt, dRse, dNever, dDrop, dITup, dILst, dIRng1, dIRng2, dIDn, dIEnT, dIEnL, dIZip, po, poP, sp0, sp1, sp2, sp3, sp4, sp5, pp0, pp1, pp2, pp3, List.set_cons_zero, List.set_cons_succ, List.getElem?_cons_zero, List.getElem?_cons_succ, List.all_nil, List.map_nil, List.append_nil, List.cons_append, List.nil_append, true_and, ite_true, if_true])
    have e : cutL (is.map D.int) (some 1) none = (is.map D.int).drop 1 := cutL_from (n := 1)
    rw [e, zip_prs]
    exact h
  · obtain ⟨p, hp, rfl⟩ := List.mem_map.mp hd
    (try simp only [dVar, dC, dNil, dCons, dTup, dLst, dOp, onI, dI, dI0, dUn, dEq, dNe, dIxT, dIxL, dIxLv, dAndV, dOrV, dNotV, dB, dAnd, dOr, dNot, dYes, dIf, dChain, dCB, dLenR, dLenv, dListR, dTupR, dMxR, dMnR, dIntR, dIsi, dNoPart, dPart, dSl, dCatA, dCat, dRep, dIn, dInD, dIsN, D.isN, dCall, dCallP, dCallS, dPen0, dTruv, dRg1, dRg2, dLstRg, dTupRg, dLenSet, wf, wb, wi, wt, wl, vD, isSc, dSeq, dNext, dRet, dRetv, dRetN, dIfS, dAsg, dAsgT, dgTup, dgCons, dPar, dApp, dExt, dSetL, dPopAt, dRse, dNever, dDrop, dITup, dILst, dIRng1, dIRng2, dIDn, dIEnT, dIEnL, dIZip, po, poP, sp0, sp1, sp2, sp3, sp4, sp5, pp0, pp1, pp2, pp3, List.set_cons_zero, List.set_cons_succ, List.getElem?_cons_zero, List.getElem?_cons_succ, List.all_nil, List.map_nil, List.append_nil, List.cons_append, List.nil_append, true_and, ite_true, if_true, prD])
    exact ⟨rfl, q _ _ rfl rfl⟩
  · (try simp only [dVar, dC, dNil, dCons, dTup, dLst, dOp, onI, dI, dI0, dUn, dEq, dNe, dIxT, dIxL, dIxLv, dAndV, dOrV, dNotV, dB, dAnd, dOr, dNot, dYes, dIf, dChain, dCB, dLenR, dLenv, dListR, dTupR, dMxR, dMnR, dIntR, dIsi, dNoPart, dPart, dSl, dCatA, dCat, dRep, dIn, dInD, dIsN, D.isN, dCall, dCallP, dCallS, dPen0, dTruv, dRg1, dRg2, dLstRg, dTupRg, dLenSet, wf, wb, wi, wt, wl, vD, isSc, dSeq, dNext, dRet, dRetv, dRetN, dIfS, dAsg, dAsgT, dgTup, dgCons, dPar, dApp, dExt, dSetL, dPopAt, dRse, dNever, dDrop, dITup, dILst, dIRng1, dIRng2, dIDn, dIEnT, dIEnL, dIZip, po, poP, sp0, sp1, sp2, sp3, sp4, sp5, pp0, pp1, pp2, pp3, List.set_cons_zero, List.set_cons_succ, List.getElem?_cons_zero, List.getElem?_cons_succ, List.all_nil, List.map_nil, List.append_nil, List.cons_append, List.nil_append, true_and, ite_true, if_true])
    refine ⟨(prs is).map fun p => decide (p.1 < p.2), by rw [List.map_map, List.map_map]; rfl, ?_⟩
    rw [List.all_map]
    rw [risI_prs] at hk
    exact hk
def intOf : D → Int
  | .int i => i
  | _ => 0
def risW (x : D) (a b : Int) : Bool := match x with
  | .tup xs => xs.all (fun y => inB y a b) && risI (xs.map intOf)
  | _ => false
theorem inB_ints {a b : Int} : ∀ {xs : List D}, xs.all (fun y => inB y a b) = true → xs = (xs.map intOf).map .int
  | [], _ => rfl
  | x :: r, h => by
    rw [List.all_cons, Bool.and_eq_true] at h
    rw [List.map_cons, List.map_cons, ← inB_ints h.2]
    cases x <;> first | rfl | exact absurd h.1 Bool.false_ne_true
def kRisW (x y z : D) (φ : En → Prop) : Prop := ∃ a b : Int, y = .int a ∧ z = .int b ∧ x.ty.isSome = true ∧ (∀ xs, x = .tup xs → xs.length ≤ 1000 ∧ ∀ u ∈ xs, u.ty.isSome = true) ∧ φ (.d (.bl (risW x a b)))
theorem ok_is_rising_within (T : Txt K mg ad fd) : FnOk P w K mg base CX0 3 (ad 4) (fd 4) ps_is_rising_within (spX K (sp3 kRisW)) := by
  refine (show Fun K "is_rising_within" "is_rising_within" st_is_rising_within (ad 4) (fd 4) from T.f 4 (by decide)).ok sc_is_rising_within (fun vs H Q E h => len3 h) (fun cdv A outer s H vs Q E hr h => ?_)
  have hu := hu_of hr
  have hu65 := hu65_of hr
  refine ⟨_, (pss_cons (ps_if (PW.pt (pw_or (pt_not (pt_val (pe_callB (r := rIsi K) call_isi (by rfl) (T.z 6 (by decide)) (by decide +kernel) (pa_cons (pv 0) (pa_cons (pe_bltn (v := .ty "tuple") (by rfl) (T.z 4 (by decide)) (by decide +kernel) rfl) pa_nil))))) (pw_or1 (pt_not (pt_val (pe_callB (r := rAll K) (cr_all rfl) (by rfl) (T.z 9 (by decide)) (by decide +kernel) (pa_cons (pe_lc (own := [("part", 3)]) (g := (gName 3)) (tt := tYes) rfl sc_is_rising_within.nd (pi_tupK (K := K) (pv 0))
      (blkOk_by (N := nm_is_rising_within) (sc := defScope st_is_rising_within) (by decide +kernel)) (fun _ _ _ _ _ => by exact (pg_name (i := 3) sc_is_rising_within.nd rfl (Or.inl rfl))) (fun _ _ _ _ _ => pts_nil)
      (fun _ _ _ _ _ => by exact (pe_call (ok_is_whole_within (K := K) T) (hr.mono (by omega)) (by rfl) (T.g 1 (by decide)) (T.k 1 (by decide)) (bd_is_whole_within T) .nil pass0 (pa_cons (pv 3) (pa_cons (pv 1) (pa_cons (pv 2) pa_nil)))))) pa_nil)))))))
    (pss_one (ps_ret pe_bl))
    pss_nil)
  (pss_one (ps_ret (pe_call (ok_is_rising (K := K) T) (hr.mono (by omega)) (by rfl) (T.g 3 (by decide)) (T.k 3 (by decide)) (bd_is_rising T) .nil pass0 (pa_cons (pv 0) pa_nil))))), ?_⟩
  refine body3 h fun x y z φ hk => ?_
  rw [show st0 nm_is_rising_within [x, y, z] = [.d x, .d y, .d z, .no] from rfl]
  obtain ⟨a, b, rfl, rfl, hx, hp, hk⟩ := hk
  cases x with
  | ins C ns xs => exact absurd hx Bool.false_ne_true
  | tup xs =>
    obtain ⟨hl, hy⟩ := hp xs rfl
    refine ⟨by decide, true, rfl, ?_⟩
    (try simp only [dVar, dC, dNil, dCons, dTup, dLst, dOp, onI, dI, dI0, dUn, dEq, dNe, dIxT, dIxL, dIxLv, dAndV, dOrV, dNotV, dB, dAnd, dOr, dNot, dYes, dIf, dChain, dCB, dLenR, dLenv, dListR, dTupR, dMxR, dMnR, dIntR, dIsi, dNoPart, dPart, dSl, dCatA, dCat, dRep, dIn, dInD, dIsN, D.isN, dCall, dCallP, dCallS, dPen0, dTruv, dRg1, dRg2, dLstRg, dTupRg, dLenSet, wf, wb, wi, wt, wl, vD, isSc, dSeq, dNext, dRet, dRetv, dRetN, dIfS, dAsg, dAsgT, dgTup, dgCons, dPar, dApp, dExt, dSetL, dPopAt, dRse, dNever, dDrop, dITup, dILst, dIRng1, dIRng2, dIDn, dIEnT, dIEnL, dIZip, po, poP, sp0, sp1, sp2, sp3, sp4, sp5, pp0, pp1, pp2, pp3, List.set_cons_zero, List.set_cons_succ, List.getElem?_cons_zero, List.getElem?_cons_succ, List.all_nil, List.map_nil, List.append_nil, List.cons_append, List.nil_append, true_and, ite_true, if_true, Bool.not_true, Bool.not_false, Bool.false_eq_true, if_false])
    refine dLc_pure (items := xs) (Γ1 := [.d (.tup xs), .d (.int a), .d (.int b), .no]) (Γw := [.d (.tup xs), .d (.int a), .d (.int b), .no]) (fun y => .bl (inB y a b)) rfl (fun ψ h => h) rfl rfl (by omega) (fun d hd ψ q => ?_) ?_
    · (try simp only [dVar, dC, dNil, dCons, dTup, dLst, dOp, onI, dI, dI0, dUn, dEq, dNe, dIxT, dIxL, dIxLv, dAndV, dOrV, dNotV, dB, dAnd, dOr, dNot, dYes, dIf, dChain, dCB, dLenR, dLenv, dListR, dTupR, dMxR, dMnR, dIntR, dIsi, dNoPart, dPart, dSl, dCatA, dCat, dRep, dIn, dInD, dIsN, D.isN, dCall, dCallP, dCallS, dPen0, dTruv, dRg1, dRg2, dLstRg, dTupRg, dLenSet, wf, wb, wi, wt, wl, vD, isSc, dSeq, dNext, dRet, dRetv, dRetN, dIfS, dAsg, dAsgT, dgTup, dgCons, dPar, dApp, dExt, dSetL, dPopAt, dRse, dNever, dDrop, dITup, dILst, dIRng1, dIRng2, dIDn, dIEnT, dIEnL, dIZip, po, poP, sp0, sp1, sp2, sp3, sp4, sp5, pp0, pp1, pp2, pp3, List.set_cons_zero, List.set_cons_succ, List.getElem?_cons_zero, List.getElem?_cons_succ, List.all_nil, List.map_nil, List.append_nil, List.cons_append, List.nil_append, true_and, ite_true, if_true])
      exact ⟨a, b, rfl, rfl, hy d hd, q _ _ rfl rfl⟩
    · (try simp only [dVar, dC, dNil, dCons, dTup, dLst, dOp, onI, dI, dI0, dUn, dEq, dNe, dIxT, dIxL, dIxLv, dAndV, dOrV, dNotV, dB, dAnd, dOr, dNot, dYes, dIf, dChain, dCB, dLenR, dLenv, dListR, dTupR, dMxR, dMnR, dIntR, dIsi, dNoPart, dPart, dSl, dCatA, dCat, dRep, dIn, dInD, dIsN, D.isN, dCall, dCallP, dCallS, dPen0, dTruv, dRg1, dRg2, dLstRg, dTupRg, dLenSet, wf, wb, wi, wt, wl, vD, isSc, dSeq, dNext, dRet, dRetv, dRetN, dIfS, dAsg, dAsgT, dgTup, dgCons, dPar, dApp, dExt, dSetL, dPopAt, dRse, dNever, dDrop, dITup, dILst, dIRng1, dIRng2, dIDn, dIEnT, dIEnL, dIZip, po, poP, sp0, sp1, sp2, sp3, sp4, sp5, pp0, pp1, pp2, pp3, List.set_cons_zero, List.set_cons_succ, List.getElem?_cons_zero, List.getElem?_cons_succ, List.all_nil, List.map_nil, List.append_nil, List.cons_append, List.nil_append, true_and, ite_true, if_true])
      refine ⟨xs.map fun y => inB y a b, by rw [List.map_map]; rfl, ?_⟩
      rw [List.all_map]
      cases c : xs.all (fun y => inB y a b) with
      | true =>
        have c' : xs.all (id ∘ fun y => inB y a b) = true := c
        rw [c']
        refine ifF rfl ?_
        (try simp only [dVar, dC, dNil, dCons, dTup, dLst, dOp, onI, dI, dI0, dUn, dEq, dNe, dIxT, dIxL, dIxLv, dAndV, dOrV, dNotV, dB, dAnd, dOr, dNot, dYes, dIf, dChain, dCB, dLenR, dLenv, dListR, dTupR, dMxR, dMnR, dIntR, dIsi, dNoPart, dPart, dSl, dCatA, dCat, dRep, dIn, dInD, dIsN, D.isN, dCall, dCallP, dCallS, dPen0, dTruv, dRg1, dRg2, dLstRg, dTupRg, dLenSet, wf, wb, wi, wt, wl, vD, isSc, dSeq, dNext, dRet, dRetv, dRetN, dIfS, dAsg, dAsgT, dgTup, dgCons, dPar, dApp, dExt, dSetL, dPopAt, dRse, dNever, dDrop, dITup, dILst, dIRng1, dIRng2, dIDn, dIEnT, dIEnL, dIZip, po, poP, sp0, sp1, sp2, sp3, sp4, sp5, pp0, pp1, pp2, pp3, List.set_cons_zero, List.set_cons_succ, List.getElem?_cons_zero, List.getElem?_cons_succ, List.all_nil, List.map_nil, List.append_nil, List.cons_append, List.nil_append, true_and, ite_true, if_true])
        refine ⟨xs.map intOf, by rw [← inB_ints c], by rw [List.length_map]; exact hl, ?_⟩
        simp only [risW, c, Bool.true_and] at hk
        exact hk
      | false =>
        have c' : xs.all (id ∘ fun y => inB y a b) = false := c
        rw [c']
        simp only [risW, c, Bool.false_and] at hk
        exact ifT rfl hk
  | _ =>
    refine ⟨by decide, false, rfl, ?_⟩
    (try simp only [dVar, dC, dNil, dCons, dTup, dLst, dOp, onI, dI, dI0, dUn, dEq, dNe, dIxT, dIxL, dIxLv, dAndV, dOrV, dNotV, dB, dAnd, dOr, dNot, dYes, dIf, dChain, dCB, dLenR, dLenv, dListR, dTupR, dMxR, dMnR, dIntR, dIsi, dNoPart, dPart, dSl, dCatA, dCat, dRep, dIn, dInD, dIsN, D.isN, dCall, dCallP, dCallS, dPen0, dTruv, dRg1, dRg2, dLstRg, dTupRg, dLenSet, wf, wb, wi, wt, wl, vD, isSc, dSeq, dNext, dRet, dRetv, dRetN, dIfS, dAsg, dAsgT, dgTup, dgCons, dPar, dApp, dExt, dSetL, dPopAt, dRse, dNever, dDrop, dITup, dILst, dIRng1, dIRng2, dIDn, dIEnT, dIEnL, dIZip, po, poP, sp0, sp1, sp2, sp3, sp4, sp5, pp0, pp1, pp2, pp3, List.set_cons_zero, List.set_cons_succ, List.getElem?_cons_zero, List.getElem?_cons_succ, List.all_nil, List.map_nil, List.append_nil, List.cons_append, List.nil_append, true_and, ite_true, if_true, Bool.not_true, Bool.not_false, Bool.false_eq_true, if_false])
    exact hk
/-! ### what a deal leans on -/
def natD (n : Nat) : D := .int (n : Int)
theorem inD_ints (s : Int) (is : List Int) : inD (.int s) (is.map .int) = is.contains s := by
  unfold inD
  rw [List.any_map, List.contains_eq_any_beq]
  congr 1
  funext i
  show (D.int i).eqv (.int s) = (s == i)
  rw [eqv_int]
  by_cases z : i = s
  · subst z
    simp
  · have : ¬ s = i := fun w => z w.symm
    simp [z, this]
theorem sc_ints (is : List Int) : (is.map D.int).all D.sc = true := by
  rw [List.all_map]
  exact List.all_eq_true.mpr fun _ _ => rfl
theorem inD_nats (s : Nat) (is : List Nat) : inD (natD s) (is.map natD) = is.contains s := by
  have e : is.map natD = (is.map fun n : Nat => (n : Int)).map .int := by rw [List.map_map]; rfl
  rw [e]
  show inD (.int (s : Int)) _ = _
  rw [inD_ints, List.contains_eq_any_beq, List.contains_eq_any_beq, List.any_map]
  congr 1
  funext i
  show ((s : Int) == (i : Int)) = (s == i)
  rw [Bool.eq_iff_iff, beq_iff_eq, beq_iff_eq]
  omega
theorem sc_nats (is : List Nat) : (is.map natD).all D.sc = true := by
  rw [List.all_map]
  exact List.all_eq_true.mpr fun _ _ => rfl
def kLean (x y : D) (φ : En → Prop) : Prop := ∃ ds, ∃ p : Nat, x = dsD ds ∧ y = natD p ∧ p < ds.length ∧ ds.length ≤ 10 ∧ (∀ d ∈ ds, d.length ≤ 6) ∧ φ (.lst ((leans ds p).map natD))
def lastOf (ds : List (List Mv)) (p : Nat) (s : Int) : List Nat := (movers ds p s).getLast?.toList
theorem lastOf_len {ds : List (List Mv)} {p : Nat} {s : Int} : (lastOf ds p s).length ≤ 1 := by
  unfold lastOf
  cases (movers ds p s).getLast? <;> simp
theorem flat_len {α : Type} {g : α → List Nat} (h : ∀ a, (g a).length ≤ 1) : ∀ l : List α, (l.flatMap g).length ≤ l.length
  | [] => Nat.le_refl _
  | a :: r => by
    rw [List.flatMap_cons, List.length_append, List.length_cons]
    have := h a
    have := flat_len h r
    omega
theorem upI_movers {ds : List (List Mv)} {p : Nat} {s : Int} : ((upI 0 p).filter fun x => (mvd (dl ds (intOf x).toNat)).contains s) = (movers ds p s).map natD := by
  unfold upI movers
  rw [List.filter_map]
  have : ((fun x => (mvd (dl ds (intOf x).toNat)).contains s) ∘ fun i : Nat => D.int (0 + (i : Int))) = fun i : Nat => (mvd (dl ds i)).contains s := by
    funext i
    show (mvd (dl ds (0 + (i : Int)).toNat)).contains s = _
    rw [show ((0 : Int) + (i : Int)).toNat = i by omega]
  rw [this]
  refine List.map_congr_left fun i _ => ?_
  show D.int (0 + (i : Int)) = .int (i : Int)
  rw [Int.zero_add]
theorem getLast_map {α β : Type} (g : α → β) (l : List α) : (l.map g).getLast?.toList = l.getLast?.toList.map g := by
  rw [List.getLast?_map]
  cases l.getLast? <;> rfl
theorem ok_leaned_on (T : Txt K mg ad fd) : FnOk P w K mg base CX0 2 (ad 17) (fd 17) ps_leaned_on (spX K (sp2 kLean)) := by
  refine (show Fun K "leaned_on" "leaned_on" st_leaned_on (ad 17) (fd 17) from T.f 17 (by decide)).ok sc_leaned_on (fun vs H Q E h => len2 h) (fun cdv A outer s H vs Q E hr h => ?_)
  have hu := hu_of hr
  have hu65 := hu65_of hr
  refine ⟨_, (pss_cons (ps_set (i := 2) sc_leaned_on.nd rfl (Or.inl rfl) (pe_lst pa_nil))
  (pss_cons (ps_for PassesOwn.never rfl (pi_listK (K := K) (pe_call (ok_moved_by (K := K) T) (hr.mono (by omega)) (by rfl) (T.g 11 (by decide)) (T.k 11 (by decide)) (bd_moved_by T) .nil pass0 (pa_cons (pe_ix (r := rIxT K) ix_tup (pv 0) (pv 1) (fun _ _ => rfl)) pa_nil))) (pg_name (i := 3) sc_leaned_on.nd rfl (Or.inr rfl))
    (pss_cons (ps_setLc (i := 4) (own := [("at", 5)]) (g := (gName 5)) (by rfl) sc_leaned_on.nd rfl rfl (sw_true rfl rfl rfl (by decide +kernel)) (pi_range1 (by rfl) (T.z 2 (by decide)) (pa_cons (pv 1) pa_nil))
      (blkOk_by (N := nm_leaned_on) (sc := defScope st_leaned_on) (by decide +kernel)) (fun _ _ _ _ _ => by exact (pg_name (i := 5) sc_leaned_on.nd rfl (Or.inl rfl))) (fun _ _ _ _ _ => pts_one (pt_cmpR (r := rIn K false) op_in_seq (pv 3) (pe_call (ok_moved_by (K := K) T) (hr.mono (by omega)) (by rfl) (T.g 11 (by decide)) (T.k 11 (by decide)) (bd_moved_by T) .nil pass0 (pa_cons (pe_ix (r := rIxT K) ix_tup (pv 0) (pv 5) (fun _ _ => rfl)) pa_nil)) (by rfl)))
      (fun _ _ _ _ _ => by exact (pv 5)))
  (pss_one (ps_expr (pe_bmK (K := K) PySem.F.plainAttrs_list PySem.F.slot_list_extend PySem.F.type_list_extend mt_extend (pv 2) (pa_cons (pe_slice (r := rSlL K) sl_list (pv 4) (po_some (pe_un un_neg pe_int)) po_none) pa_nil))))))
  (pss_one (ps_ret (pv 2))))), ?_⟩
  refine body2 h fun x y φ hk => ?_
  rw [show st0 nm_leaned_on [x, y] = [.d x, .d y, .no, .no, .no, .no] from rfl]
  obtain ⟨ds, p, rfl, rfl, pl, dl1, d6, hk⟩ := hk
  have dp6 := d6 _ (dl_mem pl)
  (try simp only [dVar, dC, dNil, dCons, dTup, dLst, dOp, onI, dI, dI0, dUn, dEq, dNe, dIxT, dIxL, dIxLv, dAndV, dOrV, dNotV, dB, dAnd, dOr, dNot, dYes, dIf, dChain, dCB, dLenR, dLenv, dListR, dTupR, dMxR, dMnR, dIntR, dIsi, dNoPart, dPart, dSl, dCatA, dCat, dRep, dIn, dInD, dIsN, D.isN, dCall, dCallP, dCallS, dPen0, dTruv, dRg1, dRg2, dLstRg, dTupRg, dLenSet, wf, wb, wi, wt, wl, vD, isSc, dSeq, dNext, dRet, dRetv, dRetN, dIfS, dAsg, dAsgT, dgTup, dgCons, dPar, dApp, dExt, dSetL, dPopAt, dRse, dNever, dDrop, dITup, dILst, dIRng1, dIRng2, dIDn, dIEnT, dIEnL, dIZip, po, poP, sp0, sp1, sp2, sp3, sp4, sp5, pp0, pp1, pp2, pp3, List.set_cons_zero, List.set_cons_succ, List.getElem?_cons_zero, List.getElem?_cons_succ, List.all_nil, List.map_nil, List.append_nil, List.cons_append, List.nil_append, true_and, ite_true, if_true, dsD, natD])
  refine ⟨by decide, dlD (dl ds p), atI_ok (by rw [List.getElem?_map, dl_get pl]; rfl), rfl, dl ds p, rfl, by omega, ?_⟩
  (try simp only [dVar, dC, dNil, dCons, dTup, dLst, dOp, onI, dI, dI0, dUn, dEq, dNe, dIxT, dIxL, dIxLv, dAndV, dOrV, dNotV, dB, dAnd, dOr, dNot, dYes, dIf, dChain, dCB, dLenR, dLenv, dListR, dTupR, dMxR, dMnR, dIntR, dIsi, dNoPart, dPart, dSl, dCatA, dCat, dRep, dIn, dInD, dIsN, D.isN, dCall, dCallP, dCallS, dPen0, dTruv, dRg1, dRg2, dLstRg, dTupRg, dLenSet, wf, wb, wi, wt, wl, vD, isSc, dSeq, dNext, dRet, dRetv, dRetN, dIfS, dAsg, dAsgT, dgTup, dgCons, dPar, dApp, dExt, dSetL, dPopAt, dRse, dNever, dDrop, dITup, dILst, dIRng1, dIRng2, dIDn, dIEnT, dIEnL, dIZip, po, poP, sp0, sp1, sp2, sp3, sp4, sp5, pp0, pp1, pp2, pp3, List.set_cons_zero, List.set_cons_succ, List.getElem?_cons_zero, List.getElem?_cons_succ, List.all_nil, List.map_nil, List.append_nil, List.cons_append, List.nil_append, true_and, ite_true, if_true])
  refine ⟨fun i Γ => ∃ v3 v4 v5, Γ = [.d (.tup (ds.map dlD)), .d (.int p), .lst ((((mvd (dl ds p)).take i).flatMap (lastOf ds p)).map natD), v3, v4, v5], ⟨_, _, _, rfl⟩, ?_⟩
  rintro i Γ ⟨v3, v4, v5, rfl⟩
  refine ⟨fun e => ?_, fun y hy => ?_⟩
  · rw [e, List.length_map, List.take_of_length_le (by unfold mvd; rw [List.length_map]; exact Nat.le_refl _)]
    exact ⟨_, rfl, (fun z => nomatch z), hk⟩
  · obtain ⟨s, hs, rfl⟩ := at_map hy
    have hs : (mvd (dl ds p))[i]? = some s := hs
    refine dLc_filt (items := upI 0 p) (Γ1 := [.d (.tup (ds.map dlD)), .d (.int p), .lst ((((mvd (dl ds p)).take i).flatMap (lastOf ds p)).map natD), .d (.int s), v4, v5]) (Γw := [.d (.tup (ds.map dlD)), .d (.int p), .lst ((((mvd (dl ds p)).take i).flatMap (lastOf ds p)).map natD), .d (.int s), v4, .no])
      (fun x => (mvd (dl ds (intOf x).toNat)).contains s) id rfl (fun ψ h => ⟨by omega, by omega, h⟩) rfl rfl (by rw [upI_len]; omega) (fun d hd ψ q => ?_) ?_
    · obtain ⟨j, hj⟩ := List.mem_iff_getElem?.mp hd
      obtain ⟨jl, rfl⟩ := upI_get hj
      have jl2 : j < ds.length := by omega
      refine ⟨dlD (dl ds j), ?_, rfl, dl ds j, rfl, by have := d6 _ (dl_mem jl2); omega, rfl, sc_ints _, ?_⟩
      · rw [Int.zero_add]
        exact atI_ok (by rw [List.getElem?_map, dl_get jl2]; rfl)
      · have e : ((mvd (dl ds (intOf (D.int (0 + (j : Int)))).toNat)).contains s) = inD (.int s) ((mvd (dl ds j)).map .int) := by
          rw [inD_ints]
          show (mvd (dl ds (0 + (j : Int)).toNat)).contains s = _
          rw [show ((0 : Int) + (j : Int)).toNat = j by omega]
        rw [e] at q
        exact q _ rfl fun _ ψ' q' => q' _ _ rfl rfl
    · rw [upI_movers, List.map_id]
      (try simp only [dVar, dC, dNil, dCons, dTup, dLst, dOp, onI, dI, dI0, dUn, dEq, dNe, dIxT, dIxL, dIxLv, dAndV, dOrV, dNotV, dB, dAnd, dOr, dNot, dYes, dIf, dChain, dCB, dLenR, dLenv, dListR, dTupR, dMxR, dMnR, dIntR, dIsi, dNoPart, dPart, dSl, dCatA, dCat, dRep, dIn, dInD, dIsN, D.isN, dCall, dCallP, dCallS, dPen0, dTruv, dRg1, dRg2, dLstRg, dTupRg, dLenSet, wf, wb, wi, wt, wl, vD, isSc, dSeq, dNext, dRet, dRetv, dRetN, dIfS, dAsg, dAsgT, dgTup, dgCons, dPar, dApp, dExt, dSetL, dPopAt, dRse, dNever, dDrop, dITup, dILst, dIRng1, dIRng2, dIDn, dIEnT, dIEnL, dIZip, po, poP, sp0, sp1, sp2, sp3, sp4, sp5, pp0, pp1, pp2, pp3, List.set_cons_zero, List.set_cons_succ, List.getElem?_cons_zero, List.getElem?_cons_succ, List.all_nil, List.map_nil, List.append_nil, List.cons_append, List.nil_append, true_and, ite_true, if_true])
      refine ⟨⟨_, rfl⟩, _, rfl, ?_, ?_⟩
      · rw [cutL_last, getLast_map, List.length_map, List.length_map]
        have := flat_len (g := lastOf ds p) (fun a => lastOf_len) ((mvd (dl ds p)).take i)
        have := lastOf_len (ds := ds) (p := p) (s := s)
        have e2 : ((mvd (dl ds p)).take i).length ≤ 6 := by rw [List.length_take]; unfold mvd; rw [List.length_map]; omega
        unfold lastOf at *
        omega
      · rw [cutL_last, getLast_map]
        have et : (mvd (dl ds p)).take (i + 1) = (mvd (dl ds p)).take i ++ [s] := by rw [List.take_add_one, hs]; rfl
        rw [et, List.flatMap_append, List.flatMap_singleton, List.map_append]
        exact ⟨_, _, _, rfl⟩
end
end Dl

set_option Elab.async false
set_option maxRecDepth 100000
set_option maxHeartbeats 4000000
set_option linter.all false
set_option synthInstance.maxHeartbeats 4000000
set_option synthInstance.maxSize 10000

namespace Dl
open PySem PySem.Spec PyProof.Rows L2 RZ HmS Da
section
variable {P : Program} {w : World} {K : PySem.W.Frag} [HasT K] {mg : Str → Option Value} {base : Heap} {ad : Nat → Addr} {fd : Nat → FuncData}
/-! ### the first of the shortest chains -/
def pairT (c : List Nat) : Int × PySem.W.Tup Int := ((c.length : Int), ⟨c.map fun n : Nat => (n : Int)⟩)
def mnC (c : List Nat) (cs : List (List Nat)) : List Nat := cs.foldl (fun a y => if PySem.W.DatumOrd.lt (pairT y) (pairT a) = true then y else a) c
theorem mnC_mem (c : List Nat) (cs : List (List Nat)) : mnC c cs ∈ c :: cs := by
  unfold mnC
  induction cs generalizing c with
  | nil => exact List.mem_cons_self
  | cons y r ih =>
    rw [List.foldl_cons]
    by_cases z : PySem.W.DatumOrd.lt (pairT y) (pairT c) = true
    · rw [if_pos z]
      exact List.mem_cons_of_mem _ (ih y)
    · rw [if_neg z]
      rcases List.mem_cons.mp (ih c) with w | w
      · rw [w]
        exact List.mem_cons_self
      · exact List.mem_cons_of_mem _ (List.mem_cons_of_mem _ w)
theorem mnC_min (c : List Nat) (cs : List (List Nat)) : PySem.W.minOf (pairT c) (cs.map pairT) = pairT (mnC c cs) := by
  unfold mnC PySem.W.minOf
  induction cs generalizing c with
  | nil => rfl
  | cons y r ih =>
    rw [List.map_cons, List.foldl_cons, List.foldl_cons]
    by_cases z : PySem.W.DatumOrd.lt (pairT y) (pairT c) = true
    · rw [if_pos z, if_pos z]
      exact ih y
    · rw [if_neg z, if_neg z]
      exact ih c
def chD (c : List Nat) : D := .tup (c.map natD)
def pairD (c : List Nat) : D := .tup [.int c.length, chD c]
theorem pys_map {α : Type} (g : α → D) : ∀ l : List α, pys (l.map g) = l.map fun a => (g a).py
  | [] => rfl
  | a :: r => by rw [List.map_cons, List.map_cons, pys, pys_map g r]
theorem pairD_py (c : List Nat) : (pairD c).py = PySem.W.Datum.toD (pairT c) := by
  show PyData.tuple (pys [.int c.length, chD c]) = PyData.tuple [.int c.length, .tuple ((c.map fun n : Nat => (n : Int)).map PyData.int)]
  rw [pys, pys, pys]
  show PyData.tuple [.int c.length, .tuple (pys (c.map natD))] = _
  rw [pys_map, List.map_map]
  rfl
theorem pairD_inj {c c' : List Nat} (h : (pairD c).py = (pairD c').py) : c = c' := by
  rw [pairD_py, pairD_py] at h
  have := PySem.W.Datum.eqv (pairT c) (pairT c')
  have r := PySem.W.Datum.eqv (pairT c) (pairT c)
  rw [h] at r this
  rw [PySem.W.Datum.eqv] at this
  have e : pairT c' = pairT c' ↔ pairT c = pairT c' := by
    rw [← decide_eq_decide]
    exact this
  have e := e.mp rfl
  have e2 : (c.map fun n : Nat => (n : Int)) = c'.map fun n : Nat => (n : Int) := congrArg (fun t => t.2.items) e
  exact (List.map_inj_right fun a b z => by have z : (a : Int) = b := z; omega).mp e2
theorem pairs_flat : ∀ cs : List (List Nat), flats (cs.map pairD) = true
  | [] => rfl
  | c :: r => by
    rw [List.map_cons, flats, pairs_flat r, Bool.and_true]
    show ((D.int (c.length : Int)).flat && ((chD c).flat && true)) = true
    have : ∀ l : List Nat, flats (l.map natD) = true := fun l => by
      induction l with
      | nil => rfl
      | cons a r ih => rw [List.map_cons, flats, ih]; rfl
    show ((true && (flats (c.map natD) && true)) : Bool) = true
    rw [this]
    rfl
theorem min_chains {c : List Nat} {cs : List (List Nat)} {φ : En → Prop} (h : φ (.d (pairD (mnC c cs)))) : dMinR [.lst (pairD c :: cs.map pairD)] φ := by
  have e : pys (pairD c :: cs.map pairD) = (pairT c :: cs.map pairT).map PySem.W.Datum.toD := by
    show pys ((c :: cs).map pairD) = ((c :: cs).map pairT).map _
    rw [pys_map, List.map_map]
    exact List.map_congr_left fun a _ => pairD_py a
  refine ⟨pairs_flat (c :: cs), ?_, ?_, fun z hz hm => ?_⟩
  · rw [e]
    exact PySem.W.alikeAll_datum _
  · rw [e]
    have : ∀ l : List (Int × PySem.W.Tup Int), PyData.depthAll (l.map PySem.W.Datum.toD) ≤ PySem.W.Datum.depth (Int × PySem.W.Tup Int) := fun l => by
      induction l with
      | nil => exact Nat.zero_le _
      | cons a r ih =>
        rw [List.map_cons]
        exact Nat.max_le.mpr ⟨PySem.W.Datum.depth_le a, ih⟩
    exact Nat.le_trans (this _) (by decide)
  · have : (pairD c).py = PySem.W.Datum.toD (pairT c) := pairD_py c
    have e2 : pys (cs.map pairD) = (cs.map pairT).map PySem.W.Datum.toD := by
      rw [pys_map, List.map_map]
      exact List.map_congr_left fun a _ => pairD_py a
    rw [this, e2, PySem.W.minD_map, mnC_min, ← pairD_py] at hm
    obtain ⟨c', _, rfl⟩ : ∃ c' ∈ c :: cs, pairD c' = z := by
      have hz : z ∈ (c :: cs).map pairD := hz
      exact List.mem_map.mp hz
    rw [pairD_inj hm]
    exact h
def chsD (g : List (Nat × List Nat)) : D := .dK (g.map fun e => .inl (e.1 : Int)) (g.map fun e => chD e.2)
theorem look_chs (q : Nat) : ∀ g : List (Nat × List Nat), lookD (g.map fun e => (Sum.inl (e.1 : Int) : Key)) (g.map fun e => chD e.2) (.inl (q : Int)) = (lk g q).map chD
  | [] => rfl
  | (k, c) :: r => by
    show (if (Sum.inl (k : Int) : Key) = .inl (q : Int) then some (chD c) else lookD _ _ _) = _
    unfold lk
    by_cases z : k = q
    · subst z
      rw [if_pos rfl, if_pos rfl]
      rfl
    · rw [if_neg (fun w => z (by cases w; rfl)), if_neg z]
      exact look_chs q r
def optD : Option (List Nat) → D
  | none => .non
  | some c => chD c
def kFirst (x y z u : D) (φ : En → Prop) : Prop := ∃ ds f, ∃ p : Nat, ∃ g, x = dsD ds ∧ y = .int f ∧ z = natD p ∧ u = chsD g ∧ p < ds.length ∧ ds.length ≤ 10 ∧ (∀ d ∈ ds, d.length ≤ 6) ∧ (∀ e ∈ g, e.2.length ≤ 10) ∧ φ (.d (optD (chain1 mnC ds f p g)))
theorem ok_first_chain (T : Txt K mg ad fd) : FnOk P w K mg base CX0 3 (ad 18) (fd 18) ps_first_chain (spX K (sp4 kFirst)) := by
  refine (show Fun K "first_chain" "first_chain" st_first_chain (ad 18) (fd 18) from T.f 18 (by decide)).ok sc_first_chain (fun vs H Q E h => len4 h) (fun cdv A outer s H vs Q E hr h => ?_)
  have hu := hu_of hr
  have hu65 := hu65_of hr
  refine ⟨_, (pss_cons (ps_if (pt_cmpR (r := rIn K false) op_in_seq (pv 1) (pe_call (ok_moved_by (K := K) T) (hr.mono (by omega)) (by rfl) (T.g 11 (by decide)) (T.k 11 (by decide)) (bd_moved_by T) .nil pass0 (pa_cons (pe_ix (r := rIxT K) ix_tup (pv 0) (pv 2) (fun _ _ => rfl)) pa_nil)) (by rfl))
    (pss_one (ps_ret (pe_tup (pa_cons (pv 2) pa_nil))))
    pss_nil)
  (pss_cons (ps_setLc (i := 4) (own := [("at", 5)]) (g := (gName 5)) (by rfl) sc_first_chain.nd rfl rfl (sw_true rfl rfl rfl (by decide +kernel)) (pi_listK (K := K) (pe_call (ok_leaned_on (K := K) T) (hr.mono (by omega)) (by rfl) (T.g 17 (by decide)) (T.k 17 (by decide)) (bd_leaned_on T) .nil pass0 (pa_cons (pv 0) (pa_cons (pv 2) pa_nil))))
      (blkOk_by (N := nm_first_chain) (sc := defScope st_first_chain) (by decide +kernel)) (fun _ _ _ _ _ => by exact (pg_name (i := 5) sc_first_chain.nd rfl (Or.inl rfl))) (fun _ _ _ _ _ => pts_one (pt_cmp (pc_din hu (pv 5) (pv 3))))
      (fun _ _ _ _ _ => by exact (pe_tup (pa_cons (pe_callB (r := Da.rLen K) cl_len (by rfl) (T.z 0 (by decide)) (by decide +kernel) (pa_cons (pe_dget hu (pv 3) (pv 5) (fun _ _ => rfl)) pa_nil)) (pa_cons (pe_dget hu (pv 3) (pv 5) (fun _ _ => rfl)) pa_nil)))))
  (pss_cons (ps_if (pt_not (pt_tru (K := K) (pv 4) (by intro _; rfl)))
    (pss_one (ps_ret pe_non))
    pss_nil)
  (pss_one (ps_ret (pe_op (r := rCatA K) op_catA (pe_ix (r := rIxT K) ix_tup (pe_callB (r := rMinD K) (cr_minD rfl hr.units) (by rfl) (T.z 13 (by decide)) (by decide +kernel) (pa_cons (pv 4) pa_nil)) pe_int (fun _ _ => rfl)) (pe_tup (pa_cons (pv 2) pa_nil)))))))), ?_⟩
  refine body4 h fun x y z u φ hk => ?_
  rw [show st0 nm_first_chain [x, y, z, u] = [.d x, .d y, .d z, .d u, .no, .no] from rfl]
  obtain ⟨ds, f, p, g, rfl, rfl, rfl, rfl, pl, dl1, d6, gl, hk⟩ := hk
  have dp6 := d6 _ (dl_mem pl)
  (try simp only [dVar, dC, dNil, dCons, dTup, dLst, dOp, onI, dI, dI0, dUn, dEq, dNe, dIxT, dIxL, dIxLv, dAndV, dOrV, dNotV, dB, dAnd, dOr, dNot, dYes, dIf, dChain, dCB, dLenR, dLenv, dListR, dTupR, dMxR, dMnR, dIntR, dIsi, dNoPart, dPart, dSl, dCatA, dCat, dRep, dIn, dInD, dIsN, D.isN, dCall, dCallP, dCallS, dPen0, dTruv, dRg1, dRg2, dLstRg, dTupRg, dLenSet, wf, wb, wi, wt, wl, vD, isSc, dSeq, dNext, dRet, dRetv, dRetN, dIfS, dAsg, dAsgT, dgTup, dgCons, dPar, dApp, dExt, dSetL, dPopAt, dRse, dNever, dDrop, dITup, dILst, dIRng1, dIRng2, dIDn, dIEnT, dIEnL, dIZip, po, poP, sp0, sp1, sp2, sp3, sp4, sp5, pp0, pp1, pp2, pp3, List.set_cons_zero, List.set_cons_succ, List.getElem?_cons_zero, List.getElem?_cons_succ, List.all_nil, List.map_nil, List.append_nil, List.cons_append, List.nil_append, true_and, ite_true, if_true, dsD, natD])
  refine ⟨dlD (dl ds p), atI_ok (by rw [List.getElem?_map, dl_get pl]; rfl), dl ds p, rfl, by omega, rfl, sc_ints _, ?_⟩
  have ei : inD (.int f) (((dl ds p).map (·.1)).map .int) = (mvd (dl ds p)).contains f := inD_ints f (mvd (dl ds p))
  rw [ei]
  unfold chain1 at hk
  refine ifB (fun c => ?_) (fun c => ?_)
  · rw [show (mvd (dl ds p)).contains f = true from c, if_pos rfl] at hk
    exact ⟨by simp, hk⟩
  rw [show (mvd (dl ds p)).contains f = false from c, if_neg Bool.false_ne_true] at hk
  have fl := flat_len (g := lastOf ds p) (fun a => lastOf_len) (mvd (dl ds p))
  have ml : (mvd (dl ds p)).length ≤ 6 := by unfold mvd; rw [List.length_map]; exact dp6
  have ll : (leans ds p).length ≤ 6 := Nat.le_trans fl ml
  refine dLc_filt (items := (leans ds p).map natD) (Γ1 := [.d (dsD ds), .d (.int f), .d (natD p), .d (chsD g), .no, .no]) (Γw := [.d (dsD ds), .d (.int f), .d (natD p), .d (chsD g), .no, .no])
    (fun x => (lk g (intOf x).toNat).isSome) (fun x => pairD ((lk g (intOf x).toNat).getD [])) rfl (fun ψ h => ⟨rfl, ds, p, rfl, rfl, pl, dl1, d6, h⟩) rfl rfl (by rw [List.length_map]; omega) (fun d hd ψ q => ?_) ?_
  · obtain ⟨j, hj, rfl⟩ := List.mem_map.mp hd
    refine ⟨_, _, _, _, rfl, rfl, rfl, ?_⟩
    rw [look_chs]
    have e : (lk g (intOf (natD j)).toNat).isSome = ((lk g j).map chD).isSome := by
      rw [Option.isSome_map]
      show (lk g (j : Int).toNat).isSome = _
      rw [Int.toNat_natCast]
    rw [e] at q
    refine q _ rfl fun hs ψ' q' => ?_
    cases el : lk g j with
    | none => rw [el] at hs; cases hs
    | some c =>
      refine ⟨⟨_, _, _, rfl, rfl⟩, _, _, _, _, _, rfl, rfl, rfl, by rw [look_chs, el]; rfl, ?_⟩
      refine ⟨⟨_, _, _, rfl, rfl⟩, _, _, _, _, _, rfl, rfl, rfl, by rw [look_chs, el]; rfl, ?_⟩
      refine ⟨by simp, q' _ _ ?_ rfl⟩
      show some (D.tup [.int ((c.map natD).length : Nat), chD c]) = some (pairD ((lk g (j : Int).toNat).getD []))
      rw [Int.toNat_natCast, el, List.length_map]
      rfl
  · have ef : ∀ l : List Nat, ((l.map natD).filter fun x => (lk g (intOf x).toNat).isSome).map (fun x => pairD ((lk g (intOf x).toNat).getD [])) = (l.filterMap fun q => lk g q).map pairD := fun l => by
      induction l with
      | nil => rfl
      | cons a r ih =>
        have ea : (intOf (natD a)).toNat = a := Int.toNat_natCast a
        rw [List.map_cons, List.filterMap_cons]
        cases el : lk g a with
        | none =>
          rw [List.filter_cons_of_neg (by rw [ea, el]; exact Bool.false_ne_true), ih]
        | some c =>
          rw [List.filter_cons_of_pos (by rw [ea, el]; rfl), List.map_cons, ih, ea, el]
          rfl
    rw [ef]
    cases el : (leans ds p).filterMap (fun q => lk g q) with
    | nil =>
      rw [el] at hk
      rw [List.map_nil]
      (try simp only [dVar, dC, dNil, dCons, dTup, dLst, dOp, onI, dI, dI0, dUn, dEq, dNe, dIxT, dIxL, dIxLv, dAndV, dOrV, dNotV, dB, dAnd, dOr, dNot, dYes, dIf, dChain, dCB, dLenR, dLenv, dListR, dTupR, dMxR, dMnR, dIntR, dIsi, dNoPart, dPart, dSl, dCatA, dCat, dRep, dIn, dInD, dIsN, D.isN, dCall, dCallP, dCallS, dPen0, dTruv, dRg1, dRg2, dLstRg, dTupRg, dLenSet, wf, wb, wi, wt, wl, vD, isSc, dSeq, dNext, dRet, dRetv, dRetN, dIfS, dAsg, dAsgT, dgTup, dgCons, dPar, dApp, dExt, dSetL, dPopAt, dRse, dNever, dDrop, dITup, dILst, dIRng1, dIRng2, dIDn, dIEnT, dIEnL, dIZip, po, poP, sp0, sp1, sp2, sp3, sp4, sp5, pp0, pp1, pp2, pp3, List.set_cons_zero, List.set_cons_succ, List.getElem?_cons_zero, List.getElem?_cons_succ, List.all_nil, List.map_nil, List.append_nil, List.cons_append, List.nil_append, true_and, ite_true, if_true, Bool.not_true, Bool.not_false, Bool.false_eq_true, if_false])
      exact hk
    | cons c cs =>
      rw [el] at hk
      have ml : (mnC c cs).length ≤ 10 := by
        have hm := mnC_mem c cs
        rw [← el] at hm
        obtain ⟨q, _, hq⟩ := List.mem_filterMap.mp hm
        exact gl _ (lookup_mem hq)
      rw [List.map_cons]
      (try simp only [dVar, dC, dNil, dCons, dTup, dLst, dOp, onI, dI, dI0, dUn, dEq, dNe, dIxT, dIxL, dIxLv, dAndV, dOrV, dNotV, dB, dAnd, dOr, dNot, dYes, dIf, dChain, dCB, dLenR, dLenv, dListR, dTupR, dMxR, dMnR, dIntR, dIsi, dNoPart, dPart, dSl, dCatA, dCat, dRep, dIn, dInD, dIsN, D.isN, dCall, dCallP, dCallS, dPen0, dTruv, dRg1, dRg2, dLstRg, dTupRg, dLenSet, wf, wb, wi, wt, wl, vD, isSc, dSeq, dNext, dRet, dRetv, dRetN, dIfS, dAsg, dAsgT, dgTup, dgCons, dPar, dApp, dExt, dSetL, dPopAt, dRse, dNever, dDrop, dITup, dILst, dIRng1, dIRng2, dIDn, dIEnT, dIEnL, dIZip, po, poP, sp0, sp1, sp2, sp3, sp4, sp5, pp0, pp1, pp2, pp3, List.set_cons_zero, List.set_cons_succ, List.getElem?_cons_zero, List.getElem?_cons_succ, List.all_nil, List.map_nil, List.append_nil, List.cons_append, List.nil_append, true_and, ite_true, if_true, Bool.not_true, Bool.not_false, Bool.false_eq_true, if_false])
      refine ifF rfl ?_
      refine min_chains ?_
      refine ⟨chD (mnC c cs), rfl, by simp, by show ((mnC c cs).map natD).length + 1 ≤ 1000000; rw [List.length_map]; omega, ?_⟩
      have e : D.tup ((mnC c cs).map natD ++ [natD p]) = optD (some (mnC c cs ++ [p])) := by
        show _ = D.tup ((mnC c cs ++ [p]).map natD)
        rw [List.map_append]
        rfl
      rw [← e] at hk
      exact hk
end
end Dl

set_option Elab.async false
set_option maxRecDepth 100000
set_option maxHeartbeats 4000000
set_option linter.all false
set_option synthInstance.maxHeartbeats 4000000
set_option synthInstance.maxSize 10000

namespace Dl
open PySem PySem.Spec PyProof.Rows L2 RZ HmS Da
section
variable {P : Program} {w : World} {K : PySem.W.Frag} [HasT K] {mg : Str → Option Value} {base : Heap} {ad : Nat → Addr} {fd : Nat → FuncData}
theorem IsCh.len {ds : List (List Mv)} {f : Int} {c : List Nat} {p : Nat} (h : IsCh ds f c p) : c.length ≤ p + 1 := by
  induction h with
  | base _ => simp
  | step h1 h2 ih =>
    have := leans_lt h2
    rw [List.length_append, List.length_singleton]
    omega
theorem chains_len {ds : List (List Mv)} {f : Int} {n : Nat} (hn : n ≤ 10) : ∀ e ∈ chainsN mnC ds f n, e.2.length ≤ 10 := by
  rintro ⟨p, c⟩ h
  obtain ⟨h1, h2⟩ := chains_ok mnC_mem h
  have := h1.len
  show c.length ≤ 10
  omega
def keysG (g : List (Nat × List Nat)) : List Key := g.map fun e => .inl (e.1 : Int)
def valsG (g : List (Nat × List Nat)) : List D := g.map fun e => chD e.2
def chsE (g : List (Nat × List Nat)) : En := .dK (keysG g) (valsG g)
theorem chsD_eq (g : List (Nat × List Nat)) : D.dK (keysG g) (valsG g) = chsD g := rfl
theorem hasK_no {ds : List (List Mv)} {f : Int} {n : Nat} : hasK (keysG (chainsN mnC ds f n)) (.inl (n : Int)) = false := by
  unfold hasK keysG
  rw [List.any_map, List.any_eq_false]
  rintro ⟨p, c⟩ h e
  have e : decide ((Sum.inl (p : Int) : Key) = .inl (n : Int)) = true := e
  have e := of_decide_eq_true e
  have := (chains_ok mnC_mem h).2
  cases e
  omega
def kChains (x y : D) (φ : En → Prop) : Prop := ∃ ds f, x = dsD ds ∧ y = .int f ∧ ds.length ≤ 10 ∧ (∀ d ∈ ds, d.length ≤ 6) ∧ φ (chsE (chainsN mnC ds f ds.length))
theorem optD_none (o : Option (List Nat)) : (optD o).isN = o.isNone := by cases o <;> rfl
theorem pls_nats : ∀ l : List Nat, pls (l.map natD) = true
  | [] => rfl
  | a :: r => by rw [List.map_cons, pls, pls_nats r]; rfl
theorem pl_opt (o : Option (List Nat)) : (optD o).pl = true := by
  cases o with
  | none => rfl
  | some c =>
    show pls (c.map natD) = true
    exact pls_nats c
theorem nat_pw0 {n : Nat} : ∀ {l : List Nat} {m : Nat}, l.Pairwise (· < ·) → (∀ q ∈ l, m ≤ q ∧ q < n) → l.length ≤ n - m
  | [], _, _, _ => Nat.zero_le _
  | a :: r, m, h, hn => by
    rw [List.pairwise_cons] at h
    have ha := hn a List.mem_cons_self
    have := nat_pw0 (m := a + 1) h.2 fun q hq => ⟨h.1 q hq, (hn q (List.mem_cons_of_mem _ hq)).2⟩
    rw [List.length_cons]
    omega
theorem nat_pw {l : List Nat} {n : Nat} (h : l.Pairwise (· < ·)) (hn : ∀ q ∈ l, q < n) : l.length ≤ n := nat_pw0 (m := 0) h fun q hq => ⟨Nat.zero_le _, hn q hq⟩
section
open Da.Bor
theorem ok_chains_by (T : Txt K mg ad fd) : FnOk P w K mg base CX0 4 (ad 19) (fd 19) ps_chains_by (spX K (sp2 kChains)) := by
  refine (show Fun K "chains_by" "chains_by" st_chains_by (ad 19) (fd 19) from T.f 19 (by decide)).ok sc_chains_by (fun vs H Q E h => len2 h) (fun cdv A outer s H vs Q E hr h => ?_)
  have hu := hu_of hr
  have hu65 := hu65_of hr
  refine ⟨_, (pss_cons (ps_set (i := 2) sc_chains_by.nd rfl (Or.inl rfl) pe_dnewK)
  (pss_cons (ps_for PassesOwn.never rfl (pi_range1 (by rfl) (T.z 2 (by decide)) (pa_cons (pe_callB (r := Da.rLen K) cl_len (by rfl) (T.z 0 (by decide)) (by decide +kernel) (pa_cons (pv 0) pa_nil)) pa_nil)) (pg_name (i := 3) sc_chains_by.nd rfl (Or.inl rfl))
    (pss_cons (ps_set (i := 4) sc_chains_by.nd rfl (Or.inl rfl) (pe_call (ok_first_chain (K := K) T) (hr.mono (by omega)) (by rfl) (T.g 18 (by decide)) (T.k 18 (by decide)) (bd_first_chain T) .nil pass0 (pa_cons (pv 0) (pa_cons (pv 1) (pa_cons (pv 3) (pa_cons (pv 2) pa_nil))))))
  (pss_one (ps_if (pt_cmpR (r := rNotN) op_notN1 (pv 4) pe_non (nomark _))
    (pss_one (ps_dput hu (pv 2) (pv 3) (pv 4) rfl))
    pss_nil))))
  (pss_one (ps_ret (pv 2))))), ?_⟩
  refine body2 h fun x y φ hk => ?_
  rw [show st0 nm_chains_by [x, y] = [.d x, .d y, .no, .no, .no] from rfl]
  obtain ⟨ds, f, rfl, rfl, dl1, d6, hk⟩ := hk
  (try simp only [dVar, dC, dNil, dCons, dTup, dLst, dOp, onI, dI, dI0, dUn, dEq, dNe, dIxT, dIxL, dIxLv, dAndV, dOrV, dNotV, dB, dAnd, dOr, dNot, dYes, dIf, dChain, dCB, dLenR, dLenv, dListR, dTupR, dMxR, dMnR, dIntR, dIsi, dNoPart, dPart, dSl, dCatA, dCat, dRep, dIn, dInD, dIsN, D.isN, dCall, dCallP, dCallS, dPen0, dTruv, dRg1, dRg2, dLstRg, dTupRg, dLenSet, wf, wb, wi, wt, wl, vD, isSc, dSeq, dNext, dRet, dRetv, dRetN, dIfS, dAsg, dAsgT, dgTup, dgCons, dPar, dApp, dExt, dSetL, dPopAt, dRse, dNever, dDrop, dITup, dILst, dIRng1, dIRng2, dIDn, dIEnT, dIEnL, dIZip, po, poP, sp0, sp1, sp2, sp3, sp4, sp5, pp0, pp1, pp2, pp3, List.set_cons_zero, List.set_cons_succ, List.getElem?_cons_zero, List.getElem?_cons_succ, List.all_nil, List.map_nil, List.append_nil, List.cons_append, List.nil_append, true_and, ite_true, if_true, dsD])
  refine ⟨by rw [List.length_map]; omega, by rw [List.length_map]; omega, ?_⟩
  refine ⟨fun i Γ => ∃ v3 v4, Γ = [.d (dsD ds), .d (.int f), chsE (chainsN mnC ds f i), v3, v4], ⟨_, _, rfl⟩, ?_⟩
  rintro i Γ ⟨v3, v4, rfl⟩
  refine ⟨fun e => ?_, fun y hy => ?_⟩
  · rw [e, upI_len, List.length_map, Int.toNat_natCast]
    exact ⟨_, rfl, (fun z => nomatch z), hk⟩
  · rw [List.length_map, Int.toNat_natCast] at hy
    obtain ⟨il, rfl⟩ := upI_get hy
    rw [Int.zero_add]
    refine ⟨⟨_, _, rfl⟩, ⟨_, _, rfl⟩, ⟨_, _, rfl⟩, ⟨_, _, rfl⟩, keysG (chainsN mnC ds f i), valsG (chainsN mnC ds f i), rfl, ds, f, i, chainsN mnC ds f i, rfl, rfl, rfl, rfl, il, dl1, d6, chains_len (by omega), optD (chain1 mnC ds f i (chainsN mnC ds f i)), rfl, pl_opt _, ?_⟩
    (try simp only [dVar, dC, dNil, dCons, dTup, dLst, dOp, onI, dI, dI0, dUn, dEq, dNe, dIxT, dIxL, dIxLv, dAndV, dOrV, dNotV, dB, dAnd, dOr, dNot, dYes, dIf, dChain, dCB, dLenR, dLenv, dListR, dTupR, dMxR, dMnR, dIntR, dIsi, dNoPart, dPart, dSl, dCatA, dCat, dRep, dIn, dInD, dIsN, D.isN, dCall, dCallP, dCallS, dPen0, dTruv, dRg1, dRg2, dLstRg, dTupRg, dLenSet, wf, wb, wi, wt, wl, vD, isSc, dSeq, dNext, dRet, dRetv, dRetN, dIfS, dAsg, dAsgT, dgTup, dgCons, dPar, dApp, dExt, dSetL, dPopAt, dRse, dNever, dDrop, dITup, dILst, dIRng1, dIRng2, dIDn, dIEnT, dIEnL, dIZip, po, poP, sp0, sp1, sp2, sp3, sp4, sp5, pp0, pp1, pp2, pp3, List.set_cons_zero, List.set_cons_succ, List.getElem?_cons_zero, List.getElem?_cons_succ, List.all_nil, List.map_nil, List.append_nil, List.cons_append, List.nil_append, true_and, ite_true, if_true])
    cases ec : chain1 mnC ds f i (chainsN mnC ds f i) with
    | none =>
      refine ifF rfl ?_
      have e : chainsN mnC ds f (i + 1) = chainsN mnC ds f i := by rw [chainsN, ec]
      rw [e]
      exact ⟨_, _, rfl⟩
    | some c =>
      refine ifT rfl ?_
      have e : chainsN mnC ds f (i + 1) = chainsN mnC ds f i ++ [(i, c)] := by rw [chainsN, ec]
      rw [e]
      have kl : (keysG (chainsN mnC ds f i)).length ≤ 100000 := by
        unfold keysG
        rw [List.length_map]
        have := gone_pw (mn := mnC) (ds := ds) (f := f) i
        have h2 : (gone mnC ds f i).length ≤ i := nat_pw this fun q hq => gone_lt hq
        unfold gone at h2
        rw [List.length_map] at h2
        omega
      refine ⟨⟨_, _, rfl⟩, _, _, _, rfl, rfl, kl, ?_⟩
      unfold putKs putD
      rw [if_neg (by rw [hasK_no]; exact Bool.false_ne_true), if_neg (by rw [hasK_no]; exact Bool.false_ne_true)]
      have e3 : chsE (chainsN mnC ds f i ++ [(i, c)]) = .dK (keysG (chainsN mnC ds f i) ++ [Sum.inl (i : Int)]) (valsG (chainsN mnC ds f i) ++ [optD (some c)]) := by
        unfold chsE keysG valsG
        rw [List.map_append, List.map_append]
        rfl
      rw [e3]
      exact ⟨_, _, rfl⟩
end
def kFallen (o x y : D) (φ : En → Prop) : Prop := ∃ os ds s, o = owD os ∧ x = dsD ds ∧ y = .int s ∧ In2 os ds ∧ 0 ≤ s ∧ s < os.length ∧ φ (.d (.tup ((gone mnC ds s ds.length).map natD)))
theorem ok_fallen (T : Txt K mg ad fd) : FnOk P w K mg base CX0 9 (ad 20) (fd 20) ps_fallen (spX K (sp3 kFallen)) := by
  refine (show Fun K "fallen" "fallen" st_fallen (ad 20) (fd 20) from T.f 20 (by decide)).ok sc_fallen (fun vs H Q E h => len3 h) (fun cdv A outer s H vs Q E hr h => ?_)
  have hu := hu_of hr
  have hu65 := hu65_of hr
  refine ⟨_, (pss_cons (ps_expr (pe_call (ok_check_false (K := K) T) (hr.mono (by omega)) (by rfl) (T.g 14 (by decide)) (T.k 14 (by decide)) (bd_check_false T) .nil pass0 (pa_cons (pv 0) (pa_cons (pv 1) (pa_cons (pv 2) pa_nil)))))
  (pss_one (ps_ret (pe_callTy (r := rTupK) (cl_tupK rfl) (by rfl) (T.z 4 (by decide)) (by decide +kernel) (pa_cons (pe_call (ok_chains_by (K := K) T) (hr.mono (by omega)) (by rfl) (T.g 19 (by decide)) (T.k 19 (by decide)) (bd_chains_by T) .nil pass0 (pa_cons (pv 1) (pa_cons (pv 2) pa_nil))) pa_nil))))), ?_⟩
  refine body3 h fun x y z φ hk => ?_
  rw [show st0 nm_fallen [x, y, z] = [.d x, .d y, .d z] from rfl]
  obtain ⟨os, ds, s, rfl, rfl, rfl, ok, s0, s1, hk⟩ := hk
  (try simp only [dVar, dC, dNil, dCons, dTup, dLst, dOp, onI, dI, dI0, dUn, dEq, dNe, dIxT, dIxL, dIxLv, dAndV, dOrV, dNotV, dB, dAnd, dOr, dNot, dYes, dIf, dChain, dCB, dLenR, dLenv, dListR, dTupR, dMxR, dMnR, dIntR, dIsi, dNoPart, dPart, dSl, dCatA, dCat, dRep, dIn, dInD, dIsN, D.isN, dCall, dCallP, dCallS, dPen0, dTruv, dRg1, dRg2, dLstRg, dTupRg, dLenSet, wf, wb, wi, wt, wl, vD, isSc, dSeq, dNext, dRet, dRetv, dRetN, dIfS, dAsg, dAsgT, dgTup, dgCons, dPar, dApp, dExt, dSetL, dPopAt, dRse, dNever, dDrop, dITup, dILst, dIRng1, dIRng2, dIDn, dIEnT, dIEnL, dIZip, po, poP, sp0, sp1, sp2, sp3, sp4, sp5, pp0, pp1, pp2, pp3, List.set_cons_zero, List.set_cons_succ, List.getElem?_cons_zero, List.getElem?_cons_succ, List.all_nil, List.map_nil, List.append_nil, List.cons_append, List.nil_append, true_and, ite_true, if_true])
  refine ⟨os, ds, s, rfl, rfl, rfl, ok, s0, s1, ds, s, rfl, rfl, ok.l, ok.ln, ?_⟩
  have e : (keysG (chainsN mnC ds s ds.length)).map Da.kD = (gone mnC ds s ds.length).map natD := by
    unfold keysG gone
    rw [List.map_map, List.map_map]
    rfl
  rw [← e] at hk
  exact hk
def kLeft (o x y : D) (φ : En → Prop) : Prop := ∃ os ds s, o = owD os ∧ x = dsD ds ∧ y = .int s ∧ In2 os ds ∧ 0 ≤ s ∧ s < os.length ∧ φ (.d (owD (doneM os (restN mnC ds s ds.length))))
def parts2 : D → D × D
  | .tup [a, b] => (a, b)
  | _ => (.non, .non)
theorem rest_filt {ds : List (List Mv)} {f : Int} (P : Nat → Bool) (hP : ∀ i, i < ds.length → P i = !(gone mnC ds f ds.length).contains i) :
    ((pairsI 0 (ds.map dlD)).filter fun x => P (intOf (parts2 x).1).toNat).map (fun x => (parts2 x).2) = (restN mnC ds f ds.length).map dlD := by
  have key : ∀ n, n ≤ ds.length → ((pairsI 0 ((ds.take n).map dlD)).filter fun x => P (intOf (parts2 x).1).toNat).map (fun x => (parts2 x).2) = (restN mnC ds f n).map dlD := by
    have snoc : ∀ (l : List D) (j : Nat) (x : D), pairsI j (l ++ [x]) = pairsI j l ++ [.tup [.int ((j + l.length : Nat) : Int), x]] := fun l => by
      induction l with
      | nil => exact fun j x => rfl
      | cons a r ih =>
        intro j x
        show D.tup [.int j, a] :: pairsI (j + 1) (r ++ [x]) = D.tup [.int j, a] :: (pairsI (j + 1) r ++ _)
        rw [ih, List.length_cons, show j + 1 + r.length = j + (r.length + 1) by omega]
    intro n
    induction n with
    | zero => intro _; rfl
    | succ n ih =>
      intro hn
      have e : ((ds.take n).map dlD).length = n := by rw [List.length_map, List.length_take]; omega
      have ei : (intOf (parts2 (.tup [.int ((0 + n : Nat) : Int), dlD (dl ds n)])).1).toNat = n := by
        show ((0 + n : Nat) : Int).toNat = n
        rw [Int.toNat_natCast, Nat.zero_add]
      rw [take_succ_dl hn, List.map_append, List.map_singleton, snoc, e, List.filter_append, List.map_append, ih (by omega), restN]
      cases c : (gone mnC ds f ds.length).contains n with
      | true =>
        rw [List.filter_cons_of_neg (by rw [ei, hP n hn, c]; exact Bool.false_ne_true)]
        simp
      | false =>
        rw [List.filter_cons_of_pos (by rw [ei, hP n hn, c]; rfl)]
        simp [parts2]
  have := key ds.length (Nat.le_refl _)
  rw [List.take_length] at this
  exact this
theorem lk_has {g : List (Nat × List Nat)} {q : Nat} : (lk g q).isSome = (g.map (·.1)).contains q := by
  induction g with
  | nil => rfl
  | cons a r ih =>
    obtain ⟨k, c⟩ := a
    unfold lk
    rw [List.map_cons, List.contains_cons]
    by_cases z : k = q
    · subst z
      simp
    · rw [if_neg z, ih]
      have : (q == k) = false := by simp; exact fun w => z w.symm
      rw [this, Bool.false_or]
theorem ok_owners_left (T : Txt K mg ad fd) : FnOk P w K mg base CX0 9 (ad 21) (fd 21) ps_owners_left (spX K (sp3 kLeft)) := by
  refine (show Fun K "owners_left" "owners_left" st_owners_left (ad 21) (fd 21) from T.f 21 (by decide)).ok sc_owners_left (fun vs H Q E h => len3 h) (fun cdv A outer s H vs Q E hr h => ?_)
  have hu := hu_of hr
  have hu65 := hu65_of hr
  refine ⟨_, (pss_cons (ps_expr (pe_call (ok_check_false (K := K) T) (hr.mono (by omega)) (by rfl) (T.g 14 (by decide)) (T.k 14 (by decide)) (bd_check_false T) .nil pass0 (pa_cons (pv 0) (pa_cons (pv 1) (pa_cons (pv 2) pa_nil)))))
  (pss_cons (ps_set (i := 3) sc_owners_left.nd rfl (Or.inr rfl) (pe_call (ok_chains_by (K := K) T) (hr.mono (by omega)) (by rfl) (T.g 19 (by decide)) (T.k 19 (by decide)) (bd_chains_by T) .nil pass0 (pa_cons (pv 1) (pa_cons (pv 2) pa_nil))))
  (pss_one (ps_ret (pe_call (ok_owners_done_L (K := K) T) (hr.mono (by omega)) (by rfl) (T.g 12 (by decide)) (T.k 12 (by decide)) (bd_owners_done T) .nil pass0 (pa_cons (pv 0) (pa_cons (pe_lc (own := [("place", 4), ("deal", 5)]) (g := (gTup K 2 (gCons (gName 4) (gCons (gName 5) gNil)))) rfl sc_owners_left.nd (pi_enumTK (K := K) (by rfl) (T.z 5 (by decide)) (pa_cons (pv 1) pa_nil))
      (blkOk_by (N := nm_owners_left) (sc := defScope st_owners_left) (by decide +kernel)) (fun _ _ _ _ _ => by exact (pg_tupK (K := K) (n := 2) rfl (pgs_cons (pg_name (i := 4) sc_owners_left.nd rfl (Or.inl rfl)) (pgs_cons (pg_name (i := 5) sc_owners_left.nd rfl (Or.inl rfl)) pgs_nil)))) (fun _ _ _ _ _ => pts_one (pt_cmp (pc_dnotin hu (pv 4) (pv 3))))
      (fun _ _ _ _ _ => by exact (pv 5))) pa_nil))))))), ?_⟩
  refine body3 h fun x y z φ hk => ?_
  rw [show st0 nm_owners_left [x, y, z] = [.d x, .d y, .d z, .no, .no, .no] from rfl]
  obtain ⟨os, ds, s, rfl, rfl, rfl, ok, s0, s1, hk⟩ := hk
  have okl := ok.l
  (try simp only [dVar, dC, dNil, dCons, dTup, dLst, dOp, onI, dI, dI0, dUn, dEq, dNe, dIxT, dIxL, dIxLv, dAndV, dOrV, dNotV, dB, dAnd, dOr, dNot, dYes, dIf, dChain, dCB, dLenR, dLenv, dListR, dTupR, dMxR, dMnR, dIntR, dIsi, dNoPart, dPart, dSl, dCatA, dCat, dRep, dIn, dInD, dIsN, D.isN, dCall, dCallP, dCallS, dPen0, dTruv, dRg1, dRg2, dLstRg, dTupRg, dLenSet, wf, wb, wi, wt, wl, vD, isSc, dSeq, dNext, dRet, dRetv, dRetN, dIfS, dAsg, dAsgT, dgTup, dgCons, dPar, dApp, dExt, dSetL, dPopAt, dRse, dNever, dDrop, dITup, dILst, dIRng1, dIRng2, dIDn, dIEnT, dIEnL, dIZip, po, poP, sp0, sp1, sp2, sp3, sp4, sp5, pp0, pp1, pp2, pp3, List.set_cons_zero, List.set_cons_succ, List.getElem?_cons_zero, List.getElem?_cons_succ, List.all_nil, List.map_nil, List.append_nil, List.cons_append, List.nil_append, true_and, ite_true, if_true])
  refine ⟨os, ds, s, rfl, rfl, rfl, ok, s0, s1, ds, s, rfl, rfl, ok.l, ok.ln, ?_⟩
  refine dLc_filt (items := pairsI 0 (ds.map dlD)) (Γ1 := [.d (owD os), .d (dsD ds), .d (.int s), chsE (chainsN mnC ds s ds.length), .no, .no]) (Γw := [.d (owD os), .d (dsD ds), .d (.int s), chsE (chainsN mnC ds s ds.length), .no, .no])
    (fun x => !(gone mnC ds s ds.length).contains (intOf (parts2 x).1).toNat) (fun x => (parts2 x).2) rfl (fun ψ h => h) rfl rfl (by rw [pairsI_len, List.length_map]; omega) (fun d hd ψ q => ?_) ?_
  · obtain ⟨j, hj⟩ := List.mem_iff_getElem?.mp hd
    obtain ⟨x, hx, rfl⟩ := pairsI_get hj
    refine ⟨rfl, rfl, _, _, _, _, rfl, rfl, rfl, ?_⟩
    have e : (lookD (keysG (chainsN mnC ds s ds.length)) (valsG (chainsN mnC ds s ds.length)) (.inl ((0 + j : Nat) : Int))).isSome = (gone mnC ds s ds.length).contains (0 + j) := by
      unfold keysG valsG
      rw [look_chs, Option.isSome_map, lk_has]
      rfl
    have e2 : (!(gone mnC ds s ds.length).contains (intOf (parts2 (D.tup [D.int ((0 + j : Nat) : Int), x])).fst).toNat) = !(lookD (keysG (chainsN mnC ds s ds.length)) (valsG (chainsN mnC ds s ds.length)) (.inl ((0 + j : Nat) : Int))).isSome := by
      rw [e]
      show (!(gone mnC ds s ds.length).contains ((0 + j : Nat) : Int).toNat) = _
      rw [Int.toNat_natCast]
    rw [e2] at q
    exact q _ rfl fun _ ψ' q' => q' _ _ rfl rfl
  · refine ⟨os, restN mnC ds s ds.length, rfl, ?_, ?_, hk⟩
    · rw [rest_filt (ds := ds) (f := s) (fun i => !(gone mnC ds s ds.length).contains i) fun i _ => rfl]
    · exact dlsOk_mv (rest_ok ok.vd (Nat.le_refl _)).1
def kChainOf (o x y z : D) (φ : En → Prop) : Prop := ∃ os ds s, ∃ p : Nat, o = owD os ∧ x = dsD ds ∧ y = .int s ∧ z = natD p ∧ In2 os ds ∧ 0 ≤ s ∧ s < os.length ∧ p < ds.length ∧ φ (.d (optD (lk (chainsN mnC ds s ds.length) p)))
theorem ok_chain_of (T : Txt K mg ad fd) : FnOk P w K mg base CX0 10 (ad 22) (fd 22) ps_chain_of (spX K (sp4 kChainOf)) := by
  refine (show Fun K "chain_of" "chain_of" st_chain_of (ad 22) (fd 22) from T.f 22 (by decide)).ok sc_chain_of (fun vs H Q E h => len4 h) (fun cdv A outer s H vs Q E hr h => ?_)
  have hu := hu_of hr
  have hu65 := hu65_of hr
  refine ⟨_, (pss_cons (ps_expr (pe_call (ok_check_place (K := K) T) (hr.mono (by omega)) (by rfl) (T.g 15 (by decide)) (T.k 15 (by decide)) (bd_check_place T) .nil pass0 (pa_cons (pv 0) (pa_cons (pv 1) (pa_cons (pv 2) (pa_cons (pv 3) pa_nil))))))
  (pss_one (ps_ret (pe_dget1 hu (pe_call (ok_chains_by (K := K) T) (hr.mono (by omega)) (by rfl) (T.g 19 (by decide)) (T.k 19 (by decide)) (bd_chains_by T) .nil pass0 (pa_cons (pv 1) (pa_cons (pv 2) pa_nil))) (pv 3) ⟨rfl, rfl, rfl, rfl⟩)))), ?_⟩
  refine body4 h fun x y z u φ hk => ?_
  rw [show st0 nm_chain_of [x, y, z, u] = [.d x, .d y, .d z, .d u] from rfl]
  obtain ⟨os, ds, s, p, rfl, rfl, rfl, rfl, ok, s0, s1, pl, hk⟩ := hk
  (try simp only [dVar, dC, dNil, dCons, dTup, dLst, dOp, onI, dI, dI0, dUn, dEq, dNe, dIxT, dIxL, dIxLv, dAndV, dOrV, dNotV, dB, dAnd, dOr, dNot, dYes, dIf, dChain, dCB, dLenR, dLenv, dListR, dTupR, dMxR, dMnR, dIntR, dIsi, dNoPart, dPart, dSl, dCatA, dCat, dRep, dIn, dInD, dIsN, D.isN, dCall, dCallP, dCallS, dPen0, dTruv, dRg1, dRg2, dLstRg, dTupRg, dLenSet, wf, wb, wi, wt, wl, vD, isSc, dSeq, dNext, dRet, dRetv, dRetN, dIfS, dAsg, dAsgT, dgTup, dgCons, dPar, dApp, dExt, dSetL, dPopAt, dRse, dNever, dDrop, dITup, dILst, dIRng1, dIRng2, dIDn, dIEnT, dIEnL, dIZip, po, poP, sp0, sp1, sp2, sp3, sp4, sp5, pp0, pp1, pp2, pp3, List.set_cons_zero, List.set_cons_succ, List.getElem?_cons_zero, List.getElem?_cons_succ, List.all_nil, List.map_nil, List.append_nil, List.cons_append, List.nil_append, true_and, ite_true, if_true])
  refine ⟨os, ds, s, p, rfl, rfl, rfl, rfl, ok, s0, s1, pl, rfl, ds, s, rfl, rfl, ok.l, ok.ln, ⟨_, _, rfl⟩, _, _, _, rfl, rfl, ?_⟩
  have e : (lookD (keysG (chainsN mnC ds s ds.length)) (valsG (chainsN mnC ds s ds.length)) (.inl (p : Int))).getD .non = optD (lk (chainsN mnC ds s ds.length) p) := by
    unfold keysG valsG
    rw [look_chs]
    cases lk (chainsN mnC ds s ds.length) p <;> rfl
  rw [← e] at hk
  exact hk
/-! ### is_chain -/
def natOf (x : D) : Nat := (intOf x).toNat
def chB (ds : List (List Mv)) (f : Int) (p : Nat) (x : D) : Bool := match x with
  | .tup xs => risW x 0 p && (decide ((xs.map natOf).getLast? = some p) && ((mvd (dl ds ((xs.map natOf).headD 0))).contains f && linked ds (xs.map natOf)))
  | _ => false
def prsN : List Nat → List (Nat × Nat)
  | a :: b :: r => (a, b) :: prsN (b :: r)
  | _ => []
theorem linked_prs (ds : List (List Mv)) : ∀ c : List Nat, linked ds c = (prsN c).all fun p => (leans ds p.2).contains p.1
  | [] => rfl
  | [_] => rfl
  | a :: b :: r => by
    show ((leans ds b).contains a && linked ds (b :: r)) = ((leans ds b).contains a && (prsN (b :: r)).all _)
    rw [linked_prs ds (b :: r)]
def prND (p : Nat × Nat) : D := .tup [natD p.1, natD p.2]
theorem zip_prsN : ∀ c : List Nat, zipD (c.map natD) ((c.map natD).drop 1) = (prsN c).map prND
  | [] => rfl
  | [_] => rfl
  | a :: b :: r => by
    have := zip_prsN (b :: r)
    rw [show ((b :: r).map natD).drop 1 = r.map natD from rfl] at this
    show D.tup [natD a, natD b] :: zipD ((b :: r).map natD) (r.map natD) = prND (a, b) :: (prsN (b :: r)).map prND
    rw [this]
    rfl
theorem prsN_len : ∀ c : List Nat, (prsN c).length ≤ c.length
  | [] => Nat.le_refl _
  | [_] => Nat.zero_le _
  | a :: b :: r => by
    have := prsN_len (b :: r)
    simp only [prsN, List.length_cons] at this ⊢
    omega
theorem prsN_mem : ∀ {c : List Nat} {q : Nat × Nat}, q ∈ prsN c → q.1 ∈ c ∧ q.2 ∈ c
  | [], _, h => by simp [prsN] at h
  | [_], _, h => by simp [prsN] at h
  | a :: b :: r, q, h => by
    rcases List.mem_cons.mp (show q ∈ (a, b) :: prsN (b :: r) from h) with z | z
    · subst z
      exact ⟨by simp, by simp⟩
    · have := prsN_mem z
      exact ⟨List.mem_cons_of_mem _ this.1, List.mem_cons_of_mem _ this.2⟩
theorem inB_nats {b : Int} : ∀ {xs : List D}, xs.all (fun y => inB y 0 b) = true → xs = (xs.map natOf).map natD ∧ ∀ n ∈ xs.map natOf, (n : Int) ≤ b
  | [], _ => ⟨rfl, by simp⟩
  | x :: r, h => by
    rw [List.all_cons, Bool.and_eq_true] at h
    obtain ⟨h1, h2⟩ := inB_nats h.2
    cases x with
    | int i =>
      have h0 := h.1
      simp only [inB, Bool.and_eq_true, decide_eq_true_eq] at h0
      refine ⟨?_, fun n hn => ?_⟩
      · rw [List.map_cons, List.map_cons, ← h1]
        show D.int i :: r = D.int ((i.toNat : Nat) : Int) :: r
        rw [Int.toNat_of_nonneg h0.1]
      · rw [List.map_cons] at hn
        rcases List.mem_cons.mp hn with z | z
        · rw [z]
          show ((i.toNat : Nat) : Int) ≤ b
          rw [Int.toNat_of_nonneg h0.1]
          exact h0.2
        · exact h2 n z
    | _ => exact absurd h.1 Bool.false_ne_true
theorem fit_last (o : Option Nat) : (D.tup (o.toList.map natD)).fit = true := by
  cases o <;> simp [natD, D.fit, D.flat, flats, D.py, pys, SeqAt.shaped, PyData.canLay0, PyData.canLayAll0, PyData.depth, PyData.depthAll]
theorem eqv_last (o : Option Nat) (p : Nat) : (D.tup (o.toList.map natD)).eqv (.tup [.int p]) = decide (o = some p) := by
  cases o with
  | none => simp [D.eqv, D.py, pys, PyData.eqv, PyData.eqvAll]
  | some a =>
    simp [natD, D.eqv, D.py, pys, PyData.eqv, PyData.eqvAll]
    rw [Bool.eq_iff_iff, beq_iff_eq, decide_eq_true_eq]
    omega
end
end Dl

set_option Elab.async false
set_option maxRecDepth 100000
set_option maxHeartbeats 4000000
set_option linter.all false
set_option synthInstance.maxHeartbeats 4000000
set_option synthInstance.maxSize 10000

namespace Dl
open PySem PySem.Spec PyProof.Rows L2 RZ HmS Da
section
variable {P : Program} {w : World} {K : PySem.W.Frag} [HasT K] {mg : Str → Option Value} {base : Heap} {ad : Nat → Addr} {fd : Nat → FuncData}
def kIsCh (o x y z t : D) (φ : En → Prop) : Prop := ∃ os ds s, ∃ p : Nat, o = owD os ∧ x = dsD ds ∧ y = .int s ∧ z = natD p ∧ In2 os ds ∧ 0 ≤ s ∧ s < os.length ∧ p < ds.length ∧ t.ty.isSome = true ∧ (∀ xs, t = .tup xs → xs.length ≤ 1000 ∧ ∀ u ∈ xs, u.ty.isSome = true) ∧ φ (.d (.bl (chB ds s p t)))
theorem ok_is_chain (T : Txt K mg ad fd) : FnOk P w K mg base CX0 10 (ad 23) (fd 23) ps_is_chain (spX K (sp5 kIsCh)) := by
  refine (show Fun K "is_chain" "is_chain" st_is_chain (ad 23) (fd 23) from T.f 23 (by decide)).ok sc_is_chain (fun vs H Q E h => len5 h) (fun cdv A outer s H vs Q E hr h => ?_)
  have hu := hu_of hr
  have hu65 := hu65_of hr
  refine ⟨_, (pss_cons (ps_expr (pe_call (ok_check_place (K := K) T) (hr.mono (by omega)) (by rfl) (T.g 15 (by decide)) (T.k 15 (by decide)) (bd_check_place T) .nil pass0 (pa_cons (pv 0) (pa_cons (pv 1) (pa_cons (pv 2) (pa_cons (pv 3) pa_nil))))))
  (pss_cons (ps_if (PW.pt (pw_or (pt_not (pt_val (pe_call (ok_is_rising_within (K := K) T) (hr.mono (by omega)) (by rfl) (T.g 4 (by decide)) (T.k 4 (by decide)) (bd_is_rising_within T) .nil pass0 (pa_cons (pv 4) (pa_cons pe_int (pa_cons (pv 3) pa_nil)))))) (pw_or1 (pt_cmpR (r := rNeD K) (op_neD hr.units) (pe_slice (r := rSlA K) sl_tupA (pv 4) (po_some (pe_un un_neg pe_int)) po_none) (pe_tup (pa_cons (pv 3) pa_nil)) (nomark _)))))
    (pss_one (ps_ret pe_bl))
    pss_nil)
  (pss_cons (ps_if (pt_cmpR (r := rIn K true) op_notIn_seq (pv 2) (pe_call (ok_moved_by (K := K) T) (hr.mono (by omega)) (by rfl) (T.g 11 (by decide)) (T.k 11 (by decide)) (bd_moved_by T) .nil pass0 (pa_cons (pe_ix (r := rIxT K) ix_tup (pv 1) (pe_ix (r := rIxT K) ix_tup (pv 4) pe_int (fun _ _ => rfl)) (fun _ _ => rfl)) pa_nil)) (by rfl))
    (pss_one (ps_ret pe_bl))
    pss_nil)
  (pss_one (ps_ret (pe_callB (r := rAll K) (cr_all rfl) (by rfl) (T.z 9 (by decide)) (by decide +kernel) (pa_cons (pe_lc (own := [("ahead", 5), ("at", 6)]) (g := (gTup K 2 (gCons (gName 5) (gCons (gName 6) gNil)))) (tt := tYes) rfl sc_is_chain.nd (pi_zipAK (K := K) (by rfl) (T.z 11 (by decide)) (pa_cons (pv 4) (pa_cons (pe_slice (r := rSlA K) sl_tupA (pv 4) (po_some pe_int) po_none) pa_nil)))
      (blkOk_by (N := nm_is_chain) (sc := defScope st_is_chain) (by decide +kernel)) (fun _ _ _ _ _ => by exact (pg_tupK (K := K) (n := 2) rfl (pgs_cons (pg_name (i := 5) sc_is_chain.nd rfl (Or.inl rfl)) (pgs_cons (pg_name (i := 6) sc_is_chain.nd rfl (Or.inl rfl)) pgs_nil)))) (fun _ _ _ _ _ => pts_nil)
      (fun _ _ _ _ _ => by exact (pe_cmpR (r := rIn K false) op_in_seq (pv 5) (pe_call (ok_leaned_on (K := K) T) (hr.mono (by omega)) (by rfl) (T.g 17 (by decide)) (T.k 17 (by decide)) (bd_leaned_on T) .nil pass0 (pa_cons (pv 1) (pa_cons (pv 6) pa_nil))) (by rfl)))) pa_nil))))))), ?_⟩
  refine body5 h fun x y z u v φ hk => ?_
  rw [show st0 nm_is_chain [x, y, z, u, v] = [.d x, .d y, .d z, .d u, .d v, .no, .no] from rfl]
  obtain ⟨os, ds, s, p, rfl, rfl, rfl, rfl, ok, s0, s1, pl, ht, hp, hk⟩ := hk
  have okl := ok.l
  (try simp only [dVar, dC, dNil, dCons, dTup, dLst, dOp, onI, dI, dI0, dUn, dEq, dNe, dIxT, dIxL, dIxLv, dAndV, dOrV, dNotV, dB, dAnd, dOr, dNot, dYes, dIf, dChain, dCB, dLenR, dLenv, dListR, dTupR, dMxR, dMnR, dIntR, dIsi, dNoPart, dPart, dSl, dCatA, dCat, dRep, dIn, dInD, dIsN, D.isN, dCall, dCallP, dCallS, dPen0, dTruv, dRg1, dRg2, dLstRg, dTupRg, dLenSet, wf, wb, wi, wt, wl, vD, isSc, dSeq, dNext, dRet, dRetv, dRetN, dIfS, dAsg, dAsgT, dgTup, dgCons, dPar, dApp, dExt, dSetL, dPopAt, dRse, dNever, dDrop, dITup, dILst, dIRng1, dIRng2, dIDn, dIEnT, dIEnL, dIZip, po, poP, sp0, sp1, sp2, sp3, sp4, sp5, pp0, pp1, pp2, pp3, List.set_cons_zero, List.set_cons_succ, List.getElem?_cons_zero, List.getElem?_cons_succ, List.all_nil, List.map_nil, List.append_nil, List.cons_append, List.nil_append, true_and, ite_true, if_true])
  refine ⟨os, ds, s, p, rfl, rfl, rfl, rfl, ok, s0, s1, pl, 0, p, rfl, rfl, ht, hp, ?_⟩
  cases hr : risW v 0 p with
  | false =>
    have e : chB ds s p v = false := by
      cases v <;> first | rfl | (show (risW _ 0 p && _) = false; rw [hr]; rfl)
    rw [e] at hk
    exact ifT rfl hk
  | true =>
    cases v with
    | tup xs =>
      have hr2 : (xs.all (fun y => inB y 0 p) && risI (xs.map intOf)) = true := hr
      rw [Bool.and_eq_true] at hr2
      obtain ⟨e1, e2⟩ := inB_nats hr2.1
      have e3 : chB ds s p (.tup xs) = (decide ((xs.map natOf).getLast? = some p) && ((mvd (dl ds ((xs.map natOf).headD 0))).contains s && linked ds (xs.map natOf))) := by
        show (risW (.tup xs) 0 p && _) = _
        rw [hr, Bool.true_and]
      rw [e3] at hk
      have hl := (hp xs rfl).1
      have cl : (xs.map natOf).length ≤ 1000 := by rw [List.length_map]; exact hl
      rw [e1]
      generalize xs.map natOf = c at *
      refine ifF rfl ?_
      (try simp only [dVar, dC, dNil, dCons, dTup, dLst, dOp, onI, dI, dI0, dUn, dEq, dNe, dIxT, dIxL, dIxLv, dAndV, dOrV, dNotV, dB, dAnd, dOr, dNot, dYes, dIf, dChain, dCB, dLenR, dLenv, dListR, dTupR, dMxR, dMnR, dIntR, dIsi, dNoPart, dPart, dSl, dCatA, dCat, dRep, dIn, dInD, dIsN, D.isN, dCall, dCallP, dCallS, dPen0, dTruv, dRg1, dRg2, dLstRg, dTupRg, dLenSet, wf, wb, wi, wt, wl, vD, isSc, dSeq, dNext, dRet, dRetv, dRetN, dIfS, dAsg, dAsgT, dgTup, dgCons, dPar, dApp, dExt, dSetL, dPopAt, dRse, dNever, dDrop, dITup, dILst, dIRng1, dIRng2, dIDn, dIEnT, dIEnL, dIZip, po, poP, sp0, sp1, sp2, sp3, sp4, sp5, pp0, pp1, pp2, pp3, List.set_cons_zero, List.set_cons_succ, List.getElem?_cons_zero, List.getElem?_cons_succ, List.all_nil, List.map_nil, List.append_nil, List.cons_append, List.nil_append, true_and, ite_true, if_true, Bool.not_true, Bool.not_false, Bool.false_eq_true, if_false])
      rw [show (-1 : Int) = -1 from rfl, cutL_last, getLast_map]
      refine ⟨by simp, fit_last _, fit_last (some p), ?_⟩
      rw [show (D.tup (List.map natD c.getLast?.toList)).eqv (D.tup [natD p]) = decide (c.getLast? = some p) from eqv_last _ _]
      by_cases hl : c.getLast? = some p
      · rw [decide_eq_true hl]
        rw [decide_eq_true hl, Bool.true_and] at hk
        refine ifF rfl ?_
        cases c with
        | nil => cases hl
        | cons a r =>
          have ap := e2 a List.mem_cons_self
          have al : a < ds.length := by omega
          have da6 := ok.ln _ (dl_mem al)
          refine ⟨natD a, atI_ok (i := 0) rfl, dlD (dl ds a), atI_ok (by rw [List.getElem?_map, dl_get al]; rfl), dl ds a, rfl, by omega, rfl, sc_ints _, ?_⟩
          have ei : inD (.int s) (((dl ds a).map (·.1)).map .int) = (mvd (dl ds a)).contains s := inD_ints s (mvd (dl ds a))
          rw [ei]
          have hk : φ (.d (.bl ((mvd (dl ds a)).contains s && linked ds (a :: r)))) := hk
          cases hm : (mvd (dl ds a)).contains s with
          | false =>
            rw [hm, Bool.false_and] at hk
            exact ifT rfl hk
          | true =>
            rw [hm, Bool.true_and] at hk
            refine ifF rfl ?_
            have pn := prsN_len (a :: r)
            refine dLc_pure (items := (prsN (a :: r)).map prND) (Γ1 := [.d (owD os), .d (dsD ds), .d (.int s), .d (natD p), .d (.tup ((a :: r).map natD)), .no, .no]) (Γw := [.d (owD os), .d (dsD ds), .d (.int s), .d (natD p), .d (.tup ((a :: r).map natD)), .no, .no])
              (fun x => .bl ((leans ds (natOf (parts2 x).2)).contains (natOf (parts2 x).1))) rfl (fun ψ h => ?_) rfl rfl (by rw [List.length_map]; omega) (fun d hd ψ q => ?_) ?_
            · have e : cutL ((a :: r).map natD) (some 1) none = ((a :: r).map natD).drop 1 := cutL_from (n := 1)
              refine ⟨rfl, rfl, ?_⟩
              show ψ (zipD ((a :: r).map natD) (cutL ((a :: r).map natD) (some 1) none)) _
              rw [e, zip_prsN]
              exact h
            · obtain ⟨q2, hq2, rfl⟩ := List.mem_map.mp hd
              have m2 := prsN_mem hq2
              have l2 : q2.2 < ds.length := by have := e2 _ m2.2; omega
              refine ⟨rfl, rfl, rfl, ds, q2.2, rfl, rfl, l2, okl, ok.ln, rfl, sc_nats _, ?_⟩
              have e : inD (natD q2.1) ((leans ds q2.2).map natD) = (leans ds (natOf (parts2 (prND q2)).2)).contains (natOf (parts2 (prND q2)).1) := by
                rw [inD_nats]
                rfl
              rw [e]
              exact q _ _ rfl rfl
            · refine ⟨(prsN (a :: r)).map fun q => (leans ds q.2).contains q.1, by rw [List.map_map, List.map_map]; rfl, ?_⟩
              rw [List.all_map]
              rw [linked_prs] at hk
              exact hk
      · rw [decide_eq_false hl]
        rw [decide_eq_false hl, Bool.false_and] at hk
        exact ifT rfl hk
    | _ => exact absurd hr Bool.false_ne_true
end
end Dl

set_option Elab.async false
set_option maxRecDepth 100000
set_option maxHeartbeats 4000000
set_option linter.all false
set_option synthInstance.maxHeartbeats 4000000
set_option synthInstance.maxSize 10000

namespace Dl
open PySem PySem.Spec PyProof.Rows L2 RZ HmS Da
section
variable {P : Program} {w : World} {K : PySem.W.Frag} [HasT K] {mg : Str → Option Value} {base : Heap} {ad : Nat → Addr} {fd : Nat → FuncData}
/-! ### the pen -/
def kCell (x : D) (φ : En → Prop) : Prop := ∃ j : Nat, x = .int j ∧ ∀ z : Int, φ (.d (.int z))
theorem ok__law_cell_at (T : Txt K mg ad fd) : FnOk P w K mg base CX0 1 (ad 25) (fd 25) ps__law_cell_at (spS K (pp1 kCell)) := by
  refine (show Fun K "_law_cell_at" "_law_cell_at" st__law_cell_at (ad 25) (fd 25) from T.f 25 (by decide)).ok sc__law_cell_at (fun vs H Q E h => ?_) (fun cdv A outer s H vs Q E hr h => ?_)
  · obtain ⟨l, ns, us, ds, φ, rfl, _, rfl, _, hd, _⟩ := h
    match ds, hd with
    | [_], _ => rfl
  · obtain ⟨l, ns, us, ds, φ, rfl, hS, rfl, _, hd, q⟩ := h
    match ds, hd with
    | [x], hd =>
      obtain ⟨j, rfl, hz⟩ := hd
      have q := fun z => q z (hz z)
      refine ⟨_, pss_cons (ps_if (pt_cmpR op_lt (pv 1) (pe_callB call_len_seq (by rfl) (T.z 0 (by decide)) PySem.boot_len (pa_cons (pv 0) pa_nil)) (nomark _))
        (pss_one (ps_ret (pe_ix ix_list (pv 0) (pv 1) (fun _ _ => rfl)))) pss_nil) (pss_one (ps_ret pe_int)), ?_⟩
      refine ⟨_, rfl, _, rfl, l, _, rfl, .inl hS, _, _, rfl, rfl, _, rfl, ?_⟩
      refine ite2 (fun c => ?_) (fun c => q 0)
      have c' := of_decide_eq_true c
      rw [List.length_map] at c'
      have hj : j < ns.length := by omega
      refine ⟨_, rfl, _, rfl, l, _, _, .int ns[j], rfl, rfl, hS, ?_, q _⟩
      exact atI_nat (by rw [List.getElem?_map, List.getElem?_eq_getElem hj]; rfl)
theorem ok__law_pen (T : Txt K mg ad fd) : FnOk P w K mg base CX0 1 (ad 24) (fd 24) ps__law_pen spPen0 := by
  refine (show Fun K "_law_pen" "_law_pen" st__law_pen (ad 24) (fd 24) from T.f 24 (by decide)).ok sc__law_pen (fun vs H Q E h => ?_) (fun cdv A outer s H vs Q E hr h => ?_)
  · obtain ⟨z, rfl, _⟩ := h
    rfl
  · obtain ⟨z, rfl, q⟩ := h
    refine ⟨_, pss_one (ps_ret (pe_lst (pa_cons (pv 0) (pa_cons (pe_callTy call_int1 (by rfl) (T.z 1 (by decide)) (by decide +kernel)
        (pa_cons (pe_cmpR op_ge (pv 0) (pe_op op_pow pe_int pe_int) (nomark _)) pa_nil))
      (pa_cons pe_int (pa_cons (pe_op op_mod (pv 0) pe_int) pa_nil)))))), ?_⟩
    refine ⟨_, rfl, _, rfl, _, _, rfl, rfl, ⟨by decide, by decide, by decide⟩, _, _, rfl, rfl, .inr ⟨_, rfl, ?_⟩⟩
    refine ⟨_, rfl, _, _, rfl, rfl, (by show (0 : Int) < 1000000007; decide), (by show 4 ≤ sizeLine; decide), fun p hp => ?_⟩
    exact q p _ hp ⟨_, _, _, _, upd_same, Int.emod_nonneg _ (by decide), Int.emod_lt_of_pos _ (by decide)⟩ (fun b hb => upd_ne hb)
def kDraw (x : D) (φ : En → Prop) : Prop := ∃ n : Int, x = .int n ∧ 0 < n ∧ n < 1073741824 ∧ ∀ r : Int, 0 ≤ r → r < n → φ (.d (.int r))
theorem ok__law_draw (T : Txt K mg ad fd) : FnOk P w K mg base CX0 1 (ad 26) (fd 26) ps__law_draw (spP K (pp1 kDraw)) := by
  refine (show Fun K "_law_draw" "_law_draw" st__law_draw (ad 26) (fd 26) from T.f 26 (by decide)).ok sc__law_draw (fun vs H Q E h => lep1 h) (fun cdv A outer s H vs Q E hr h => ?_)
  obtain ⟨p, us, F, ds, φ, rfl, fp, ⟨a, b, c, d, hp, d0, d1⟩, fh, fn, tb, r, hd, q⟩ := h
  match ds, r, hd with
  | [x], r, hd =>
    obtain ⟨n, rfl, n0, n1, hφ⟩ := hd
    obtain ⟨x, rfl, rp⟩ := one_of r
    cases rp
    have q : ∀ (r : Int) H', 0 ≤ r → r < n → PenAt H' p → (∀ b, b ≠ p → H' b = H b) → Q (.int r) H' := fun r H' r0 r1 pen but => by
      refine q F H' (.int r) (.d (.int r)) (Same.refl F) (fun a o n _ e => by rw [but a n]; exact e) (tb.chg hp (plain_lst _) but) pen (fun a o e => ?_) fn (fun a o e => .inl e) (.int r : Rep F (.int r) (.int r)) (fun z => nomatch z) (fun z => nomatch z) (hφ r r0 r1)
      have : a ≠ p := ne_of_none e fp
      rw [but a this]
      exact fh a o e
    refine ⟨_, pss_cons (ps_if (PW.pt (pw_and (pt_cmpR op_eq (pe_ix ix_list (pv 0) pe_int (fun _ _ => rfl)) pe_int (nomark _))
          (pw_and1 (pt_cmpR op_gt (pe_ix ix_list (pv 0) pe_int (fun _ _ => rfl)) pe_int (nomark _)))))
        (pss_cons (ps_set (i := 2) sc__law_draw.nd rfl (Or.inl rfl) (pe_op op_mod (pe_ix ix_list (pv 0) pe_int (fun _ _ => rfl)) (pv 1)))
        (pss_cons (ps_asg (pe_op op_fdiv (pe_ix ix_list (pv 0) pe_int (fun _ _ => rfl)) (pv 1)) (pg_sub (pv 0) pe_int set_list))
        (pss_one (ps_ret (pv 2))))) pss_nil)
      (pss_cons (ps_asg (pe_op op_add (pe_ix ix_list (pv 0) pe_int (fun _ _ => rfl)) pe_int) (pg_sub (pv 0) pe_int set_list))
      (pss_cons (ps_set (i := 3) sc__law_draw.nd rfl (Or.inl rfl)
          (pe_op op_mod (pe_op op_mul (pe_op op_add (pe_ix ix_list (pv 0) pe_int (fun _ _ => rfl)) pe_int) (pe_op op_add pe_int (pe_op op_mul pe_int (pe_ix ix_list (pv 0) pe_int (fun _ _ => rfl))))) pe_int))
      (pss_cons (ps_set (i := 3) sc__law_draw.nd rfl (Or.inl rfl)
          (pe_op op_mod (pe_op op_add (pe_op op_add (pe_op op_mul (pv 3) (pv 3)) (pe_op op_mul pe_int (pe_ix ix_list (pv 0) pe_int (fun _ _ => rfl)))) pe_int) pe_int))
      (pss_one (ps_ret (pe_op op_mod (pe_op op_fdiv (pe_op op_mod (pe_op op_mul (pv 3) pe_int) pe_int) pe_int) (pv 1))))))), ?_⟩
    have back : ∀ r : Int, 0 ≤ r % n ∧ r % n < n := fun r => ⟨Int.emod_nonneg _ (by omega), Int.emod_lt_of_pos _ n0⟩
    refine ⟨_, rfl, p, _, _, _, rfl, rfl, SqL.of hp, rfl, rfl, _, rfl, ?_⟩
    refine (fun slow => ite2 (fun _ => ⟨_, rfl, p, _, _, _, rfl, rfl, SqL.of hp, rfl, _, _, rfl, rfl, _, rfl, ite2 (fun _ => ?fast) (fun _ => slow)⟩) (fun _ => slow)) ?slow
    case fast =>
      refine ⟨_, rfl, p, _, _, _, rfl, rfl, SqL.of hp, rfl, _, rfl, _, _, rfl, rfl, n0, ?_⟩
      refine ⟨_, rfl, p, _, _, _, rfl, rfl, SqL.of hp, rfl, _, rfl, _, _, rfl, rfl, ⟨n0, n1⟩, _, rfl, p, _, _, _, rfl, rfl, hp, rfl, _, rfl, ?_⟩
      exact q _ _ (back _).1 (back _).2 ⟨_, b, c, d, upd_same, d0, d1⟩ (fun b hb => upd_ne hb)
    case slow =>
      refine ⟨_, rfl, p, _, _, _, rfl, rfl, SqL.of hp, rfl, _, _, rfl, rfl, _, rfl, p, _, _, _, rfl, rfl, hp, rfl, ?_⟩
      refine ⟨_, rfl, p, _, _, _, rfl, rfl, SqL.of upd_same, rfl, _, _, rfl, rfl, _, rfl, p, _, _, _, rfl, rfl, SqL.of upd_same, rfl, _, _, rfl, rfl, .inl ⟨by decide, by decide⟩, _, _, rfl, rfl, _, _, rfl, rfl, .inl ⟨by omega, by omega⟩, _, _, rfl, rfl, (by show (0 : Int) < 2147483647; decide), ?_⟩
      generalize hx : ((d + 17) * (69621 + 2 * (c + 1))) % 2147483647 = x
      have x0 : 0 ≤ x := by rw [← hx]; exact Int.emod_nonneg _ (by decide)
      have x1 : x < 2147483647 := by rw [← hx]; exact Int.emod_lt_of_pos _ (by decide)
      refine ⟨_, rfl, _, rfl, _, _, rfl, rfl, .inl ⟨by omega, by omega⟩, _, rfl, p, _, _, _, rfl, rfl, SqL.of upd_same, rfl, _, _, rfl, rfl, .inl ⟨by decide, by decide⟩, _, _, rfl, rfl, _, _, rfl, rfl, _, _, rfl, rfl, (by show (0 : Int) < 2147483629; decide), ?_⟩
      generalize hy : (x * x + 40503 * (c + 1) + 5) % 2147483629 = y
      have y0 : 0 ≤ y := by rw [← hy]; exact Int.emod_nonneg _ (by decide)
      have y1 : y < 2147483629 := by rw [← hy]; exact Int.emod_lt_of_pos _ (by decide)
      refine ⟨_, rfl, _, _, rfl, rfl, .inl ⟨by omega, by omega⟩, _, _, rfl, rfl, (by show (0 : Int) < 2147483647; decide), _, _, rfl, rfl, ⟨by decide, by decide⟩, _, rfl, _, _, rfl, rfl, n0, ?_⟩
      exact q _ _ (back _).1 (back _).2 ⟨a, b, c + 1, d, upd_same, d0, d1⟩ (fun b hb => upd_ne hb)
/-! ### what the law draws -/
def kLOwn (φ : En → Prop) : Prop := ∀ os, OwOk os → φ (.d (owD os))
theorem ok__law_owners (T : Txt K mg ad fd) : FnOk P w K mg base CX0 2 (ad 27) (fd 27) ps__law_owners (spP K (pp0 kLOwn)) := by
  refine (show Fun K "_law_owners" "_law_owners" st__law_owners (ad 27) (fd 27) from T.f 27 (by decide)).ok sc__law_owners (fun vs H Q E h => lep0 h) (fun cdv A outer s H vs Q E hr h => ?_)
  have hu := hu_of hr
  have hu65 := hu65_of hr
  refine ⟨_, (pss_cons (ps_set (i := 1) sc__law_owners.nd rfl (Or.inl rfl) (pe_ix (r := rIxL K) ix_list (pe_lst (pa_cons (pe_op op_add pe_int (pe_call (ok__law_draw (K := K) T) (hr.mono (by omega)) (by rfl) (T.g 26 (by decide)) (T.k 26 (by decide)) (bd__law_draw T) .nil pass0 (pa_cons (pv 0) (pa_cons pe_int pa_nil)))) (pa_cons (pe_op op_add pe_int (pe_call (ok__law_draw (K := K) T) (hr.mono (by omega)) (by rfl) (T.g 26 (by decide)) (T.k 26 (by decide)) (bd__law_draw T) .nil pass0 (pa_cons (pv 0) (pa_cons pe_int pa_nil)))) pa_nil))) (pe_call (ok__law_draw (K := K) T) (hr.mono (by omega)) (by rfl) (T.g 26 (by decide)) (T.k 26 (by decide)) (bd__law_draw T) .nil pass0 (pa_cons (pv 0) (pa_cons pe_int pa_nil))) (fun _ _ => rfl)))
  (pss_one (ps_ret (pe_callTy (r := rTuple K) cl_tuple (by rfl) (T.z 4 (by decide)) (by decide +kernel) (pa_cons (pe_lc (own := [("_law_k", 2)]) (g := (gName 2)) (tt := tYes) rfl sc__law_owners.nd (pi_range1 (by rfl) (T.z 2 (by decide)) (pa_cons (pv 1) pa_nil))
      (blkOk_by (N := nm__law_owners) (sc := defScope st__law_owners) (by decide +kernel)) (fun _ _ _ _ _ => by exact (pg_name (i := 2) sc__law_owners.nd rfl (Or.inl rfl))) (fun _ _ _ _ _ => pts_nil)
      (fun _ _ _ _ _ => by exact (pe_call (ok__law_draw (K := K) T) (hr.mono (by omega)) (by rfl) (T.g 26 (by decide)) (T.k 26 (by decide)) (bd__law_draw T) .nil pass0 (pa_cons (pv 0) (pa_cons (pe_op op_add pe_int (pe_call (ok__law_draw (K := K) T) (hr.mono (by omega)) (by rfl) (T.g 26 (by decide)) (T.k 26 (by decide)) (bd__law_draw T) .nil pass0 (pa_cons (pv 0) (pa_cons pe_int pa_nil)))) pa_nil))))) pa_nil))))), ?_⟩
  refine bodp0 h fun  φ hk => ?_
  rw [show stP nm__law_owners [] = [.pen, .no, .no] from rfl]
  (try simp only [dVar, dC, dNil, dCons, dTup, dLst, dOp, onI, dI, dI0, dUn, dEq, dNe, dIxT, dIxL, dIxLv, dAndV, dOrV, dNotV, dB, dAnd, dOr, dNot, dYes, dIf, dChain, dCB, dLenR, dLenv, dListR, dTupR, dMxR, dMnR, dIntR, dIsi, dNoPart, dPart, dSl, dCatA, dCat, dRep, dIn, dInD, dIsN, D.isN, dCall, dCallP, dCallS, dPen0, dTruv, dRg1, dRg2, dLstRg, dTupRg, dLenSet, wf, wb, wi, wt, wl, vD, isSc, dSeq, dNext, dRet, dRetv, dRetN, dIfS, dAsg, dAsgT, dgTup, dgCons, dPar, dApp, dExt, dSetL, dPopAt, dRse, dNever, dDrop, dITup, dILst, dIRng1, dIRng2, dIDn, dIEnT, dIEnL, dIZip, po, poP, sp0, sp1, sp2, sp3, sp4, sp5, pp0, pp1, pp2, pp3, List.set_cons_zero, List.set_cons_succ, List.getElem?_cons_zero, List.getElem?_cons_succ, List.all_nil, List.map_nil, List.append_nil, List.cons_append, List.nil_append, true_and, ite_true, if_true])
  refine ⟨3, rfl, by decide, by decide, fun a a0 a1 => ?_⟩
  refine ⟨12, rfl, by decide, by decide, fun b b0 b1 => ?_⟩
  refine ⟨by simp, 2, rfl, by decide, by decide, fun k k0 k1 => ?_⟩
  have hn : ∃ n : Int, atI [D.int (1 + a), D.int (1 + b)] k = some (.int n) ∧ 1 ≤ n ∧ n ≤ 12 := by
    have : k = 0 ∨ k = 1 := by omega
    rcases this with rfl | rfl
    · exact ⟨_, rfl, by omega, by omega⟩
    · exact ⟨_, rfl, by omega, by omega⟩
  obtain ⟨n, en, n1, n2⟩ := hn
  refine ⟨_, en, rfl, by omega, by omega, by rw [upI_len]; omega, fun i acc Γ => Γ = [.pen, .d (.int n), .no] ∧ ∃ os : List Int, acc = os.map .int ∧ os.length = i ∧ ∀ o ∈ os, 0 ≤ o ∧ o ≤ 5, ⟨rfl, [], rfl, rfl, by simp⟩, ?_⟩
  rintro i acc Γ ⟨rfl, os, rfl, hl, ho⟩
  refine ⟨fun e => ?_, fun d hd => ?_⟩
  · rw [upI_len] at e
    exact ⟨(fun z => nomatch z), hk os ⟨by omega, by omega, ho⟩⟩
  · (try simp only [dVar, dC, dNil, dCons, dTup, dLst, dOp, onI, dI, dI0, dUn, dEq, dNe, dIxT, dIxL, dIxLv, dAndV, dOrV, dNotV, dB, dAnd, dOr, dNot, dYes, dIf, dChain, dCB, dLenR, dLenv, dListR, dTupR, dMxR, dMnR, dIntR, dIsi, dNoPart, dPart, dSl, dCatA, dCat, dRep, dIn, dInD, dIsN, D.isN, dCall, dCallP, dCallS, dPen0, dTruv, dRg1, dRg2, dLstRg, dTupRg, dLenSet, wf, wb, wi, wt, wl, vD, isSc, dSeq, dNext, dRet, dRetv, dRetN, dIfS, dAsg, dAsgT, dgTup, dgCons, dPar, dApp, dExt, dSetL, dPopAt, dRse, dNever, dDrop, dITup, dILst, dIRng1, dIRng2, dIDn, dIEnT, dIEnL, dIZip, po, poP, sp0, sp1, sp2, sp3, sp4, sp5, pp0, pp1, pp2, pp3, List.set_cons_zero, List.set_cons_succ, List.getElem?_cons_zero, List.getElem?_cons_succ, List.all_nil, List.map_nil, List.append_nil, List.cons_append, List.nil_append, true_and, ite_true, if_true])
    refine ⟨rfl, rfl, rfl, 5, rfl, by decide, by decide, fun c c0 c1 => ?_⟩
    (try simp only [dVar, dC, dNil, dCons, dTup, dLst, dOp, onI, dI, dI0, dUn, dEq, dNe, dIxT, dIxL, dIxLv, dAndV, dOrV, dNotV, dB, dAnd, dOr, dNot, dYes, dIf, dChain, dCB, dLenR, dLenv, dListR, dTupR, dMxR, dMnR, dIntR, dIsi, dNoPart, dPart, dSl, dCatA, dCat, dRep, dIn, dInD, dIsN, D.isN, dCall, dCallP, dCallS, dPen0, dTruv, dRg1, dRg2, dLstRg, dTupRg, dLenSet, wf, wb, wi, wt, wl, vD, isSc, dSeq, dNext, dRet, dRetv, dRetN, dIfS, dAsg, dAsgT, dgTup, dgCons, dPar, dApp, dExt, dSetL, dPopAt, dRse, dNever, dDrop, dITup, dILst, dIRng1, dIRng2, dIDn, dIEnT, dIEnL, dIZip, po, poP, sp0, sp1, sp2, sp3, sp4, sp5, pp0, pp1, pp2, pp3, List.set_cons_zero, List.set_cons_succ, List.getElem?_cons_zero, List.getElem?_cons_succ, List.all_nil, List.map_nil, List.append_nil, List.cons_append, List.nil_append, true_and, ite_true, if_true])
    refine ⟨rfl, 2 + c, rfl, by omega, by omega, fun o o0 o1 => ?_⟩
    refine ⟨rfl, os ++ [o], by rw [List.map_append]; rfl, by rw [List.length_append]; simp [hl], fun x hx => ?_⟩
    rcases List.mem_append.mp hx with z | z
    · exact ho x z
    · rw [List.mem_singleton] at z
      omega
theorem map_erase {α β : Type} (g : α → β) : ∀ (l : List α) (k : Nat), (l.map g).eraseIdx k = (l.eraseIdx k).map g
  | [], _ => rfl
  | _ :: _, 0 => rfl
  | a :: r, k + 1 => by
    show g a :: (r.map g).eraseIdx k = g a :: (r.eraseIdx k).map g
    rw [map_erase g r k]
theorem erase_perm {α : Type} : ∀ (l : List α) (k : Nat) (h : k < l.length), ([l[k]] ++ l.eraseIdx k).Perm l
  | a :: r, 0, h => List.Perm.refl _
  | a :: r, k + 1, h => by
    have ih := erase_perm r k (by simpa using h)
    show (r[k]'(by simpa using h) :: a :: r.eraseIdx k).Perm (a :: r)
    exact (List.Perm.swap a _ _).trans (List.Perm.cons a ih)
def kLMix (x : D) (φ : En → Prop) : Prop := ∃ is : List Int, x = .lst (is.map .int) ∧ is.length ≤ 12 ∧ ∀ js : List Int, js.Perm is → φ (.lst (js.map .int))
theorem ok__law_mixed (T : Txt K mg ad fd) : FnOk P w K mg base CX0 2 (ad 28) (fd 28) ps__law_mixed (spP K (pp1 kLMix)) := by
  refine (show Fun K "_law_mixed" "_law_mixed" st__law_mixed (ad 28) (fd 28) from T.f 28 (by decide)).ok sc__law_mixed (fun vs H Q E h => lep1 h) (fun cdv A outer s H vs Q E hr h => ?_)
  have hu := hu_of hr
  have hu65 := hu65_of hr
  refine ⟨_, (pss_cons (ps_set (i := 2) sc__law_mixed.nd rfl (Or.inr rfl) (pe_callTy (r := rList K) cl_list (by rfl) (T.z 14 (by decide)) (by decide +kernel) (pa_cons (pv 1) pa_nil)))
  (pss_one (ps_ret (pe_lc (own := [("_law_k", 3)]) (g := (gName 3)) (tt := tYes) rfl sc__law_mixed.nd (pi_range1 (by rfl) (T.z 2 (by decide)) (pa_cons (pe_callB (r := Da.rLen K) cl_len (by rfl) (T.z 0 (by decide)) (by decide +kernel) (pa_cons (pv 2) pa_nil)) pa_nil))
      (blkOk_by (N := nm__law_mixed) (sc := defScope st__law_mixed) (by decide +kernel)) (fun _ _ _ _ _ => by exact (pg_name (i := 3) sc__law_mixed.nd rfl (Or.inl rfl))) (fun _ _ _ _ _ => pts_nil)
      (fun _ _ _ _ _ => by exact (pe_bmK (K := K) PySem.F.plainAttrs_list PySem.F.slot_list_pop PySem.F.type_list_pop mt_popAt (pv 2) (pa_cons (pe_call (ok__law_draw (K := K) T) (hr.mono (by omega)) (by rfl) (T.g 26 (by decide)) (T.k 26 (by decide)) (bd__law_draw T) .nil pass0 (pa_cons (pv 0) (pa_cons (pe_callB (r := Da.rLen K) cl_len (by rfl) (T.z 0 (by decide)) (by decide +kernel) (pa_cons (pv 2) pa_nil)) pa_nil))) pa_nil))))))), ?_⟩
  refine bodp1 h fun x φ hk => ?_
  rw [show stP nm__law_mixed [x] = [.pen, .d x, .no, .no] from rfl]
  obtain ⟨is, rfl, il, hk⟩ := hk
  (try simp only [dVar, dC, dNil, dCons, dTup, dLst, dOp, onI, dI, dI0, dUn, dEq, dNe, dIxT, dIxL, dIxLv, dAndV, dOrV, dNotV, dB, dAnd, dOr, dNot, dYes, dIf, dChain, dCB, dLenR, dLenv, dListR, dTupR, dMxR, dMnR, dIntR, dIsi, dNoPart, dPart, dSl, dCatA, dCat, dRep, dIn, dInD, dIsN, D.isN, dCall, dCallP, dCallS, dPen0, dTruv, dRg1, dRg2, dLstRg, dTupRg, dLenSet, wf, wb, wi, wt, wl, vD, isSc, dSeq, dNext, dRet, dRetv, dRetN, dIfS, dAsg, dAsgT, dgTup, dgCons, dPar, dApp, dExt, dSetL, dPopAt, dRse, dNever, dDrop, dITup, dILst, dIRng1, dIRng2, dIDn, dIEnT, dIEnL, dIZip, po, poP, sp0, sp1, sp2, sp3, sp4, sp5, pp0, pp1, pp2, pp3, List.set_cons_zero, List.set_cons_succ, List.getElem?_cons_zero, List.getElem?_cons_succ, List.all_nil, List.map_nil, List.append_nil, List.cons_append, List.nil_append, true_and, ite_true, if_true])
  refine ⟨rfl, by rw [List.length_map]; omega, by rw [List.length_map]; omega, by rw [upI_len, List.length_map]; omega, fun i acc Γ => ∃ js ls : List Int, Γ = [.pen, .d (.lst (is.map .int)), .lst (ls.map .int), .no] ∧ acc = js.map .int ∧ js.length = i ∧ (js ++ ls).Perm is, ⟨[], is, rfl, rfl, rfl, List.Perm.refl _⟩, ?_⟩
  rintro i acc Γ ⟨js, ls, rfl, rfl, hl, hp⟩
  have tot := hp.length_eq
  rw [List.length_append] at tot
  refine ⟨fun e => ?_, fun d hd => ?_⟩
  · rw [upI_len, List.length_map] at e
    have : ls = [] := by
      cases ls with
      | nil => rfl
      | cons a r => simp at tot; omega
    subst this
    rw [List.append_nil] at hp
    exact ⟨(fun z => nomatch z), hk js hp⟩
  · have hi := (upI_get hd).1
    rw [List.length_map] at hi
    (try simp only [dVar, dC, dNil, dCons, dTup, dLst, dOp, onI, dI, dI0, dUn, dEq, dNe, dIxT, dIxL, dIxLv, dAndV, dOrV, dNotV, dB, dAnd, dOr, dNot, dYes, dIf, dChain, dCB, dLenR, dLenv, dListR, dTupR, dMxR, dMnR, dIntR, dIsi, dNoPart, dPart, dSl, dCatA, dCat, dRep, dIn, dInD, dIsN, D.isN, dCall, dCallP, dCallS, dPen0, dTruv, dRg1, dRg2, dLstRg, dTupRg, dLenSet, wf, wb, wi, wt, wl, vD, isSc, dSeq, dNext, dRet, dRetv, dRetN, dIfS, dAsg, dAsgT, dgTup, dgCons, dPar, dApp, dExt, dSetL, dPopAt, dRse, dNever, dDrop, dITup, dILst, dIRng1, dIRng2, dIDn, dIEnT, dIEnL, dIZip, po, poP, sp0, sp1, sp2, sp3, sp4, sp5, pp0, pp1, pp2, pp3, List.set_cons_zero, List.set_cons_succ, List.getElem?_cons_zero, List.getElem?_cons_succ, List.all_nil, List.map_nil, List.append_nil, List.cons_append, List.nil_append, true_and, ite_true, if_true])
    refine ⟨⟨_, rfl⟩, rfl, rfl, ls.length, by rw [List.length_map], by omega, by omega, fun r r0 r1 => ?_⟩
    have rl : r.toNat < ls.length := by omega
    refine ⟨_, r.toNat, .int ls[r.toNat], rfl, by omega, by omega, ?_, by rw [List.getElem?_map, List.getElem?_eq_getElem rl]; rfl, ?_⟩
    · rw [List.length_map]
      unfold seqIndex?
      show (if (decide (0 ≤ (if r < 0 then r + (ls.length : Int) else r)) && decide ((if r < 0 then r + (ls.length : Int) else r) < (ls.length : Int))) = true then some (if r < 0 then r + (ls.length : Int) else r).toNat else none) = some r.toNat
      rw [if_neg (show ¬ r < 0 by omega), if_pos (by simp; omega)]
    · refine ⟨js ++ [ls[r.toNat]], ls.eraseIdx r.toNat, ?_, by rw [List.map_append]; rfl, by rw [List.length_append]; simp [hl], ?_⟩
      · rw [map_erase]
        rfl
      · refine List.Perm.trans ?_ hp
        rw [List.append_assoc]
        refine List.Perm.append_left _ ?_
        exact erase_perm ls r.toNat rl
end
end Dl

set_option Elab.async false
set_option maxRecDepth 100000
set_option maxHeartbeats 4000000
set_option linter.all false
set_option synthInstance.maxHeartbeats 4000000
set_option synthInstance.maxSize 10000

namespace Dl
open PySem PySem.Spec PyProof.Rows L2 RZ HmS Da
section
variable {P : Program} {w : World} {K : PySem.W.Frag} [HasT K] {mg : Str → Option Value} {base : Heap} {ad : Nat → Addr} {fd : Nat → FuncData}
def kLDeal (x : D) (φ : En → Prop) : Prop := ∃ os, x = owD os ∧ OwOk os ∧ ∀ d, DlOk os d → φ (.d (dlD d))
theorem ok__law_deal (T : Txt K mg ad fd) : FnOk P w K mg base CX0 3 (ad 29) (fd 29) ps__law_deal (spP K (pp1 kLDeal)) := by
  refine (show Fun K "_law_deal" "_law_deal" st__law_deal (ad 29) (fd 29) from T.f 29 (by decide)).ok sc__law_deal (fun vs H Q E h => lep1 h) (fun cdv A outer s H vs Q E hr h => ?_)
  have hu := hu_of hr
  have hu65 := hu65_of hr
  refine ⟨_, (pss_cons (ps_set (i := 2) sc__law_deal.nd rfl (Or.inl rfl) (pe_slice (r := rSlL K) sl_list (pe_call (ok__law_mixed (K := K) T) (hr.mono (by omega)) (by rfl) (T.g 28 (by decide)) (T.k 28 (by decide)) (bd__law_mixed T) .nil pass0 (pa_cons (pv 0) (pa_cons (pe_listRg rfl (by rfl) (T.z 14 (by decide)) (prg_1 (by rfl) (T.z 2 (by decide)) (pe_callB (r := Da.rLen K) cl_len (by rfl) (T.z 0 (by decide)) (by decide +kernel) (pa_cons (pv 1) pa_nil)))) pa_nil))) po_none (po_some (pe_op op_add pe_int (pe_call (ok__law_draw (K := K) T) (hr.mono (by omega)) (by rfl) (T.g 26 (by decide)) (T.k 26 (by decide)) (bd__law_draw T) .nil pass0 (pa_cons (pv 0) (pa_cons (pe_ix (r := rIxL K) ix_list (pe_lst (pa_cons pe_int (pa_cons pe_int pa_nil))) (pe_call (ok__law_draw (K := K) T) (hr.mono (by omega)) (by rfl) (T.g 26 (by decide)) (T.k 26 (by decide)) (bd__law_draw T) .nil pass0 (pa_cons (pv 0) (pa_cons pe_int pa_nil))) (fun _ _ => rfl)) pa_nil)))))))
  (pss_cons (ps_set (i := 3) sc__law_deal.nd rfl (Or.inl rfl) (pe_lst pa_nil))
  (pss_cons (ps_for PassesOwn.never rfl (pi_listK (K := K) (pv 2)) (pg_name (i := 4) sc__law_deal.nd rfl (Or.inl rfl))
    (pss_one (ps_expr (pe_bmK (K := K) PySem.F.plainAttrs_list PySem.F.slot_list_append PySem.F.type_list_append mt_append (pv 3) (pa_cons (pe_tup (pa_cons (pv 4) (pa_cons (pe_ix (r := rIxT K) ix_tup (pv 1) (pv 4) (fun _ _ => rfl)) (pa_cons (pe_op op_mod (pe_op op_add (pe_op op_add (pe_ix (r := rIxT K) ix_tup (pv 1) (pv 4) (fun _ _ => rfl)) pe_int) (pe_call (ok__law_draw (K := K) T) (hr.mono (by omega)) (by rfl) (T.g 26 (by decide)) (T.k 26 (by decide)) (bd__law_draw T) .nil pass0 (pa_cons (pv 0) (pa_cons pe_int pa_nil)))) pe_int) pa_nil)))) pa_nil)))))
  (pss_one (ps_ret (pe_callTy (r := rTuple K) cl_tuple (by rfl) (T.z 4 (by decide)) (by decide +kernel) (pa_cons (pv 3) pa_nil))))))), ?_⟩
  refine bodp1 h fun x φ hk => ?_
  rw [show stP nm__law_deal [x] = [.pen, .d x, .no, .no, .no] from rfl]
  obtain ⟨os, rfl, ok, hk⟩ := hk
  have l0 := ok.l0
  have l1 := ok.l1
  (try simp only [dVar, dC, dNil, dCons, dTup, dLst, dOp, onI, dI, dI0, dUn, dEq, dNe, dIxT, dIxL, dIxLv, dAndV, dOrV, dNotV, dB, dAnd, dOr, dNot, dYes, dIf, dChain, dCB, dLenR, dLenv, dListR, dTupR, dMxR, dMnR, dIntR, dIsi, dNoPart, dPart, dSl, dCatA, dCat, dRep, dIn, dInD, dIsN, D.isN, dCall, dCallP, dCallS, dPen0, dTruv, dRg1, dRg2, dLstRg, dTupRg, dLenSet, wf, wb, wi, wt, wl, vD, isSc, dSeq, dNext, dRet, dRetv, dRetN, dIfS, dAsg, dAsgT, dgTup, dgCons, dPar, dApp, dExt, dSetL, dPopAt, dRse, dNever, dDrop, dITup, dILst, dIRng1, dIRng2, dIDn, dIEnT, dIEnL, dIZip, po, poP, sp0, sp1, sp2, sp3, sp4, sp5, pp0, pp1, pp2, pp3, List.set_cons_zero, List.set_cons_succ, List.getElem?_cons_zero, List.getElem?_cons_succ, List.all_nil, List.map_nil, List.append_nil, List.cons_append, List.nil_append, true_and, ite_true, if_true, owD])
  refine ⟨by decide, by decide, by omega, by rw [List.length_map]; omega, ?_⟩
  have er : upI 0 ((List.map D.int os).length - 0 : Int).toNat = ((List.range os.length).map fun i : Nat => ((0 : Int) + (i : Int))).map D.int := by
    unfold upI
    rw [List.map_map, List.length_map, show ((os.length : Int) - 0).toNat = os.length by omega]
    rfl
  rw [er]
  refine ⟨_, rfl, by rw [List.length_map, List.length_range]; exact l1, fun js hj => ?_⟩
  have jn : js.Nodup := hj.symm.nodup (by
    rw [List.nodup_iff_pairwise_ne, List.pairwise_map]
    exact List.Pairwise.imp (fun h e => by omega) List.pairwise_lt_range)
  have jr : ∀ j ∈ js, 0 ≤ j ∧ j < os.length := fun j hjj => by
    obtain ⟨i, hi, rfl⟩ := List.mem_map.mp (hj.mem_iff.mp hjj)
    have := List.mem_range.mp hi
    omega
  have jl : js.length = os.length := by rw [hj.length_eq, List.length_map, List.length_range]
  refine ⟨by simp, 2, rfl, by decide, by decide, fun k k0 k1 => ?_⟩
  have hn : ∃ n : Int, atI [D.int 2, D.int 6] k = some (.int n) ∧ 2 ≤ n ∧ n ≤ 6 := by
    have : k = 0 ∨ k = 1 := by omega
    rcases this with rfl | rfl
    · exact ⟨_, rfl, by omega, by omega⟩
    · exact ⟨_, rfl, by omega, by omega⟩
  obtain ⟨n, en, n1, n2⟩ := hn
  refine ⟨_, en, n, rfl, by omega, by omega, fun c c0 c1 => ?_⟩
  obtain ⟨t, ht⟩ : ∃ t : Nat, (1 + c : Int) = (t : Int) := ⟨(1 + c).toNat, by omega⟩
  (try simp only [dVar, dC, dNil, dCons, dTup, dLst, dOp, onI, dI, dI0, dUn, dEq, dNe, dIxT, dIxL, dIxLv, dAndV, dOrV, dNotV, dB, dAnd, dOr, dNot, dYes, dIf, dChain, dCB, dLenR, dLenv, dListR, dTupR, dMxR, dMnR, dIntR, dIsi, dNoPart, dPart, dSl, dCatA, dCat, dRep, dIn, dInD, dIsN, D.isN, dCall, dCallP, dCallS, dPen0, dTruv, dRg1, dRg2, dLstRg, dTupRg, dLenSet, wf, wb, wi, wt, wl, vD, isSc, dSeq, dNext, dRet, dRetv, dRetN, dIfS, dAsg, dAsgT, dgTup, dgCons, dPar, dApp, dExt, dSetL, dPopAt, dRse, dNever, dDrop, dITup, dILst, dIRng1, dIRng2, dIDn, dIEnT, dIEnL, dIZip, po, poP, sp0, sp1, sp2, sp3, sp4, sp5, pp0, pp1, pp2, pp3, List.set_cons_zero, List.set_cons_succ, List.getElem?_cons_zero, List.getElem?_cons_succ, List.all_nil, List.map_nil, List.append_nil, List.cons_append, List.nil_append, true_and, ite_true, if_true])
  rw [ht, cutL_to, ← List.map_take]
  have t1 : 1 ≤ t := by omega
  have t6 : t ≤ 6 := by omega
  have sn : (js.take t).Nodup := (List.take_sublist t js).nodup jn
  have sr : ∀ j ∈ js.take t, 0 ≤ j ∧ j < os.length := fun j h => jr j (List.mem_of_mem_take h)
  have sl1 : 1 ≤ (js.take t).length := by rw [List.length_take]; omega
  have sl6 : (js.take t).length ≤ 6 := by rw [List.length_take]; omega
  generalize js.take t = st at *
  refine ⟨by simp, fun i Γ => ∃ v4, ∃ d : List Mv, Γ = [.pen, .d (.tup (os.map .int)), .d (.lst (st.map .int)), .lst (d.map mvD), v4] ∧ mvd d = st.take i ∧ ∀ m ∈ d, MvOk os m, ⟨_, [], rfl, rfl, by simp⟩, ?_⟩
  rintro i Γ ⟨v4, d, rfl, hd, hm⟩
  refine ⟨fun e => ?_, fun y hy => ?_⟩
  · rw [List.length_map] at e
    rw [e, List.take_length] at hd
    have dl0 : d.length = st.length := by rw [← hd]; unfold mvd; rw [List.length_map]
    exact ⟨(fun z => nomatch z), hk d ⟨by omega, by omega, hm, by rw [hd]; exact sn⟩⟩
  · obtain ⟨s, hs, rfl⟩ := at_map hy
    have s01 := sr s (List.mem_of_getElem? hs)
    have so : os[s.toNat]? = some os[s.toNat] := List.getElem?_eq_getElem (by omega)
    generalize os[s.toNat] = o at so
    have o05 := ok.rng o (List.mem_of_getElem? so)
    have ea : atI (os.map D.int) s = some (.int o) := by
      have z := atI_ok (xs := os.map D.int) (i := s.toNat) (x := .int o) (by rw [List.getElem?_map, so]; rfl)
      rw [Int.toNat_of_nonneg s01.1] at z
      exact z
    (try simp only [dVar, dC, dNil, dCons, dTup, dLst, dOp, onI, dI, dI0, dUn, dEq, dNe, dIxT, dIxL, dIxLv, dAndV, dOrV, dNotV, dB, dAnd, dOr, dNot, dYes, dIf, dChain, dCB, dLenR, dLenv, dListR, dTupR, dMxR, dMnR, dIntR, dIsi, dNoPart, dPart, dSl, dCatA, dCat, dRep, dIn, dInD, dIsN, D.isN, dCall, dCallP, dCallS, dPen0, dTruv, dRg1, dRg2, dLstRg, dTupRg, dLenSet, wf, wb, wi, wt, wl, vD, isSc, dSeq, dNext, dRet, dRetv, dRetN, dIfS, dAsg, dAsgT, dgTup, dgCons, dPar, dApp, dExt, dSetL, dPopAt, dRse, dNever, dDrop, dITup, dILst, dIRng1, dIRng2, dIDn, dIEnT, dIEnL, dIZip, po, poP, sp0, sp1, sp2, sp3, sp4, sp5, pp0, pp1, pp2, pp3, List.set_cons_zero, List.set_cons_succ, List.getElem?_cons_zero, List.getElem?_cons_succ, List.all_nil, List.map_nil, List.append_nil, List.cons_append, List.nil_append, true_and, ite_true, if_true])
    refine ⟨⟨_, rfl⟩, _, ea, _, ea, ?_⟩
    (try simp only [dVar, dC, dNil, dCons, dTup, dLst, dOp, onI, dI, dI0, dUn, dEq, dNe, dIxT, dIxL, dIxLv, dAndV, dOrV, dNotV, dB, dAnd, dOr, dNot, dYes, dIf, dChain, dCB, dLenR, dLenv, dListR, dTupR, dMxR, dMnR, dIntR, dIsi, dNoPart, dPart, dSl, dCatA, dCat, dRep, dIn, dInD, dIsN, D.isN, dCall, dCallP, dCallS, dPen0, dTruv, dRg1, dRg2, dLstRg, dTupRg, dLenSet, wf, wb, wi, wt, wl, vD, isSc, dSeq, dNext, dRet, dRetv, dRetN, dIfS, dAsg, dAsgT, dgTup, dgCons, dPar, dApp, dExt, dSetL, dPopAt, dRse, dNever, dDrop, dITup, dILst, dIRng1, dIRng2, dIDn, dIEnT, dIEnL, dIZip, po, poP, sp0, sp1, sp2, sp3, sp4, sp5, pp0, pp1, pp2, pp3, List.set_cons_zero, List.set_cons_succ, List.getElem?_cons_zero, List.getElem?_cons_succ, List.all_nil, List.map_nil, List.append_nil, List.cons_append, List.nil_append, true_and, ite_true, if_true])
    have dl6 : (d.map mvD).length ≤ 100000 := by
      have e1 : (mvd d).length = (st.take i).length := by rw [hd]
      unfold mvd at e1
      rw [List.length_map, List.length_take] at e1
      rw [List.length_map]
      omega
    refine ⟨5, rfl, by decide, by decide, fun c c0 c1 => ?_⟩
    (try simp only [dVar, dC, dNil, dCons, dTup, dLst, dOp, onI, dI, dI0, dUn, dEq, dNe, dIxT, dIxL, dIxLv, dAndV, dOrV, dNotV, dB, dAnd, dOr, dNot, dYes, dIf, dChain, dCB, dLenR, dLenv, dListR, dTupR, dMxR, dMnR, dIntR, dIsi, dNoPart, dPart, dSl, dCatA, dCat, dRep, dIn, dInD, dIsN, D.isN, dCall, dCallP, dCallS, dPen0, dTruv, dRg1, dRg2, dLstRg, dTupRg, dLenSet, wf, wb, wi, wt, wl, vD, isSc, dSeq, dNext, dRet, dRetv, dRetN, dIfS, dAsg, dAsgT, dgTup, dgCons, dPar, dApp, dExt, dSetL, dPopAt, dRse, dNever, dDrop, dITup, dILst, dIRng1, dIRng2, dIDn, dIEnT, dIEnL, dIZip, po, poP, sp0, sp1, sp2, sp3, sp4, sp5, pp0, pp1, pp2, pp3, List.set_cons_zero, List.set_cons_succ, List.getElem?_cons_zero, List.getElem?_cons_succ, List.all_nil, List.map_nil, List.append_nil, List.cons_append, List.nil_append, true_and, ite_true, if_true])
    refine ⟨by decide, by simp, _, rfl, dl6, ?_⟩
    refine ⟨_, d ++ [(s, o, (o + 1 + c) % 6)], by rw [List.map_append]; rfl, ?_, fun m hmm => ?_⟩
    · have et : st.take (i + 1) = st.take i ++ [s] := by rw [List.take_add_one, hs]; rfl
      rw [et, ← hd]
      unfold mvd
      rw [List.map_append]
      rfl
    · rcases List.mem_append.mp hmm with z | z
      · exact hm m z
      · rw [List.mem_singleton] at z
        subst z
        exact ⟨s01.1, s01.2, o05.1, o05.2, by show 0 ≤ (o + 1 + c) % 6; omega, by show (o + 1 + c) % 6 ≤ 5; omega, by show o ≠ (o + 1 + c) % 6; omega, so⟩
def kLBeh (o x : D) (φ : En → Prop) : Prop := ∃ os ds, o = owD os ∧ x = dsD ds ∧ DlsOk os ds ∧ ds.length ≤ 20 ∧ φ (.d (owD (doneM os ds)))
theorem ok__law_behind (T : Txt K mg ad fd) : FnOk P w K mg base CX0 1 (ad 30) (fd 30) ps__law_behind (spX K (sp2 kLBeh)) := by
  refine (show Fun K "_law_behind" "_law_behind" st__law_behind (ad 30) (fd 30) from T.f 30 (by decide)).ok sc__law_behind (fun vs H Q E h => len2 h) (fun cdv A outer s H vs Q E hr h => ?_)
  have hu := hu_of hr
  have hu65 := hu65_of hr
  refine ⟨_, (pss_cons (ps_set (i := 2) sc__law_behind.nd rfl (Or.inr rfl) (pe_callTy (r := rList K) cl_list (by rfl) (T.z 14 (by decide)) (by decide +kernel) (pa_cons (pv 0) pa_nil)))
  (pss_cons (ps_for PassesOwn.never rfl (pi_tupK (K := K) (pv 1)) (pg_name (i := 3) sc__law_behind.nd rfl (Or.inl rfl))
    (pss_cons (ps_if (pt_cmpR (r := rNeD K) (op_neD hr.units) (pe_lc (own := [("_law_stamp", 4), ("_law_giver", 5), ("_law_taker", 6)]) (g := (gTup K 3 (gCons (gName 4) (gCons (gName 5) (gCons (gName 6) gNil))))) rfl sc__law_behind.nd (pi_tupK (K := K) (pv 3))
      (blkOk_by (N := nm__law_behind) (sc := defScope st__law_behind) (by decide +kernel)) (fun _ _ _ _ _ => by exact (pg_tupK (K := K) (n := 3) rfl (pgs_cons (pg_name (i := 4) sc__law_behind.nd rfl (Or.inl rfl)) (pgs_cons (pg_name (i := 5) sc__law_behind.nd rfl (Or.inl rfl)) (pgs_cons (pg_name (i := 6) sc__law_behind.nd rfl (Or.inl rfl)) pgs_nil))))) (fun _ _ _ _ _ => pts_one (pt_cmpR (r := rNeD K) (op_neD hr.units) (pe_ix (r := rIxL K) ix_list (pv 2) (pv 4) (fun _ _ => rfl)) (pv 5) (nomark _)))
      (fun _ _ _ _ _ => by exact pe_int)) (pe_lst pa_nil) (nomark _))
    (pss_one (ps_ret pe_non))
    pss_nil)
  (pss_one (ps_for PassesOwn.never rfl (pi_tupK (K := K) (pv 3)) (pg_tupK (K := K) (n := 3) rfl (pgs_cons (pg_name (i := 4) sc__law_behind.nd rfl (Or.inl rfl)) (pgs_cons (pg_name (i := 5) sc__law_behind.nd rfl (Or.inl rfl)) (pgs_cons (pg_name (i := 6) sc__law_behind.nd rfl (Or.inl rfl)) pgs_nil))))
    (pss_one (ps_asg (pv 6) (pg_sub (pv 2) (pv 4) set_list)))))))
  (pss_one (ps_ret (pe_callTy (r := rTuple K) cl_tuple (by rfl) (T.z 4 (by decide)) (by decide +kernel) (pa_cons (pv 2) pa_nil)))))), ?_⟩
  refine body2 h fun x y φ hk => ?_
  rw [show st0 nm__law_behind [x, y] = [.d x, .d y, .no, .no, .no, .no, .no] from rfl]
  obtain ⟨os, ds, rfl, rfl, ok, dl1, hk⟩ := hk
  (try simp only [dVar, dC, dNil, dCons, dTup, dLst, dOp, onI, dI, dI0, dUn, dEq, dNe, dIxT, dIxL, dIxLv, dAndV, dOrV, dNotV, dB, dAnd, dOr, dNot, dYes, dIf, dChain, dCB, dLenR, dLenv, dListR, dTupR, dMxR, dMnR, dIntR, dIsi, dNoPart, dPart, dSl, dCatA, dCat, dRep, dIn, dInD, dIsN, D.isN, dCall, dCallP, dCallS, dPen0, dTruv, dRg1, dRg2, dLstRg, dTupRg, dLenSet, wf, wb, wi, wt, wl, vD, isSc, dSeq, dNext, dRet, dRetv, dRetN, dIfS, dAsg, dAsgT, dgTup, dgCons, dPar, dApp, dExt, dSetL, dPopAt, dRse, dNever, dDrop, dITup, dILst, dIRng1, dIRng2, dIDn, dIEnT, dIEnL, dIZip, po, poP, sp0, sp1, sp2, sp3, sp4, sp5, pp0, pp1, pp2, pp3, List.set_cons_zero, List.set_cons_succ, List.getElem?_cons_zero, List.getElem?_cons_succ, List.all_nil, List.map_nil, List.append_nil, List.cons_append, List.nil_append, true_and, ite_true, if_true, owD, dsD])
  refine ⟨fun i Γ => ∃ v3 v4 v5 v6, Γ = [.d (owD os), .d (dsD ds), .lst ((doneM os (ds.take i)).map .int), v3, v4, v5, v6], ⟨_, _, _, _, rfl⟩, ?_⟩
  rintro i Γ ⟨v3, v4, v5, v6, rfl⟩
  refine ⟨fun e => ?_, fun y hy => ?_⟩
  · rw [e, List.length_map, List.take_length]
    (try simp only [dVar, dC, dNil, dCons, dTup, dLst, dOp, onI, dI, dI0, dUn, dEq, dNe, dIxT, dIxL, dIxLv, dAndV, dOrV, dNotV, dB, dAnd, dOr, dNot, dYes, dIf, dChain, dCB, dLenR, dLenv, dListR, dTupR, dMxR, dMnR, dIntR, dIsi, dNoPart, dPart, dSl, dCatA, dCat, dRep, dIn, dInD, dIsN, D.isN, dCall, dCallP, dCallS, dPen0, dTruv, dRg1, dRg2, dLstRg, dTupRg, dLenSet, wf, wb, wi, wt, wl, vD, isSc, dSeq, dNext, dRet, dRetv, dRetN, dIfS, dAsg, dAsgT, dgTup, dgCons, dPar, dApp, dExt, dSetL, dPopAt, dRse, dNever, dDrop, dITup, dILst, dIRng1, dIRng2, dIDn, dIEnT, dIEnL, dIZip, po, poP, sp0, sp1, sp2, sp3, sp4, sp5, pp0, pp1, pp2, pp3, List.set_cons_zero, List.set_cons_succ, List.getElem?_cons_zero, List.getElem?_cons_succ, List.all_nil, List.map_nil, List.append_nil, List.cons_append, List.nil_append, true_and, ite_true, if_true])
    exact hk
  · obtain ⟨d, hd, rfl⟩ := at_map hy
    obtain ⟨rfl, il⟩ := dl_at hd
    have okd := dlsOk_at ok il
    (try simp only [dVar, dC, dNil, dCons, dTup, dLst, dOp, onI, dI, dI0, dUn, dEq, dNe, dIxT, dIxL, dIxLv, dAndV, dOrV, dNotV, dB, dAnd, dOr, dNot, dYes, dIf, dChain, dCB, dLenR, dLenv, dListR, dTupR, dMxR, dMnR, dIntR, dIsi, dNoPart, dPart, dSl, dCatA, dCat, dRep, dIn, dInD, dIsN, D.isN, dCall, dCallP, dCallS, dPen0, dTruv, dRg1, dRg2, dLstRg, dTupRg, dLenSet, wf, wb, wi, wt, wl, vD, isSc, dSeq, dNext, dRet, dRetv, dRetN, dIfS, dAsg, dAsgT, dgTup, dgCons, dPar, dApp, dExt, dSetL, dPopAt, dRse, dNever, dDrop, dITup, dILst, dIRng1, dIRng2, dIDn, dIEnT, dIEnL, dIZip, po, poP, sp0, sp1, sp2, sp3, sp4, sp5, pp0, pp1, pp2, pp3, List.set_cons_zero, List.set_cons_succ, List.getElem?_cons_zero, List.getElem?_cons_succ, List.all_nil, List.map_nil, List.append_nil, List.cons_append, List.nil_append, true_and, ite_true, if_true])
    refine dLc_filt (items := (dl ds i).map mvD) (Γ1 := [.d (owD os), .d (dsD ds), .lst ((doneM os (ds.take i)).map .int), .d (dlD (dl ds i)), v4, v5, v6]) (Γw := [.d (owD os), .d (dsD ds), .lst ((doneM os (ds.take i)).map .int), .d (dlD (dl ds i)), .no, .no, .no])
      (fun _ => false) (fun _ => .int 1) rfl (fun ψ h => h) rfl rfl (by rw [List.length_map]; have := okd.l1; omega) (fun x hx ψ q => ?_) ?_
    · obtain ⟨m, hm, rfl⟩ := List.mem_map.mp hx
      have mo := okd.mv m hm
      have ea : atI ((doneM os (ds.take i)).map D.int) m.1 = some (.int m.2.1) := by
        have z := atI_ok (xs := (doneM os (ds.take i)).map D.int) (i := m.1.toNat) (x := .int m.2.1) (by rw [List.getElem?_map, mo.own]; rfl)
        rw [Int.toNat_of_nonneg mo.s0] at z
        exact z
      refine ⟨rfl, rfl, rfl, _, ea, fit_int _, fit_int _, ?_⟩
      have e : (!(D.int m.2.1).eqv (.int m.2.1)) = false := by rw [eqv_int, decide_eq_true rfl]; rfl
      rw [e]
      exact q _ rfl fun z => nomatch z
    · have e : ((dl ds i).map mvD).filter (fun _ => false) = [] := List.filter_eq_nil_iff.mpr fun _ _ => Bool.false_ne_true
      rw [e, List.map_nil]
      refine ⟨by simp, by decide, by decide, ifF rfl ?_⟩
      refine ⟨fun j Γ => ∃ v4 v5 v6, Γ = [.d (owD os), .d (dsD ds), .lst ((doneD (doneM os (ds.take i)) ((dl ds i).take j)).map .int), .d (dlD (dl ds i)), v4, v5, v6], ⟨_, _, _, rfl⟩, ?_⟩
      rintro j Γ ⟨w4, w5, w6, rfl⟩
      refine ⟨fun e => ?_, fun y hy => ?_⟩
      · rw [e, List.length_map, List.take_length, ← doneM_snoc, ← take_succ_dl il]
        exact ⟨_, _, _, _, rfl⟩
      · obtain ⟨m, hm, rfl⟩ := at_map hy
        have em : (dl ds i).take (j + 1) = (dl ds i).take j ++ [m] := by rw [List.take_add_one, hm]; rfl
        have okm := okd.mv m (List.mem_of_getElem? hm)
        have s1 := okm.s1
        rw [doneM_len] at s1
        (try simp only [dVar, dC, dNil, dCons, dTup, dLst, dOp, onI, dI, dI0, dUn, dEq, dNe, dIxT, dIxL, dIxLv, dAndV, dOrV, dNotV, dB, dAnd, dOr, dNot, dYes, dIf, dChain, dCB, dLenR, dLenv, dListR, dTupR, dMxR, dMnR, dIntR, dIsi, dNoPart, dPart, dSl, dCatA, dCat, dRep, dIn, dInD, dIsN, D.isN, dCall, dCallP, dCallS, dPen0, dTruv, dRg1, dRg2, dLstRg, dTupRg, dLenSet, wf, wb, wi, wt, wl, vD, isSc, dSeq, dNext, dRet, dRetv, dRetN, dIfS, dAsg, dAsgT, dgTup, dgCons, dPar, dApp, dExt, dSetL, dPopAt, dRse, dNever, dDrop, dITup, dILst, dIRng1, dIRng2, dIDn, dIEnT, dIEnL, dIZip, po, poP, sp0, sp1, sp2, sp3, sp4, sp5, pp0, pp1, pp2, pp3, List.set_cons_zero, List.set_cons_succ, List.getElem?_cons_zero, List.getElem?_cons_succ, List.all_nil, List.map_nil, List.append_nil, List.cons_append, List.nil_append, true_and, ite_true, if_true, mvD])
        refine ⟨rfl, ⟨_, rfl⟩, _, _, rfl, ixN_ok okm.s0 (by rw [List.length_map, doneD_len, doneM_len]; exact s1), ?_⟩
        rw [em, doneD_snoc, List.map_set]
        exact ⟨_, _, _, rfl⟩
def kLDeals (x y : D) (φ : En → Prop) : Prop := ∃ os, ∃ most : Int, x = owD os ∧ y = .int most ∧ OwOk os ∧ 0 ≤ most ∧ most ≤ 20 ∧ ∀ ds, DlsOk os ds → ds.length ≤ most → φ (.d (dsD ds))
theorem ok__law_deals (T : Txt K mg ad fd) : FnOk P w K mg base CX0 4 (ad 31) (fd 31) ps__law_deals (spP K (pp2 kLDeals)) := by
  refine (show Fun K "_law_deals" "_law_deals" st__law_deals (ad 31) (fd 31) from T.f 31 (by decide)).ok sc__law_deals (fun vs H Q E h => lep2 h) (fun cdv A outer s H vs Q E hr h => ?_)
  have hu := hu_of hr
  have hu65 := hu65_of hr
  refine ⟨_, (pss_cons (ps_set (i := 3) sc__law_deals.nd rfl (Or.inl rfl) (pe_tup pa_nil))
  (pss_cons (ps_for PassesOwn.never rfl (pi_range1 (by rfl) (T.z 2 (by decide)) (pa_cons (pe_call (ok__law_draw (K := K) T) (hr.mono (by omega)) (by rfl) (T.g 26 (by decide)) (T.k 26 (by decide)) (bd__law_draw T) .nil pass0 (pa_cons (pv 0) (pa_cons (pe_op op_add (pv 2) pe_int) pa_nil))) pa_nil)) (pg_name (i := 4) sc__law_deals.nd rfl (Or.inl rfl))
    (pss_one (ps_set (i := 3) sc__law_deals.nd rfl (Or.inl rfl) (pe_op (r := rCatA K) op_catA (pv 3) (pe_tup (pa_cons (pe_call (ok__law_deal (K := K) T) (hr.mono (by omega)) (by rfl) (T.g 29 (by decide)) (T.k 29 (by decide)) (bd__law_deal T) .nil pass0 (pa_cons (pv 0) (pa_cons (pe_call (ok__law_behind (K := K) T) (hr.mono (by omega)) (by rfl) (T.g 30 (by decide)) (T.k 30 (by decide)) (bd__law_behind T) .nil pass0 (pa_cons (pv 1) (pa_cons (pv 3) pa_nil))) pa_nil))) pa_nil))))))
  (pss_one (ps_ret (pv 3))))), ?_⟩
  refine bodp2 h fun x y φ hk => ?_
  rw [show stP nm__law_deals [x, y] = [.pen, .d x, .d y, .no, .no] from rfl]
  obtain ⟨os, most, rfl, rfl, ok, m0, m1, hk⟩ := hk
  (try simp only [dVar, dC, dNil, dCons, dTup, dLst, dOp, onI, dI, dI0, dUn, dEq, dNe, dIxT, dIxL, dIxLv, dAndV, dOrV, dNotV, dB, dAnd, dOr, dNot, dYes, dIf, dChain, dCB, dLenR, dLenv, dListR, dTupR, dMxR, dMnR, dIntR, dIsi, dNoPart, dPart, dSl, dCatA, dCat, dRep, dIn, dInD, dIsN, D.isN, dCall, dCallP, dCallS, dPen0, dTruv, dRg1, dRg2, dLstRg, dTupRg, dLenSet, wf, wb, wi, wt, wl, vD, isSc, dSeq, dNext, dRet, dRetv, dRetN, dIfS, dAsg, dAsgT, dgTup, dgCons, dPar, dApp, dExt, dSetL, dPopAt, dRse, dNever, dDrop, dITup, dILst, dIRng1, dIRng2, dIDn, dIEnT, dIEnL, dIZip, po, poP, sp0, sp1, sp2, sp3, sp4, sp5, pp0, pp1, pp2, pp3, List.set_cons_zero, List.set_cons_succ, List.getElem?_cons_zero, List.getElem?_cons_succ, List.all_nil, List.map_nil, List.append_nil, List.cons_append, List.nil_append, true_and, ite_true, if_true])
  refine ⟨by simp, ?_⟩
  (try simp only [dVar, dC, dNil, dCons, dTup, dLst, dOp, onI, dI, dI0, dUn, dEq, dNe, dIxT, dIxL, dIxLv, dAndV, dOrV, dNotV, dB, dAnd, dOr, dNot, dYes, dIf, dChain, dCB, dLenR, dLenv, dListR, dTupR, dMxR, dMnR, dIntR, dIsi, dNoPart, dPart, dSl, dCatA, dCat, dRep, dIn, dInD, dIsN, D.isN, dCall, dCallP, dCallS, dPen0, dTruv, dRg1, dRg2, dLstRg, dTupRg, dLenSet, wf, wb, wi, wt, wl, vD, isSc, dSeq, dNext, dRet, dRetv, dRetN, dIfS, dAsg, dAsgT, dgTup, dgCons, dPar, dApp, dExt, dSetL, dPopAt, dRse, dNever, dDrop, dITup, dILst, dIRng1, dIRng2, dIDn, dIEnT, dIEnL, dIZip, po, poP, sp0, sp1, sp2, sp3, sp4, sp5, pp0, pp1, pp2, pp3, List.set_cons_zero, List.set_cons_succ, List.getElem?_cons_zero, List.getElem?_cons_succ, List.all_nil, List.map_nil, List.append_nil, List.cons_append, List.nil_append, true_and, ite_true, if_true, dFor])
  refine ⟨most + 1, rfl, by omega, by omega, fun r r0 r1 => ⟨by omega, by omega, fun i Γ => ∃ v4, ∃ ds : List (List Mv), Γ = [.pen, .d (owD os), .d (.int most), .d (dsD ds), v4] ∧ ds.length = i ∧ DlsOk os ds, ⟨_, [], rfl, rfl, trivial⟩, ?_⟩⟩
  rintro i Γ ⟨v4, ds, rfl, hl, ok2⟩
  refine ⟨fun e => ?_, fun y hy => ?_⟩
  · rw [upI_len] at e
    exact ⟨_, rfl, (fun z => nomatch z), (fun z => nomatch z), hk ds ok2 (by omega)⟩
  · have hi := (upI_get hy).1
    (try simp only [dVar, dC, dNil, dCons, dTup, dLst, dOp, onI, dI, dI0, dUn, dEq, dNe, dIxT, dIxL, dIxLv, dAndV, dOrV, dNotV, dB, dAnd, dOr, dNot, dYes, dIf, dChain, dCB, dLenR, dLenv, dListR, dTupR, dMxR, dMnR, dIntR, dIsi, dNoPart, dPart, dSl, dCatA, dCat, dRep, dIn, dInD, dIsN, D.isN, dCall, dCallP, dCallS, dPen0, dTruv, dRg1, dRg2, dLstRg, dTupRg, dLenSet, wf, wb, wi, wt, wl, vD, isSc, dSeq, dNext, dRet, dRetv, dRetN, dIfS, dAsg, dAsgT, dgTup, dgCons, dPar, dApp, dExt, dSetL, dPopAt, dRse, dNever, dDrop, dITup, dILst, dIRng1, dIRng2, dIDn, dIEnT, dIEnL, dIZip, po, poP, sp0, sp1, sp2, sp3, sp4, sp5, pp0, pp1, pp2, pp3, List.set_cons_zero, List.set_cons_succ, List.getElem?_cons_zero, List.getElem?_cons_succ, List.all_nil, List.map_nil, List.append_nil, List.cons_append, List.nil_append, true_and, ite_true, if_true])
    refine ⟨os, ds, rfl, rfl, ok2, by omega, doneM os ds, rfl, ⟨?_, ?_, doneM_rng ok2 ok.rng⟩, fun d hd => ?_⟩
    · rw [doneM_len]
      exact ok.l0
    · rw [doneM_len]
      exact ok.l1
    · (try simp only [dVar, dC, dNil, dCons, dTup, dLst, dOp, onI, dI, dI0, dUn, dEq, dNe, dIxT, dIxL, dIxLv, dAndV, dOrV, dNotV, dB, dAnd, dOr, dNot, dYes, dIf, dChain, dCB, dLenR, dLenv, dListR, dTupR, dMxR, dMnR, dIntR, dIsi, dNoPart, dPart, dSl, dCatA, dCat, dRep, dIn, dInD, dIsN, D.isN, dCall, dCallP, dCallS, dPen0, dTruv, dRg1, dRg2, dLstRg, dTupRg, dLenSet, wf, wb, wi, wt, wl, vD, isSc, dSeq, dNext, dRet, dRetv, dRetN, dIfS, dAsg, dAsgT, dgTup, dgCons, dPar, dApp, dExt, dSetL, dPopAt, dRse, dNever, dDrop, dITup, dILst, dIRng1, dIRng2, dIDn, dIEnT, dIEnL, dIZip, po, poP, sp0, sp1, sp2, sp3, sp4, sp5, pp0, pp1, pp2, pp3, List.set_cons_zero, List.set_cons_succ, List.getElem?_cons_zero, List.getElem?_cons_succ, List.all_nil, List.map_nil, List.append_nil, List.cons_append, List.nil_append, true_and, ite_true, if_true, dsD])
      refine ⟨by simp, by rw [List.length_map]; simp; omega, _, ds ++ [d], by rw [List.map_append]; rfl, by rw [List.length_append]; simp [hl], dlsOk_snoc.mpr ⟨ok2, hd⟩⟩
end
end Dl

set_option Elab.async false
set_option maxRecDepth 100000
set_option maxHeartbeats 4000000
set_option linter.all false
set_option synthInstance.maxHeartbeats 4000000
set_option synthInstance.maxSize 10000

namespace Dl
open PySem PySem.Spec PyProof.Rows L2 RZ HmS Da
section
variable {P : Program} {w : World} {K : PySem.W.Frag} [HasT K] {mg : Str → Option Value} {base : Heap} {ad : Nat → Addr} {fd : Nat → FuncData}
/-! ### what is told of things of whatever kind -/
def iD : D → Int
  | .int i => i
  | _ => 0
def ptsD : D → List D
  | .tup xs => xs
  | _ => []
def toM (x : D) : Mv := match ptsD x with
  | [a, b, c] => (iD a, iD b, iD c)
  | _ => (0, 0, 0)
def toDl (x : D) : List Mv := (ptsD x).map toM
def toDs (x : D) : List (List Mv) := (ptsD x).map toDl
def toOw (x : D) : List Int := (ptsD x).map iD
def owB (x : D) : Bool := tupB x 1 12 && (ptsD x).all (fun y => inB y 0 5)
def mvS (n : Nat) (x : D) : Bool := match ptsD x with
  | [a, b, c] => inB a 0 ((n : Int) - 1) && (inB b 0 5 && (inB c 0 5 && !decide (iD b = iD c)))
  | _ => false
def mvB (os : List Int) (x : D) : Bool := mvS os.length x && decide (os.getD (toM x).1.toNat 0 = (toM x).2.1)
def dlB (os : List Int) (x : D) : Bool := tupB x 1 6 && ((ptsD x).all (mvB os) && decide (((ptsD x).map fun y => (toM y).1).Nodup))
def dsG : List Int → List D → Bool
  | _, [] => true
  | os, x :: r => dlB os x && dsG (doneD os (toDl x)) r
def dsB (os : List Int) (x : D) : Bool := tupB x 0 10 && dsG os (ptsD x)
theorem inB_int {x : D} {a b : Int} (h : inB x a b = true) : x = .int (iD x) ∧ a ≤ iD x ∧ iD x ≤ b := by
  cases x with
  | int i =>
    simp only [inB, Bool.and_eq_true, decide_eq_true_eq] at h
    exact ⟨rfl, h.1, h.2⟩
  | _ => cases h
theorem tupB_tup {x : D} {a b : Int} (h : tupB x a b = true) : x = .tup (ptsD x) ∧ a ≤ ((ptsD x).length : Int) ∧ ((ptsD x).length : Int) ≤ b := by
  cases x with
  | tup xs =>
    simp only [tupB, Bool.and_eq_true, decide_eq_true_eq] at h
    exact ⟨rfl, h.1, h.2⟩
  | _ => cases h
theorem pts_good {x : D} (h : x.good = true) : (∀ y ∈ ptsD x, y.good = true) ∧ (ptsD x).length ≤ 100 := by
  cases x with
  | tup xs => exact tup_good h
  | _ => exact ⟨fun _ z => (nomatch z), Nat.zero_le _⟩
theorem owB_ok {x : D} (h : owB x = true) : x = owD (toOw x) ∧ OwOk (toOw x) := by
  unfold owB at h
  rw [Bool.and_eq_true, List.all_eq_true] at h
  obtain ⟨e, l0, l1⟩ := tupB_tup h.1
  refine ⟨?_, ⟨by unfold toOw; rw [List.length_map]; omega, by unfold toOw; rw [List.length_map]; omega, fun o ho => ?_⟩⟩
  · rw [owD, toOw, List.map_map]
    refine e.trans (congrArg D.tup ?_)
    refine (List.map_id _).symm.trans (List.map_congr_left fun y hy => ?_)
    exact (inB_int (h.2 y hy)).1
  · obtain ⟨y, hy, rfl⟩ := List.mem_map.mp ho
    exact (inB_int (h.2 y hy)).2
theorem mvS_ok {n : Nat} {x : D} (h : mvS n x = true) : x = mvD (toM x) ∧ 0 ≤ (toM x).1 ∧ (toM x).1 < n ∧ 0 ≤ (toM x).2.1 ∧ (toM x).2.1 ≤ 5 ∧ 0 ≤ (toM x).2.2 ∧ (toM x).2.2 ≤ 5 ∧ (toM x).2.1 ≠ (toM x).2.2 := by
  cases x with
  | tup xs =>
    match xs, h with
    | [a, b, c], h =>
      have h : (inB a 0 ((n : Int) - 1) && (inB b 0 5 && (inB c 0 5 && !decide (iD b = iD c)))) = true := h
      rw [Bool.and_eq_true, Bool.and_eq_true, Bool.and_eq_true, Bool.not_eq_true', decide_eq_false_iff_not] at h
      obtain ⟨ha, hb, hc, hn⟩ := h
      obtain ⟨ea, a0, a1⟩ := inB_int ha
      obtain ⟨eb, b0, b1⟩ := inB_int hb
      obtain ⟨ec, c0, c1⟩ := inB_int hc
      refine ⟨?_, a0, show iD a < n by omega, b0, b1, c0, c1, hn⟩
      show D.tup [a, b, c] = .tup [.int (iD a), .int (iD b), .int (iD c)]
      rw [← ea, ← eb, ← ec]
    | [], h => cases h
    | [_], h => cases h
    | [_, _], h => cases h
    | _ :: _ :: _ :: _ :: _, h => cases h
  | _ => cases h
theorem mvB_ok {os : List Int} {x : D} (h : mvB os x = true) : x = mvD (toM x) ∧ MvOk os (toM x) := by
  unfold mvB at h
  rw [Bool.and_eq_true, decide_eq_true_eq] at h
  obtain ⟨e, s0, s1, g0, g1, t0, t1, ne⟩ := mvS_ok h.1
  refine ⟨e, ⟨s0, s1, g0, g1, t0, t1, ne, ?_⟩⟩
  rw [← h.2, List.getD_eq_getElem?_getD, List.getElem?_eq_getElem (show (toM x).1.toNat < os.length by omega)]
  rfl
theorem dlB_ok {os : List Int} {x : D} (h : dlB os x = true) : x = dlD (toDl x) ∧ DlOk os (toDl x) := by
  unfold dlB at h
  rw [Bool.and_eq_true, Bool.and_eq_true, decide_eq_true_eq, List.all_eq_true] at h
  obtain ⟨ht, hm, hn⟩ := h
  obtain ⟨e, l0, l1⟩ := tupB_tup ht
  refine ⟨?_, ⟨by unfold toDl; rw [List.length_map]; omega, by unfold toDl; rw [List.length_map]; omega, fun m h => ?_, ?_⟩⟩
  · rw [dlD, toDl, List.map_map]
    refine e.trans (congrArg D.tup ?_)
    refine (List.map_id _).symm.trans (List.map_congr_left fun y hy => ?_)
    exact (mvB_ok (hm y hy)).1
  · obtain ⟨y, hy, rfl⟩ := List.mem_map.mp h
    exact (mvB_ok (hm y hy)).2
  · unfold mvd toDl
    rw [List.map_map]
    exact hn
theorem dsG_ok : ∀ {xs : List D} {os : List Int}, dsG os xs = true → xs = (xs.map toDl).map dlD ∧ DlsOk os (xs.map toDl)
  | [], _, _ => ⟨rfl, trivial⟩
  | x :: r, os, h => by
    have h : (dlB os x && dsG (doneD os (toDl x)) r) = true := h
    rw [Bool.and_eq_true] at h
    obtain ⟨e, ok⟩ := dlB_ok h.1
    obtain ⟨e2, ok2⟩ := dsG_ok h.2
    refine ⟨?_, ok, ok2⟩
    rw [List.map_cons, List.map_cons, ← e, ← e2]
theorem dsB_ok {os : List Int} {x : D} (o : OwOk os) (h : dsB os x = true) : x = dsD (toDs x) ∧ In2 os (toDs x) := by
  unfold dsB at h
  rw [Bool.and_eq_true] at h
  obtain ⟨e, l0, l1⟩ := tupB_tup h.1
  obtain ⟨e2, ok⟩ := dsG_ok h.2
  refine ⟨?_, o, ok, by unfold toDs; rw [List.length_map]; omega⟩
  rw [dsD]
  exact e.trans (congrArg D.tup e2)
def kOwnsG (x : D) (φ : En → Prop) : Prop := x.good = true ∧ φ (.d (.bl (owB x)))
theorem ok_is_owners_G (T : Txt K mg ad fd) : FnOk P w K mg base CX0 4 (ad 7) (fd 7) ps_is_owners (spX K (sp1 kOwnsG)) := by
  refine (show Fun K "is_owners" "is_owners" st_is_owners (ad 7) (fd 7) from T.f 7 (by decide)).ok sc_is_owners (fun vs H Q E h => len1 h) (fun cdv A outer s H vs Q E hr h => ?_)
  have hu := hu_of hr
  have hu65 := hu65_of hr
  refine ⟨_, (pss_one (ps_ret (pe_and (pe_call (ok_is_tuple (K := K) T) (hr.mono (by omega)) (by rfl) (T.g 2 (by decide)) (T.k 2 (by decide)) (bd_is_tuple T) .nil pass0 (pa_cons (pv 0) (pa_cons pe_int (pa_cons pe_int pa_nil)))) (pe_one (pe_callB (r := rAll K) (cr_all rfl) (by rfl) (T.z 9 (by decide)) (by decide +kernel) (pa_cons (pe_lc (own := [("part", 1)]) (g := (gName 1)) (tt := tYes) rfl sc_is_owners.nd (pi_tupK (K := K) (pv 0))
      (blkOk_by (N := nm_is_owners) (sc := defScope st_is_owners) (by decide +kernel)) (fun _ _ _ _ _ => by exact (pg_name (i := 1) sc_is_owners.nd rfl (Or.inl rfl))) (fun _ _ _ _ _ => pts_nil)
      (fun _ _ _ _ _ => by exact (pe_call (ok_is_owner (K := K) T) (hr.mono (by omega)) (by rfl) (T.g 6 (by decide)) (T.k 6 (by decide)) (bd_is_owner T) .nil pass0 (pa_cons (pv 1) pa_nil)))) pa_nil)))))), ?_⟩
  refine body1 h fun x φ hk => ?_
  rw [show st0 nm_is_owners [x] = [.d x, .no] from rfl]
  obtain ⟨hg, hk⟩ := hk
  refine ⟨rfl, rfl, rfl, 1, 12, rfl, rfl, good_ty hg, ?_⟩
  (dsimp only [dB, dAnd, dOr, dNot, dEqE, wf_d, wf_l, wb_b, wi_i, wt_t, wl_l, wl_d, List.set_cons_zero, List.set_cons_succ])
  unfold owB at hk
  cases c : tupB x 1 12 with
  | false =>
    rw [c] at hk
    exact ifF rfl hk
  | true =>
    rw [c, Bool.true_and] at hk
    obtain ⟨e, l0, l1⟩ := tupB_tup c
    refine ifT rfl ?_
    have pg := pts_good hg
    generalize ptsD x = xs at *
    subst e
    (try dsimp only [dNext, dSeq, dIfS, dB, dOp, dNot, dOr, dAnd, dNotV, dOrV, dAndV, dAsg, dRet, dDrop, dCB, dIf, dTup, dLst, dCons, dNil, wf_d, wf_l, wb_b, wi_i, wt_t, wl_l, wl_d, tupR_t, tupR_l, lstR_t, lstR_l, List.set_cons_zero, List.set_cons_succ])
    refine dLc_pure (items := xs) (Γ1 := [.d (.tup xs), .no]) (Γw := [.d (.tup xs), .no]) (fun y => .bl (inB y 0 5)) rfl (fun ψ h => h) rfl rfl (by omega) (fun d hd ψ q => ?_) ?_
    · exact ⟨rfl, good_ty (pg.1 d hd), q _ _ rfl rfl⟩
    · refine ⟨xs.map fun y => inB y 0 5, by rw [List.map_map]; rfl, ?_⟩
      rw [List.all_map]
      exact hk
end
end Dl

set_option Elab.async false
set_option maxRecDepth 100000
set_option maxHeartbeats 4000000
set_option linter.all false
set_option synthInstance.maxHeartbeats 4000000
set_option synthInstance.maxSize 10000


namespace Dl
open PySem PySem.Spec PyProof.Rows L2 RZ HmS Da
section
variable {P : Program} {w : World} {K : PySem.W.Frag} [HasT K] {mg : Str → Option Value} {base : Heap} {ad : Nat → Addr} {fd : Nat → FuncData}
theorem pts3 {x : D} {a b : Int} (h : tupB x 3 3 = true) : ∃ u v w, x = .tup [u, v, w] ∧ ptsD x = [u, v, w] := by
  obtain ⟨e, l0, l1⟩ := tupB_tup h
  have : (ptsD x).length = 3 := by omega
  match hp : ptsD x, this with
  | [u, v, w], _ => exact ⟨u, v, w, by rw [e, hp], rfl⟩
theorem mvS_no {n : Nat} {x : D} (h : tupB x 3 3 = false) : mvS n x = false := by
  cases x with
  | tup xs =>
    match xs, h with
    | [a, b, c], h => exact absurd h (by simp [tupB])
    | [], _ => rfl
    | [_], _ => rfl
    | [_, _], _ => rfl
    | _ :: _ :: _ :: _ :: _, _ => rfl
  | _ => rfl
def kMoveG (o x : D) (φ : En → Prop) : Prop := ∃ os, o = owD os ∧ os.length ≤ 12 ∧ x.good = true ∧ φ (.d (.bl (mvB os x)))
theorem ok_is_move_G (T : Txt K mg ad fd) : FnOk P w K mg base CX0 4 (ad 8) (fd 8) ps_is_move (spX K (sp2 kMoveG)) := by
  refine (show Fun K "is_move" "is_move" st_is_move (ad 8) (fd 8) from T.f 8 (by decide)).ok sc_is_move (fun vs H Q E h => len2 h) (fun cdv A outer s H vs Q E hr h => ?_)
  have hu := hu_of hr
  have hu65 := hu65_of hr
  refine ⟨_, (pss_cons (ps_if (pt_not (pt_val (pe_call (ok_is_tuple (K := K) T) (hr.mono (by omega)) (by rfl) (T.g 2 (by decide)) (T.k 2 (by decide)) (bd_is_tuple T) .nil pass0 (pa_cons (pv 1) (pa_cons pe_int (pa_cons pe_int pa_nil))))))
    (pss_one (ps_ret pe_bl))
    pss_nil)
  (pss_cons (ps_asg (pv 1) (pg_tupK (K := K) (n := 3) rfl (pgs_cons (pg_name (i := 2) sc_is_move.nd rfl (Or.inl rfl)) (pgs_cons (pg_name (i := 3) sc_is_move.nd rfl (Or.inl rfl)) (pgs_cons (pg_name (i := 4) sc_is_move.nd rfl (Or.inl rfl)) pgs_nil)))))
  (pss_cons (ps_if (PW.pt (pw_or (pt_not (pt_val (pe_call (ok_is_whole_within (K := K) T) (hr.mono (by omega)) (by rfl) (T.g 1 (by decide)) (T.k 1 (by decide)) (bd_is_whole_within T) .nil pass0 (pa_cons (pv 2) (pa_cons pe_int (pa_cons (pe_op op_sub (pe_callB (r := Da.rLen K) cl_len (by rfl) (T.z 0 (by decide)) (by decide +kernel) (pa_cons (pv 0) pa_nil)) pe_int) pa_nil)))))) (pw_or (pt_not (pt_val (pe_call (ok_is_owner (K := K) T) (hr.mono (by omega)) (by rfl) (T.g 6 (by decide)) (T.k 6 (by decide)) (bd_is_owner T) .nil pass0 (pa_cons (pv 3) pa_nil)))) (pw_or1 (pt_not (pt_val (pe_call (ok_is_owner (K := K) T) (hr.mono (by omega)) (by rfl) (T.g 6 (by decide)) (T.k 6 (by decide)) (bd_is_owner T) .nil pass0 (pa_cons (pv 4) pa_nil))))))))
    (pss_one (ps_ret pe_bl))
    pss_nil)
  (pss_one (ps_ret (pe_and (pe_cmpR (r := rNeD K) (op_neD hr.units) (pv 3) (pv 4) (nomark _)) (pe_one (pe_cmpR (r := rEqD K) (op_eqD hr.units) (pe_ix (r := rIxT K) ix_tup (pv 0) (pv 2) (fun _ _ => rfl)) (pv 3) (nomark _))))))))), ?_⟩
  refine body2 h fun x y φ hk => ?_
  rw [show st0 nm_is_move [x, y] = [.d x, .d y, .no, .no, .no] from rfl]
  obtain ⟨os, rfl, ol, hg, hk⟩ := hk
  refine ⟨rfl, rfl, rfl, 3, 3, rfl, rfl, good_ty hg, ?_⟩
  (dsimp only [dB, dAnd, dOr, dNot, dEqE, wf_d, wf_l, wb_b, wi_i, wt_t, wl_l, wl_d, List.set_cons_zero, List.set_cons_succ])
  cases c : tupB y 3 3 with
  | false =>
    have e : mvB os y = false := by unfold mvB; rw [mvS_no c]; rfl
    rw [e] at hk
    exact ifT rfl ⟨rfl, hk⟩
  | true =>
    obtain ⟨u, v, z, rfl, _⟩ := pts3 (a := 0) (b := 0) c
    refine ifF rfl ?_
    have pg := (tup_good hg).1
    have gu := pg u (by simp)
    have gv := pg v (by simp)
    have gz := pg z (by simp)
    have e : mvB os (.tup [u, v, z]) = ((inB u 0 ((os.length : Int) - 1) && (inB v 0 5 && (inB z 0 5 && !decide (iD v = iD z)))) && decide (os.getD (iD u).toNat 0 = iD v)) := rfl
    rw [e] at hk
    have el : ((os.map D.int).length : Int) = os.length := by rw [List.length_map]
    (try simp only [dVar, dC, dNil, dCons, dTup, dLst, dOp, onI, dI, dI0, dUn, dEq, dNe, dIxT, dIxL, dIxLv, dAndV, dOrV, dNotV, dB, dAnd, dOr, dNot, dYes, dIf, dChain, dCB, dLenR, dLenv, dListR, dTupR, dMxR, dMnR, dIntR, dIsi, dNoPart, dPart, dSl, dCatA, dCat, dRep, dIn, dInD, dIsN, D.isN, dCall, dCallP, dCallS, dPen0, dTruv, dRg1, dRg2, dLstRg, dTupRg, dLenSet, wf, wb, wi, wt, wl, vD, isSc, dSeq, dNext, dRet, dRetv, dRetN, dIfS, dAsg, dAsgT, dgTup, dgCons, dPar, dApp, dExt, dSetL, dPopAt, dRse, dNever, dDrop, dITup, dILst, dIRng1, dIRng2, dIDn, dIEnT, dIEnL, dIZip, po, poP, sp0, sp1, sp2, sp3, sp4, sp5, pp0, pp1, pp2, pp3, List.set_cons_zero, List.set_cons_succ, List.getElem?_cons_zero, List.getElem?_cons_succ, List.all_nil, List.map_nil, List.append_nil, List.cons_append, List.nil_append, true_and, ite_true, if_true, owD])
    refine ⟨rfl, 0, _, rfl, rfl, good_ty gu, ?_⟩
    rw [el]
    cases cu : inB u 0 ((os.length : Int) - 1) with
    | false =>
      rw [cu] at hk
      exact ifT rfl hk
    | true =>
      obtain ⟨eu, u0, u1⟩ := inB_int cu
      rw [cu, Bool.true_and] at hk
      refine ifF rfl ⟨good_ty gv, ?_⟩
      cases cv : inB v 0 5 with
      | false =>
        rw [cv] at hk
        exact ifT rfl hk
      | true =>
        obtain ⟨ev, v0, v1⟩ := inB_int cv
        rw [cv, Bool.true_and] at hk
        refine ifF rfl ⟨good_ty gz, ?_⟩
        cases cz : inB z 0 5 with
        | false =>
          rw [cz] at hk
          exact ifT rfl hk
        | true =>
          obtain ⟨ez, z0, z1⟩ := inB_int cz
          rw [cz, Bool.true_and] at hk
          generalize iD u = u at *
          generalize iD v = v at *
          generalize iD z = z at *
          subst eu ev ez
          refine ifF rfl ?_
          refine ⟨fit_int _, fit_int _, ?_⟩
          rw [eqv_int]
          cases cn : decide (v = z) with
          | true =>
            rw [cn] at hk
            exact ifF rfl hk
          | false =>
            rw [cn] at hk
            refine ifT rfl ?_
            have ea : atI (os.map D.int) u = some (.int (os.getD u.toNat 0)) := by
              have q := atI_nat (xs := os.map D.int) (j := u.toNat) (v := .int (os.getD u.toNat 0)) (by rw [List.getElem?_map, List.getD_eq_getElem?_getD, List.getElem?_eq_getElem (by omega)]; rfl)
              rw [Int.toNat_of_nonneg u0] at q
              exact q
            (try simp only [dVar, dC, dNil, dCons, dTup, dLst, dOp, onI, dI, dI0, dUn, dEq, dNe, dIxT, dIxL, dIxLv, dAndV, dOrV, dNotV, dB, dAnd, dOr, dNot, dYes, dIf, dChain, dCB, dLenR, dLenv, dListR, dTupR, dMxR, dMnR, dIntR, dIsi, dNoPart, dPart, dSl, dCatA, dCat, dRep, dIn, dInD, dIsN, D.isN, dCall, dCallP, dCallS, dPen0, dTruv, dRg1, dRg2, dLstRg, dTupRg, dLenSet, wf, wb, wi, wt, wl, vD, isSc, dSeq, dNext, dRet, dRetv, dRetN, dIfS, dAsg, dAsgT, dgTup, dgCons, dPar, dApp, dExt, dSetL, dPopAt, dRse, dNever, dDrop, dITup, dILst, dIRng1, dIRng2, dIDn, dIEnT, dIEnL, dIZip, po, poP, sp0, sp1, sp2, sp3, sp4, sp5, pp0, pp1, pp2, pp3, List.set_cons_zero, List.set_cons_succ, List.getElem?_cons_zero, List.getElem?_cons_succ, List.all_nil, List.map_nil, List.append_nil, List.cons_append, List.nil_append, true_and, ite_true, if_true])
            refine ⟨_, ea, fit_int _, fit_int _, ?_⟩
            rw [eqv_int]
            exact hk
def kOnceG (x : D) (φ : En → Prop) : Prop := ∃ is : List Int, x = .lst (is.map .int) ∧ is.length ≤ 4000 ∧ φ (.d (.bl (decide is.Nodup)))
theorem ok_is_each_once_G (T : Txt K mg ad fd) : FnOk P w K mg base CX0 1 (ad 5) (fd 5) ps_is_each_once (spX K (sp1 kOnceG)) := by
  refine (show Fun K "is_each_once" "is_each_once" st_is_each_once (ad 5) (fd 5) from T.f 5 (by decide)).ok sc_is_each_once (fun vs H Q E h => len1 h) (fun cdv A outer s H vs Q E hr h => ?_)
  have hu := hu_of hr
  have hu65 := hu65_of hr
  refine ⟨_, (pss_one (ps_ret (pe_cmpR (r := rEqD K) (op_eqD hr.units) (pe_lenSetN (K := K) (by rfl) (T.z 0 (by decide)) (by rfl) (T.z 15 (by decide)) (pv 0)) (pe_callB (r := Da.rLen K) cl_len (by rfl) (T.z 0 (by decide)) (by decide +kernel) (pa_cons (pv 0) pa_nil)) (nomark _)))), ?_⟩
  refine body1 h fun x φ hk => ?_
  rw [show st0 nm_is_each_once [x] = [.d x] from rfl]
  obtain ⟨is, rfl, hl, hk⟩ := hk
  (try dsimp only [dNext, dSeq, dIfS, dB, dOp, dNot, dOr, dAnd, dNotV, dOrV, dAndV, dAsg, dRet, dDrop, dCB, dIf, dTup, dLst, dCons, dNil, wf_d, wf_l, wb_b, wi_i, wt_t, wl_l, wl_d, tupR_t, tupR_l, lstR_t, lstR_l, List.set_cons_zero, List.set_cons_succ])
  refine ⟨is, rfl, hl, ?_⟩
  have e : decide ((metN is : Int) = (is.length : Int)) = decide is.Nodup := by
    by_cases c : is.Nodup
    · rw [decide_eq_true c, decide_eq_true]
      rw [met_iff.mpr c]
    · rw [decide_eq_false c, decide_eq_false]
      exact fun z => c (met_iff.mp (by omega))
  (try simp only [dVar, dC, dNil, dCons, dTup, dLst, dOp, onI, dI, dI0, dUn, dEq, dNe, dIxT, dIxL, dIxLv, dAndV, dOrV, dNotV, dB, dAnd, dOr, dNot, dYes, dIf, dChain, dCB, dLenR, dLenv, dListR, dTupR, dMxR, dMnR, dIntR, dIsi, dNoPart, dPart, dSl, dCatA, dCat, dRep, dIn, dInD, dIsN, D.isN, dCall, dCallP, dCallS, dPen0, dTruv, dRg1, dRg2, dLstRg, dTupRg, dLenSet, wf, wb, wi, wt, wl, vD, isSc, dSeq, dNext, dRet, dRetv, dRetN, dIfS, dAsg, dAsgT, dgTup, dgCons, dPar, dApp, dExt, dSetL, dPopAt, dRse, dNever, dDrop, dITup, dILst, dIRng1, dIRng2, dIDn, dIEnT, dIEnL, dIZip, po, poP, sp0, sp1, sp2, sp3, sp4, sp5, pp0, pp1, pp2, pp3, List.set_cons_zero, List.set_cons_succ, List.getElem?_cons_zero, List.getElem?_cons_succ, List.all_nil, List.map_nil, List.append_nil, List.cons_append, List.nil_append, true_and, ite_true, if_true])
  refine ⟨fit_int _, fit_int _, ?_⟩
  rw [eqv_int, List.length_map, e]
  exact hk
def kDealG (o x : D) (φ : En → Prop) : Prop := ∃ os, o = owD os ∧ os.length ≤ 12 ∧ x.good = true ∧ φ (.d (.bl (dlB os x)))
theorem ok_is_deal_G (T : Txt K mg ad fd) : FnOk P w K mg base CX0 5 (ad 9) (fd 9) ps_is_deal (spX K (sp2 kDealG)) := by
  refine (show Fun K "is_deal" "is_deal" st_is_deal (ad 9) (fd 9) from T.f 9 (by decide)).ok sc_is_deal (fun vs H Q E h => len2 h) (fun cdv A outer s H vs Q E hr h => ?_)
  have hu := hu_of hr
  have hu65 := hu65_of hr
  refine ⟨_, (pss_cons (ps_if (PW.pt (pw_or (pt_not (pt_val (pe_call (ok_is_tuple (K := K) T) (hr.mono (by omega)) (by rfl) (T.g 2 (by decide)) (T.k 2 (by decide)) (bd_is_tuple T) .nil pass0 (pa_cons (pv 1) (pa_cons pe_int (pa_cons pe_int pa_nil)))))) (pw_or1 (pt_not (pt_val (pe_callB (r := rAll K) (cr_all rfl) (by rfl) (T.z 9 (by decide)) (by decide +kernel) (pa_cons (pe_lc (own := [("part", 2)]) (g := (gName 2)) (tt := tYes) rfl sc_is_deal.nd (pi_tupK (K := K) (pv 1))
      (blkOk_by (N := nm_is_deal) (sc := defScope st_is_deal) (by decide +kernel)) (fun _ _ _ _ _ => by exact (pg_name (i := 2) sc_is_deal.nd rfl (Or.inl rfl))) (fun _ _ _ _ _ => pts_nil)
      (fun _ _ _ _ _ => by exact (pe_call (ok_is_move_G (K := K) T) (hr.mono (by omega)) (by rfl) (T.g 8 (by decide)) (T.k 8 (by decide)) (bd_is_move T) .nil pass0 (pa_cons (pv 0) (pa_cons (pv 2) pa_nil))))) pa_nil)))))))
    (pss_one (ps_ret pe_bl))
    pss_nil)
  (pss_one (ps_ret (pe_call (ok_is_each_once_G (K := K) T) (hr.mono (by omega)) (by rfl) (T.g 5 (by decide)) (T.k 5 (by decide)) (bd_is_each_once T) .nil pass0 (pa_cons (pe_call (ok_moved_by (K := K) T) (hr.mono (by omega)) (by rfl) (T.g 11 (by decide)) (T.k 11 (by decide)) (bd_moved_by T) .nil pass0 (pa_cons (pv 1) pa_nil)) pa_nil))))), ?_⟩
  refine body2 h fun x y φ hk => ?_
  rw [show st0 nm_is_deal [x, y] = [.d x, .d y, .no] from rfl]
  obtain ⟨os, rfl, ol, hg, hk⟩ := hk
  refine ⟨rfl, rfl, rfl, 1, 6, rfl, rfl, good_ty hg, ?_⟩
  (dsimp only [dB, dAnd, dOr, dNot, dEqE, wf_d, wf_l, wb_b, wi_i, wt_t, wl_l, wl_d, List.set_cons_zero, List.set_cons_succ])
  unfold dlB at hk
  cases c : tupB y 1 6 with
  | false =>
    rw [c] at hk
    exact ifT rfl (ifT rfl ⟨rfl, hk⟩)
  | true =>
    rw [c, Bool.true_and] at hk
    obtain ⟨e, l0, l1⟩ := tupB_tup c
    refine ifF rfl ?_
    have pg := pts_good hg
    generalize ptsD y = xs at *
    subst e
    (try dsimp only [dNext, dSeq, dIfS, dB, dOp, dNot, dOr, dAnd, dNotV, dOrV, dAndV, dAsg, dRet, dDrop, dCB, dIf, dTup, dLst, dCons, dNil, wf_d, wf_l, wb_b, wi_i, wt_t, wl_l, wl_d, tupR_t, tupR_l, lstR_t, lstR_l, List.set_cons_zero, List.set_cons_succ])
    refine dLc_pure (items := xs) (Γ1 := [.d (owD os), .d (.tup xs), .no]) (Γw := [.d (owD os), .d (.tup xs), .no]) (fun y => .bl (mvB os y)) rfl (fun ψ h => h) rfl rfl (by omega) (fun d hd ψ q => ?_) ?_
    · exact ⟨rfl, os, rfl, ol, pg.1 d hd, q _ _ rfl rfl⟩
    · refine ⟨xs.map (mvB os), by rw [List.map_map]; rfl, ?_⟩
      rw [List.all_map]
      show (if (!(xs.all (mvB os))) = true then _ else _)
      cases cm : xs.all (mvB os) with
      | false =>
        rw [cm] at hk
        exact ifT rfl ⟨rfl, hk⟩
      | true =>
        rw [cm, Bool.true_and] at hk
        rw [List.all_eq_true] at cm
        have ex : xs = (xs.map toM).map mvD := by
          rw [List.map_map]
          refine (List.map_id _).symm.trans (List.map_congr_left fun y hy => ?_)
          exact (mvB_ok (cm y hy)).1
        refine ifF rfl ?_
        (try simp only [dVar, dC, dNil, dCons, dTup, dLst, dOp, onI, dI, dI0, dUn, dEq, dNe, dIxT, dIxL, dIxLv, dAndV, dOrV, dNotV, dB, dAnd, dOr, dNot, dYes, dIf, dChain, dCB, dLenR, dLenv, dListR, dTupR, dMxR, dMnR, dIntR, dIsi, dNoPart, dPart, dSl, dCatA, dCat, dRep, dIn, dInD, dIsN, D.isN, dCall, dCallP, dCallS, dPen0, dTruv, dRg1, dRg2, dLstRg, dTupRg, dLenSet, wf, wb, wi, wt, wl, vD, isSc, dSeq, dNext, dRet, dRetv, dRetN, dIfS, dAsg, dAsgT, dgTup, dgCons, dPar, dApp, dExt, dSetL, dPopAt, dRse, dNever, dDrop, dITup, dILst, dIRng1, dIRng2, dIDn, dIEnT, dIEnL, dIZip, po, poP, sp0, sp1, sp2, sp3, sp4, sp5, pp0, pp1, pp2, pp3, List.set_cons_zero, List.set_cons_succ, List.getElem?_cons_zero, List.getElem?_cons_succ, List.all_nil, List.map_nil, List.append_nil, List.cons_append, List.nil_append, true_and, ite_true, if_true])
        refine ⟨xs.map toM, by rw [dlD, ← ex], by rw [List.length_map]; omega, ?_⟩
        (try simp only [dVar, dC, dNil, dCons, dTup, dLst, dOp, onI, dI, dI0, dUn, dEq, dNe, dIxT, dIxL, dIxLv, dAndV, dOrV, dNotV, dB, dAnd, dOr, dNot, dYes, dIf, dChain, dCB, dLenR, dLenv, dListR, dTupR, dMxR, dMnR, dIntR, dIsi, dNoPart, dPart, dSl, dCatA, dCat, dRep, dIn, dInD, dIsN, D.isN, dCall, dCallP, dCallS, dPen0, dTruv, dRg1, dRg2, dLstRg, dTupRg, dLenSet, wf, wb, wi, wt, wl, vD, isSc, dSeq, dNext, dRet, dRetv, dRetN, dIfS, dAsg, dAsgT, dgTup, dgCons, dPar, dApp, dExt, dSetL, dPopAt, dRse, dNever, dDrop, dITup, dILst, dIRng1, dIRng2, dIDn, dIEnT, dIEnL, dIZip, po, poP, sp0, sp1, sp2, sp3, sp4, sp5, pp0, pp1, pp2, pp3, List.set_cons_zero, List.set_cons_succ, List.getElem?_cons_zero, List.getElem?_cons_succ, List.all_nil, List.map_nil, List.append_nil, List.cons_append, List.nil_append, true_and, ite_true, if_true])
        refine ⟨(xs.map toM).map (·.1), rfl, by rw [List.length_map, List.length_map]; omega, ?_⟩
        rw [List.map_map]
        exact hk
end
end Dl

set_option Elab.async false
set_option maxRecDepth 100000
set_option maxHeartbeats 4000000
set_option linter.all false
set_option synthInstance.maxHeartbeats 4000000
set_option synthInstance.maxSize 10000


namespace Dl
open PySem PySem.Spec PyProof.Rows L2 RZ HmS Da
section
variable {P : Program} {w : World} {K : PySem.W.Frag} [HasT K] {mg : Str → Option Value} {base : Heap} {ad : Nat → Addr} {fd : Nat → FuncData}
/-! ### the refusals -/
structure Er where
  o : Addr
  d : Addr
  n : Addr
structure TxtE (K : PySem.W.Frag) (mg : Str → Option Value) (ce : Er) : Prop where
  NoOwners : ErrT K mg "NoOwners" ce.o
  NoDeals : ErrT K mg "NoDeals" ce.d
  NoNumber : ErrT K mg "NoNumber" ce.n
  eoo : PySem.W.exmOne K (.ref ce.o) (.ref ce.o) = some true
  edo : PySem.W.exmOne K (.ref ce.d) (.ref ce.o) = some false
  edd : PySem.W.exmOne K (.ref ce.d) (.ref ce.d) = some true
  eno : PySem.W.exmOne K (.ref ce.n) (.ref ce.o) = some false
  en_d : PySem.W.exmOne K (.ref ce.n) (.ref ce.d) = some false
  enn : PySem.W.exmOne K (.ref ce.n) (.ref ce.n) = some true
inductive Wh where
  | ok
  | ow
  | dl
  | nu
def Wh.th (a b : Wh) : Wh := match a with
  | .ok => b
  | w => w
def whyD (o x : D) : Wh := if owB o = true then (if dsB (toOw o) x = true then .ok else .dl) else .ow
def whyF (o x s : D) : Wh := (whyD o x).th (if inB s 0 (((toOw o).length : Int) - 1) = true then .ok else .nu)
def whyP (o x s p : D) : Wh := (whyF o x s).th (if inB p 0 (((toDs x).length : Int) - 1) = true then .ok else .nu)
def whyB (o x p : D) : Wh := (whyD o x).th (if inB p 0 ((toDs x).length : Int) = true then .ok else .nu)
def endX (ce : Er) (w : Wh) (A : Prop) (ψ : Value → Prop) : Prop := match w with
  | .ok => A
  | .ow => ψ (.ref ce.o)
  | .dl => ψ (.ref ce.d)
  | .nu => ψ (.ref ce.n)
theorem whyD_ok {o x : D} (h : whyD o x = .ok) : o = owD (toOw o) ∧ x = dsD (toDs x) ∧ In2 (toOw o) (toDs x) := by
  unfold whyD at h
  split at h
  · rename_i h1
    obtain ⟨e, ok⟩ := owB_ok h1
    split at h
    · rename_i h2
      obtain ⟨e2, ok2⟩ := dsB_ok ok h2
      exact ⟨e, e2, ok2⟩
    · cases h
  · cases h
theorem th_ok {a b : Wh} (h : a.th b = .ok) : a = .ok ∧ b = .ok := by
  cases a <;> first | exact ⟨rfl, h⟩ | cases h
theorem whyF_ok {o x s : D} (h : whyF o x s = .ok) : whyD o x = .ok ∧ inB s 0 (((toOw o).length : Int) - 1) = true := by
  obtain ⟨h1, h2⟩ := th_ok h
  refine ⟨h1, ?_⟩
  split at h2
  · assumption
  · cases h2
theorem whyP_ok {o x s p : D} (h : whyP o x s p = .ok) : whyF o x s = .ok ∧ inB p 0 (((toDs x).length : Int) - 1) = true := by
  obtain ⟨h1, h2⟩ := th_ok h
  refine ⟨h1, ?_⟩
  split at h2
  · assumption
  · cases h2
theorem whyB_ok {o x p : D} (h : whyB o x p = .ok) : whyD o x = .ok ∧ inB p 0 ((toDs x).length : Int) = true := by
  obtain ⟨h1, h2⟩ := th_ok h
  refine ⟨h1, ?_⟩
  split at h2
  · assumption
  · cases h2
theorem doneD_ok {os : List Int} {d : List Mv} (o : OwOk os) (h : DlOk os d) : OwOk (doneD os d) := by
  have h1 : DlsOk os [d] := ⟨h, trivial⟩
  have := doneM_rng h1 o.rng
  exact ⟨by rw [doneD_len]; exact o.l0, by rw [doneD_len]; exact o.l1, this⟩
def kDlsG (o x : D) (φ : En → Prop) : Prop := ∃ os, o = owD os ∧ OwOk os ∧ x.good = true ∧ φ (.d (.bl (dsB os x)))
theorem ok_is_deals_G (T : Txt K mg ad fd) : FnOk P w K mg base CX0 6 (ad 10) (fd 10) ps_is_deals (spX K (sp2 kDlsG)) := by
  refine (show Fun K "is_deals" "is_deals" st_is_deals (ad 10) (fd 10) from T.f 10 (by decide)).ok sc_is_deals (fun vs H Q E h => len2 h) (fun cdv A outer s H vs Q E hr h => ?_)
  have hu := hu_of hr
  have hu65 := hu65_of hr
  refine ⟨_, (pss_cons (ps_if (pt_not (pt_val (pe_call (ok_is_tuple (K := K) T) (hr.mono (by omega)) (by rfl) (T.g 2 (by decide)) (T.k 2 (by decide)) (bd_is_tuple T) .nil pass0 (pa_cons (pv 1) (pa_cons pe_int (pa_cons pe_int pa_nil))))))
    (pss_one (ps_ret pe_bl))
    pss_nil)
  (pss_cons (ps_set (i := 2) sc_is_deals.nd rfl (Or.inl rfl) (pv 0))
  (pss_cons (ps_for PassesOwn.never rfl (pi_tupK (K := K) (pv 1)) (pg_name (i := 3) sc_is_deals.nd rfl (Or.inl rfl))
    (pss_cons (ps_if (pt_not (pt_val (pe_call (ok_is_deal_G (K := K) T) (hr.mono (by omega)) (by rfl) (T.g 9 (by decide)) (T.k 9 (by decide)) (bd_is_deal T) .nil pass0 (pa_cons (pv 2) (pa_cons (pv 3) pa_nil)))))
    (pss_one (ps_ret pe_bl))
    pss_nil)
  (pss_one (ps_set (i := 2) sc_is_deals.nd rfl (Or.inl rfl) (pe_call (ok_owners_done_T (K := K) T) (hr.mono (by omega)) (by rfl) (T.g 12 (by decide)) (T.k 12 (by decide)) (bd_owners_done T) .nil pass0 (pa_cons (pv 2) (pa_cons (pe_tup (pa_cons (pv 3) pa_nil)) pa_nil)))))))
  (pss_one (ps_ret pe_bl))))), ?_⟩
  refine body2 h fun x y φ hk => ?_
  rw [show st0 nm_is_deals [x, y] = [.d x, .d y, .no, .no] from rfl]
  obtain ⟨os, rfl, ok, hg, hk⟩ := hk
  refine ⟨rfl, rfl, rfl, 0, 10, rfl, rfl, good_ty hg, ?_⟩
  (dsimp only [dB, dAnd, dOr, dNot, dEqE, wf_d, wf_l, wb_b, wi_i, wt_t, wl_l, wl_d, List.set_cons_zero, List.set_cons_succ])
  unfold dsB at hk
  cases c : tupB y 0 10 with
  | false =>
    rw [c] at hk
    exact ifT rfl ⟨rfl, hk⟩
  | true =>
    rw [c, Bool.true_and] at hk
    obtain ⟨e, l0, l1⟩ := tupB_tup c
    refine ifF rfl ?_
    have pg := pts_good hg
    generalize ptsD y = xs at *
    subst e
    refine ⟨fun i Γ => ∃ now v3, Γ = [.d (owD os), .d (.tup xs), .d (owD now), v3] ∧ OwOk now ∧ dsG os xs = dsG now (xs.drop i), ⟨os, _, rfl, ok, rfl⟩, ?_⟩
    rintro i Γ ⟨now, v3, rfl, okn, en⟩
    refine ⟨fun e => ?_, fun y hy => ?_⟩
    · have e : i = xs.length := e
      rw [e, List.drop_length] at en
      rw [en] at hk
      exact ⟨rfl, hk⟩
    · have il := (List.getElem?_eq_some_iff.mp hy).1
      have ed : xs.drop i = y :: xs.drop (i + 1) := by
        rw [List.drop_eq_getElem_cons il]
        rw [(List.getElem?_eq_some_iff.mp hy).2]
      rw [ed] at en
      have en : dsG os xs = (dlB now y && dsG (doneD now (toDl y)) (xs.drop (i + 1))) := en
      refine ⟨rfl, now, rfl, okn.l1, pg.1 y (List.mem_of_getElem? hy), ?_⟩
      cases cd : dlB now y with
      | false =>
        rw [cd, Bool.false_and] at en
        rw [en] at hk
        (dsimp only [dB, dAnd, dOr, dNot, dEqE, wf_d, wf_l, wb_b, wi_i, wt_t, wl_l, wl_d, List.set_cons_zero, List.set_cons_succ])
        exact ifT rfl ⟨rfl, hk⟩
      | true =>
        rw [cd, Bool.true_and] at en
        obtain ⟨ey, oky⟩ := dlB_ok cd
        (dsimp only [dB, dAnd, dOr, dNot, dEqE, wf_d, wf_l, wb_b, wi_i, wt_t, wl_l, wl_d, List.set_cons_zero, List.set_cons_succ])
        refine ifF rfl ?_
        refine ⟨by simp, rfl, now, [toDl y], rfl, ?_, fun d h m hm => ?_, ?_⟩
        · rw [dsD, List.map_cons, List.map_nil, ← ey]
        · rw [List.mem_singleton] at h
          subst h
          exact ⟨(oky.mv m hm).s0, (oky.mv m hm).s1⟩
        · exact ⟨_, _, rfl, doneD_ok okn oky, en⟩
def kXD (ce : Er) (o x : D) (φ : En → Prop) (ψ : Value → Prop) : Prop := o.good = true ∧ x.good = true ∧ endX ce (whyD o x) (φ (.d .non)) ψ
variable {ce : Er}
theorem ok_check_deals_X (T : Txt K mg ad fd) (TE : TxtE K mg ce) : FnOk P w K mg base (L2.CX P w) 7 (ad 13) (fd 13) ps_check_deals (spX K (sx2 (kXD ce))) := by
  refine (show Fun K "check_deals" "check_deals" st_check_deals (ad 13) (fd 13) from T.f 13 (by decide)).okX sc_check_deals (fun vs H Q E h => lex2 h) (fun cdv A outer s H vs Q E hr h => ?_)
  have hu := hu_of hr
  have hu65 := hu65_of hr
  refine ⟨_, (pss_cons (ps_if (pt_not (pt_val (pe_call (ok_is_owners_G (K := K) T) (hr.mono (by omega)) (by rfl) (T.g 7 (by decide)) (T.k 7 (by decide)) (bd_is_owners T) .nil pass0 (pa_cons (pv 0) pa_nil))))
    (pss_one (ps_rse TE.NoOwners rfl (takes_of rfl rfl rfl rfl) (by rfl)))
    pss_nil)
  (pss_one (ps_if (pt_not (pt_val (pe_call (ok_is_deals_G (K := K) T) (hr.mono (by omega)) (by rfl) (T.g 10 (by decide)) (T.k 10 (by decide)) (bd_is_deals T) .nil pass0 (pa_cons (pv 0) (pa_cons (pv 1) pa_nil)))))
    (pss_one (ps_rse TE.NoDeals rfl (takes_of rfl rfl rfl rfl) (by rfl)))
    pss_nil))), ?_⟩
  refine bodx2 h fun x y φ ψ hk => ?_
  rw [show st0 nm_check_deals [x, y] = [.d x, .d y] from rfl]
  obtain ⟨hx, hy, hk⟩ := hk
  unfold whyD at hk
  refine ⟨rfl, hx, ?_⟩
  cases c : owB x with
  | false =>
    rw [c, if_neg Bool.false_ne_true] at hk
    (try dsimp only [dNext, dSeq, dIfS, dB, dOp, dNot, dOr, dAnd, dNotV, dOrV, dAndV, dAsg, dRet, dDrop, dCB, dIf, dTup, dLst, dCons, dNil, wf_d, wf_l, wb_b, wi_i, wt_t, wl_l, wl_d, tupR_t, tupR_l, lstR_t, lstR_l, List.set_cons_zero, List.set_cons_succ])
    exact ifT rfl hk
  | true =>
    rw [c, if_pos rfl] at hk
    obtain ⟨e, ok⟩ := owB_ok c
    (try dsimp only [dNext, dSeq, dIfS, dB, dOp, dNot, dOr, dAnd, dNotV, dOrV, dAndV, dAsg, dRet, dDrop, dCB, dIf, dTup, dLst, dCons, dNil, wf_d, wf_l, wb_b, wi_i, wt_t, wl_l, wl_d, tupR_t, tupR_l, lstR_t, lstR_l, List.set_cons_zero, List.set_cons_succ])
    refine ifF rfl ?_
    refine ⟨rfl, toOw x, e, ok, hy, ?_⟩
    cases c2 : dsB (toOw x) y with
    | false =>
      rw [c2, if_neg Bool.false_ne_true] at hk
      (try dsimp only [dNext, dSeq, dIfS, dB, dOp, dNot, dOr, dAnd, dNotV, dOrV, dAndV, dAsg, dRet, dDrop, dCB, dIf, dTup, dLst, dCons, dNil, wf_d, wf_l, wb_b, wi_i, wt_t, wl_l, wl_d, tupR_t, tupR_l, lstR_t, lstR_l, List.set_cons_zero, List.set_cons_succ])
      exact ifT rfl hk
    | true =>
      rw [c2, if_pos rfl] at hk
      (try dsimp only [dNext, dSeq, dIfS, dB, dOp, dNot, dOr, dAnd, dNotV, dOrV, dAndV, dAsg, dRet, dDrop, dCB, dIf, dTup, dLst, dCons, dNil, wf_d, wf_l, wb_b, wi_i, wt_t, wl_l, wl_d, tupR_t, tupR_l, lstR_t, lstR_l, List.set_cons_zero, List.set_cons_succ])
      exact ifF rfl hk
end
end Dl

set_option Elab.async false
set_option maxRecDepth 100000
set_option maxHeartbeats 4000000
set_option linter.all false
set_option synthInstance.maxHeartbeats 4000000
set_option synthInstance.maxSize 10000


namespace Dl
open PySem PySem.Spec PyProof.Rows L2 RZ HmS Da
section
variable {P : Program} {w : World} {K : PySem.W.Frag} [HasT K] {mg : Str → Option Value} {base : Heap} {ad : Nat → Addr} {fd : Nat → FuncData}
variable {ce : Er}
def kXF (ce : Er) (o x s : D) (φ : En → Prop) (ψ : Value → Prop) : Prop := o.good = true ∧ x.good = true ∧ s.good = true ∧ endX ce (whyF o x s) (φ (.d .non)) ψ
def kXP (ce : Er) (o x s p : D) (φ : En → Prop) (ψ : Value → Prop) : Prop := o.good = true ∧ x.good = true ∧ s.good = true ∧ p.good = true ∧ endX ce (whyP o x s p) (φ (.d .non)) ψ
theorem len_ow {o : D} {os : List Int} (h : o = owD os) : (toOw o).length = os.length := by
  rw [h]
  show ((os.map D.int).map iD).length = _
  rw [List.length_map, List.length_map]
theorem endX_th {ce : Er} {a b : Wh} {A : Prop} {ψ : Value → Prop} (h : endX ce (a.th b) A ψ) : endX ce a (endX ce b A ψ) ψ := by
  cases a <;> exact h
theorem endX_imp {ce : Er} {w : Wh} {A B : Prop} {ψ : Value → Prop} (h : endX ce w A ψ) (k : w = .ok → A → B) : endX ce w B ψ := by
  cases w <;> first | exact k rfl h | exact h
theorem ok_check_false_X (T : Txt K mg ad fd) (TE : TxtE K mg ce) : FnOk P w K mg base (L2.CX P w) 8 (ad 14) (fd 14) ps_check_false (spX K (sx3 (kXF ce))) := by
  refine (show Fun K "check_false" "check_false" st_check_false (ad 14) (fd 14) from T.f 14 (by decide)).okX sc_check_false (fun vs H Q E h => lex3 h) (fun cdv A outer s H vs Q E hr h => ?_)
  have hu := hu_of hr
  have hu65 := hu65_of hr
  refine ⟨_, (pss_cons (ps_expr (pe_call (ok_check_deals_X (K := K) T TE) (hr.mono (by omega)) (by rfl) (T.g 13 (by decide)) (T.k 13 (by decide)) (bd_check_deals T) .nil (passes_call (W := fun cls d _ H => E cls d H) (takes_of rfl rfl rfl rfl) fun _ _ _ _ h => h) (pa_cons (pv 0) (pa_cons (pv 1) pa_nil))))
  (pss_one (ps_if (pt_not (pt_val (pe_call (ok_is_whole_within (K := K) T) (hr.mono (by omega)) (by rfl) (T.g 1 (by decide)) (T.k 1 (by decide)) (bd_is_whole_within T) .nil pass0 (pa_cons (pv 2) (pa_cons pe_int (pa_cons (pe_op op_sub (pe_callB (r := Da.rLen K) cl_len (by rfl) (T.z 0 (by decide)) (by decide +kernel) (pa_cons (pv 0) pa_nil)) pe_int) pa_nil))))))
    (pss_one (ps_rse TE.NoNumber rfl (takes_of rfl rfl rfl rfl) (by rfl)))
    pss_nil))), ?_⟩
  refine bodx3 h fun x y z φ ψ hk => ?_
  rw [show st0 nm_check_false [x, y, z] = [.d x, .d y, .d z] from rfl]
  obtain ⟨hx, hy, hz, hk⟩ := hk
  refine ⟨rfl, hx, hy, endX_imp (endX_th hk) fun wd hk => ?_⟩
  obtain ⟨ex, ey, ok⟩ := whyD_ok wd
  have e : D.int (((toOw x).length : Int) - 1) = .int ((((toOw x).map D.int).length : Int) - 1) := by rw [List.length_map]
  rw [ex]
  refine ⟨rfl, rfl, rfl, rfl, 0, ((toOw x).length : Int) - 1, rfl, e.symm, good_ty hz, ?_⟩
  cases c : inB z 0 (((toOw x).length : Int) - 1) with
  | false =>
    rw [c, if_neg Bool.false_ne_true] at hk
    (try dsimp only [dNext, dSeq, dIfS, dB, dOp, dNot, dOr, dAnd, dNotV, dOrV, dAndV, dAsg, dRet, dDrop, dCB, dIf, dTup, dLst, dCons, dNil, wf_d, wf_l, wb_b, wi_i, wt_t, wl_l, wl_d, tupR_t, tupR_l, lstR_t, lstR_l, List.set_cons_zero, List.set_cons_succ])
    exact ifT rfl hk
  | true =>
    rw [c, if_pos rfl] at hk
    (try dsimp only [dNext, dSeq, dIfS, dB, dOp, dNot, dOr, dAnd, dNotV, dOrV, dAndV, dAsg, dRet, dDrop, dCB, dIf, dTup, dLst, dCons, dNil, wf_d, wf_l, wb_b, wi_i, wt_t, wl_l, wl_d, tupR_t, tupR_l, lstR_t, lstR_l, List.set_cons_zero, List.set_cons_succ])
    exact ifF rfl hk
theorem ok_check_place_X (T : Txt K mg ad fd) (TE : TxtE K mg ce) : FnOk P w K mg base (L2.CX P w) 9 (ad 15) (fd 15) ps_check_place (spX K (sx4 (kXP ce))) := by
  refine (show Fun K "check_place" "check_place" st_check_place (ad 15) (fd 15) from T.f 15 (by decide)).okX sc_check_place (fun vs H Q E h => lex4 h) (fun cdv A outer s H vs Q E hr h => ?_)
  have hu := hu_of hr
  have hu65 := hu65_of hr
  refine ⟨_, (pss_cons (ps_expr (pe_call (ok_check_false_X (K := K) T TE) (hr.mono (by omega)) (by rfl) (T.g 14 (by decide)) (T.k 14 (by decide)) (bd_check_false T) .nil (passes_call (W := fun cls d _ H => E cls d H) (takes_of rfl rfl rfl rfl) fun _ _ _ _ h => h) (pa_cons (pv 0) (pa_cons (pv 1) (pa_cons (pv 2) pa_nil)))))
  (pss_one (ps_if (pt_not (pt_val (pe_call (ok_is_whole_within (K := K) T) (hr.mono (by omega)) (by rfl) (T.g 1 (by decide)) (T.k 1 (by decide)) (bd_is_whole_within T) .nil pass0 (pa_cons (pv 3) (pa_cons pe_int (pa_cons (pe_op op_sub (pe_callB (r := Da.rLen K) cl_len (by rfl) (T.z 0 (by decide)) (by decide +kernel) (pa_cons (pv 1) pa_nil)) pe_int) pa_nil))))))
    (pss_one (ps_rse TE.NoNumber rfl (takes_of rfl rfl rfl rfl) (by rfl)))
    pss_nil))), ?_⟩
  refine bodx4 h fun x y z u φ ψ hk => ?_
  rw [show st0 nm_check_place [x, y, z, u] = [.d x, .d y, .d z, .d u] from rfl]
  obtain ⟨hx, hy, hz, hu, hk⟩ := hk
  refine ⟨rfl, hx, hy, hz, endX_imp (endX_th hk) fun wF hk => ?_⟩
  obtain ⟨ex, ey, ok⟩ := whyD_ok (whyF_ok wF).1
  have e : D.int (((toDs y).length : Int) - 1) = .int ((((toDs y).map dlD).length : Int) - 1) := by rw [List.length_map]
  rw [ey]
  refine ⟨rfl, rfl, rfl, rfl, 0, ((toDs y).length : Int) - 1, rfl, e.symm, good_ty hu, ?_⟩
  cases c : inB u 0 (((toDs y).length : Int) - 1) with
  | false =>
    rw [c, if_neg Bool.false_ne_true] at hk
    (try dsimp only [dNext, dSeq, dIfS, dB, dOp, dNot, dOr, dAnd, dNotV, dOrV, dAndV, dAsg, dRet, dDrop, dCB, dIf, dTup, dLst, dCons, dNil, wf_d, wf_l, wb_b, wi_i, wt_t, wl_l, wl_d, tupR_t, tupR_l, lstR_t, lstR_l, List.set_cons_zero, List.set_cons_succ])
    exact ifT rfl hk
  | true =>
    rw [c, if_pos rfl] at hk
    (try dsimp only [dNext, dSeq, dIfS, dB, dOp, dNot, dOr, dAnd, dNotV, dOrV, dAndV, dAsg, dRet, dDrop, dCB, dIf, dTup, dLst, dCons, dNil, wf_d, wf_l, wb_b, wi_i, wt_t, wl_l, wl_d, tupR_t, tupR_l, lstR_t, lstR_l, List.set_cons_zero, List.set_cons_succ])
    exact ifF rfl hk
def kXB (ce : Er) (o x p : D) (φ : En → Prop) (ψ : Value → Prop) : Prop := o.good = true ∧ x.good = true ∧ p.good = true ∧ endX ce (whyB o x p) (∀ y : D, φ (.d y)) ψ
theorem ok_owners_behind_X (T : Txt K mg ad fd) (TE : TxtE K mg ce) : FnOk P w K mg base (L2.CX P w) 8 (ad 16) (fd 16) ps_owners_behind (spX K (sx3 (kXB ce))) := by
  refine (show Fun K "owners_behind" "owners_behind" st_owners_behind (ad 16) (fd 16) from T.f 16 (by decide)).okX sc_owners_behind (fun vs H Q E h => lex3 h) (fun cdv A outer s H vs Q E hr h => ?_)
  have hu := hu_of hr
  have hu65 := hu65_of hr
  refine ⟨_, (pss_cons (ps_expr (pe_call (ok_check_deals_X (K := K) T TE) (hr.mono (by omega)) (by rfl) (T.g 13 (by decide)) (T.k 13 (by decide)) (bd_check_deals T) .nil (passes_call (W := fun cls d _ H => E cls d H) (takes_of rfl rfl rfl rfl) fun _ _ _ _ h => h) (pa_cons (pv 0) (pa_cons (pv 1) pa_nil))))
  (pss_cons (ps_if (pt_not (pt_val (pe_call (ok_is_whole_within (K := K) T) (hr.mono (by omega)) (by rfl) (T.g 1 (by decide)) (T.k 1 (by decide)) (bd_is_whole_within T) .nil pass0 (pa_cons (pv 2) (pa_cons pe_int (pa_cons (pe_callB (r := Da.rLen K) cl_len (by rfl) (T.z 0 (by decide)) (by decide +kernel) (pa_cons (pv 1) pa_nil)) pa_nil))))))
    (pss_one (ps_rse TE.NoNumber rfl (takes_of rfl rfl rfl rfl) (by rfl)))
    pss_nil)
  (pss_one (ps_ret (pe_call (ok_owners_done_T (K := K) T) (hr.mono (by omega)) (by rfl) (T.g 12 (by decide)) (T.k 12 (by decide)) (bd_owners_done T) .nil pass0 (pa_cons (pv 0) (pa_cons (pe_slice (r := rSlA K) sl_tupA (pv 1) po_none (po_some (pv 2))) pa_nil))))))), ?_⟩
  refine bodx3 h fun x y z φ ψ hk => ?_
  rw [show st0 nm_owners_behind [x, y, z] = [.d x, .d y, .d z] from rfl]
  obtain ⟨hx, hy, hz, hk⟩ := hk
  refine ⟨rfl, hx, hy, endX_imp (endX_th hk) fun wd hk2 => ?_⟩
  clear hk
  obtain ⟨ex, ey, ok⟩ := whyD_ok wd
  have e : D.int ((toDs y).length : Int) = .int (((toDs y).map dlD).length : Int) := by rw [List.length_map]
  generalize toOw x = os at *
  generalize toDs y = ds at *
  subst ex
  subst ey
  refine ⟨rfl, rfl, 0, (ds.length : Int), rfl, e.symm, good_ty hz, ?_⟩
  cases c : inB z 0 (ds.length : Int) with
  | false =>
    rw [c, if_neg Bool.false_ne_true] at hk2
    (try dsimp only [dNext, dSeq, dIfS, dB, dOp, dNot, dOr, dAnd, dNotV, dOrV, dAndV, dAsg, dRet, dDrop, dCB, dIf, dTup, dLst, dCons, dNil, wf_d, wf_l, wb_b, wi_i, wt_t, wl_l, wl_d, tupR_t, tupR_l, lstR_t, lstR_l, List.set_cons_zero, List.set_cons_succ])
    exact ifT rfl hk2
  | true =>
    rw [c, if_pos rfl] at hk2
    have hk := hk2
    obtain ⟨ez, z0, z1⟩ := inB_int c
    rw [ez]
    (try dsimp only [dNext, dSeq, dIfS, dB, dOp, dNot, dOr, dAnd, dNotV, dOrV, dAndV, dAsg, dRet, dDrop, dCB, dIf, dTup, dLst, dCons, dNil, wf_d, wf_l, wb_b, wi_i, wt_t, wl_l, wl_d, tupR_t, tupR_l, lstR_t, lstR_l, List.set_cons_zero, List.set_cons_succ])
    refine ifF rfl ?_
    (try simp only [dVar, dC, dNil, dCons, dTup, dLst, dOp, onI, dI, dI0, dUn, dEq, dNe, dIxT, dIxL, dIxLv, dAndV, dOrV, dNotV, dB, dAnd, dOr, dNot, dYes, dIf, dChain, dCB, dLenR, dLenv, dListR, dTupR, dMxR, dMnR, dIntR, dIsi, dNoPart, dPart, dSl, dCatA, dCat, dRep, dIn, dInD, dIsN, D.isN, dCall, dCallP, dCallS, dPen0, dTruv, dRg1, dRg2, dLstRg, dTupRg, dLenSet, wf, wb, wi, wt, wl, vD, isSc, dSeq, dNext, dRet, dRetv, dRetN, dIfS, dAsg, dAsgT, dgTup, dgCons, dPar, dApp, dExt, dSetL, dPopAt, dRse, dNever, dDrop, dITup, dILst, dIRng1, dIRng2, dIDn, dIEnT, dIEnL, dIZip, po, poP, sp0, sp1, sp2, sp3, sp4, sp5, pp0, pp1, pp2, pp3, List.set_cons_zero, List.set_cons_succ, List.getElem?_cons_zero, List.getElem?_cons_succ, List.all_nil, List.map_nil, List.append_nil, List.cons_append, List.nil_append, true_and, ite_true, if_true])
    refine ⟨os, ds.take (iD z).toNat, rfl, ?_, fun d hd => dlsOk_mv ok.vd d (List.mem_of_mem_take hd), hk _⟩
    have : iD z = ((iD z).toNat : Int) := by omega
    rw [dsD, List.map_take, ← cutL_to, ← this]
def kXA (ce : Er) (o x s : D) (φ : En → Prop) (ψ : Value → Prop) : Prop := o.good = true ∧ x.good = true ∧ s.good = true ∧ endX ce (whyF o x s) (∀ y : D, φ (.d y)) ψ
theorem ok_fallen_X (T : Txt K mg ad fd) (TE : TxtE K mg ce) : FnOk P w K mg base (L2.CX P w) 9 (ad 20) (fd 20) ps_fallen (spX K (sx3 (kXA ce))) := by
  refine (show Fun K "fallen" "fallen" st_fallen (ad 20) (fd 20) from T.f 20 (by decide)).okX sc_fallen (fun vs H Q E h => lex3 h) (fun cdv A outer s H vs Q E hr h => ?_)
  have hu := hu_of hr
  have hu65 := hu65_of hr
  refine ⟨_, (pss_cons (ps_expr (pe_call (ok_check_false_X (K := K) T TE) (hr.mono (by omega)) (by rfl) (T.g 14 (by decide)) (T.k 14 (by decide)) (bd_check_false T) .nil (passes_call (W := fun cls d _ H => E cls d H) (takes_of rfl rfl rfl rfl) fun _ _ _ _ h => h) (pa_cons (pv 0) (pa_cons (pv 1) (pa_cons (pv 2) pa_nil)))))
  (pss_one (ps_ret (pe_callTy (r := rTupK) (cl_tupK rfl) (by rfl) (T.z 4 (by decide)) (by decide +kernel) (pa_cons (pe_call (ok_chains_by (K := K) T) (hr.mono (by omega)) (by rfl) (T.g 19 (by decide)) (T.k 19 (by decide)) (bd_chains_by T) .nil pass0 (pa_cons (pv 1) (pa_cons (pv 2) pa_nil))) pa_nil))))), ?_⟩
  refine bodx3 h fun x y z φ ψ hk => ?_
  rw [show st0 nm_fallen [x, y, z] = [.d x, .d y, .d z] from rfl]
  obtain ⟨hx, hy, hz, hk⟩ := hk
  refine ⟨rfl, hx, hy, hz, endX_imp hk fun wF hk => ?_⟩
  obtain ⟨wd, ws⟩ := whyF_ok wF
  obtain ⟨ex, ey, ok⟩ := whyD_ok wd
  obtain ⟨ez, z0, z1⟩ := inB_int ws
  rw [ey, ez]
  exact ⟨rfl, toDs y, iD z, rfl, rfl, ok.l, ok.ln, hk _⟩
theorem ok_owners_left_X (T : Txt K mg ad fd) (TE : TxtE K mg ce) : FnOk P w K mg base (L2.CX P w) 9 (ad 21) (fd 21) ps_owners_left (spX K (sx3 (kXA ce))) := by
  refine (show Fun K "owners_left" "owners_left" st_owners_left (ad 21) (fd 21) from T.f 21 (by decide)).okX sc_owners_left (fun vs H Q E h => lex3 h) (fun cdv A outer s H vs Q E hr h => ?_)
  have hu := hu_of hr
  have hu65 := hu65_of hr
  refine ⟨_, (pss_cons (ps_expr (pe_call (ok_check_false_X (K := K) T TE) (hr.mono (by omega)) (by rfl) (T.g 14 (by decide)) (T.k 14 (by decide)) (bd_check_false T) .nil (passes_call (W := fun cls d _ H => E cls d H) (takes_of rfl rfl rfl rfl) fun _ _ _ _ h => h) (pa_cons (pv 0) (pa_cons (pv 1) (pa_cons (pv 2) pa_nil)))))
  (pss_cons (ps_set (i := 3) sc_owners_left.nd rfl (Or.inr rfl) (pe_call (ok_chains_by (K := K) T) (hr.mono (by omega)) (by rfl) (T.g 19 (by decide)) (T.k 19 (by decide)) (bd_chains_by T) .nil pass0 (pa_cons (pv 1) (pa_cons (pv 2) pa_nil))))
  (pss_one (ps_ret (pe_call (ok_owners_done_L (K := K) T) (hr.mono (by omega)) (by rfl) (T.g 12 (by decide)) (T.k 12 (by decide)) (bd_owners_done T) .nil pass0 (pa_cons (pv 0) (pa_cons (pe_lc (own := [("place", 4), ("deal", 5)]) (g := (gTup K 2 (gCons (gName 4) (gCons (gName 5) gNil)))) rfl sc_owners_left.nd (pi_enumTK (K := K) (by rfl) (T.z 5 (by decide)) (pa_cons (pv 1) pa_nil))
      (blkOk_by (N := nm_owners_left) (sc := defScope st_owners_left) (by decide +kernel)) (fun _ _ _ _ _ => by exact (pg_tupK (K := K) (n := 2) rfl (pgs_cons (pg_name (i := 4) sc_owners_left.nd rfl (Or.inl rfl)) (pgs_cons (pg_name (i := 5) sc_owners_left.nd rfl (Or.inl rfl)) pgs_nil)))) (fun _ _ _ _ _ => pts_one (pt_cmp (pc_dnotin hu (pv 4) (pv 3))))
      (fun _ _ _ _ _ => by exact (pv 5))) pa_nil))))))), ?_⟩
  refine bodx3 h fun x y z φ ψ hk => ?_
  rw [show st0 nm_owners_left [x, y, z] = [.d x, .d y, .d z, .no, .no, .no] from rfl]
  obtain ⟨hx, hy, hz, hk⟩ := hk
  refine ⟨rfl, hx, hy, hz, endX_imp hk fun wF hk2 => ?_⟩
  obtain ⟨wd, ws⟩ := whyF_ok wF
  obtain ⟨ex, ey, ok⟩ := whyD_ok wd
  obtain ⟨ez, z0, z1⟩ := inB_int ws
  generalize toOw x = os at *
  generalize toDs y = ds at *
  generalize iD z = s at *
  subst ex
  subst ey
  subst ez
  have okl := ok.l
  refine ⟨rfl, ds, s, rfl, rfl, ok.l, ok.ln, ?_⟩
  (try simp only [dVar, dC, dNil, dCons, dTup, dLst, dOp, onI, dI, dI0, dUn, dEq, dNe, dIxT, dIxL, dIxLv, dAndV, dOrV, dNotV, dB, dAnd, dOr, dNot, dYes, dIf, dChain, dCB, dLenR, dLenv, dListR, dTupR, dMxR, dMnR, dIntR, dIsi, dNoPart, dPart, dSl, dCatA, dCat, dRep, dIn, dInD, dIsN, D.isN, dCall, dCallP, dCallS, dPen0, dTruv, dRg1, dRg2, dLstRg, dTupRg, dLenSet, wf, wb, wi, wt, wl, vD, isSc, dSeq, dNext, dRet, dRetv, dRetN, dIfS, dAsg, dAsgT, dgTup, dgCons, dPar, dApp, dExt, dSetL, dPopAt, dRse, dNever, dDrop, dITup, dILst, dIRng1, dIRng2, dIDn, dIEnT, dIEnL, dIZip, po, poP, sp0, sp1, sp2, sp3, sp4, sp5, pp0, pp1, pp2, pp3, List.set_cons_zero, List.set_cons_succ, List.getElem?_cons_zero, List.getElem?_cons_succ, List.all_nil, List.map_nil, List.append_nil, List.cons_append, List.nil_append, true_and, ite_true, if_true])
  refine dLc_filt (items := pairsI 0 (ds.map dlD)) (Γ1 := [.d (owD os), .d (dsD ds), .d (.int s), chsE (chainsN mnC ds s ds.length), .no, .no]) (Γw := [.d (owD os), .d (dsD ds), .d (.int s), chsE (chainsN mnC ds s ds.length), .no, .no])
    (fun x => !(gone mnC ds s ds.length).contains (intOf (parts2 x).1).toNat) (fun x => (parts2 x).2) rfl (fun ψ h => h) rfl rfl (by rw [pairsI_len, List.length_map]; omega) (fun d hd ψ q => ?_) ?_
  · obtain ⟨j, hj⟩ := List.mem_iff_getElem?.mp hd
    obtain ⟨x, hx, rfl⟩ := pairsI_get hj
    refine ⟨rfl, rfl, _, _, _, _, rfl, rfl, rfl, ?_⟩
    have e : (lookD (keysG (chainsN mnC ds s ds.length)) (valsG (chainsN mnC ds s ds.length)) (.inl ((0 + j : Nat) : Int))).isSome = (gone mnC ds s ds.length).contains (0 + j) := by
      unfold keysG valsG
      rw [look_chs, Option.isSome_map, lk_has]
      rfl
    have e2 : (!(gone mnC ds s ds.length).contains (intOf (parts2 (D.tup [D.int ((0 + j : Nat) : Int), x])).fst).toNat) = !(lookD (keysG (chainsN mnC ds s ds.length)) (valsG (chainsN mnC ds s ds.length)) (.inl ((0 + j : Nat) : Int))).isSome := by
      rw [e]
      show (!(gone mnC ds s ds.length).contains ((0 + j : Nat) : Int).toNat) = _
      rw [Int.toNat_natCast]
    rw [e2] at q
    exact q _ rfl fun _ ψ' q' => q' _ _ rfl rfl
  · refine ⟨os, restN mnC ds s ds.length, rfl, ?_, ?_, hk2 _⟩
    · rw [rest_filt (ds := ds) (f := s) (fun i => !(gone mnC ds s ds.length).contains i) fun i _ => rfl]
    · exact dlsOk_mv (rest_ok ok.vd (Nat.le_refl _)).1
def kXC (ce : Er) (o x s p : D) (φ : En → Prop) (ψ : Value → Prop) : Prop := o.good = true ∧ x.good = true ∧ s.good = true ∧ p.good = true ∧ endX ce (whyP o x s p) (∀ y : D, φ (.d y)) ψ
theorem ok_chain_of_X (T : Txt K mg ad fd) (TE : TxtE K mg ce) : FnOk P w K mg base (L2.CX P w) 10 (ad 22) (fd 22) ps_chain_of (spX K (sx4 (kXC ce))) := by
  refine (show Fun K "chain_of" "chain_of" st_chain_of (ad 22) (fd 22) from T.f 22 (by decide)).okX sc_chain_of (fun vs H Q E h => lex4 h) (fun cdv A outer s H vs Q E hr h => ?_)
  have hu := hu_of hr
  have hu65 := hu65_of hr
  refine ⟨_, (pss_cons (ps_expr (pe_call (ok_check_place_X (K := K) T TE) (hr.mono (by omega)) (by rfl) (T.g 15 (by decide)) (T.k 15 (by decide)) (bd_check_place T) .nil (passes_call (W := fun cls d _ H => E cls d H) (takes_of rfl rfl rfl rfl) fun _ _ _ _ h => h) (pa_cons (pv 0) (pa_cons (pv 1) (pa_cons (pv 2) (pa_cons (pv 3) pa_nil))))))
  (pss_one (ps_ret (pe_dget1 hu (pe_call (ok_chains_by (K := K) T) (hr.mono (by omega)) (by rfl) (T.g 19 (by decide)) (T.k 19 (by decide)) (bd_chains_by T) .nil pass0 (pa_cons (pv 1) (pa_cons (pv 2) pa_nil))) (pv 3) ⟨rfl, rfl, rfl, rfl⟩)))), ?_⟩
  refine bodx4 h fun x y z u φ ψ hk => ?_
  rw [show st0 nm_chain_of [x, y, z, u] = [.d x, .d y, .d z, .d u] from rfl]
  obtain ⟨hx, hy, hz, hu, hk⟩ := hk
  refine ⟨rfl, hx, hy, hz, hu, endX_imp hk fun wp hk => ?_⟩
  obtain ⟨wF, wp⟩ := whyP_ok wp
  obtain ⟨wd, ws⟩ := whyF_ok wF
  obtain ⟨ex, ey, ok⟩ := whyD_ok wd
  obtain ⟨ez, z0, z1⟩ := inB_int ws
  obtain ⟨eu, u0, u1⟩ := inB_int wp
  rw [ey, ez, eu]
  refine ⟨rfl, toDs y, iD z, rfl, rfl, ok.l, ok.ln, ?_⟩
  (dsimp only [dB, dAnd, dOr, dNot, dEqE, wf_d, wf_l, wb_b, wi_i, wt_t, wl_l, wl_d, List.set_cons_zero, List.set_cons_succ])
  exact ⟨⟨_, _, rfl⟩, _, _, _, rfl, rfl, hk _⟩
def kXI (ce : Er) (o x s p t : D) (φ : En → Prop) (ψ : Value → Prop) : Prop := o.good = true ∧ x.good = true ∧ s.good = true ∧ p.good = true ∧ t = .non ∧ endX ce (whyP o x s p) (∀ y : D, φ (.d y)) ψ
theorem ok_is_chain_X (T : Txt K mg ad fd) (TE : TxtE K mg ce) : FnOk P w K mg base (L2.CX P w) 10 (ad 23) (fd 23) ps_is_chain (spX K (sx5 (kXI ce))) := by
  refine (show Fun K "is_chain" "is_chain" st_is_chain (ad 23) (fd 23) from T.f 23 (by decide)).okX sc_is_chain (fun vs H Q E h => lex5 h) (fun cdv A outer s H vs Q E hr h => ?_)
  have hu := hu_of hr
  have hu65 := hu65_of hr
  refine ⟨_, (pss_cons (ps_expr (pe_call (ok_check_place_X (K := K) T TE) (hr.mono (by omega)) (by rfl) (T.g 15 (by decide)) (T.k 15 (by decide)) (bd_check_place T) .nil (passes_call (W := fun cls d _ H => E cls d H) (takes_of rfl rfl rfl rfl) fun _ _ _ _ h => h) (pa_cons (pv 0) (pa_cons (pv 1) (pa_cons (pv 2) (pa_cons (pv 3) pa_nil))))))
  (pss_cons (ps_if (PW.pt (pw_or (pt_not (pt_val (pe_call (ok_is_rising_within (K := K) T) (hr.mono (by omega)) (by rfl) (T.g 4 (by decide)) (T.k 4 (by decide)) (bd_is_rising_within T) .nil pass0 (pa_cons (pv 4) (pa_cons pe_int (pa_cons (pv 3) pa_nil)))))) (pw_or1 (pt_cmpR (r := rNeD K) (op_neD hr.units) (pe_slice (r := rSlA K) sl_tupA (pv 4) (po_some (pe_un un_neg pe_int)) po_none) (pe_tup (pa_cons (pv 3) pa_nil)) (nomark _)))))
    (pss_one (ps_ret pe_bl))
    pss_nil)
  (pss_cons (ps_if (pt_cmpR (r := rIn K true) op_notIn_seq (pv 2) (pe_call (ok_moved_by (K := K) T) (hr.mono (by omega)) (by rfl) (T.g 11 (by decide)) (T.k 11 (by decide)) (bd_moved_by T) .nil pass0 (pa_cons (pe_ix (r := rIxT K) ix_tup (pv 1) (pe_ix (r := rIxT K) ix_tup (pv 4) pe_int (fun _ _ => rfl)) (fun _ _ => rfl)) pa_nil)) (by rfl))
    (pss_one (ps_ret pe_bl))
    pss_nil)
  (pss_one (ps_ret (pe_callB (r := rAll K) (cr_all rfl) (by rfl) (T.z 9 (by decide)) (by decide +kernel) (pa_cons (pe_lc (own := [("ahead", 5), ("at", 6)]) (g := (gTup K 2 (gCons (gName 5) (gCons (gName 6) gNil)))) (tt := tYes) rfl sc_is_chain.nd (pi_zipAK (K := K) (by rfl) (T.z 11 (by decide)) (pa_cons (pv 4) (pa_cons (pe_slice (r := rSlA K) sl_tupA (pv 4) (po_some pe_int) po_none) pa_nil)))
      (blkOk_by (N := nm_is_chain) (sc := defScope st_is_chain) (by decide +kernel)) (fun _ _ _ _ _ => by exact (pg_tupK (K := K) (n := 2) rfl (pgs_cons (pg_name (i := 5) sc_is_chain.nd rfl (Or.inl rfl)) (pgs_cons (pg_name (i := 6) sc_is_chain.nd rfl (Or.inl rfl)) pgs_nil)))) (fun _ _ _ _ _ => pts_nil)
      (fun _ _ _ _ _ => by exact (pe_cmpR (r := rIn K false) op_in_seq (pv 5) (pe_call (ok_leaned_on (K := K) T) (hr.mono (by omega)) (by rfl) (T.g 17 (by decide)) (T.k 17 (by decide)) (bd_leaned_on T) .nil pass0 (pa_cons (pv 1) (pa_cons (pv 6) pa_nil))) (by rfl)))) pa_nil))))))), ?_⟩
  refine bodx5 h fun x y z u v φ ψ hk => ?_
  rw [show st0 nm_is_chain [x, y, z, u, v] = [.d x, .d y, .d z, .d u, .d v, .no, .no] from rfl]
  obtain ⟨hx, hy, hz, hu, rfl, hk⟩ := hk
  refine ⟨rfl, hx, hy, hz, hu, endX_imp hk fun wp hk => ?_⟩
  obtain ⟨wF, wp⟩ := whyP_ok wp
  obtain ⟨eu, u0, u1⟩ := inB_int wp
  rw [eu]
  refine ⟨rfl, rfl, 0, _, rfl, rfl, rfl, (fun xs z => (nomatch z)), ?_⟩
  (try dsimp only [dNext, dSeq, dIfS, dB, dOp, dNot, dOr, dAnd, dNotV, dOrV, dAndV, dAsg, dRet, dDrop, dCB, dIf, dTup, dLst, dCons, dNil, wf_d, wf_l, wb_b, wi_i, wt_t, wl_l, wl_d, tupR_t, tupR_l, lstR_t, lstR_l, List.set_cons_zero, List.set_cons_succ])
  exact ifT rfl (ifT rfl ⟨rfl, hk _⟩)
end
end Dl


set_option Elab.async false
set_option maxRecDepth 100000
set_option maxHeartbeats 4000000
set_option linter.all false
set_option synthInstance.maxHeartbeats 4000000
set_option synthInstance.maxSize 10000

namespace Dl
open PySem PySem.Spec PyProof.Rows L2 RZ HmS Da
section
variable {P : Program} {w : World} {K : PySem.W.Frag} [HasT K] {mg : Str → Option Value} {base : Heap} {ad : Nat → Addr} {fd : Nat → FuncData}
/-! ### things of whatever kind -/
def kThing (n : Nat) (x : D) (φ : En → Prop) : Prop := ∃ d : Nat, x = .int d ∧ d < n ∧ ∀ e y, e ≠ .pen → e.frz = some y → y.good = true → φ e
theorem zero__law_thing {ds : List D} {φ : En → Prop} (h : pp1 (kThing 0) ds φ) : False := by
  match ds, h with
  | [_], ⟨_, _, h, _⟩ => exact absurd h (Nat.not_lt_zero _)
theorem ok__law_thing (T : Txt K mg ad fd) (n : Nat) : FnOk P w K mg base CX0 (n + 1) (ad 32) (fd 32) ps__law_thing (spP K (pp1 (kThing n))) := by
  induction n with
  | zero =>
    refine ⟨fun vs H Q E h => lep1 h, fun A outer s H args us vs Q E hr he hb hv h => ?_⟩
    obtain ⟨p, us, F, ds, φ, _, _, _, _, _, _, _, hd, _⟩ := h
    exact (zero__law_thing hd).elim
  | succ n ih =>
    rw [show n + 1 + 1 = n + 1 + 1 by omega]
    refine (show Fun K "_law_thing" "_law_thing" st__law_thing (ad 32) (fd 32) from T.f 32 (by decide)).ok sc__law_thing (fun vs H Q E h => lep1 h) (fun cdv A outer s H vs Q E hr h => ?_)
    have hu := hu_of hr
    have hu65 := hu65_of hr
    refine ⟨_, (pss_cons (ps_set (i := 2) sc__law_thing.nd rfl (Or.inl rfl) (pe_call (ok__law_draw (K := K) T) (hr.mono (by omega)) (by rfl) (T.g 26 (by decide)) (T.k 26 (by decide)) (bd__law_draw T) .nil pass0 (pa_cons (pv 0) (pa_cons pe_int pa_nil))))
  (pss_cons (ps_if (PW.pt (pw_or (pt_cmpR op_lt (pv 2) pe_int (nomark _)) (pw_or1 (pt_cmpR (r := rEqD K) (op_eqD hr.units) (pv 1) pe_int (nomark _)))))
    (pss_one (ps_ret (pe_ix (r := rIxL K) ix_list (pe_lst (pa_cons pe_non (pa_cons pe_bl (pa_cons pe_bl (pa_cons pe_int (pa_cons pe_int (pa_cons (pe_un un_neg pe_int) (pa_cons pe_int (pa_cons (pe_op op_pow pe_int pe_int) (pa_cons pe_str (pa_cons pe_str (pa_cons (pe_tup pa_nil) (pa_cons (pe_lst pa_nil) pa_nil))))))))))))) (pe_call (ok__law_draw (K := K) T) (hr.mono (by omega)) (by rfl) (T.g 26 (by decide)) (T.k 26 (by decide)) (bd__law_draw T) .nil pass0 (pa_cons (pv 0) (pa_cons pe_int pa_nil))) (fun _ _ => rfl))))
    pss_nil)
  (pss_cons (ps_setLc (i := 3) (own := [("_law_k", 4)]) (g := (gName 4)) (tt := tYes) (by rfl) sc__law_thing.nd rfl rfl (sw_true rfl rfl rfl (by decide +kernel)) (pi_range1 (by rfl) (T.z 2 (by decide)) (pa_cons (pe_call (ok__law_draw (K := K) T) (hr.mono (by omega)) (by rfl) (T.g 26 (by decide)) (T.k 26 (by decide)) (bd__law_draw T) .nil pass0 (pa_cons (pv 0) (pa_cons pe_int pa_nil))) pa_nil))
      (blkOk_by (N := nm__law_thing) (sc := defScope st__law_thing) (by decide +kernel)) (fun _ _ _ _ _ => by exact (pg_name (i := 4) sc__law_thing.nd rfl (Or.inl rfl))) (fun _ _ _ _ _ => pts_nil)
      (fun _ _ _ _ _ => by exact (pe_call ih (hr.mono (by omega)) (by rfl) (T.g 32 (by decide)) (T.k 32 (by decide)) (bd__law_thing T) .nil pass0 (pa_cons (pv 0) (pa_cons (pe_op op_sub (pv 1) pe_int) pa_nil)))))
  (pss_cons (ps_if (pt_cmpR (r := rEqD K) (op_eqD hr.units) (pv 2) pe_int (nomark _))
    (pss_one (ps_ret (pv 3)))
    pss_nil)
  (pss_cons (ps_if (pt_cmpR (r := rEqD K) (op_eqD hr.units) (pv 2) pe_int (nomark _))
    (pss_one (ps_ret (pe_disp (pps_cons pe_str (pv 3) pps_nil) (by rfl) (by rfl) (by simp) (by decide))))
    pss_nil)
  (pss_one (ps_ret (pe_callTy (r := rTuple K) cl_tuple (by rfl) (T.z 4 (by decide)) (by decide +kernel) (pa_cons (pv 3) pa_nil))))))))), ?_⟩
    refine bodp1 h fun x φ hk => ?_
    rw [show stP nm__law_thing [x] = [.pen, .d x, .no, .no, .no] from rfl]
    obtain ⟨d, rfl, dn, hk⟩ := hk
    (try dsimp only [dNext, dSeq, dIfS, dB, dOp, dNot, dOr, dAnd, dNotV, dOrV, dAndV, dAsg, dRet, dDrop, dCB, dIf, dTup, dLst, dCons, dNil, wf_d, wf_l, wb_b, wi_i, wt_t, wl_l, wl_d, tupR_t, tupR_l, lstR_t, lstR_l, List.set_cons_zero, List.set_cons_succ])
    refine ⟨rfl, rfl, rfl, rfl, 12, rfl, by decide, by decide, fun r r0 r1 => ?_⟩
    (try dsimp only [dNext, dSeq, dIfS, dB, dOp, dNot, dOr, dAnd, dNotV, dOrV, dAndV, dAsg, dRet, dDrop, dCB, dIf, dTup, dLst, dCons, dNil, wf_d, wf_l, wb_b, wi_i, wt_t, wl_l, wl_d, tupR_t, tupR_l, lstR_t, lstR_l, List.set_cons_zero, List.set_cons_succ])
    refine ⟨rfl, rfl, ?_⟩
    refine ifB (fun c8 => ?_) (fun c8 => ?_)
    · refine ⟨rfl, rfl, rfl, rfl, rfl, rfl, rfl, rfl, rfl, rfl, ⟨by decide, by decide, by decide⟩, rfl, rfl, rfl, by simp, by simp, by simp, rfl, rfl, rfl, rfl, 12, rfl, by decide, by decide, fun k k0 k1 => ?_⟩
      have hz : ∃ z, atI [D.non, .bl true, .bl false, .int 0, .int 1, .int (-1), .int 9, .int (10 ^ 39), .str "", .str "a", .tup [], .lst []] k = some z ∧ z.good = true := by
        have : k = 0 ∨ k = 1 ∨ k = 2 ∨ k = 3 ∨ k = 4 ∨ k = 5 ∨ k = 6 ∨ k = 7 ∨ k = 8 ∨ k = 9 ∨ k = 10 ∨ k = 11 := by omega
        rcases this with rfl | rfl | rfl | rfl | rfl | rfl | rfl | rfl | rfl | rfl | rfl | rfl <;> exact ⟨_, rfl, rfl⟩
      obtain ⟨z, ez, gz⟩ := hz
      exact ⟨z, ez, (fun w => nomatch w), hk _ z (fun w => nomatch w) rfl gz⟩
    refine ⟨rfl, fit_int _, fit_int _, ?_⟩
    refine ifB (fun c0 => ?_) (fun c0 => ?_)
    · refine ⟨rfl, rfl, rfl, rfl, rfl, rfl, rfl, rfl, rfl, rfl, ⟨by decide, by decide, by decide⟩, rfl, rfl, rfl, by simp, by simp, by simp, rfl, rfl, rfl, rfl, 12, rfl, by decide, by decide, fun k k0 k1 => ?_⟩
      have hz : ∃ z, atI [D.non, .bl true, .bl false, .int 0, .int 1, .int (-1), .int 9, .int (10 ^ 39), .str "", .str "a", .tup [], .lst []] k = some z ∧ z.good = true := by
        have : k = 0 ∨ k = 1 ∨ k = 2 ∨ k = 3 ∨ k = 4 ∨ k = 5 ∨ k = 6 ∨ k = 7 ∨ k = 8 ∨ k = 9 ∨ k = 10 ∨ k = 11 := by omega
        rcases this with rfl | rfl | rfl | rfl | rfl | rfl | rfl | rfl | rfl | rfl | rfl | rfl <;> exact ⟨_, rfl, rfl⟩
      obtain ⟨z, ez, gz⟩ := hz
      exact ⟨z, ez, (fun w => nomatch w), hk _ z (fun w => nomatch w) rfl gz⟩
    have d0 : d ≠ 0 := fun z => by
      subst z
      have : (D.int ((0 : Nat) : Int)).eqv (vD (V.int 0)) = true := (eqv_int _ _).trans (decide_eq_true rfl)
      rw [this] at c0
      cases c0
    refine ⟨rfl, rfl, rfl, rfl, rfl, 4, rfl, by decide, by decide, fun k k0 k1 => ⟨by omega, by omega, by rw [upI_len]; omega, fun i acc Γ => Γ = [.pen, .d (.int d), .d (.int r), .no, .no] ∧ acc.length = i ∧ ∀ x ∈ acc, x.good = true, ⟨rfl, rfl, by simp⟩, ?_⟩⟩
    rintro i acc Γ ⟨rfl, hl, hg⟩
    refine ⟨fun e => ?_, fun y hy => ?_⟩
    · rw [upI_len] at e
      have gl : (D.lst acc).good = true := good_lst hg (by omega)
      have gt : (D.tup acc).good = true := good_tup hg (by omega)
      refine ⟨rfl, fit_int _, fit_int _, ?_⟩
      refine ifB (fun c => ?_) (fun c => ?_)
      · exact ⟨.lst acc, rfl, (fun z => nomatch z), (fun z => nomatch z), hk _ _ (fun z => nomatch z) rfl gl⟩
      refine ⟨rfl, fit_int _, fit_int _, ?_⟩
      refine ifB (fun c => ?_) (fun c => ?_)
      · exact ⟨(fun z => nomatch z), hk _ (.dK [.inr (Str.ofString "a")] [.lst acc]) (fun z => nomatch z) rfl (by rw [D.good, goods, gl]; rfl)⟩
      · exact ⟨(fun z => nomatch z), hk _ _ (fun z => nomatch z) rfl gt⟩
    · refine ⟨rfl, rfl, rfl, rfl, rfl, d - 1, congrArg D.int (by omega), by omega, fun e z np ef gz => ?_⟩
      refine wf_of ef ⟨rfl, by rw [List.length_append, hl]; rfl, fun x hx => ?_⟩
      rcases List.mem_append.mp hx with w | w
      · exact hg x w
      · rw [List.mem_singleton] at w
        rw [w]
        exact gz
theorem good_str {s : Str} (h : s.length ≤ 1000) : (D.str s).good = true := by
  rw [D.good]
  exact decide_eq_true h
theorem good_rev {xs : List D} (h : ∀ x ∈ xs, x.good = true) : ∀ x ∈ xs.reverse, x.good = true := fun x hx => h x (List.mem_reverse.mp hx)
theorem cut_mem {xs : List D} {lo hi : Option Int} {x : D} (h : x ∈ cutL xs lo hi) : x ∈ xs := List.mem_of_mem_drop (List.mem_of_mem_take h)
theorem cut_len {xs : List D} {lo hi : Option Int} : (cutL xs lo hi).length ≤ xs.length := by
  unfold cutL
  rw [List.length_take, List.length_drop]
  omega
theorem str_len {i : Int} (h : i.natAbs < 2 ^ 40) : (Str.ofString (toString i)).length ≤ 42 := by
  have := PySem.int_text_length_le10 (a := i) (k := 40) (by decide) (Nat.lt_of_lt_of_le h (by decide))
  rw [PySem.ofString_length]
  omega
theorem log_small {i : Int} (h : i.natAbs < 2 ^ 40) : i.natAbs.log2 < 1920 := by
  by_cases z : i.natAbs = 0
  · rw [z]
    decide
  · exact Nat.lt_trans ((Nat.log2_lt z).mpr h) (by decide)
theorem pick4 {P : D → Prop} {a b c d : D} {w : Int} (w0 : 0 ≤ w) (w1 : decide (w < 4) = true) (h1 : P a) (h2 : P b) (h3 : P c) (h4 : P d) : ∃ z, atI [a, b, c, d] w = some z ∧ P z := by
  have w1 := of_decide_eq_true w1
  have : w = 0 ∨ w = 1 ∨ w = 2 ∨ w = 3 := by omega
  rcases this with rfl | rfl | rfl | rfl
  · exact ⟨_, rfl, h1⟩
  · exact ⟨_, rfl, h2⟩
  · exact ⟨_, rfl, h3⟩
  · exact ⟨_, rfl, h4⟩
def kSpoilt (n : Nat) (x : D) (φ : En → Prop) : Prop := ∃ m, m < n ∧ n ≤ 12 ∧ x.base m = true ∧ ∀ e y, e ≠ .pen → e.frz = some y → y.good = true → φ e
theorem zero__law_spoilt {ds : List D} {φ : En → Prop} (h : pp1 (kSpoilt 0) ds φ) : False := by
  match ds, h with
  | [_], ⟨_, h, _⟩ => exact absurd h (Nat.not_lt_zero _)
theorem ok__law_spoilt (T : Txt K mg ad fd) (n : Nat) : FnOk P w K mg base CX0 (n + 5) (ad 33) (fd 33) ps__law_spoilt (spP K (pp1 (kSpoilt n))) := by
  induction n with
  | zero =>
    refine ⟨fun vs H Q E h => lep1 h, fun A outer s H args us vs Q E hr he hb hv h => ?_⟩
    obtain ⟨p, us, F, ds, φ, _, _, _, _, _, _, _, hd, _⟩ := h
    exact (zero__law_spoilt hd).elim
  | succ n ih =>
    rw [show n + 1 + 5 = n + 5 + 1 by omega]
    refine (show Fun K "_law_spoilt" "_law_spoilt" st__law_spoilt (ad 33) (fd 33) from T.f 33 (by decide)).ok sc__law_spoilt (fun vs H Q E h => lep1 h) (fun cdv A outer s H vs Q E hr h => ?_)
    have hu := hu_of hr
    have hu65 := hu65_of hr
    refine ⟨_, (pss_cons (ps_if (PW.pt (pw_and (pt_val (pe_callB (r := rIsi K) call_isi (by rfl) (T.z 6 (by decide)) (by decide +kernel) (pa_cons (pv 1) (pa_cons (pe_bltn (v := .ty "tuple") (by rfl) (T.z 4 (by decide)) (by decide +kernel) rfl) pa_nil)))) (pw_and (pt_cmpR (r := rNeD K) (op_neD hr.units) (pv 1) (pe_tup pa_nil) (nomark _)) (pw_and1 (pt_cmpR op_gt (pe_call (ok__law_draw (K := K) T) (hr.mono (by omega)) (by rfl) (T.g 26 (by decide)) (T.k 26 (by decide)) (bd__law_draw T) .nil pass0 (pa_cons (pv 0) (pa_cons pe_int pa_nil))) pe_int (nomark _))))))
    (pss_cons (ps_set (i := 2) sc__law_spoilt.nd rfl (Or.inl rfl) (pe_call (ok__law_draw (K := K) T) (hr.mono (by omega)) (by rfl) (T.g 26 (by decide)) (T.k 26 (by decide)) (bd__law_draw T) .nil pass0 (pa_cons (pv 0) (pa_cons (pe_callB (r := Da.rLen K) cl_len (by rfl) (T.z 0 (by decide)) (by decide +kernel) (pa_cons (pv 1) pa_nil)) pa_nil))))
  (pss_one (ps_ret (pe_op (r := rCatA K) op_catA (pe_op (r := rCatA K) op_catA (pe_slice (r := rSlA K) sl_tupA (pv 1) po_none (po_some (pv 2))) (pe_tup (pa_cons (pe_call ih (hr.mono (by omega)) (by rfl) (T.g 33 (by decide)) (T.k 33 (by decide)) (bd__law_spoilt T) .nil pass0 (pa_cons (pv 0) (pa_cons (pe_ix (r := rIxT K) ix_tup (pv 1) (pv 2) (fun _ _ => rfl)) pa_nil))) pa_nil))) (pe_slice (r := rSlA K) sl_tupA (pv 1) (po_some (pe_op op_add (pv 2) pe_int)) po_none)))))
    pss_nil)
  (pss_cons (ps_set (i := 3) sc__law_spoilt.nd rfl (Or.inl rfl) (pe_call (ok__law_draw (K := K) T) (hr.mono (by omega)) (by rfl) (T.g 26 (by decide)) (T.k 26 (by decide)) (bd__law_draw T) .nil pass0 (pa_cons (pv 0) (pa_cons pe_int pa_nil))))
  (pss_cons (ps_if (PW.pt (pw_and (pt_val (pe_callB (r := rIsi K) call_isi (by rfl) (T.z 6 (by decide)) (by decide +kernel) (pa_cons (pv 1) (pa_cons (pe_bltn (v := .ty "tuple") (by rfl) (T.z 4 (by decide)) (by decide +kernel) rfl) pa_nil)))) (pw_and1 (pt_cmpR op_lt (pv 3) pe_int (nomark _)))))
    (pss_one (ps_ret (pe_ix (r := rIxL K) ix_list (pe_lst (pa_cons (pe_op (r := rCatA K) op_catA (pv 1) (pe_slice (r := rSlA K) sl_tupA (pv 1) (po_some (pe_un un_neg pe_int)) po_none)) (pa_cons (pe_slice (r := rSlA K) sl_tupA (pv 1) po_none (po_some (pe_un un_neg pe_int))) (pa_cons (pe_callTy (r := rList K) cl_list (by rfl) (T.z 14 (by decide)) (by decide +kernel) (pa_cons (pv 1) pa_nil)) (pa_cons (pe_revT (K := K) (pv 1)) pa_nil))))) (pv 3) (fun _ _ => rfl))))
    pss_nil)
  (pss_cons (ps_if (PW.pt (pw_and (pt_val (pe_callB (r := rIsi K) call_isi (by rfl) (T.z 6 (by decide)) (by decide +kernel) (pa_cons (pv 1) (pa_cons (pe_bltn (v := .ty "int") (by rfl) (T.z 1 (by decide)) (by decide +kernel) rfl) pa_nil)))) (pw_and1 (pt_cmpR op_lt (pv 3) pe_int (nomark _)))))
    (pss_one (ps_ret (pe_ix (r := rIxL K) ix_list (pe_lst (pa_cons (pe_op op_add (pv 1) pe_int) (pa_cons (pe_op op_sub (pv 1) pe_int) (pa_cons (pe_cmpR op_gt (pv 1) pe_int (nomark _)) (pa_cons (pe_callTy (r := rStrI) cl_strI (by rfl) (T.z 8 (by decide)) (by decide +kernel) (pa_cons (pv 1) pa_nil)) pa_nil))))) (pv 3) (fun _ _ => rfl))))
    pss_nil)
  (pss_cons (ps_if (PW.pt (pw_and (pt_val (pe_callB (r := rIsi K) call_isi (by rfl) (T.z 6 (by decide)) (by decide +kernel) (pa_cons (pv 1) (pa_cons (pe_bltn (v := .ty "str") (by rfl) (T.z 8 (by decide)) (by decide +kernel) rfl) pa_nil)))) (pw_and1 (pt_cmpR op_lt (pv 3) pe_int (nomark _)))))
    (pss_one (ps_ret (pe_ix (r := rIxL K) ix_list (pe_lst (pa_cons (pe_op (r := Da.rAddS) op_addS (pv 1) pe_str) (pa_cons (pe_upS (pv 1)) (pa_cons (pe_slice (r := rSlS) sl_str (pv 1) po_none (po_some (pe_un un_neg pe_int))) (pa_cons (pe_op (r := Da.rAddS) op_addS pe_str (pv 1)) pa_nil))))) (pv 3) (fun _ _ => rfl))))
    pss_nil)
  (pss_one (ps_ret (pe_call (ok__law_thing (K := K) T 3) (hr.mono (by omega)) (by rfl) (T.g 32 (by decide)) (T.k 32 (by decide)) (bd__law_thing T) .nil pass0 (pa_cons (pv 0) (pa_cons pe_int pa_nil)))))))))), ?_⟩
    refine bodp1 h fun x φ hk => ?_
    rw [show stP nm__law_spoilt [x] = [.pen, .d x, .no, .no] from rfl]
    obtain ⟨m, mn, n12, hb, hk⟩ := hk
    have last : ∀ Γ : List En, Γ[0]? = some .pen → dRet (dCallP 0 (pp1 (kThing 3)) [] (dCons (dC (V.int 2)) dNil)) Γ (poP φ) := fun Γ hp =>
      ⟨hp, rfl, hp, rfl, 2, rfl, by decide, fun e y ne ef gy => ⟨ne, hk e y ne ef gy⟩⟩
    cases x with
    | tup xs =>
      obtain ⟨k, rfl, xl, xb⟩ := base_tup hb
      have xg : ∀ x ∈ xs, x.good = true := fun x hx => base_good (xb x hx)
      refine seqIf (fun Γ => Γ = [.pen, .d (.tup xs), .no, .no]) (fun N hN => ?_) ?_
      · refine ⟨by decide, true, rfl, ?_⟩
        (dsimp only [dB, dAnd, dOr, dNot, dEqE, wf_d, wf_l, wb_b, wi_i, wt_t, wl_l, wl_d, List.set_cons_zero, List.set_cons_succ])
        refine ifT rfl ⟨by simp, fit_of (base_fit hb) (by omega), by decide, ?_⟩
        (dsimp only [dB, dAnd, dOr, dNot, dEqE, wf_d, wf_l, wb_b, wi_i, wt_t, wl_l, wl_d, List.set_cons_zero, List.set_cons_succ])
        refine ifB (fun c1 => ?_) (fun c1 => ifF rfl (hN _ rfl))
        refine ⟨rfl, rfl, rfl, rfl, 6, rfl, by decide, by decide, fun r r0 r1 => ⟨rfl, rfl, ?_⟩⟩
        (dsimp only [dB, dAnd, dOr, dNot, dEqE, wf_d, wf_l, wb_b, wi_i, wt_t, wl_l, wl_d, List.set_cons_zero, List.set_cons_succ])
        refine ifB (fun c2 => ?_) (fun c2 => hN _ rfl)
        have x1 : 1 ≤ xs.length := by
          cases xs with
          | nil => exact absurd c1 (by decide)
          | cons a r => simp
        refine ⟨rfl, rfl, rfl, xs.length, rfl, by omega, by omega, fun j j0 j1 => ?_⟩
        (dsimp only [dB, dAnd, dOr, dNot, dEqE, wf_d, wf_l, wb_b, wi_i, wt_t, wl_l, wl_d, List.set_cons_zero, List.set_cons_succ])
        have jl : j.toNat < xs.length := by omega
        have ea : atI xs j = some xs[j.toNat] := by
          have z := atI_ok (xs := xs) (i := j.toNat) (x := xs[j.toNat]) (List.getElem?_eq_getElem jl)
          rw [Int.toNat_of_nonneg j0] at z
          exact z
        refine ⟨rfl, rfl, _, ea, rfl, rfl, k, by omega, by omega, xb _ (List.getElem_mem jl), fun e y ne ef gy => wf_of ef ⟨by simp, ?_⟩⟩
        have l1 := cut_len (xs := xs) (lo := none) (hi := some j)
        have l2 := cut_len (xs := xs) (lo := some (j + 1)) (hi := none)
        refine ⟨by simp; omega, rfl, rfl, rfl, by simp; omega, (fun z => nomatch z), hk _ _ (fun z => nomatch z) rfl (good_tup (fun x hx => ?_) (by simp; omega))⟩
        rcases List.mem_append.mp hx with hx | hx
        · rcases List.mem_append.mp hx with hx | hx
          · exact xg _ (cut_mem hx)
          · rw [List.mem_singleton] at hx
            rw [hx]
            exact gy
        · exact xg _ (cut_mem hx)
      · rintro Γ rfl
        refine ⟨rfl, rfl, rfl, rfl, 8, rfl, by decide, by decide, fun wy w0 w1 => ?_⟩
        (dsimp only [dB, dAnd, dOr, dNot, dEqE, wf_d, wf_l, wb_b, wi_i, wt_t, wl_l, wl_d, List.set_cons_zero, List.set_cons_succ])
        refine seqIf (fun Γ => Γ = [.pen, .d (.tup xs), .no, .d (.int wy)]) (fun N hN => ?_) ?_
        · refine ⟨by decide, true, rfl, ?_⟩
          (dsimp only [dB, dAnd, dOr, dNot, dEqE, wf_d, wf_l, wb_b, wi_i, wt_t, wl_l, wl_d, List.set_cons_zero, List.set_cons_succ])
          refine ifT rfl ⟨rfl, rfl, ?_⟩
          (dsimp only [dB, dAnd, dOr, dNot, dEqE, wf_d, wf_l, wb_b, wi_i, wt_t, wl_l, wl_d, List.set_cons_zero, List.set_cons_succ])
          refine ifB (fun c => ?_) (fun c => hN _ rfl)
          have l1 := cut_len (xs := xs) (lo := some (-1)) (hi := none)
          have l2 := cut_len (xs := xs) (lo := none) (hi := some (-1))
          refine ⟨rfl, rfl, rfl, by show xs.length + (cutL xs (some (-1)) none).length ≤ 1000000; omega, rfl, rfl, rfl, by simp, ?_⟩
          refine pick4 w0 c ?_ ?_ ?_ ?_
          · refine ⟨(fun z => nomatch z), hk _ _ (fun z => nomatch z) rfl (good_tup (fun x hx => ?_) (by simp; omega))⟩
            rcases List.mem_append.mp hx with hx | hx
            · exact xg _ hx
            · exact xg _ (cut_mem hx)
          · exact ⟨(fun z => nomatch z), hk _ _ (fun z => nomatch z) rfl (good_tup (fun x hx => xg _ (cut_mem hx)) (by omega))⟩
          · exact ⟨(fun z => nomatch z), hk _ _ (fun z => nomatch z) rfl (good_lst xg (by omega))⟩
          · exact ⟨(fun z => nomatch z), hk _ _ (fun z => nomatch z) rfl (good_tup (good_rev xg) (by simp; omega))⟩
        rintro Γ rfl
        refine seqIf (fun Γ => Γ = [.pen, .d (.tup xs), .no, .d (.int wy)]) (fun N hN => ?_) ?_
        · refine ⟨by decide, false, rfl, ?_⟩
          (dsimp only [dB, dAnd, dOr, dNot, dEqE, wf_d, wf_l, wb_b, wi_i, wt_t, wl_l, wl_d, List.set_cons_zero, List.set_cons_succ])
          exact ifF rfl (ifF rfl (hN _ rfl))
        rintro Γ rfl
        refine seqIf (fun Γ => Γ = [.pen, .d (.tup xs), .no, .d (.int wy)]) (fun N hN => ?_) ?_
        · refine ⟨by decide, false, rfl, ?_⟩
          (dsimp only [dB, dAnd, dOr, dNot, dEqE, wf_d, wf_l, wb_b, wi_i, wt_t, wl_l, wl_d, List.set_cons_zero, List.set_cons_succ])
          exact ifF rfl (ifF rfl (hN _ rfl))
        rintro Γ rfl
        exact last _ rfl
    | int i =>
      have ib : i.natAbs < 2 ^ 40 := by
        cases m <;> (rw [D.base] at hb; exact of_decide_eq_true hb)
      refine seqIf (fun Γ => Γ = [.pen, .d (.int i), .no, .no]) (fun N hN => ?_) ?_
      · refine ⟨by decide, false, rfl, ?_⟩
        (dsimp only [dB, dAnd, dOr, dNot, dEqE, wf_d, wf_l, wb_b, wi_i, wt_t, wl_l, wl_d, List.set_cons_zero, List.set_cons_succ])
        exact ifF rfl (ifF rfl (hN _ rfl))
      rintro Γ rfl
      refine ⟨rfl, rfl, rfl, rfl, 8, rfl, by decide, by decide, fun wy w0 w1 => ?_⟩
      (dsimp only [dB, dAnd, dOr, dNot, dEqE, wf_d, wf_l, wb_b, wi_i, wt_t, wl_l, wl_d, List.set_cons_zero, List.set_cons_succ])
      refine seqIf (fun Γ => Γ = [.pen, .d (.int i), .no, .d (.int wy)]) (fun N hN => ?_) ?_
      · refine ⟨by decide, false, rfl, ?_⟩
        (dsimp only [dB, dAnd, dOr, dNot, dEqE, wf_d, wf_l, wb_b, wi_i, wt_t, wl_l, wl_d, List.set_cons_zero, List.set_cons_succ])
        exact ifF rfl (ifF rfl (hN _ rfl))
      rintro Γ rfl
      refine seqIf (fun Γ => Γ = [.pen, .d (.int i), .no, .d (.int wy)]) (fun N hN => ?_) ?_
      · refine ⟨by decide, true, rfl, ?_⟩
        (dsimp only [dB, dAnd, dOr, dNot, dEqE, wf_d, wf_l, wb_b, wi_i, wt_t, wl_l, wl_d, List.set_cons_zero, List.set_cons_succ])
        refine ifT rfl ⟨rfl, rfl, ?_⟩
        (dsimp only [dB, dAnd, dOr, dNot, dEqE, wf_d, wf_l, wb_b, wi_i, wt_t, wl_l, wl_d, List.set_cons_zero, List.set_cons_succ])
        refine ifB (fun c => ?_) (fun c => hN _ rfl)
        refine ⟨rfl, rfl, rfl, rfl, rfl, rfl, log_small ib, by simp, ?_⟩
        refine pick4 w0 c ?_ ?_ ?_ ?_
        · exact ⟨(fun z => nomatch z), hk _ _ (fun z => nomatch z) rfl rfl⟩
        · exact ⟨(fun z => nomatch z), hk _ _ (fun z => nomatch z) rfl rfl⟩
        · exact ⟨(fun z => nomatch z), hk _ _ (fun z => nomatch z) rfl rfl⟩
        · exact ⟨(fun z => nomatch z), hk _ _ (fun z => nomatch z) rfl (good_str (by have := str_len ib; omega))⟩
      rintro Γ rfl
      refine seqIf (fun Γ => Γ = [.pen, .d (.int i), .no, .d (.int wy)]) (fun N hN => ?_) ?_
      · refine ⟨by decide, false, rfl, ?_⟩
        (dsimp only [dB, dAnd, dOr, dNot, dEqE, wf_d, wf_l, wb_b, wi_i, wt_t, wl_l, wl_d, List.set_cons_zero, List.set_cons_succ])
        exact ifF rfl (ifF rfl (hN _ rfl))
      rintro Γ rfl
      exact last _ rfl
    | str s =>
      have sb : s.length ≤ 100 := by
        cases m <;> (rw [D.base, Bool.and_eq_true] at hb; exact of_decide_eq_true hb.1)
      refine seqIf (fun Γ => Γ = [.pen, .d (.str s), .no, .no]) (fun N hN => ?_) ?_
      · refine ⟨by decide, false, rfl, ?_⟩
        (dsimp only [dB, dAnd, dOr, dNot, dEqE, wf_d, wf_l, wb_b, wi_i, wt_t, wl_l, wl_d, List.set_cons_zero, List.set_cons_succ])
        exact ifF rfl (ifF rfl (hN _ rfl))
      rintro Γ rfl
      refine ⟨rfl, rfl, rfl, rfl, 8, rfl, by decide, by decide, fun wy w0 w1 => ?_⟩
      (dsimp only [dB, dAnd, dOr, dNot, dEqE, wf_d, wf_l, wb_b, wi_i, wt_t, wl_l, wl_d, List.set_cons_zero, List.set_cons_succ])
      refine seqIf (fun Γ => Γ = [.pen, .d (.str s), .no, .d (.int wy)]) (fun N hN => ?_) ?_
      · refine ⟨by decide, false, rfl, ?_⟩
        (dsimp only [dB, dAnd, dOr, dNot, dEqE, wf_d, wf_l, wb_b, wi_i, wt_t, wl_l, wl_d, List.set_cons_zero, List.set_cons_succ])
        exact ifF rfl (ifF rfl (hN _ rfl))
      rintro Γ rfl
      refine seqIf (fun Γ => Γ = [.pen, .d (.str s), .no, .d (.int wy)]) (fun N hN => ?_) ?_
      · refine ⟨by decide, false, rfl, ?_⟩
        (dsimp only [dB, dAnd, dOr, dNot, dEqE, wf_d, wf_l, wb_b, wi_i, wt_t, wl_l, wl_d, List.set_cons_zero, List.set_cons_succ])
        exact ifF rfl (ifF rfl (hN _ rfl))
      rintro Γ rfl
      refine seqIf (fun Γ => Γ = [.pen, .d (.str s), .no, .d (.int wy)]) (fun N hN => ?_) ?_
      · refine ⟨by decide, true, rfl, ?_⟩
        (dsimp only [dB, dAnd, dOr, dNot, dEqE, wf_d, wf_l, wb_b, wi_i, wt_t, wl_l, wl_d, List.set_cons_zero, List.set_cons_succ])
        refine ifT rfl ⟨rfl, rfl, ?_⟩
        (dsimp only [dB, dAnd, dOr, dNot, dEqE, wf_d, wf_l, wb_b, wi_i, wt_t, wl_l, wl_d, List.set_cons_zero, List.set_cons_succ])
        refine ifB (fun c => ?_) (fun c => hN _ rfl)
        have a1 : (Str.ofString "a").length = 1 := rfl
        have a2 : (Str.ofString "1").length = 1 := rfl
        have l1 := PyProof.Rows.len_upper s
        have l2 := L2.cutS_length s none (some (-1))
        refine ⟨rfl, by omega, by omega, rfl, rfl, by omega, rfl, by omega, by simp, ?_⟩
        refine pick4 w0 c ?_ ?_ ?_ ?_
        · exact ⟨(fun z => nomatch z), hk _ _ (fun z => nomatch z) rfl (good_str (by rw [PySem.Str.length_append]; omega))⟩
        · exact ⟨(fun z => nomatch z), hk _ _ (fun z => nomatch z) rfl (good_str (by omega))⟩
        · exact ⟨(fun z => nomatch z), hk _ _ (fun z => nomatch z) rfl (good_str (by omega))⟩
        · exact ⟨(fun z => nomatch z), hk _ _ (fun z => nomatch z) rfl (good_str (by rw [PySem.Str.length_append]; omega))⟩
      rintro Γ rfl
      exact last _ rfl
    | _ => simp [D.base] at hb
end
end Dl

set_option Elab.async false
set_option maxRecDepth 100000
set_option maxHeartbeats 4000000
set_option linter.all false
set_option synthInstance.maxHeartbeats 4000000
set_option synthInstance.maxSize 10000



namespace Dl
open PySem PySem.Spec PyProof.Rows L2 RZ HmS Da
section
variable {P : Program} {w : World} {K : PySem.W.Frag} [HasT K] {mg : Str → Option Value} {base : Heap} {ad : Nat → Addr} {fd : Nat → FuncData}
def kLIsIn (x a b : D) (φ : En → Prop) : Prop := ∃ i j : Int, a = .int i ∧ b = .int j ∧ x.good = true ∧ φ (.d (.bl (inB x i j)))
theorem ok__law_is_in (T : Txt K mg ad fd) : FnOk P w K mg base CX0 1 (ad 34) (fd 34) ps__law_is_in (spX K (sp3 kLIsIn)) := by
  refine (show Fun K "_law_is_in" "_law_is_in" st__law_is_in (ad 34) (fd 34) from T.f 34 (by decide)).ok sc__law_is_in (fun vs H Q E h => len3 h) (fun cdv A outer s H vs Q E hr h => ?_)
  have hu := hu_of hr
  have hu65 := hu65_of hr
  refine ⟨_, (pss_one (ps_ret (pe_and (pe_callB (r := rIsi K) call_isi (by rfl) (T.z 6 (by decide)) (by decide +kernel) (pa_cons (pv 0) (pa_cons (pe_bltn (v := .ty "int") (by rfl) (T.z 1 (by decide)) (by decide +kernel) rfl) pa_nil))) (pe_and (pe_not (pe_callB (r := rIsi K) call_isi (by rfl) (T.z 6 (by decide)) (by decide +kernel) (pa_cons (pv 0) (pa_cons (pe_bltn (v := .ty "bool") (by rfl) (T.z 7 (by decide)) (by decide +kernel) rfl) pa_nil)))) (pe_one (pe_chain op_le op_le (pv 1) (pv 0) (pv 2))))))), ?_⟩
  refine body3 h fun x y z φ hk => ?_
  rw [show st0 nm__law_is_in [x, y, z] = [.d x, .d y, .d z] from rfl]
  obtain ⟨i, j, rfl, rfl, hx, hk⟩ := hk
  have ht := good_ty hx
  cases x with
  | ins C ns xs => exact absurd ht Bool.false_ne_true
  | int n =>
    refine ⟨by decide, true, rfl, ?_⟩
    (dsimp only [dB, dAnd, dOr, dNot, dEqE, wf_d, wf_l, wb_b, wi_i, wt_t, wl_l, wl_d, List.set_cons_zero, List.set_cons_succ])
    refine ifT rfl ⟨by decide, false, rfl, ?_⟩
    (dsimp only [dB, dAnd, dOr, dNot, dEqE, wf_d, wf_l, wb_b, wi_i, wt_t, wl_l, wl_d, List.set_cons_zero, List.set_cons_succ])
    refine ifT rfl ⟨rfl, ?_⟩
    (dsimp only [dB, dAnd, dOr, dNot, dEqE, wf_d, wf_l, wb_b, wi_i, wt_t, wl_l, wl_d, List.set_cons_zero, List.set_cons_succ])
    refine ifB (fun c => ?_) (fun c => ?_)
    · rw [inB, c, Bool.true_and] at hk
      exact ⟨rfl, hk⟩
    · rw [inB, c, Bool.false_and] at hk
      exact hk
  | bl b =>
    refine ⟨by decide, true, rfl, ?_⟩
    (dsimp only [dB, dAnd, dOr, dNot, dEqE, wf_d, wf_l, wb_b, wi_i, wt_t, wl_l, wl_d, List.set_cons_zero, List.set_cons_succ])
    refine ifT rfl ⟨by decide, true, rfl, ?_⟩
    (dsimp only [dB, dAnd, dOr, dNot, dEqE, wf_d, wf_l, wb_b, wi_i, wt_t, wl_l, wl_d, List.set_cons_zero, List.set_cons_succ])
    exact ifF rfl hk
  | _ =>
    refine ⟨by decide, false, rfl, ?_⟩
    (dsimp only [dB, dAnd, dOr, dNot, dEqE, wf_d, wf_l, wb_b, wi_i, wt_t, wl_l, wl_d, List.set_cons_zero, List.set_cons_succ])
    exact ifF rfl hk
theorem tup_dec {α : Type} {xs : List α} {a b : Int} : (decide (a ≤ (xs.length : Int)) && decide ((xs.length : Int) ≤ b)) = true ↔ a ≤ xs.length ∧ (xs.length : Int) ≤ b := by
  rw [Bool.and_eq_true, decide_eq_true_eq, decide_eq_true_eq]
theorem filt_none {p : D → Bool} {xs : List D} : (xs.filter fun y => !p y).isEmpty = xs.all p := by
  rw [Bool.eq_iff_iff, List.isEmpty_iff, List.filter_eq_nil_iff, List.all_eq_true]
  exact ⟨fun h x hx => by simpa using h x hx, fun h x hx => by simpa using h x hx⟩
def kLOwB (x : D) (φ : En → Prop) : Prop := x.good = true ∧ φ (.d (.bl (owB x)))
theorem ok__law_are_owners (T : Txt K mg ad fd) : FnOk P w K mg base CX0 2 (ad 35) (fd 35) ps__law_are_owners (spX K (sp1 kLOwB)) := by
  refine (show Fun K "_law_are_owners" "_law_are_owners" st__law_are_owners (ad 35) (fd 35) from T.f 35 (by decide)).ok sc__law_are_owners (fun vs H Q E h => len1 h) (fun cdv A outer s H vs Q E hr h => ?_)
  have hu := hu_of hr
  have hu65 := hu65_of hr
  refine ⟨_, (pss_cons (ps_if (PW.pt (pw_or (pt_not (pt_val (pe_callB (r := rIsi K) call_isi (by rfl) (T.z 6 (by decide)) (by decide +kernel) (pa_cons (pv 0) (pa_cons (pe_bltn (v := .ty "tuple") (by rfl) (T.z 4 (by decide)) (by decide +kernel) rfl) pa_nil))))) (pw_or1 (pt_not (pt_chain op_le op_le pe_int (pe_callB (r := Da.rLen K) cl_len (by rfl) (T.z 0 (by decide)) (by decide +kernel) (pa_cons (pv 0) pa_nil)) pe_int)))))
    (pss_one (ps_ret pe_bl))
    pss_nil)
  (pss_one (ps_ret (pe_cmpR (r := rEqE K false) (op_eqE hr.units) (pe_lc (own := [("_law_one", 1)]) (g := (gName 1)) rfl sc__law_are_owners.nd (pi_tupK (K := K) (pv 0))
      (blkOk_by (N := nm__law_are_owners) (sc := defScope st__law_are_owners) (by decide +kernel)) (fun _ _ _ _ _ => by exact (pg_name (i := 1) sc__law_are_owners.nd rfl (Or.inl rfl))) (fun _ _ _ _ _ => pts_one (pt_not (pt_val (pe_call (ok__law_is_in (K := K) T) (hr.mono (by omega)) (by rfl) (T.g 34 (by decide)) (T.k 34 (by decide)) (bd__law_is_in T) .nil pass0 (pa_cons (pv 1) (pa_cons pe_int (pa_cons pe_int pa_nil)))))))
      (fun _ _ _ _ _ => by exact (pv 1))) (pe_lst pa_nil) (nomark _))))), ?_⟩
  refine body1 h fun x φ hk => ?_
  rw [show st0 nm__law_are_owners [x] = [.d x, .no] from rfl]
  obtain ⟨hg, hk⟩ := hk
  have ht := good_ty hg
  cases x with
  | ins C ns xs => exact absurd ht Bool.false_ne_true
  | tup xs =>
    obtain ⟨xg, xl⟩ := tup_good hg
    refine ⟨by decide, true, rfl, ?_⟩
    (dsimp only [dB, dAnd, dOr, dNot, dEqE, wf_d, wf_l, wb_b, wi_i, wt_t, wl_l, wl_d, List.set_cons_zero, List.set_cons_succ])
    refine ifF rfl ⟨rfl, ?_⟩
    (dsimp only [dB, dAnd, dOr, dNot, dEqE, wf_d, wf_l, wb_b, wi_i, wt_t, wl_l, wl_d, List.set_cons_zero, List.set_cons_succ])
    have eo : owB (.tup xs) = ((decide (1 ≤ (xs.length : Int)) && decide ((xs.length : Int) ≤ 12)) && xs.all fun y => inB y 0 5) := rfl
    rw [eo] at hk
    refine ⟨rfl, ?_⟩
    (dsimp only [dB, dAnd, dOr, dNot, dEqE, wf_d, wf_l, wb_b, wi_i, wt_t, wl_l, wl_d, List.set_cons_zero, List.set_cons_succ])
    refine ifB (fun c => ?_) (fun c => ?_)
    · refine ⟨rfl, rfl, ?_⟩
      rw [c, Bool.true_and] at hk
      (try dsimp only [dNext, dSeq, dIfS, dB, dOp, dNot, dOr, dAnd, dNotV, dOrV, dAndV, dAsg, dRet, dDrop, dCB, dIf, dTup, dLst, dCons, dNil, wf_d, wf_l, wb_b, wi_i, wt_t, wl_l, wl_d, tupR_t, tupR_l, lstR_t, lstR_l, List.set_cons_zero, List.set_cons_succ])
      show (if (!decide ((xs.length : Int) ≤ 12)) = true then _ else _)
      refine ifB (fun c2 => ?_) (fun c2 => ?_)
      · rw [Bool.not_eq_true'] at c2
        rw [c2] at hk
        exact ⟨rfl, hk⟩
      · rw [Bool.not_eq_false'] at c2
        rw [c2, Bool.true_and] at hk
        refine dLc_filt (items := xs) (Γ1 := [.d (.tup xs), .no]) (Γw := [.d (.tup xs), .no]) (fun y => !inB y 0 5) (fun y => y) rfl (fun ψ h => h) rfl rfl (by omega) (fun d hd ψ q => ?_) ?_
        · refine ⟨rfl, rfl, rfl, 0, 5, rfl, rfl, xg d hd, ?_⟩
          exact q _ rfl fun _ ψ' q' => q' _ _ rfl rfl
        · rw [List.map_id', ← filt_none] at *
          exact ⟨by decide, hk⟩
    · rw [c] at hk
      exact ifT rfl ⟨rfl, hk⟩
  | _ =>
    refine ⟨by decide, false, rfl, ?_⟩
    (dsimp only [dB, dAnd, dOr, dNot, dEqE, wf_d, wf_l, wb_b, wi_i, wt_t, wl_l, wl_d, List.set_cons_zero, List.set_cons_succ])
    exact ifT rfl (ifT rfl ⟨rfl, hk⟩)
def dlS (n : Nat) (x : D) : Bool := tupB x 1 6 && ((ptsD x).all (mvS n) && decide (((ptsD x).map fun y => (toM y).1).Nodup))
theorem mvS_len {n : Nat} {xs : List D} (h : xs.length ≠ 3) : mvS n (.tup xs) = false := by
  match xs, h with
  | [a, b, c], h => exact absurd rfl h
  | [], _ => rfl
  | [_], _ => rfl
  | [_, _], _ => rfl
  | _ :: _ :: _ :: _ :: _, _ => rfl
theorem not_all {α : Type} {p : α → Bool} {xs : List α} {x : α} (h : x ∈ xs) (n : p x = false) : xs.all p = false := by
  cases e : xs.all p with
  | false => rfl
  | true =>
    rw [List.all_eq_true] at e
    rw [e x h] at n
    exact n
def kLDlS (a x : D) (φ : En → Prop) : Prop := ∃ n : Nat, a = .int n ∧ x.good = true ∧ φ (.d (.bl (dlS n x)))
theorem ok__law_is_deal (T : Txt K mg ad fd) : FnOk P w K mg base CX0 2 (ad 36) (fd 36) ps__law_is_deal (spX K (sp2 kLDlS)) := by
  refine (show Fun K "_law_is_deal" "_law_is_deal" st__law_is_deal (ad 36) (fd 36) from T.f 36 (by decide)).ok sc__law_is_deal (fun vs H Q E h => len2 h) (fun cdv A outer s H vs Q E hr h => ?_)
  have hu := hu_of hr
  have hu65 := hu65_of hr
  refine ⟨_, (pss_cons (ps_if (PW.pt (pw_or (pt_not (pt_val (pe_callB (r := rIsi K) call_isi (by rfl) (T.z 6 (by decide)) (by decide +kernel) (pa_cons (pv 1) (pa_cons (pe_bltn (v := .ty "tuple") (by rfl) (T.z 4 (by decide)) (by decide +kernel) rfl) pa_nil))))) (pw_or1 (pt_not (pt_chain op_le op_le pe_int (pe_callB (r := Da.rLen K) cl_len (by rfl) (T.z 0 (by decide)) (by decide +kernel) (pa_cons (pv 1) pa_nil)) pe_int)))))
    (pss_one (ps_ret pe_bl))
    pss_nil)
  (pss_cons (ps_for PassesOwn.never rfl (pi_tupK (K := K) (pv 1)) (pg_name (i := 2) sc__law_is_deal.nd rfl (Or.inl rfl))
    (pss_cons (ps_if (PW.pt (pw_or (pt_not (pt_val (pe_callB (r := rIsi K) call_isi (by rfl) (T.z 6 (by decide)) (by decide +kernel) (pa_cons (pv 2) (pa_cons (pe_bltn (v := .ty "tuple") (by rfl) (T.z 4 (by decide)) (by decide +kernel) rfl) pa_nil))))) (pw_or (pt_cmpR (r := rNeD K) (op_neD hr.units) (pe_callB (r := Da.rLen K) cl_len (by rfl) (T.z 0 (by decide)) (by decide +kernel) (pa_cons (pv 2) pa_nil)) pe_int (nomark _)) (pw_or1 (pt_not (pt_val (pe_call (ok__law_is_in (K := K) T) (hr.mono (by omega)) (by rfl) (T.g 34 (by decide)) (T.k 34 (by decide)) (bd__law_is_in T) .nil pass0 (pa_cons (pe_ix (r := rIxT K) ix_tup (pv 2) pe_int (fun _ _ => rfl)) (pa_cons pe_int (pa_cons (pe_op op_sub (pv 0) pe_int) pa_nil))))))))))
    (pss_one (ps_ret pe_bl))
    pss_nil)
  (pss_one (ps_if (PW.pt (pw_or (pt_not (pt_val (pe_call (ok__law_is_in (K := K) T) (hr.mono (by omega)) (by rfl) (T.g 34 (by decide)) (T.k 34 (by decide)) (bd__law_is_in T) .nil pass0 (pa_cons (pe_ix (r := rIxT K) ix_tup (pv 2) pe_int (fun _ _ => rfl)) (pa_cons pe_int (pa_cons pe_int pa_nil)))))) (pw_or (pt_not (pt_val (pe_call (ok__law_is_in (K := K) T) (hr.mono (by omega)) (by rfl) (T.g 34 (by decide)) (T.k 34 (by decide)) (bd__law_is_in T) .nil pass0 (pa_cons (pe_ix (r := rIxT K) ix_tup (pv 2) pe_int (fun _ _ => rfl)) (pa_cons pe_int (pa_cons pe_int pa_nil)))))) (pw_or1 (pt_cmpR (r := rEqD K) (op_eqD hr.units) (pe_ix (r := rIxT K) ix_tup (pv 2) pe_int (fun _ _ => rfl)) (pe_ix (r := rIxT K) ix_tup (pv 2) pe_int (fun _ _ => rfl)) (nomark _))))))
    (pss_one (ps_ret pe_bl))
    pss_nil))))
  (pss_one (ps_ret (pe_cmpR (r := rEqD K) (op_eqD hr.units) (pe_lenSetN (K := K) (by rfl) (T.z 0 (by decide)) (by rfl) (T.z 15 (by decide)) (pe_lc (own := [("_law_move", 2)]) (g := (gName 2)) (tt := tYes) rfl sc__law_is_deal.nd (pi_tupK (K := K) (pv 1))
      (blkOk_by (N := nm__law_is_deal) (sc := defScope st__law_is_deal) (by decide +kernel)) (fun _ _ _ _ _ => by exact (pg_name (i := 2) sc__law_is_deal.nd rfl (Or.inl rfl))) (fun _ _ _ _ _ => pts_nil)
      (fun _ _ _ _ _ => by exact (pe_ix (r := rIxT K) ix_tup (pv 2) pe_int (fun _ _ => rfl))))) (pe_callB (r := Da.rLen K) cl_len (by rfl) (T.z 0 (by decide)) (by decide +kernel) (pa_cons (pv 1) pa_nil)) (nomark _)))))), ?_⟩
  refine body2 h fun x y φ hk => ?_
  rw [show st0 nm__law_is_deal [x, y] = [.d x, .d y, .no] from rfl]
  obtain ⟨n, rfl, hg, hk⟩ := hk
  have ht := good_ty hg
  cases y with
  | ins C ns xs => exact absurd ht Bool.false_ne_true
  | tup xs =>
    obtain ⟨xg, xl⟩ := tup_good hg
    refine ⟨by decide, true, rfl, ?_⟩
    (dsimp only [dB, dAnd, dOr, dNot, dEqE, wf_d, wf_l, wb_b, wi_i, wt_t, wl_l, wl_d, List.set_cons_zero, List.set_cons_succ])
    have eo : dlS n (.tup xs) = ((decide (1 ≤ (xs.length : Int)) && decide ((xs.length : Int) ≤ 6)) && (xs.all (mvS n) && decide ((xs.map fun y => (toM y).1).Nodup))) := rfl
    rw [eo] at hk
    refine ifF rfl ⟨rfl, ?_⟩
    (dsimp only [dB, dAnd, dOr, dNot, dEqE, wf_d, wf_l, wb_b, wi_i, wt_t, wl_l, wl_d, List.set_cons_zero, List.set_cons_succ])
    refine ⟨rfl, ?_⟩
    (dsimp only [dB, dAnd, dOr, dNot, dEqE, wf_d, wf_l, wb_b, wi_i, wt_t, wl_l, wl_d, List.set_cons_zero, List.set_cons_succ])
    refine ifB (fun c => ?_) (fun c => ?_)
    · refine ⟨rfl, rfl, ?_⟩
      rw [c, Bool.true_and] at hk
      (try dsimp only [dNext, dSeq, dIfS, dB, dOp, dNot, dOr, dAnd, dNotV, dOrV, dAndV, dAsg, dRet, dDrop, dCB, dIf, dTup, dLst, dCons, dNil, wf_d, wf_l, wb_b, wi_i, wt_t, wl_l, wl_d, tupR_t, tupR_l, lstR_t, lstR_l, List.set_cons_zero, List.set_cons_succ])
      show (if (!decide ((xs.length : Int) ≤ 6)) = true then _ else _)
      refine ifB (fun c2 => ?_) (fun c2 => ?_)
      · rw [Bool.not_eq_true'] at c2
        rw [c2] at hk
        exact ⟨rfl, hk⟩
      · rw [Bool.not_eq_false'] at c2
        rw [c2, Bool.true_and] at hk
        have l6 := of_decide_eq_true c2
        refine ⟨fun i Γ => ∃ v3, Γ = [.d (.int n), .d (.tup xs), v3] ∧ ∀ y ∈ xs.take i, mvS n y = true, ⟨_, rfl, fun y z => by simp at z⟩, ?_⟩
        rintro i Γ ⟨v3, rfl, ok⟩
        refine ⟨fun e => ?_, fun y hy => ?_⟩
        · rw [e, List.take_length] at ok
          have ca : xs.all (mvS n) = true := List.all_eq_true.mpr ok
          rw [ca, Bool.true_and] at hk
          have e1 : xs.map (fun y => D.int (toM y).1) = (xs.map fun y => (toM y).1).map D.int := by rw [List.map_map]; rfl
          (try dsimp only [dNext, dSeq, dIfS, dB, dOp, dNot, dOr, dAnd, dNotV, dOrV, dAndV, dAsg, dRet, dDrop, dCB, dIf, dTup, dLst, dCons, dNil, wf_d, wf_l, wb_b, wi_i, wt_t, wl_l, wl_d, tupR_t, tupR_l, lstR_t, lstR_l, List.set_cons_zero, List.set_cons_succ])
          refine dLc_pure (items := xs) (Γ1 := [.d (.int n), .d (.tup xs), v3]) (Γw := [.d (.int n), .d (.tup xs), .no]) (fun y => .int (toM y).1) rfl (fun ψ h => h) rfl rfl (by omega) (fun d hd ψ q => ?_) ?_
          · obtain ⟨ed, _⟩ := mvS_ok (ok d hd)
            generalize toM d = m at *
            subst ed
            exact ⟨rfl, _, rfl, q _ _ rfl rfl⟩
          · rw [e1]
            refine ⟨_, rfl, by rw [List.length_map]; omega, ?_⟩
            have e2 : decide ((metN (xs.map fun y => (toM y).1) : Int) = (xs.length : Int)) = decide (xs.map fun y => (toM y).1).Nodup := by
              by_cases c : (xs.map fun y => (toM y).1).Nodup
              · rw [decide_eq_true c, decide_eq_true]
                rw [met_iff.mpr c, List.length_map]
              · rw [decide_eq_false c, decide_eq_false]
                exact fun z => c (met_iff.mp (by rw [List.length_map]; omega))
            refine ⟨fit_int _, fit_int _, ?_⟩
            rw [eqv_int, e2]
            exact hk
        · have ym := List.mem_of_getElem? hy
          have yg := xg y ym
          have no : mvS n y = false → φ (.d (.bl false)) := fun z => by
            rw [not_all ym z] at hk
            exact hk
          (try dsimp only [dNext, dSeq, dIfS, dB, dOp, dNot, dOr, dAnd, dNotV, dOrV, dAndV, dAsg, dRet, dDrop, dCB, dIf, dTup, dLst, dCons, dNil, wf_d, wf_l, wb_b, wi_i, wt_t, wl_l, wl_d, tupR_t, tupR_l, lstR_t, lstR_l, List.set_cons_zero, List.set_cons_succ])
          cases y with
          | ins C ns zs => exact absurd (good_ty yg) Bool.false_ne_true
          | tup ys =>
            refine ⟨by decide, true, rfl, ?_⟩
            (dsimp only [dB, dAnd, dOr, dNot, dEqE, wf_d, wf_l, wb_b, wi_i, wt_t, wl_l, wl_d, List.set_cons_zero, List.set_cons_succ])
            refine ifF rfl ?_
            refine ⟨rfl, fit_int (ys.length : Int), fit_int 3, ?_⟩
            show (if (!(D.int (ys.length : Int)).eqv (.int 3)) = true then _ else _)
            rw [eqv_int]
            by_cases y3 : ys.length = 3
            · rw [decide_eq_true (by rw [y3]; rfl)]
              match ys, y3 with
              | [u, v, z], _ =>
                have pg := (tup_good yg).1
                have gu := pg u (by simp)
                have gv := pg v (by simp)
                have gz := pg z (by simp)
                have em : mvS n (.tup [u, v, z]) = (inB u 0 ((n : Int) - 1) && (inB v 0 5 && (inB z 0 5 && !decide (iD v = iD z)))) := rfl
                (try dsimp only [dNext, dSeq, dIfS, dB, dOp, dNot, dOr, dAnd, dNotV, dOrV, dAndV, dAsg, dRet, dDrop, dCB, dIf, dTup, dLst, dCons, dNil, wf_d, wf_l, wb_b, wi_i, wt_t, wl_l, wl_d, tupR_t, tupR_l, lstR_t, lstR_l, List.set_cons_zero, List.set_cons_succ])
                refine ifF rfl ?_
                refine ⟨rfl, u, rfl, rfl, rfl, rfl, rfl, 0, (n : Int) - 1, rfl, rfl, gu, ?_⟩
                show (if (!inB u 0 ((n : Int) - 1)) = true then _ else _)
                cases cu : inB u 0 ((n : Int) - 1) with
                | false =>
                  rw [cu] at em
                  exact ifT rfl ⟨rfl, no em⟩
                | true =>
                  rw [cu, Bool.true_and] at em
                  refine ifF rfl ?_
                  refine ⟨rfl, v, rfl, rfl, rfl, rfl, 0, 5, rfl, rfl, gv, ?_⟩
                  show (if (!inB v 0 5) = true then _ else _)
                  cases cv : inB v 0 5 with
                  | false =>
                    rw [cv] at em
                    exact ifT rfl (ifT rfl ⟨rfl, no em⟩)
                  | true =>
                    rw [cv, Bool.true_and] at em
                    refine ifF rfl ?_
                    refine ⟨rfl, z, rfl, rfl, rfl, rfl, 0, 5, rfl, rfl, gz, ?_⟩
                    show (if (!inB z 0 5) = true then _ else _)
                    cases cz : inB z 0 5 with
                    | false =>
                      rw [cz] at em
                      exact ifT rfl (ifT rfl ⟨rfl, no em⟩)
                    | true =>
                      rw [cz, Bool.true_and] at em
                      refine ifF rfl ?_
                      obtain ⟨ev, _⟩ := inB_int cv
                      obtain ⟨ez, _⟩ := inB_int cz
                      refine ⟨rfl, v, rfl, rfl, z, rfl, ?_⟩
                      generalize iD v = v at *
                      generalize iD z = z at *
                      subst ev ez
                      refine ⟨fit_int v, fit_int z, ?_⟩
                      show (if ((D.int v).eqv (.int z)) = true then _ else _)
                      rw [eqv_int]
                      cases cn : decide (v = z) with
                      | true =>
                        rw [cn] at em
                        exact ifT rfl ⟨rfl, no em⟩
                      | false =>
                        rw [cn] at em
                        refine ifF rfl ⟨_, rfl, ?_⟩
                        rw [List.take_add_one, hy]
                        intro q hq
                        rcases List.mem_append.mp hq with h1 | h1
                        · exact ok q h1
                        · rw [Option.toList_some, List.mem_singleton] at h1
                          rw [h1]
                          exact em
            · rw [decide_eq_false (fun z => y3 (by exact_mod_cast z))]
              (try dsimp only [dNext, dSeq, dIfS, dB, dOp, dNot, dOr, dAnd, dNotV, dOrV, dAndV, dAsg, dRet, dDrop, dCB, dIf, dTup, dLst, dCons, dNil, wf_d, wf_l, wb_b, wi_i, wt_t, wl_l, wl_d, tupR_t, tupR_l, lstR_t, lstR_l, List.set_cons_zero, List.set_cons_succ])
              exact ifT rfl (ifT rfl ⟨rfl, no (mvS_len y3)⟩)
          | _ =>
            refine ⟨by decide, false, rfl, ?_⟩
            (dsimp only [dB, dAnd, dOr, dNot, dEqE, wf_d, wf_l, wb_b, wi_i, wt_t, wl_l, wl_d, List.set_cons_zero, List.set_cons_succ])
            exact ifT rfl (ifT rfl ⟨rfl, no rfl⟩)
    · rw [c] at hk
      exact ifT rfl ⟨rfl, hk⟩
  | _ =>
    refine ⟨by decide, false, rfl, ?_⟩
    (dsimp only [dB, dAnd, dOr, dNot, dEqE, wf_d, wf_l, wb_b, wi_i, wt_t, wl_l, wl_d, List.set_cons_zero, List.set_cons_succ])
    exact ifT rfl (ifT rfl ⟨rfl, hk⟩)
end
end Dl

set_option Elab.async false
set_option maxRecDepth 100000
set_option maxHeartbeats 4000000
set_option linter.all false
set_option synthInstance.maxHeartbeats 4000000
set_option synthInstance.maxSize 10000

 
namespace Dl
open PySem PySem.Spec PyProof.Rows L2 RZ HmS Da
section
variable {P : Program} {w : World} {K : PySem.W.Frag} [HasT K] {mg : Str → Option Value} {base : Heap} {ad : Nat → Addr} {fd : Nat → FuncData}
theorem all_and {α : Type} (p q : α → Bool) : ∀ xs : List α, (xs.all fun y => p y && q y) = (xs.all p && xs.all q)
  | [] => rfl
  | x :: r => by
    rw [List.all_cons, List.all_cons, List.all_cons, all_and p q r]
    cases p x <;> cases q x <;> cases r.all p <;> rfl
/-- each mover has what it gives -/
def ownB (os : List Int) (d : List Mv) : Bool := d.all fun m => decide (os.getD m.1.toNat 0 = m.2.1)
def behO : List Int → List (List Mv) → Option (List Int)
  | os, [] => some os
  | os, d :: r => if ownB os d = true then behO (doneD os d) r else none
theorem dlB_eq (os : List Int) (x : D) : dlB os x = (dlS os.length x && ownB os (toDl x)) := by
  unfold dlB dlS ownB toDl mvB
  rw [all_and, List.all_map]
  show (_ && (_ && (ptsD x).all (fun y => decide (os.getD (toM y).1.toNat 0 = (toM y).2.1)) && _)) = (_ && (ptsD x).all (fun y => decide (os.getD (toM y).1.toNat 0 = (toM y).2.1)))
  cases tupB x 1 6 <;> cases (ptsD x).all (mvS os.length) <;> cases (ptsD x).all (fun y => decide (os.getD (toM y).1.toNat 0 = (toM y).2.1)) <;> simp
theorem dsG_beh : ∀ (xs : List D) (os : List Int), dsG os xs = (xs.all (dlS os.length) && (behO os (xs.map toDl)).isSome)
  | [], os => rfl
  | x :: r, os => by
    show (dlB os x && dsG (doneD os (toDl x)) r) = ((dlS os.length x && r.all (dlS os.length)) && (if ownB os (toDl x) = true then behO (doneD os (toDl x)) (r.map toDl) else none).isSome)
    rw [dlB_eq, dsG_beh r, doneD_len]
    cases dlS os.length x <;> cases ownB os (toDl x) <;> cases r.all (dlS os.length) <;> simp
theorem dlS_ok {n : Nat} {x : D} (h : dlS n x = true) : x = dlD (toDl x) ∧ (toDl x).length ≤ 6 ∧ ∀ m ∈ toDl x, 0 ≤ m.1 ∧ m.1 < n := by
  unfold dlS at h
  rw [Bool.and_eq_true, Bool.and_eq_true, List.all_eq_true] at h
  obtain ⟨ht, hm, hn⟩ := h
  obtain ⟨e, l0, l1⟩ := tupB_tup ht
  refine ⟨?_, by unfold toDl; rw [List.length_map]; omega, fun m h => ?_⟩
  · rw [dlD, toDl, List.map_map]
    refine e.trans (congrArg D.tup ?_)
    refine (List.map_id _).symm.trans (List.map_congr_left fun y hy => ?_)
    exact (mvS_ok (hm y hy)).1
  · obtain ⟨y, hy, rfl⟩ := List.mem_map.mp h
    exact ⟨(mvS_ok (hm y hy)).2.1, (mvS_ok (hm y hy)).2.2.1⟩
def behD : Option (List Int) → D
  | none => .non
  | some os => owD os
def kLBehG (o x : D) (φ : En → Prop) : Prop := ∃ os ds, o = owD os ∧ x = dsD ds ∧ (∀ d ∈ ds, ∀ m ∈ d, 0 ≤ m.1 ∧ m.1 < os.length) ∧ (∀ d ∈ ds, d.length ≤ 6) ∧ ds.length ≤ 20 ∧ φ (.d (behD (behO os ds)))
theorem ok__law_behind_G (T : Txt K mg ad fd) : FnOk P w K mg base CX0 1 (ad 30) (fd 30) ps__law_behind (spX K (sp2 kLBehG)) := by
  refine (show Fun K "_law_behind" "_law_behind" st__law_behind (ad 30) (fd 30) from T.f 30 (by decide)).ok sc__law_behind (fun vs H Q E h => len2 h) (fun cdv A outer s H vs Q E hr h => ?_)
  have hu := hu_of hr
  have hu65 := hu65_of hr
  refine ⟨_, (pss_cons (ps_set (i := 2) sc__law_behind.nd rfl (Or.inr rfl) (pe_callTy (r := rList K) cl_list (by rfl) (T.z 14 (by decide)) (by decide +kernel) (pa_cons (pv 0) pa_nil)))
  (pss_cons (ps_for PassesOwn.never rfl (pi_tupK (K := K) (pv 1)) (pg_name (i := 3) sc__law_behind.nd rfl (Or.inl rfl))
    (pss_cons (ps_if (pt_cmpR (r := rEqE K true) (op_neE hr.units) (pe_lc (own := [("_law_stamp", 4), ("_law_giver", 5), ("_law_taker", 6)]) (g := (gTup K 3 (gCons (gName 4) (gCons (gName 5) (gCons (gName 6) gNil))))) rfl sc__law_behind.nd (pi_tupK (K := K) (pv 3))
      (blkOk_by (N := nm__law_behind) (sc := defScope st__law_behind) (by decide +kernel)) (fun _ _ _ _ _ => by exact (pg_tupK (K := K) (n := 3) rfl (pgs_cons (pg_name (i := 4) sc__law_behind.nd rfl (Or.inl rfl)) (pgs_cons (pg_name (i := 5) sc__law_behind.nd rfl (Or.inl rfl)) (pgs_cons (pg_name (i := 6) sc__law_behind.nd rfl (Or.inl rfl)) pgs_nil))))) (fun _ _ _ _ _ => pts_one (pt_cmpR (r := rNeD K) (op_neD hr.units) (pe_ix (r := rIxL K) ix_list (pv 2) (pv 4) (fun _ _ => rfl)) (pv 5) (nomark _)))
      (fun _ _ _ _ _ => by exact pe_int)) (pe_lst pa_nil) (nomark _))
    (pss_one (ps_ret pe_non))
    pss_nil)
  (pss_one (ps_for PassesOwn.never rfl (pi_tupK (K := K) (pv 3)) (pg_tupK (K := K) (n := 3) rfl (pgs_cons (pg_name (i := 4) sc__law_behind.nd rfl (Or.inl rfl)) (pgs_cons (pg_name (i := 5) sc__law_behind.nd rfl (Or.inl rfl)) (pgs_cons (pg_name (i := 6) sc__law_behind.nd rfl (Or.inl rfl)) pgs_nil))))
    (pss_one (ps_asg (pv 6) (pg_sub (pv 2) (pv 4) set_list)))))))
  (pss_one (ps_ret (pe_callTy (r := rTuple K) cl_tuple (by rfl) (T.z 4 (by decide)) (by decide +kernel) (pa_cons (pv 2) pa_nil)))))), ?_⟩
  refine body2 h fun x y φ hk => ?_
  rw [show st0 nm__law_behind [x, y] = [.d x, .d y, .no, .no, .no, .no, .no] from rfl]
  obtain ⟨os, ds, rfl, rfl, okm, okl, dl1, hk⟩ := hk
  (try simp only [dVar, dC, dNil, dCons, dTup, dLst, dOp, onI, dI, dI0, dUn, dEq, dNe, dIxT, dIxL, dIxLv, dAndV, dOrV, dNotV, dB, dAnd, dOr, dNot, dYes, dIf, dChain, dCB, dLenR, dLenv, dListR, dTupR, dMxR, dMnR, dIntR, dIsi, dNoPart, dPart, dSl, dCatA, dCat, dRep, dIn, dInD, dIsN, D.isN, dCall, dCallP, dCallS, dPen0, dTruv, dRg1, dRg2, dLstRg, dTupRg, dLenSet, wf, wb, wi, wt, wl, vD, isSc, dSeq, dNext, dRet, dRetv, dRetN, dIfS, dAsg, dAsgT, dgTup, dgCons, dPar, dApp, dExt, dSetL, dPopAt, dRse, dNever, dDrop, dITup, dILst, dIRng1, dIRng2, dIDn, dIEnT, dIEnL, dIZip, po, poP, sp0, sp1, sp2, sp3, sp4, sp5, pp0, pp1, pp2, pp3, List.set_cons_zero, List.set_cons_succ, List.getElem?_cons_zero, List.getElem?_cons_succ, List.all_nil, List.map_nil, List.append_nil, List.cons_append, List.nil_append, true_and, ite_true, if_true, owD, dsD])
  refine ⟨fun i Γ => ∃ now v3 v4 v5 v6, Γ = [.d (owD os), .d (dsD ds), .lst (now.map .int), v3, v4, v5, v6] ∧ now.length = os.length ∧ behO os ds = behO now (ds.drop i), ⟨os, _, _, _, _, rfl, rfl, rfl⟩, ?_⟩
  rintro i Γ ⟨now, v3, v4, v5, v6, rfl, nl, en⟩
  refine ⟨fun e => ?_, fun y hy => ?_⟩
  · rw [e, List.length_map, List.drop_length] at en
    rw [en] at hk
    (try simp only [dVar, dC, dNil, dCons, dTup, dLst, dOp, onI, dI, dI0, dUn, dEq, dNe, dIxT, dIxL, dIxLv, dAndV, dOrV, dNotV, dB, dAnd, dOr, dNot, dYes, dIf, dChain, dCB, dLenR, dLenv, dListR, dTupR, dMxR, dMnR, dIntR, dIsi, dNoPart, dPart, dSl, dCatA, dCat, dRep, dIn, dInD, dIsN, D.isN, dCall, dCallP, dCallS, dPen0, dTruv, dRg1, dRg2, dLstRg, dTupRg, dLenSet, wf, wb, wi, wt, wl, vD, isSc, dSeq, dNext, dRet, dRetv, dRetN, dIfS, dAsg, dAsgT, dgTup, dgCons, dPar, dApp, dExt, dSetL, dPopAt, dRse, dNever, dDrop, dITup, dILst, dIRng1, dIRng2, dIDn, dIEnT, dIEnL, dIZip, po, poP, sp0, sp1, sp2, sp3, sp4, sp5, pp0, pp1, pp2, pp3, List.set_cons_zero, List.set_cons_succ, List.getElem?_cons_zero, List.getElem?_cons_succ, List.all_nil, List.map_nil, List.append_nil, List.cons_append, List.nil_append, true_and, ite_true, if_true])
    exact hk
  · obtain ⟨d, hd, rfl⟩ := at_map hy
    have il := (List.getElem?_eq_some_iff.mp hd).1
    have dm := List.mem_of_getElem? hd
    have ed : ds.drop i = d :: ds.drop (i + 1) := by
      rw [List.drop_eq_getElem_cons il, (List.getElem?_eq_some_iff.mp hd).2]
    rw [ed] at en
    have en : behO os ds = if ownB now d = true then behO (doneD now d) (ds.drop (i + 1)) else none := en
    (try simp only [dVar, dC, dNil, dCons, dTup, dLst, dOp, onI, dI, dI0, dUn, dEq, dNe, dIxT, dIxL, dIxLv, dAndV, dOrV, dNotV, dB, dAnd, dOr, dNot, dYes, dIf, dChain, dCB, dLenR, dLenv, dListR, dTupR, dMxR, dMnR, dIntR, dIsi, dNoPart, dPart, dSl, dCatA, dCat, dRep, dIn, dInD, dIsN, D.isN, dCall, dCallP, dCallS, dPen0, dTruv, dRg1, dRg2, dLstRg, dTupRg, dLenSet, wf, wb, wi, wt, wl, vD, isSc, dSeq, dNext, dRet, dRetv, dRetN, dIfS, dAsg, dAsgT, dgTup, dgCons, dPar, dApp, dExt, dSetL, dPopAt, dRse, dNever, dDrop, dITup, dILst, dIRng1, dIRng2, dIDn, dIEnT, dIEnL, dIZip, po, poP, sp0, sp1, sp2, sp3, sp4, sp5, pp0, pp1, pp2, pp3, List.set_cons_zero, List.set_cons_succ, List.getElem?_cons_zero, List.getElem?_cons_succ, List.all_nil, List.map_nil, List.append_nil, List.cons_append, List.nil_append, true_and, ite_true, if_true])
    refine dLc_filt (items := d.map mvD) (Γ1 := [.d (owD os), .d (dsD ds), .lst (now.map .int), .d (dlD d), v4, v5, v6]) (Γw := [.d (owD os), .d (dsD ds), .lst (now.map .int), .d (dlD d), .no, .no, .no])
      (fun x => !decide (now.getD (toM x).1.toNat 0 = (toM x).2.1)) (fun _ => .int 1) rfl (fun ψ h => h) rfl rfl (by rw [List.length_map]; have := okl d dm; omega) (fun x hx ψ q => ?_) ?_
    · obtain ⟨m, hm, rfl⟩ := List.mem_map.mp hx
      obtain ⟨m0, m1⟩ := okm d dm m hm
      have ea : atI (now.map D.int) m.1 = some (.int (now.getD m.1.toNat 0)) := by
        have z := atI_ok (xs := now.map D.int) (i := m.1.toNat) (x := .int (now.getD m.1.toNat 0)) (by rw [List.getElem?_map, List.getD_eq_getElem?_getD, List.getElem?_eq_getElem (by omega)]; rfl)
        rw [Int.toNat_of_nonneg m0] at z
        exact z
      refine ⟨rfl, rfl, rfl, _, ea, fit_int _, fit_int _, ?_⟩
      have e : (!(D.int (now.getD m.1.toNat 0)).eqv (.int m.2.1)) = !decide (now.getD m.1.toNat 0 = m.2.1) := by rw [eqv_int]
      rw [e]
      exact q _ rfl fun _ ψ' q' => ⟨rfl, q' _ _ rfl rfl⟩
    · refine ⟨by decide, ?_⟩
      have eo : (((d.map mvD).filter fun x => !decide (now.getD (toM x).1.toNat 0 = (toM x).2.1)).map fun _ => D.int 1).isEmpty = ownB now d := by
        rw [List.isEmpty_map, filt_none (p := fun x => decide (now.getD (toM x).1.toNat 0 = (toM x).2.1)), List.all_map]
        rfl
      show (if (!(((d.map mvD).filter fun x => !decide (now.getD (toM x).1.toNat 0 = (toM x).2.1)).map fun _ => D.int 1).isEmpty) = true then _ else _)
      rw [eo]
      cases co : ownB now d with
      | false =>
        rw [co, if_neg Bool.false_ne_true] at en
        rw [en] at hk
        exact ifT rfl hk
      | true =>
        rw [co, if_pos rfl] at en
        refine ifF rfl ?_
        refine ⟨fun j Γ => ∃ v4 v5 v6, Γ = [.d (owD os), .d (dsD ds), .lst ((doneD now (d.take j)).map .int), .d (dlD d), v4, v5, v6], ⟨_, _, _, rfl⟩, ?_⟩
        rintro j Γ ⟨w4, w5, w6, rfl⟩
        refine ⟨fun e => ?_, fun y hy => ?_⟩
        · rw [e, List.length_map, List.take_length]
          exact ⟨_, _, _, _, _, rfl, by rw [doneD_len, nl], en⟩
        · obtain ⟨m, hm, rfl⟩ := at_map hy
          have em : d.take (j + 1) = d.take j ++ [m] := by rw [List.take_add_one, hm]; rfl
          obtain ⟨m0, m1⟩ := okm d dm m (List.mem_of_getElem? hm)
          (try simp only [dVar, dC, dNil, dCons, dTup, dLst, dOp, onI, dI, dI0, dUn, dEq, dNe, dIxT, dIxL, dIxLv, dAndV, dOrV, dNotV, dB, dAnd, dOr, dNot, dYes, dIf, dChain, dCB, dLenR, dLenv, dListR, dTupR, dMxR, dMnR, dIntR, dIsi, dNoPart, dPart, dSl, dCatA, dCat, dRep, dIn, dInD, dIsN, D.isN, dCall, dCallP, dCallS, dPen0, dTruv, dRg1, dRg2, dLstRg, dTupRg, dLenSet, wf, wb, wi, wt, wl, vD, isSc, dSeq, dNext, dRet, dRetv, dRetN, dIfS, dAsg, dAsgT, dgTup, dgCons, dPar, dApp, dExt, dSetL, dPopAt, dRse, dNever, dDrop, dITup, dILst, dIRng1, dIRng2, dIDn, dIEnT, dIEnL, dIZip, po, poP, sp0, sp1, sp2, sp3, sp4, sp5, pp0, pp1, pp2, pp3, List.set_cons_zero, List.set_cons_succ, List.getElem?_cons_zero, List.getElem?_cons_succ, List.all_nil, List.map_nil, List.append_nil, List.cons_append, List.nil_append, true_and, ite_true, if_true, mvD])
          refine ⟨rfl, ⟨_, rfl⟩, _, _, rfl, ixN_ok m0 (by rw [List.length_map, doneD_len, nl]; exact m1), ?_⟩
          rw [em, doneD_snoc, List.map_set]
          exact ⟨_, _, _, rfl⟩
def kLDsB (o x : D) (φ : En → Prop) : Prop := ∃ os, o = owD os ∧ OwOk os ∧ x.good = true ∧ φ (.d (.bl (dsB os x)))
theorem ok__law_are_deals (T : Txt K mg ad fd) : FnOk P w K mg base CX0 3 (ad 37) (fd 37) ps__law_are_deals (spX K (sp2 kLDsB)) := by
  refine (show Fun K "_law_are_deals" "_law_are_deals" st__law_are_deals (ad 37) (fd 37) from T.f 37 (by decide)).ok sc__law_are_deals (fun vs H Q E h => len2 h) (fun cdv A outer s H vs Q E hr h => ?_)
  have hu := hu_of hr
  have hu65 := hu65_of hr
  refine ⟨_, (pss_cons (ps_if (PW.pt (pw_or (pt_not (pt_val (pe_callB (r := rIsi K) call_isi (by rfl) (T.z 6 (by decide)) (by decide +kernel) (pa_cons (pv 1) (pa_cons (pe_bltn (v := .ty "tuple") (by rfl) (T.z 4 (by decide)) (by decide +kernel) rfl) pa_nil))))) (pw_or1 (pt_cmpR op_gt (pe_callB (r := Da.rLen K) cl_len (by rfl) (T.z 0 (by decide)) (by decide +kernel) (pa_cons (pv 1) pa_nil)) pe_int (nomark _)))))
    (pss_one (ps_ret pe_bl))
    pss_nil)
  (pss_cons (ps_if (pt_cmpR (r := rEqE K true) (op_neE hr.units) (pe_lc (own := [("_law_deal_here", 2)]) (g := (gName 2)) rfl sc__law_are_deals.nd (pi_tupK (K := K) (pv 1))
      (blkOk_by (N := nm__law_are_deals) (sc := defScope st__law_are_deals) (by decide +kernel)) (fun _ _ _ _ _ => by exact (pg_name (i := 2) sc__law_are_deals.nd rfl (Or.inl rfl))) (fun _ _ _ _ _ => pts_one (pt_not (pt_val (pe_call (ok__law_is_deal (K := K) T) (hr.mono (by omega)) (by rfl) (T.g 36 (by decide)) (T.k 36 (by decide)) (bd__law_is_deal T) .nil pass0 (pa_cons (pe_callB (r := Da.rLen K) cl_len (by rfl) (T.z 0 (by decide)) (by decide +kernel) (pa_cons (pv 0) pa_nil)) (pa_cons (pv 2) pa_nil))))))
      (fun _ _ _ _ _ => by exact (pv 2))) (pe_lst pa_nil) (nomark _))
    (pss_one (ps_ret pe_bl))
    pss_nil)
  (pss_one (ps_ret (pe_cmpR (r := rNotN) op_notN1 (pe_call (ok__law_behind_G (K := K) T) (hr.mono (by omega)) (by rfl) (T.g 30 (by decide)) (T.k 30 (by decide)) (bd__law_behind T) .nil pass0 (pa_cons (pv 0) (pa_cons (pv 1) pa_nil))) pe_non (nomark _)))))), ?_⟩
  refine body2 h fun x y φ hk => ?_
  rw [show st0 nm__law_are_deals [x, y] = [.d x, .d y, .no] from rfl]
  obtain ⟨os, rfl, ok, hg, hk⟩ := hk
  have ht := good_ty hg
  cases y with
  | ins C ns xs => exact absurd ht Bool.false_ne_true
  | tup xs =>
    obtain ⟨xg, xl⟩ := tup_good hg
    refine ⟨by decide, true, rfl, ?_⟩
    (dsimp only [dB, dAnd, dOr, dNot, dEqE, wf_d, wf_l, wb_b, wi_i, wt_t, wl_l, wl_d, List.set_cons_zero, List.set_cons_succ])
    have eo : dsB os (.tup xs) = ((decide (0 ≤ (xs.length : Int)) && decide ((xs.length : Int) ≤ 10)) && dsG os xs) := rfl
    rw [eo, decide_eq_true (show 0 ≤ (xs.length : Int) by omega), Bool.true_and, dsG_beh] at hk
    refine ifF rfl ⟨rfl, rfl, ?_⟩
    (try dsimp only [dNext, dSeq, dIfS, dB, dOp, dNot, dOr, dAnd, dNotV, dOrV, dAndV, dAsg, dRet, dDrop, dCB, dIf, dTup, dLst, dCons, dNil, wf_d, wf_l, wb_b, wi_i, wt_t, wl_l, wl_d, tupR_t, tupR_l, lstR_t, lstR_l, List.set_cons_zero, List.set_cons_succ])
    show (if decide (10 < (xs.length : Int)) = true then _ else _)
    refine ifB (fun c => ?_) (fun c => ?_)
    · rw [decide_eq_false (by have := of_decide_eq_true c; omega)] at hk
      exact ⟨rfl, hk⟩
    · have l10 : (xs.length : Int) ≤ 10 := by have := of_decide_eq_false c; omega
      rw [decide_eq_true l10, Bool.true_and] at hk
      refine dLc_filt (items := xs) (Γ1 := [.d (owD os), .d (.tup xs), .no]) (Γw := [.d (owD os), .d (.tup xs), .no]) (fun y => !dlS os.length y) (fun y => y) rfl (fun ψ h => h) rfl rfl (by omega) (fun d hd ψ q => ?_) ?_
      · refine ⟨rfl, os.length, by rw [List.length_map], xg d hd, ?_⟩
        exact q _ rfl fun _ ψ' q' => q' _ _ rfl rfl
      · refine ⟨by decide, ?_⟩
        show (if (!((xs.filter fun y => !dlS os.length y).map fun y => y).isEmpty) = true then _ else _)
        rw [List.map_id', filt_none]
        cases ca : xs.all (dlS os.length) with
        | false =>
          rw [ca] at hk
          exact ifT rfl ⟨rfl, hk⟩
        | true =>
          rw [ca, Bool.true_and] at hk
          rw [List.all_eq_true] at ca
          have ex : xs = (xs.map toDl).map dlD := by
            rw [List.map_map]
            refine (List.map_id _).symm.trans (List.map_congr_left fun y hy => ?_)
            exact (dlS_ok (ca y hy)).1
          refine ifF rfl ?_
          refine ⟨rfl, os, xs.map toDl, rfl, by rw [dsD, ← ex], fun d hd => ?_, fun d hd => ?_, by rw [List.length_map]; omega, ?_⟩
          · obtain ⟨y, hy, rfl⟩ := List.mem_map.mp hd
            exact (dlS_ok (ca y hy)).2.2
          · obtain ⟨y, hy, rfl⟩ := List.mem_map.mp hd
            exact (dlS_ok (ca y hy)).2.1
          · cases cb : behO os (xs.map toDl) with
            | none =>
              rw [cb] at hk
              exact ⟨rfl, hk⟩
            | some o =>
              rw [cb] at hk
              exact ⟨rfl, hk⟩
  | _ =>
    refine ⟨by decide, false, rfl, ?_⟩
    (dsimp only [dB, dAnd, dOr, dNot, dEqE, wf_d, wf_l, wb_b, wi_i, wt_t, wl_l, wl_d, List.set_cons_zero, List.set_cons_succ])
    exact ifT rfl (ifT rfl ⟨rfl, hk⟩)
end
end Dl

set_option Elab.async false
set_option maxRecDepth 100000
set_option maxHeartbeats 4000000
set_option linter.all false
set_option synthInstance.maxHeartbeats 4000000
set_option synthInstance.maxSize 10000

namespace Dl
open PySem PySem.Spec PyProof.Rows L2 RZ HmS Da
section
variable {P : Program} {w : World} {K : PySem.W.Frag} [HasT K] {mg : Str → Option Value} {base : Heap} {ad : Nat → Addr} {fd : Nat → FuncData}
/-! ### _law_why -/
def woE (ce : Er) (C : Value) (w : Str) : Prop := (C = .ref ce.o ∧ w = "owners") ∨ (C = .ref ce.d ∧ w = "deals") ∨ (C = .ref ce.n ∧ w = "number")
def whW : Wh → Str
  | .ok => "ok"
  | .ow => "owners"
  | .dl => "deals"
  | .nu => "number"
theorem why_end {ce : Er} {w : Wh} {φ : En → List En → Prop} {Γ : List En} (h : φ (.d (.str (whW w))) Γ) : endX ce w (φ (.d (.str "ok")) Γ) (fun C => ∃ v, woE ce C v ∧ φ (.d (.str v)) Γ) := by
  cases w with
  | ok => exact h
  | ow => exact ⟨"owners", .inl ⟨rfl, rfl⟩, h⟩
  | dl => exact ⟨"deals", .inr (.inl ⟨rfl, rfl⟩), h⟩
  | nu => exact ⟨"number", .inr (.inr ⟨rfl, rfl⟩), h⟩
theorem gives__law_why {X : Cx} {g : Addr} {cdg : Value} {q : Str} {ce : Er} (T : TxtE X.K X.mg ce) :
    LamX.GivesTo X nm__law_why "_law_why" (defScope st__law_why) g cdg (defBody st__law_why) "_law_call" q (TTwhy (woE ce) "ok") := by
  intro f c' s H Q tl act hc h
  refine ⟨_, pss_cons (ps_try_many (X := (cxOf C8.CX0 X.prog X.w X.K X.mg X.base nm__law_why "_law_why" (defScope st__law_why) g cdg X.A X.stack s H C8.E0).nox)
      (tb := fun W D σ H => ∃ Ech : XK, (∀ cls d σ' H', Ech cls d H' → W cls d σ' H') ∧ σ[0]? = some (some (.ref f)) ∧ H c' = some (LamX.CodeO c' q) ∧ tl Ech H (fun _ H1 => D.nx σ H1)) rfl rfl LamX.takes0 (fun W pn xe tk _ => ?_)
      (.cons (c := .ref ce.o) (ts := fun _ _ _ => tRet (tC (.str "owners"))) ⟨rfl, by decide, .inl T.NoOwners.g⟩ (fun _ _ _ _ _ _ _ => pss_one (ps_ret pe_str))
      (.cons (c := .ref ce.d) (ts := fun _ _ _ => tRet (tC (.str "deals"))) ⟨rfl, by decide, .inl T.NoDeals.g⟩ (fun _ _ _ _ _ _ _ => pss_one (ps_ret pe_str))
      (.cons (c := .ref ce.n) (ts := fun _ _ _ => tRet (tC (.str "number"))) ⟨rfl, by decide, .inl T.NoNumber.g⟩ (fun _ _ _ _ _ _ _ => pss_one (ps_ret pe_str)) .nil)))) (pss_one (ps_ret pe_str)), ?_⟩
  · refine ⟨fun pins s' σ H' D I h' => ?_⟩
    obtain ⟨Ech, hW, h1, h2, h3⟩ := h'
    exact (pss_one (ps_expr (act W pn xe Ech _ _ tk hW))).run pins s' σ H' D I ⟨h1, h2, h3⟩
  · refine ⟨fun cls _ H' => ∃ w, woE ce cls w ∧ Q (.str w) H', fun cls d σ' H' z => ?_, rfl, hc, h⟩
    obtain ⟨w, z, qc⟩ := z
    rcases z with ⟨rfl, rfl⟩ | ⟨rfl, rfl⟩ | ⟨rfl, rfl⟩
    · exact ⟨true, T.eoo, (fun _ _ _ => qc), (fun z => by cases z)⟩
    · exact ⟨false, T.edo, (fun z => by cases z), fun _ => ⟨true, T.edd, (fun _ _ _ => qc), (fun z => by cases z)⟩⟩
    · exact ⟨false, T.eno, (fun z => by cases z), fun _ => ⟨false, T.en_d, (fun z => by cases z), fun _ => ⟨true, T.enn, (fun _ _ _ => qc), (fun z => by cases z)⟩⟩⟩
/-! ### the def that makes the lambdas -/
abbrev qR (f c : Addr) : Str := (envOfC "_law_right" (defScope st__law_right) 0 f (.ref c)).qual ++ "<lambda>"
structure TxtL (K : PySem.W.Frag) [HasT K] (mg : Str → Option Value) (base : Heap) (f : Addr) (fd : FuncData) (c PT : Addr) : Prop where
  fl : FunL K "_law_right" st__law_right f fd c
  tb : LamX.TabB base mg c PT
  mem : (PT, qR f c) ∈ HasT.T K
  uq : ∀ p ∈ HasT.T K, p.1 = PT → p.2 = qR f c
end
end Dl

set_option Elab.async false
set_option maxRecDepth 100000
set_option maxHeartbeats 4000000
set_option linter.all false
set_option synthInstance.maxHeartbeats 4000000
set_option synthInstance.maxSize 10000




namespace Dl
open PySem PySem.Spec PyProof.Rows L2 RZ HmS Da
section
variable {P : Program} {w : World} {K : PySem.W.Frag} [HasT K] {mg : Str → Option Value} {base : Heap} {ad : Nat → Addr} {fd : Nat → FuncData}
variable {ce : Er} {lc PT : Addr}
theorem dWhy_go {ce : Er} {w : Wh} {den : (Value → Prop) → DT} {Γ : List En} {φ : En → List En → Prop} (hd : ∀ ψ : Value → Prop, endX ce w (φ (.d (.str "ok")) Γ) ψ → den ψ (Γ.map onlyE) fun _ _ => φ (.d (.str "ok")) Γ) (h : φ (.d (.str (whW w))) Γ) :
    dWhy (woE ce) "ok" den Γ φ := ⟨fun C => ∃ v, woE ce C v ∧ φ (.d (.str v)) Γ, fun _ h => h, hd _ (why_end h)⟩
theorem fitb_whW (w : Wh) : (D.str (whW w)).fitb 1 = true := by cases w <;> simp [D.fitb, D.flat, D.py, PyData.canLay0, PyData.depth, whW] <;> decide +kernel
def dueL (x y z u : D) : List Wh := [whyB x y u, whyF x y z, whyF x y z, whyP x y z u, whyP x y z u]
def whD (w : Wh) : D := .str (whW w)
theorem fit_due (l : List Wh) : (D.lst (l.map whD)).fit = true := fit_of (fitb_lstm fun w _ => fitb_whW w) (by decide)
def wordB (b : Bool) : D := if b = true then .str "ok" else .str "number"
def tailR (ce : Er) : DSt := dSeq
              (dAsg 8
                (dLst
                  (dCons
                    (dWhy (woE ce) (Str.ofString "ok") fun ψ' =>
                      dCall (sx3 (kXB ce)) [] ψ' (dCons (dVar 0) (dCons (dVar 1) (dCons (dVar 3) dNil))))
                    dNil)))
              (dSeq
                (dApp 8
                  (dWhy (woE ce) (Str.ofString "ok") fun ψ' =>
                    dCall (sx3 (kXA ce)) [] ψ' (dCons (dVar 0) (dCons (dVar 1) (dCons (dVar 2) dNil)))))
                (dSeq
                  (dApp 8
                    (dWhy (woE ce) (Str.ofString "ok") fun ψ' =>
                      dCall (sx3 (kXA ce)) [] ψ' (dCons (dVar 0) (dCons (dVar 1) (dCons (dVar 2) dNil)))))
                  (dSeq
                    (dApp 8
                      (dWhy (woE ce) (Str.ofString "ok") fun ψ' =>
                        dCall (sx4 (kXC ce)) [] ψ'
                          (dCons (dVar 0) (dCons (dVar 1) (dCons (dVar 2) (dCons (dVar 3) dNil))))))
                    (dSeq
                      (dApp 8
                        (dWhy (woE ce) (Str.ofString "ok") fun ψ' =>
                          dCall (sx5 (kXI ce)) [] ψ'
                            (dCons (dVar 0) (dCons (dVar 1) (dCons (dVar 2) (dCons (dVar 3) (dCons (dC V.non) dNil)))))))
                      (dRet (dOp dEq (dVar 8) (dVar 5)))))))
theorem tail_ok {ce : Er} {x y z u : D} {φ : En → Prop} (hx : x.good = true) (hy : y.good = true) (hz : z.good = true) (hu : u.good = true) (hk : φ (.d (.bl true))) (e4 e6 e7 e9 : En) :
    tailR ce [.d x, .d y, .d z, .d u, e4, .lst ((dueL x y z u).map whD), e6, e7, .no, e9] (po φ) := by
  unfold tailR
  (try dsimp only [dNext, dSeq, dIfS, dB, dOp, dNot, dOr, dAnd, dNotV, dOrV, dAndV, dAsg, dRet, dDrop, dCB, dIf, dTup, dLst, dCons, dNil, wf_d, wf_l, wb_b, wi_i, wt_t, wl_l, wl_d, tupR_t, tupR_l, lstR_t, lstR_l, List.set_cons_zero, List.set_cons_succ])
  refine dWhy_go (w := whyB x y u) (fun ψ h => ⟨rfl, hx, hy, hu, endX_imp h fun _ k _ => k⟩) ?_
  refine ⟨by simp, ?_⟩
  refine ⟨⟨_, rfl⟩, dWhy_go (w := whyF x y z) (fun ψ h => ⟨rfl, hx, hy, hz, endX_imp h fun _ k _ => k⟩) ⟨_, rfl, by simp, ?_⟩⟩
  refine ⟨⟨_, rfl⟩, dWhy_go (w := whyF x y z) (fun ψ h => ⟨rfl, hx, hy, hz, endX_imp h fun _ k _ => k⟩) ⟨_, rfl, by simp, ?_⟩⟩
  refine ⟨⟨_, rfl⟩, dWhy_go (w := whyP x y z u) (fun ψ h => ⟨rfl, hx, hy, hz, hu, endX_imp h fun _ k _ => k⟩) ⟨_, rfl, by simp, ?_⟩⟩
  refine ⟨⟨_, rfl⟩, dWhy_go (w := whyP x y z u) (fun ψ h => ⟨rfl, rfl, hx, hy, hz, hu, rfl, endX_imp h fun _ k _ => k⟩) ⟨_, rfl, by simp, ?_⟩⟩
  refine ⟨fit_due (dueL x y z u), fit_due (dueL x y z u), ?_⟩
  show φ (.d (.bl ((D.lst ((dueL x y z u).map whD)).eqv (.lst ((dueL x y z u).map whD)))))
  rw [eqv_self (fit_due _)]
  exact hk
def kLRight (a b s p : D) (φ : En → Prop) : Prop := a.good = true ∧ b.good = true ∧ s.good = true ∧ p.good = true ∧ φ (.d (.bl true))
theorem ok__law_right (T : Txt K mg ad fd) (TE : TxtE K mg ce) (TL : TxtL K mg base (ad 39) (fd 39) lc PT) : FnOk P w K mg base CX0 15 (ad 39) (fd 39) ps__law_right (spX K (sp4 kLRight)) := by
  refine okL TL.fl sc__law_right (fun vs H Q E h => len4 h) (fun A outer s H vs Q E hr h => ?_)
  have hu := hu_of hr
  have hu65 := hu65_of hr
  refine ⟨_, (pss_cons (ps_set (i := 4) sc__law_right.nd rfl (Or.inl rfl) pe_str)
  (pss_cons (ps_if (pt_val (pe_call (ok__law_are_owners (K := K) T) (hr.mono (by omega)) (by rfl) (T.g 35 (by decide)) (T.k 35 (by decide)) (bd__law_are_owners T) .nil pass0 (pa_cons (pv 0) pa_nil)))
    (pss_one (ps_set (i := 4) sc__law_right.nd rfl (Or.inl rfl) (pe_ix (r := rIxL K) ix_list (pe_lst (pa_cons pe_str (pa_cons pe_str pa_nil))) (pe_callTy cl_int (by rfl) (T.z 1 (by decide)) (by decide +kernel) (pa_cons (pe_call (ok__law_are_deals (K := K) T) (hr.mono (by omega)) (by rfl) (T.g 37 (by decide)) (T.k 37 (by decide)) (bd__law_are_deals T) .nil pass0 (pa_cons (pv 0) (pa_cons (pv 1) pa_nil))) pa_nil)) (fun _ _ => rfl))))
    pss_nil)
  (pss_cons (ps_set (i := 5) sc__law_right.nd rfl (Or.inl rfl) (pe_op op_rep (pe_lst (pa_cons (pv 4) pa_nil)) pe_int))
  (pss_cons (ps_if (pt_cmpR (r := rEqS false) op_eqS (pv 4) pe_str (nomark _))
    (pss_cons (ps_set (i := 6) sc__law_right.nd rfl (Or.inl rfl) (pe_lst (pa_cons (pe_call (ok__law_is_in (K := K) T) (hr.mono (by omega)) (by rfl) (T.g 34 (by decide)) (T.k 34 (by decide)) (bd__law_is_in T) .nil pass0 (pa_cons (pv 3) (pa_cons pe_int (pa_cons (pe_callB (r := Da.rLen K) cl_len (by rfl) (T.z 0 (by decide)) (by decide +kernel) (pa_cons (pv 1) pa_nil)) pa_nil)))) (pa_cons (pe_call (ok__law_is_in (K := K) T) (hr.mono (by omega)) (by rfl) (T.g 34 (by decide)) (T.k 34 (by decide)) (bd__law_is_in T) .nil pass0 (pa_cons (pv 2) (pa_cons pe_int (pa_cons (pe_op op_sub (pe_callB (r := Da.rLen K) cl_len (by rfl) (T.z 0 (by decide)) (by decide +kernel) (pa_cons (pv 0) pa_nil)) pe_int) pa_nil)))) pa_nil))))
  (pss_cons (ps_set (i := 7) sc__law_right.nd rfl (Or.inl rfl) (pe_and (pe_ix (r := rIxL K) ix_list (pv 6) pe_int (fun _ _ => rfl)) (pe_one (pe_call (ok__law_is_in (K := K) T) (hr.mono (by omega)) (by rfl) (T.g 34 (by decide)) (T.k 34 (by decide)) (bd__law_is_in T) .nil pass0 (pa_cons (pv 3) (pa_cons pe_int (pa_cons (pe_op op_sub (pe_callB (r := Da.rLen K) cl_len (by rfl) (T.z 0 (by decide)) (by decide +kernel) (pa_cons (pv 1) pa_nil)) pe_int) pa_nil)))))))
  (pss_one (ps_setLc (i := 5) (own := [("_law_one", 9)]) (g := (gName 9)) (tt := tYes) (by rfl) sc__law_right.nd rfl rfl (sw_true rfl rfl rfl (by decide +kernel)) (pi_listK (K := K) (pe_op op_cat (pe_op op_cat (pv 6) (pe_slice (r := rSlL K) sl_list (pv 6) (po_some pe_int) po_none)) (pe_lst (pa_cons (pv 7) (pa_cons (pv 7) pa_nil)))))
      (blkOk_by (N := nm__law_right) (sc := defScope st__law_right) (by decide +kernel)) (fun _ _ _ _ _ => by exact (pg_name (i := 9) sc__law_right.nd rfl (Or.inl rfl))) (fun _ _ _ _ _ => pts_nil)
      (fun _ _ _ _ _ => by exact (pe_ix (r := rIxL K) ix_list (pe_lst (pa_cons pe_str (pa_cons pe_str pa_nil))) (pe_callTy cl_int (by rfl) (T.z 1 (by decide)) (by decide +kernel) (pa_cons (pv 9) pa_nil)) (fun _ _ => rfl)))))))
    pss_nil)
  (pss_cons (ps_set (i := 8) sc__law_right.nd rfl (Or.inl rfl) (pe_lst (pa_cons (pe_lam (T := HasT.T K) (TT := TTwhy (woE ce) "ok") (k := 12) (T.f 38 (by decide)) (by rfl) (T.g 38 (by decide)) (T.k 38 (by decide)) (bd__law_why T) sc__law_why rfl (Or.inl rfl) (fun cd => gives__law_why TE) TL.tb rfl TL.mem TL.uq (hr.mono (by omega)) (LamX.lamS_by (sc := defScope st__law_right) (by decide +kernel)) (by rfl) (fun _ _ _ _ _ => rfl)
      (fun A outer s H E f c2 hrr => by exact (pe_call (ok_owners_behind_X (K := K) T TE) (hrr.mono (by omega)) (by rfl) (T.g 16 (by decide)) (T.k 16 (by decide)) (bd_owners_behind T) .nil (passes_call (W := fun cls d _ H => E cls d H) (takes_of rfl rfl rfl rfl) fun _ _ _ _ h => h) (pa_cons (pv 0) (pa_cons (pv 1) (pa_cons (pv 3) pa_nil)))))) pa_nil)))
  (pss_cons (ps_expr (pe_bmK (K := K) PySem.F.plainAttrs_list PySem.F.slot_list_append PySem.F.type_list_append mt_append (pv 8) (pa_cons (pe_lam (T := HasT.T K) (TT := TTwhy (woE ce) "ok") (k := 12) (T.f 38 (by decide)) (by rfl) (T.g 38 (by decide)) (T.k 38 (by decide)) (bd__law_why T) sc__law_why rfl (Or.inl rfl) (fun cd => gives__law_why TE) TL.tb rfl TL.mem TL.uq (hr.mono (by omega)) (LamX.lamS_by (sc := defScope st__law_right) (by decide +kernel)) (by rfl) (fun _ _ _ _ _ => rfl)
      (fun A outer s H E f c2 hrr => by exact (pe_call (ok_fallen_X (K := K) T TE) (hrr.mono (by omega)) (by rfl) (T.g 20 (by decide)) (T.k 20 (by decide)) (bd_fallen T) .nil (passes_call (W := fun cls d _ H => E cls d H) (takes_of rfl rfl rfl rfl) fun _ _ _ _ h => h) (pa_cons (pv 0) (pa_cons (pv 1) (pa_cons (pv 2) pa_nil)))))) pa_nil)))
  (pss_cons (ps_expr (pe_bmK (K := K) PySem.F.plainAttrs_list PySem.F.slot_list_append PySem.F.type_list_append mt_append (pv 8) (pa_cons (pe_lam (T := HasT.T K) (TT := TTwhy (woE ce) "ok") (k := 12) (T.f 38 (by decide)) (by rfl) (T.g 38 (by decide)) (T.k 38 (by decide)) (bd__law_why T) sc__law_why rfl (Or.inl rfl) (fun cd => gives__law_why TE) TL.tb rfl TL.mem TL.uq (hr.mono (by omega)) (LamX.lamS_by (sc := defScope st__law_right) (by decide +kernel)) (by rfl) (fun _ _ _ _ _ => rfl)
      (fun A outer s H E f c2 hrr => by exact (pe_call (ok_owners_left_X (K := K) T TE) (hrr.mono (by omega)) (by rfl) (T.g 21 (by decide)) (T.k 21 (by decide)) (bd_owners_left T) .nil (passes_call (W := fun cls d _ H => E cls d H) (takes_of rfl rfl rfl rfl) fun _ _ _ _ h => h) (pa_cons (pv 0) (pa_cons (pv 1) (pa_cons (pv 2) pa_nil)))))) pa_nil)))
  (pss_cons (ps_expr (pe_bmK (K := K) PySem.F.plainAttrs_list PySem.F.slot_list_append PySem.F.type_list_append mt_append (pv 8) (pa_cons (pe_lam (T := HasT.T K) (TT := TTwhy (woE ce) "ok") (k := 12) (T.f 38 (by decide)) (by rfl) (T.g 38 (by decide)) (T.k 38 (by decide)) (bd__law_why T) sc__law_why rfl (Or.inl rfl) (fun cd => gives__law_why TE) TL.tb rfl TL.mem TL.uq (hr.mono (by omega)) (LamX.lamS_by (sc := defScope st__law_right) (by decide +kernel)) (by rfl) (fun _ _ _ _ _ => rfl)
      (fun A outer s H E f c2 hrr => by exact (pe_call (ok_chain_of_X (K := K) T TE) (hrr.mono (by omega)) (by rfl) (T.g 22 (by decide)) (T.k 22 (by decide)) (bd_chain_of T) .nil (passes_call (W := fun cls d _ H => E cls d H) (takes_of rfl rfl rfl rfl) fun _ _ _ _ h => h) (pa_cons (pv 0) (pa_cons (pv 1) (pa_cons (pv 2) (pa_cons (pv 3) pa_nil))))))) pa_nil)))
  (pss_cons (ps_expr (pe_bmK (K := K) PySem.F.plainAttrs_list PySem.F.slot_list_append PySem.F.type_list_append mt_append (pv 8) (pa_cons (pe_lam (T := HasT.T K) (TT := TTwhy (woE ce) "ok") (k := 12) (T.f 38 (by decide)) (by rfl) (T.g 38 (by decide)) (T.k 38 (by decide)) (bd__law_why T) sc__law_why rfl (Or.inl rfl) (fun cd => gives__law_why TE) TL.tb rfl TL.mem TL.uq (hr.mono (by omega)) (LamX.lamS_by (sc := defScope st__law_right) (by decide +kernel)) (by rfl) (fun _ _ _ _ _ => rfl)
      (fun A outer s H E f c2 hrr => by exact (pe_call (ok_is_chain_X (K := K) T TE) (hrr.mono (by omega)) (by rfl) (T.g 23 (by decide)) (T.k 23 (by decide)) (bd_is_chain T) .nil (passes_call (W := fun cls d _ H => E cls d H) (takes_of rfl rfl rfl rfl) fun _ _ _ _ h => h) (pa_cons (pv 0) (pa_cons (pv 1) (pa_cons (pv 2) (pa_cons (pv 3) (pa_cons pe_non pa_nil)))))))) pa_nil)))
  (pss_one (ps_ret (pe_cmpR (r := rEqD K) (op_eqD hr.units) (pv 8) (pv 5) (nomark _))))))))))))), ?_⟩
  refine body4 h fun x y z u φ hk => ?_
  rw [show st0 nm__law_right [x, y, z, u] = [.d x, .d y, .d z, .d u, .no, .no, .no, .no, .no, .no] from rfl]
  obtain ⟨hx, hy, hz, hg, hk⟩ := hk
  have tail := tail_ok (ce := ce) hx hy hz hg hk
  (try dsimp only [dNext, dSeq, dIfS, dB, dOp, dNot, dOr, dAnd, dNotV, dOrV, dAndV, dAsg, dRet, dDrop, dCB, dIf, dTup, dLst, dCons, dNil, wf_d, wf_l, wb_b, wi_i, wt_t, wl_l, wl_d, tupR_t, tupR_l, lstR_t, lstR_l, List.set_cons_zero, List.set_cons_succ])
  refine ⟨rfl, rfl, hx, ?_⟩
  (dsimp only [dB, dAnd, dOr, dNot, dEqE, wf_d, wf_l, wb_b, wi_i, wt_t, wl_l, wl_d, List.set_cons_zero, List.set_cons_succ])
  cases co : owB x with
  | false =>
    refine ifF rfl ?_
    have ed : dueL x y z u = [.ow, .ow, .ow, .ow, .ow] := by simp [dueL, whyB, whyP, whyF, whyD, co, Wh.th]
    rw [ed] at tail
    (try dsimp only [dNext, dSeq, dIfS, dB, dOp, dNot, dOr, dAnd, dNotV, dOrV, dAndV, dAsg, dRet, dDrop, dCB, dIf, dTup, dLst, dCons, dNil, wf_d, wf_l, wb_b, wi_i, wt_t, wl_l, wl_d, tupR_t, tupR_l, lstR_t, lstR_l, List.set_cons_zero, List.set_cons_succ])
    refine ⟨by decide, rfl, by decide, by decide, by decide, ?_⟩
    refine ⟨rfl, ?_⟩
    dsimp only [dEqS, vD, wf_d, wb_b]
    exact ifF (by decide) (tail _ _ _ _)
  | true =>
    obtain ⟨ex, ok⟩ := owB_ok co
    refine ifT rfl ?_
    refine ⟨rfl, rfl, by decide, rfl, toOw x, ex, ok, hy, ?_⟩
    cases cd : dsB (toOw x) y with
    | false =>
      have ed : dueL x y z u = [.dl, .dl, .dl, .dl, .dl] := by simp [dueL, whyB, whyP, whyF, whyD, co, cd, Wh.th]
      rw [ed] at tail
      refine ⟨vD (.str "deals"), rfl, ?_⟩
      (try dsimp only [dNext, dSeq, dIfS, dB, dOp, dNot, dOr, dAnd, dNotV, dOrV, dAndV, dAsg, dRet, dDrop, dCB, dIf, dTup, dLst, dCons, dNil, wf_d, wf_l, wb_b, wi_i, wt_t, wl_l, wl_d, tupR_t, tupR_l, lstR_t, lstR_l, List.set_cons_zero, List.set_cons_succ])
      refine ⟨by decide, rfl, by decide, by decide, by decide, ?_⟩
      (try dsimp only [dNext, dSeq, dIfS, dB, dOp, dNot, dOr, dAnd, dNotV, dOrV, dAndV, dAsg, dRet, dDrop, dCB, dIf, dTup, dLst, dCons, dNil, wf_d, wf_l, wb_b, wi_i, wt_t, wl_l, wl_d, tupR_t, tupR_l, lstR_t, lstR_l, List.set_cons_zero, List.set_cons_succ])
      refine ⟨rfl, ?_⟩
      dsimp only [dEqS, vD, wf_d, wb_b]
      exact ifF (by decide) (tail _ _ _ _)
    | true =>
      refine ⟨vD (.str "ok"), rfl, ?_⟩
      (try dsimp only [dNext, dSeq, dIfS, dB, dOp, dNot, dOr, dAnd, dNotV, dOrV, dAndV, dAsg, dRet, dDrop, dCB, dIf, dTup, dLst, dCons, dNil, wf_d, wf_l, wb_b, wi_i, wt_t, wl_l, wl_d, tupR_t, tupR_l, lstR_t, lstR_l, List.set_cons_zero, List.set_cons_succ])
      refine ⟨by decide, rfl, by decide, by decide, by decide, ?_⟩
      (try dsimp only [dNext, dSeq, dIfS, dB, dOp, dNot, dOr, dAnd, dNotV, dOrV, dAndV, dAsg, dRet, dDrop, dCB, dIf, dTup, dLst, dCons, dNil, wf_d, wf_l, wb_b, wi_i, wt_t, wl_l, wl_d, tupR_t, tupR_l, lstR_t, lstR_l, List.set_cons_zero, List.set_cons_succ])
      refine ⟨rfl, ?_⟩
      dsimp only [dEqS, vD, wf_d, wb_b]
      refine ifT (by decide) ?_
      obtain ⟨ey, okI⟩ := dsB_ok ok cd
      have ef : whyF x y z = if inB z 0 (((toOw x).length : Int) - 1) = true then .ok else .nu := by simp [whyF, whyD, co, cd, Wh.th]
      have eb : whyB x y u = if inB u 0 ((toDs y).length : Int) = true then .ok else .nu := by simp [whyB, whyD, co, cd, Wh.th]
      have ep : whyP x y z u = (whyF x y z).th (if inB u 0 (((toDs y).length : Int) - 1) = true then .ok else .nu) := rfl
      generalize toOw x = os at *
      generalize toDs y = ds at *
      subst ex ey
      refine ⟨rfl, rfl, 0, (ds.length : Int), rfl, by rw [List.length_map], hg, ?_⟩
      (dsimp only [dB, dAnd, dOr, dNot, dEqE, wf_d, wf_l, wb_b, wi_i, wt_t, wl_l, wl_d, List.set_cons_zero, List.set_cons_succ])
      refine ⟨rfl, rfl, rfl, rfl, 0, (os.length : Int) - 1, rfl, by rw [List.length_map]; rfl, hz, ?_⟩
      (dsimp only [dB, dAnd, dOr, dNot, dEqE, wf_d, wf_l, wb_b, wi_i, wt_t, wl_l, wl_d, List.set_cons_zero, List.set_cons_succ])
      refine ⟨by simp, rfl, rfl, ⟨_, rfl, ?_⟩⟩
      (dsimp only [dB, dAnd, dOr, dNot, dEqE, wf_d, wf_l, wb_b, wi_i, wt_t, wl_l, wl_d, List.set_cons_zero, List.set_cons_succ])
      have key : ∀ both : Bool, (dueL (owD os) (dsD ds) z u).map whD = [wordB (inB u 0 (ds.length : Int)), wordB (inB z 0 ((os.length : Int) - 1)), wordB (inB z 0 ((os.length : Int) - 1)), wordB both, wordB both] → dLc [9] [9]
                      (dILst
                        (dOp dCat (dOp dCat (dVar 6) (dSl false (dVar 6) (dPart (dC (V.int 1))) dNoPart))
                          (dLst (dCons (dVar 7) (dCons (dVar 7) dNil)))))
                      (fun d Γ φ => φ (Γ.set 9 (En.d d))) dYes
                      (dOp dIxL
                        (dLst
                          (dCons (dC (V.str (Str.ofString "number"))) (dCons (dC (V.str (Str.ofString "ok"))) dNil)))
                        (dCB dIntR (dCons (dVar 9) dNil)))
                      [.d (owD os), .d (dsD ds), .d z, .d u, .d (.str "ok"), .lst (List.replicate (Int.toNat 5) [D.str (Str.ofString "ok")]).flatten, .lst [.bl (inB u 0 (ds.length : Int)), .bl (inB z 0 ((os.length : Int) - 1))], .d (.bl both), .no, .no] fun e Γ1 => tailR ce (Γ1.set 5 e) (po φ) := by
        intro both eb
        refine dLc_pure (Γ1 := [.d (owD os), .d (dsD ds), .d z, .d u, .d (.str "ok"), .lst (List.replicate (Int.toNat 5) [D.str (Str.ofString "ok")]).flatten, .d (.lst [.bl (inB u 0 (ds.length : Int)), .bl (inB z 0 ((os.length : Int) - 1))]), .d (.bl both), .no, .no]) (Γw := [.d (owD os), .d (dsD ds), .d z, .d u, .d (.str "ok"), .lst (List.replicate (Int.toNat 5) [D.str (Str.ofString "ok")]).flatten, .d (.lst [.bl (inB u 0 (ds.length : Int)), .bl (inB z 0 ((os.length : Int) - 1))]), .d (.bl both), .no, .no]) (items := [.bl (inB u 0 (ds.length : Int)), .bl (inB z 0 ((os.length : Int) - 1)), .bl (inB z 0 ((os.length : Int) - 1)), .bl both, .bl both]) (fun b => match b with | .bl b => wordB b | _ => .non) rfl (fun ψ h => ?_) rfl rfl (by simp) (fun d hd ψ q => ?_) ?_
        · refine ⟨rfl, rfl, (show 2 + 1 ≤ 1000000 by decide), (show 2 ≤ 100000 by decide), (show 3 + 2 ≤ 1000000 by decide), ?_⟩
          exact h
        · have hb : ∃ b, d = .bl b := by
            simp only [List.mem_cons, List.not_mem_nil, or_false] at hd
            rcases hd with h | h | h | h | h <;> exact ⟨_, h⟩
          obtain ⟨b, rfl⟩ := hb
          refine ⟨rfl, rfl, by decide, ?_⟩
          cases b
          · exact ⟨_, rfl, q _ _ rfl rfl⟩
          · exact ⟨_, rfl, q _ _ rfl rfl⟩
        · rw [eb] at tail
          exact tail _ _ _ _
      refine ifB (fun c => ?_) (fun c => ?_)
      · refine ⟨rfl, rfl, rfl, rfl, 0, (ds.length : Int) - 1, rfl, by rw [List.length_map]; rfl, hg, ?_⟩
        have e := key (inB u 0 ((ds.length : Int) - 1)) (by
          rw [dueL, ep, ef, eb, c, if_pos rfl]
          cases inB u 0 (ds.length : Int) <;> cases inB u 0 ((ds.length : Int) - 1) <;> rfl)
        exact e
      · have e := key false (by
          rw [dueL, ep, ef, eb, c, if_neg Bool.false_ne_true]
          cases inB u 0 (ds.length : Int) <;> rfl)
        exact e
end
end Dl

set_option Elab.async false
set_option maxRecDepth 100000
set_option maxHeartbeats 4000000
set_option linter.all false
set_option synthInstance.maxHeartbeats 4000000
set_option synthInstance.maxSize 10000

namespace Dl
open PySem PySem.Spec PyProof.Rows L2 RZ HmS Da
section
variable {P : Program} {w : World} {K : PySem.W.Frag} [HasT K] {mg : Str → Option Value} {base : Heap} {ad : Nat → Addr} {fd : Nat → FuncData}
def kLBad (o x : D) (φ : En → Prop) : Prop := ∃ os ds, o = owD os ∧ x = dsD ds ∧ OwOk os ∧ ds.length ≤ 10 ∧ (dsD ds).good = true ∧ ∀ L : List D, L.length ≤ 100 → (∀ y ∈ L, y.good = true) → φ (.lst L)
theorem ok__law_bad_deals (T : Txt K mg ad fd) : FnOk P w K mg base CX0 1 (ad 40) (fd 40) ps__law_bad_deals (spX K (sp2 kLBad)) := by
  refine (show Fun K "_law_bad_deals" "_law_bad_deals" st__law_bad_deals (ad 40) (fd 40) from T.f 40 (by decide)).ok sc__law_bad_deals (fun vs H Q E h => len2 h) (fun cdv A outer s H vs Q E hr h => ?_)
  have hu := hu_of hr
  have hu65 := hu65_of hr
  refine ⟨_, (pss_cons (ps_set (i := 2) sc__law_bad_deals.nd rfl (Or.inl rfl) (pe_tup (pa_cons pe_int (pa_cons (pe_ix (r := rIxT K) ix_tup (pv 0) pe_int (fun _ _ => rfl)) (pa_cons (pe_op op_mod (pe_op op_add (pe_ix (r := rIxT K) ix_tup (pv 0) pe_int (fun _ _ => rfl)) pe_int) pe_int) pa_nil)))))
  (pss_cons (ps_set (i := 3) sc__law_bad_deals.nd rfl (Or.inl rfl) (pe_tup (pa_cons pe_int (pa_cons (pe_ix (r := rIxT K) ix_tup (pv 2) pe_int (fun _ _ => rfl)) (pa_cons (pe_ix (r := rIxT K) ix_tup (pv 0) pe_int (fun _ _ => rfl)) pa_nil)))))
  (pss_cons (ps_set (i := 4) sc__law_bad_deals.nd rfl (Or.inl rfl) (pe_lst (pa_cons (pe_tup pa_nil) (pa_cons (pe_tup (pa_cons (pe_tup pa_nil) pa_nil)) (pa_cons (pe_tup (pa_cons (pe_tup (pa_cons (pv 2) pa_nil)) pa_nil)) (pa_cons (pe_tup (pa_cons (pv 2) pa_nil)) (pa_cons (pe_lst (pa_cons (pe_tup (pa_cons (pv 2) pa_nil)) pa_nil)) (pa_cons (pe_tup (pa_cons (pe_tup (pa_cons (pv 2) (pa_cons (pv 2) pa_nil))) pa_nil)) (pa_cons (pe_tup (pa_cons (pe_tup (pa_cons (pv 2) pa_nil)) (pa_cons (pe_tup (pa_cons (pv 2) pa_nil)) pa_nil))) pa_nil)))))))))
  (pss_cons (ps_set (i := 4) sc__law_bad_deals.nd rfl (Or.inl rfl) (pe_op op_cat (pv 4) (pe_lst (pa_cons (pe_tup (pa_cons (pe_tup (pa_cons (pv 2) pa_nil)) (pa_cons (pe_tup (pa_cons (pv 3) pa_nil)) pa_nil))) (pa_cons (pe_tup (pa_cons (pe_tup (pa_cons (pv 3) pa_nil)) pa_nil)) (pa_cons (pe_tup (pa_cons (pe_tup (pa_cons (pe_tup (pa_cons pe_int (pa_cons (pe_ix (r := rIxT K) ix_tup (pv 0) pe_int (fun _ _ => rfl)) (pa_cons (pe_ix (r := rIxT K) ix_tup (pv 0) pe_int (fun _ _ => rfl)) pa_nil)))) pa_nil)) pa_nil)) pa_nil))))))
  (pss_cons (ps_expr (pe_bmK (K := K) PySem.F.plainAttrs_list PySem.F.slot_list_append PySem.F.type_list_append mt_append (pv 4) (pa_cons (pe_tup (pa_cons (pe_tup (pa_cons (pe_tup (pa_cons (pe_callB (r := Da.rLen K) cl_len (by rfl) (T.z 0 (by decide)) (by decide +kernel) (pa_cons (pv 0) pa_nil)) (pa_cons pe_int (pa_cons pe_int pa_nil)))) pa_nil)) pa_nil)) pa_nil)))
  (pss_cons (ps_expr (pe_bmK (K := K) PySem.F.plainAttrs_list PySem.F.slot_list_append PySem.F.type_list_append mt_append (pv 4) (pa_cons (pe_tup (pa_cons (pe_tup (pa_cons (pe_tup (pa_cons pe_int (pa_cons pe_int (pa_cons pe_int pa_nil)))) pa_nil)) pa_nil)) pa_nil)))
  (pss_cons (ps_set (i := 4) sc__law_bad_deals.nd rfl (Or.inl rfl) (pe_op op_cat (pv 4) (pe_lst (pa_cons (pe_tup (pa_cons (pe_tup (pa_cons (pe_slice (r := rSlA K) sl_tupA (pv 2) po_none (po_some pe_int)) pa_nil)) pa_nil)) (pa_cons (pe_tup (pa_cons (pe_tup (pa_cons (pe_op (r := rCatA K) op_catA (pe_tup (pa_cons pe_bl pa_nil)) (pe_slice (r := rSlA K) sl_tupA (pv 2) (po_some pe_int) po_none)) pa_nil)) pa_nil)) (pa_cons (pe_tup (pa_cons (pe_tup (pa_cons (pe_callTy (r := rList K) cl_list (by rfl) (T.z 14 (by decide)) (by decide +kernel) (pa_cons (pv 2) pa_nil)) pa_nil)) pa_nil)) (pa_cons (pe_tup (pa_cons (pe_tup (pa_cons (pe_tup (pa_cons pe_int (pa_cons (pe_ix (r := rIxT K) ix_tup (pv 0) pe_int (fun _ _ => rfl)) (pa_cons pe_int pa_nil)))) pa_nil)) pa_nil)) pa_nil)))))))
  (pss_one (ps_ret (pe_op op_cat (pv 4) (pe_lst (pa_cons (pe_op (r := rRepT K) op_repT (pe_tup (pa_cons (pe_tup (pa_cons (pv 2) pa_nil)) (pa_cons (pe_tup (pa_cons (pv 3) pa_nil)) pa_nil))) pe_int) (pa_cons (pe_op (r := rCatA K) op_catA (pe_op (r := rRepT K) op_repT (pe_tup (pa_cons (pe_tup (pa_cons (pv 2) pa_nil)) (pa_cons (pe_tup (pa_cons (pv 3) pa_nil)) pa_nil))) pe_int) (pe_tup (pa_cons (pe_tup (pa_cons (pv 2) pa_nil)) pa_nil))) (pa_cons (pe_op (r := rCatA K) op_catA (pv 1) (pe_tup (pa_cons pe_non pa_nil))) (pa_cons (pe_slice (r := rSlA K) sl_tupA (pv 1) po_none (po_some (pe_un un_neg pe_int))) pa_nil))))))))))))))), ?_⟩
  refine body2 h fun x y φ hk => ?_
  rw [show st0 nm__law_bad_deals [x, y] = [.d x, .d y, .no, .no, .no] from rfl]
  obtain ⟨os, ds, rfl, rfl, ok, dl, dg, hk⟩ := hk
  obtain ⟨o, r, rfl⟩ : ∃ o r, os = o :: r := by
    cases os with
    | nil => exact absurd ok.l0 (by simp)
    | cons o r => exact ⟨o, r, rfl⟩
  have ea : atI ((o :: r).map D.int) 0 = some (.int o) := atI_nat (xs := (o :: r).map D.int) (j := 0) rfl
  have ef : ∀ a b c : D, atI [a, b, c] 2 = some c := fun a b c => rfl
  have e2 : ∀ a b c : D, cutL [a, b, c] none (some 2) = [a, b] := fun a b c => rfl
  have e3 : ∀ a b c : D, cutL [a, b, c] (some 1) none = [b, c] := fun a b c => rfl
  have e5 : ∀ a b : D, (List.replicate (5 : Int).toNat [a, b]).flatten = [a, b, a, b, a, b, a, b, a, b] := fun a b => rfl
  have ro := ok.rng o List.mem_cons_self
  generalize o :: r = os at *
  repeat (first
    | refine ⟨show List.length _ ≤ 100000 from by simp, ?_⟩
    | refine ⟨show isSc _ = true from rfl, ?_⟩
    | refine ⟨.int o, ea, ?_⟩
    | refine ⟨show (0 : Int) < 6 from by decide, ?_⟩
    | refine ⟨show (true : Bool) = true from rfl, ?_⟩
    | refine ⟨show List.length _ + List.length _ ≤ 1000000 from Nat.le_of_ble_eq_true rfl, ?_⟩
    | refine ⟨show List.length _ + List.length _ ≤ 1000000 from by rw [List.length_map, List.length_singleton]; omega, ?_⟩
    | refine ⟨List.cons_ne_nil _ _, show (2 : Int) ≤ 5 from by decide, show (5 : Int) ≤ 1000 from by decide, Nat.le_of_ble_eq_true rfl, ?_⟩
    | refine ⟨⟨_, rfl⟩, ?_⟩
    | refine ⟨_, ef _ _ _, ?_⟩
    | refine ⟨_, rfl, ?_⟩)
  have dg2 := tup_good dg
  refine hk _ (Nat.le_of_ble_eq_true rfl) fun y hy => ?_
  rcases List.mem_append.mp hy with h1 | h1
  · refine goods_mem ?_ y h1
    rfl
  · rcases List.mem_cons.mp h1 with h1 | h1
    · rw [h1]
      rfl
    rcases List.mem_cons.mp h1 with h1 | h1
    · rw [h1]
      rfl
    rcases List.mem_cons.mp h1 with h1 | h1
    · rw [h1]
      refine good_tup (fun z hz => ?_) (by rw [List.length_append, List.length_map, List.length_singleton]; omega)
      rcases List.mem_append.mp hz with h2 | h2
      · exact dg2.1 z h2
      · rw [List.mem_singleton] at h2
        rw [h2]
        rfl
    rw [List.mem_singleton] at h1
    rw [h1]
    exact good_tup (fun z hz => dg2.1 z (cut_mem hz)) (Nat.le_trans cut_len dg2.2)
end
end Dl

set_option Elab.async false
set_option maxRecDepth 100000
set_option maxHeartbeats 4000000
set_option linter.all false
set_option synthInstance.maxHeartbeats 4000000
set_option synthInstance.maxSize 10000

namespace Dl
open PySem PySem.Spec PyProof.Rows L2 RZ HmS Da
section
variable {P : Program} {w : World} {K : PySem.W.Frag} [HasT K] {mg : Str → Option Value} {base : Heap} {ad : Nat → Addr} {fd : Nat → FuncData}
variable {ce : Er} {lc PT : Addr}
theorem int_base {n : Nat} {i : Int} (h : i.natAbs < 2 ^ 40) : (D.int i).base n = true := by
  cases n <;> exact decide_eq_true h
theorem own_base {os : List Int} (ok : OwOk os) : (owD os).base 1 = true := by
  show (decide ((os.map D.int).length ≤ 30) && (os.map D.int).all fun x => D.base 0 x) = true
  have l1 := ok.l1
  rw [Bool.and_eq_true, decide_eq_true_eq, List.length_map, List.all_eq_true]
  refine ⟨by omega, fun x hx => ?_⟩
  obtain ⟨o, ho, rfl⟩ := List.mem_map.mp hx
  have := ok.rng o ho
  exact int_base (by omega)
theorem dls_each : ∀ {os : List Int} {ds : List (List Mv)}, DlsOk os ds → ∀ d ∈ ds, ∃ o : List Int, o.length = os.length ∧ DlOk o d
  | _, [], _, d, h => by cases h
  | os, x :: r, ok, d, h => by
    rcases List.mem_cons.mp h with z | z
    · subst z
      exact ⟨os, rfl, ok.1⟩
    · obtain ⟨o, l, k⟩ := dls_each ok.2 d z
      exact ⟨o, by rw [l, doneD_len], k⟩
theorem ds_base {os : List Int} {ds : List (List Mv)} (ok : OwOk os) (h : DlsOk os ds) (l : ds.length ≤ 10) : (dsD ds).base 3 = true := by
  have l1 := ok.l1
  show (decide ((ds.map dlD).length ≤ 30) && (ds.map dlD).all fun x => D.base 2 x) = true
  rw [Bool.and_eq_true, decide_eq_true_eq, List.length_map, List.all_eq_true]
  refine ⟨by omega, fun x hx => ?_⟩
  obtain ⟨d, hd, rfl⟩ := List.mem_map.mp hx
  obtain ⟨o, ol, k⟩ := dls_each h d hd
  show (decide ((d.map mvD).length ≤ 30) && (d.map mvD).all fun x => D.base 1 x) = true
  rw [Bool.and_eq_true, decide_eq_true_eq, List.length_map, List.all_eq_true]
  have := k.l1
  refine ⟨by omega, fun x hx => ?_⟩
  obtain ⟨m, hm, rfl⟩ := List.mem_map.mp hx
  have mo := k.mv m hm
  have s1 := mo.s1
  have s0 := mo.s0
  have g0 := mo.g0
  have g1 := mo.g1
  have t0 := mo.t0
  have t1 := mo.t1
  show (decide (3 ≤ 30) && (D.base 0 (.int m.1) && (D.base 0 (.int m.2.1) && (D.base 0 (.int m.2.2) && true)))) = true
  rw [int_base (by omega), int_base (by omega), int_base (by omega)]
  rfl
theorem ok_law (T : Txt K mg ad fd) (TE : TxtE K mg ce) (TL : TxtL K mg base (ad 39) (fd 39) lc PT) : FnOk P w K mg base CX0 16 (ad 41) (fd 41) ps_law (spLaw K) := by
  refine (show Fun K "law" "law" st_law (ad 41) (fd 41) from T.f 41 (by decide)).ok sc_law (fun vs H Q E h => by obtain ⟨a, ns, rfl, _⟩ := h; rfl) (fun cdv A outer s H vs Q E hr h => ?_)
  have hu := hu_of hr
  have hu65 := hu65_of hr
  refine ⟨_, (pss_cons (ps_set (i := 1) sc_law.nd rfl (Or.inl rfl) (pe_call (ok__law_pen (K := K) T) (hr.mono (by omega)) (by rfl) (T.g 24 (by decide)) (T.k 24 (by decide)) (bd__law_pen T) .nil pass0 (pa_cons (pe_call (ok__law_cell_at (K := K) T) (hr.mono (by omega)) (by rfl) (T.g 25 (by decide)) (T.k 25 (by decide)) (bd__law_cell_at T) .nil pass0 (pa_cons (pv 0) (pa_cons pe_int pa_nil))) pa_nil)))
  (pss_cons (ps_set (i := 2) sc_law.nd rfl (Or.inl rfl) (pe_call (ok__law_owners (K := K) T) (hr.mono (by omega)) (by rfl) (T.g 27 (by decide)) (T.k 27 (by decide)) (bd__law_owners T) .nil pass0 (pa_cons (pv 1) pa_nil)))
  (pss_cons (ps_set (i := 3) sc_law.nd rfl (Or.inl rfl) (pe_call (ok__law_deals (K := K) T) (hr.mono (by omega)) (by rfl) (T.g 31 (by decide)) (T.k 31 (by decide)) (bd__law_deals T) .nil pass0 (pa_cons (pv 1) (pa_cons (pv 2) (pa_cons pe_int pa_nil)))))
  (pss_cons (ps_for PassesOwn.never rfl (pi_range1 (by rfl) (T.z 2 (by decide)) (pa_cons pe_int pa_nil)) (pg_name (i := 4) sc_law.nd rfl (Or.inl rfl))
    (pss_cons (ps_set (i := 5) sc_law.nd rfl (Or.inl rfl) (pe_ix (r := rIxL K) ix_list (pe_lst (pa_cons (pv 2) (pa_cons (pv 2) (pa_cons (pe_call (ok__law_spoilt (K := K) T 4) (hr.mono (by omega)) (by rfl) (T.g 33 (by decide)) (T.k 33 (by decide)) (bd__law_spoilt T) .nil pass0 (pa_cons (pv 1) (pa_cons (pv 2) pa_nil))) (pa_cons (pe_call (ok__law_thing (K := K) T 3) (hr.mono (by omega)) (by rfl) (T.g 32 (by decide)) (T.k 32 (by decide)) (bd__law_thing T) .nil pass0 (pa_cons (pv 1) (pa_cons pe_int pa_nil))) pa_nil))))) (pe_call (ok__law_draw (K := K) T) (hr.mono (by omega)) (by rfl) (T.g 26 (by decide)) (T.k 26 (by decide)) (bd__law_draw T) .nil pass0 (pa_cons (pv 1) (pa_cons pe_int pa_nil))) (fun _ _ => rfl)))
  (pss_cons (ps_set (i := 6) sc_law.nd rfl (Or.inl rfl) (pe_ix (r := rIxL K) ix_list (pe_lst (pa_cons (pv 3) (pa_cons (pv 3) (pa_cons (pe_call (ok__law_spoilt (K := K) T 4) (hr.mono (by omega)) (by rfl) (T.g 33 (by decide)) (T.k 33 (by decide)) (bd__law_spoilt T) .nil pass0 (pa_cons (pv 1) (pa_cons (pv 3) pa_nil))) (pa_cons (pe_call (ok__law_thing (K := K) T 3) (hr.mono (by omega)) (by rfl) (T.g 32 (by decide)) (T.k 32 (by decide)) (bd__law_thing T) .nil pass0 (pa_cons (pv 1) (pa_cons pe_int pa_nil))) pa_nil))))) (pe_call (ok__law_draw (K := K) T) (hr.mono (by omega)) (by rfl) (T.g 26 (by decide)) (T.k 26 (by decide)) (bd__law_draw T) .nil pass0 (pa_cons (pv 1) (pa_cons pe_int pa_nil))) (fun _ _ => rfl)))
  (pss_cons (ps_set (i := 7) sc_law.nd rfl (Or.inl rfl) (pe_ix (r := rIxL K) ix_list (pe_lst (pa_cons (pe_call (ok__law_draw (K := K) T) (hr.mono (by omega)) (by rfl) (T.g 26 (by decide)) (T.k 26 (by decide)) (bd__law_draw T) .nil pass0 (pa_cons (pv 1) (pa_cons (pe_op op_add (pe_callB (r := Da.rLen K) cl_len (by rfl) (T.z 0 (by decide)) (by decide +kernel) (pa_cons (pv 2) pa_nil)) pe_int) pa_nil))) (pa_cons (pe_un un_neg pe_int) (pa_cons pe_bl (pa_cons (pe_call (ok__law_thing (K := K) T 3) (hr.mono (by omega)) (by rfl) (T.g 32 (by decide)) (T.k 32 (by decide)) (bd__law_thing T) .nil pass0 (pa_cons (pv 1) (pa_cons pe_int pa_nil))) pa_nil))))) (pe_call (ok__law_draw (K := K) T) (hr.mono (by omega)) (by rfl) (T.g 26 (by decide)) (T.k 26 (by decide)) (bd__law_draw T) .nil pass0 (pa_cons (pv 1) (pa_cons pe_int pa_nil))) (fun _ _ => rfl)))
  (pss_cons (ps_set (i := 8) sc_law.nd rfl (Or.inl rfl) (pe_ix (r := rIxL K) ix_list (pe_lst (pa_cons (pe_call (ok__law_draw (K := K) T) (hr.mono (by omega)) (by rfl) (T.g 26 (by decide)) (T.k 26 (by decide)) (bd__law_draw T) .nil pass0 (pa_cons (pv 1) (pa_cons (pe_op op_add (pe_callB (r := Da.rLen K) cl_len (by rfl) (T.z 0 (by decide)) (by decide +kernel) (pa_cons (pv 3) pa_nil)) pe_int) pa_nil))) (pa_cons (pe_un un_neg pe_int) (pa_cons pe_non (pa_cons (pe_call (ok__law_thing (K := K) T 3) (hr.mono (by omega)) (by rfl) (T.g 32 (by decide)) (T.k 32 (by decide)) (bd__law_thing T) .nil pass0 (pa_cons (pv 1) (pa_cons pe_int pa_nil))) pa_nil))))) (pe_call (ok__law_draw (K := K) T) (hr.mono (by omega)) (by rfl) (T.g 26 (by decide)) (T.k 26 (by decide)) (bd__law_draw T) .nil pass0 (pa_cons (pv 1) (pa_cons pe_int pa_nil))) (fun _ _ => rfl)))
  (pss_one (ps_if (pt_not (pt_val (pe_call (ok__law_right (K := K) T TE TL) (hr.mono (by omega)) (by rfl) (T.g 39 (by decide)) (T.k 39 (by decide)) (bd__law_right T) .nil pass0 (pa_cons (pv 5) (pa_cons (pv 6) (pa_cons (pv 7) (pa_cons (pv 8) pa_nil)))))))
    (pss_one (ps_ret pe_bl))
    pss_nil)))))))
  (pss_cons (ps_for PassesOwn.never rfl (pi_listK (K := K) (pe_call (ok__law_bad_deals (K := K) T) (hr.mono (by omega)) (by rfl) (T.g 40 (by decide)) (T.k 40 (by decide)) (bd__law_bad_deals T) .nil pass0 (pa_cons (pv 2) (pa_cons (pv 3) pa_nil)))) (pg_name (i := 9) sc_law.nd rfl (Or.inl rfl))
    (pss_one (ps_if (PW.pt (pw_or (pt_not (pt_val (pe_call (ok__law_right (K := K) T TE TL) (hr.mono (by omega)) (by rfl) (T.g 39 (by decide)) (T.k 39 (by decide)) (bd__law_right T) .nil pass0 (pa_cons (pv 2) (pa_cons (pv 9) (pa_cons pe_int (pa_cons pe_int pa_nil))))))) (pw_or1 (pt_not (pt_val (pe_call (ok__law_right (K := K) T TE TL) (hr.mono (by omega)) (by rfl) (T.g 39 (by decide)) (T.k 39 (by decide)) (bd__law_right T) .nil pass0 (pa_cons pe_non (pa_cons (pv 9) (pa_cons pe_int (pa_cons pe_int pa_nil))))))))))
    (pss_one (ps_ret pe_bl))
    pss_nil)))
  (pss_cons (ps_for PassesOwn.never rfl (pi_tupK (K := K) (pe_tup (pa_cons pe_int (pa_cons pe_int pa_nil)))) (pg_name (i := 10) sc_law.nd rfl (Or.inl rfl))
    (pss_one (ps_if (pt_not (pt_val (pe_call (ok__law_right (K := K) T TE TL) (hr.mono (by omega)) (by rfl) (T.g 39 (by decide)) (T.k 39 (by decide)) (bd__law_right T) .nil pass0 (pa_cons (pe_op (r := rRepT K) op_repT (pe_tup (pa_cons pe_int pa_nil)) pe_int) (pa_cons (pe_tup (pa_cons (pe_callTy (r := rTuple K) cl_tuple (by rfl) (T.z 4 (by decide)) (by decide +kernel) (pa_cons (pe_lc (own := [("_law_at", 11)]) (g := (gName 11)) (tt := tYes) rfl sc_law.nd (pi_range1 (by rfl) (T.z 2 (by decide)) (pa_cons (pv 10) pa_nil))
      (blkOk_by (N := nm_law) (sc := defScope st_law) (by decide +kernel)) (fun _ _ _ _ _ => by exact (pg_name (i := 11) sc_law.nd rfl (Or.inl rfl))) (fun _ _ _ _ _ => pts_nil)
      (fun _ _ _ _ _ => by exact (pe_tup (pa_cons (pv 11) (pa_cons pe_int (pa_cons pe_int pa_nil)))))) pa_nil)) pa_nil)) (pa_cons pe_int (pa_cons pe_int pa_nil)))))))
    (pss_one (ps_ret pe_bl))
    pss_nil)))
  (pss_cons (ps_for PassesOwn.never rfl (pi_tupK (K := K) (pe_tup (pa_cons (pe_tup pa_nil) (pa_cons (pe_op (r := rRepT K) op_repT (pe_tup (pa_cons pe_int pa_nil)) pe_int) (pa_cons (pe_op (r := rRepT K) op_repT (pe_tup (pa_cons pe_int pa_nil)) pe_int) (pa_cons (pe_lst (pa_cons pe_int pa_nil)) (pa_cons (pe_tup (pa_cons pe_int pa_nil)) (pa_cons (pe_tup (pa_cons (pe_un un_neg pe_int) pa_nil)) (pa_cons (pe_tup (pa_cons pe_bl pa_nil)) (pa_cons pe_int (pa_cons pe_non (pa_cons (pe_tup (pa_cons pe_str pa_nil)) pa_nil)))))))))))) (pg_name (i := 9) sc_law.nd rfl (Or.inl rfl))
    (pss_one (ps_if (PW.pt (pw_or (pt_not (pt_val (pe_call (ok__law_right (K := K) T TE TL) (hr.mono (by omega)) (by rfl) (T.g 39 (by decide)) (T.k 39 (by decide)) (bd__law_right T) .nil pass0 (pa_cons (pv 9) (pa_cons (pe_tup pa_nil) (pa_cons pe_int (pa_cons pe_int pa_nil))))))) (pw_or1 (pt_not (pt_val (pe_call (ok__law_right (K := K) T TE TL) (hr.mono (by omega)) (by rfl) (T.g 39 (by decide)) (T.k 39 (by decide)) (bd__law_right T) .nil pass0 (pa_cons (pv 9) (pa_cons pe_non (pa_cons pe_non (pa_cons pe_non pa_nil))))))))))
    (pss_one (ps_ret pe_bl))
    pss_nil)))
  (pss_one (ps_ret pe_bl))))))))), ?_⟩
  obtain ⟨a, ns, rfl, tb, hS, hl, q⟩ := h
  refine bodyS tb hS q ?_
  rw [show stS nm_law ns = [.scr ns, .no, .no, .no, .no, .no, .no, .no, .no, .no, .no, .no] from rfl]
  refine ⟨⟨_, rfl⟩, rfl, ⟨_, rfl⟩, rfl, 0, rfl, fun z => ⟨z, rfl, ?_⟩⟩
  refine ⟨rfl, rfl, rfl, fun os okO => ?_⟩
  refine ⟨rfl, rfl, rfl, rfl, os, 8, rfl, rfl, okO, by omega, by omega, fun ds okD l8 => ?_⟩
  have o1 := okO.l1
  have bo := own_base okO
  have bd := ds_base okO okD (by omega)
  have go := base_good bo
  have gd := base_good bd
  (try dsimp only [dNext, dSeq, dIfS, dB, dOp, dNot, dOr, dAnd, dNotV, dOrV, dAndV, dAsg, dRet, dDrop, dCB, dIf, dTup, dLst, dCons, dNil, wf_d, wf_l, wb_b, wi_i, wt_t, wl_l, wl_d, tupR_t, tupR_l, lstR_t, lstR_l, List.set_cons_zero, List.set_cons_succ])
  refine ⟨rfl, by decide, by decide, fun i Γ => ∃ v4 v5 v6 v7 v8, Γ = [.scr ns, .pen, .d (owD os), .d (dsD ds), v4, v5, v6, v7, v8, .no, .no, .no], ⟨_, _, _, _, _, rfl⟩, ?_⟩
  rintro i Γ ⟨v4, v5, v6, v7, v8, rfl⟩
  refine ⟨fun e => ?_, fun y hy => ?_⟩
  · (try dsimp only [dNext, dSeq, dIfS, dB, dOp, dNot, dOr, dAnd, dNotV, dOrV, dAndV, dAsg, dRet, dDrop, dCB, dIf, dTup, dLst, dCons, dNil, wf_d, wf_l, wb_b, wi_i, wt_t, wl_l, wl_d, tupR_t, tupR_l, lstR_t, lstR_l, List.set_cons_zero, List.set_cons_succ])
    refine ⟨rfl, os, ds, rfl, rfl, okO, by omega, gd, fun L lL gL => ?_⟩
    refine ⟨fun i Γ => ∃ v9, Γ = [.scr ns, .pen, .d (owD os), .d (dsD ds), v4, v5, v6, v7, v8, v9, .no, .no], ⟨_, rfl⟩, ?_⟩
    rintro i Γ ⟨v9, rfl⟩
    refine ⟨fun e => ?_, fun y hy => ?_⟩
    · (try dsimp only [dNext, dSeq, dIfS, dB, dOp, dNot, dOr, dAnd, dNotV, dOrV, dAndV, dAsg, dRet, dDrop, dCB, dIf, dTup, dLst, dCons, dNil, wf_d, wf_l, wb_b, wi_i, wt_t, wl_l, wl_d, tupR_t, tupR_l, lstR_t, lstR_l, List.set_cons_zero, List.set_cons_succ])
      clear e
      refine ⟨rfl, rfl, by decide, fun i Γ => ∃ v10, Γ = [.scr ns, .pen, .d (owD os), .d (dsD ds), v4, v5, v6, v7, v8, v9, v10, .no], ⟨_, rfl⟩, ?_⟩
      rintro i Γ ⟨v10, rfl⟩
      refine ⟨fun e => ?_, fun y hy => ?_⟩
      · (try dsimp only [dNext, dSeq, dIfS, dB, dOp, dNot, dOr, dAnd, dNotV, dOrV, dAndV, dAsg, dRet, dDrop, dCB, dIf, dTup, dLst, dCons, dNil, wf_d, wf_l, wb_b, wi_i, wt_t, wl_l, wl_d, tupR_t, tupR_l, lstR_t, lstR_l, List.set_cons_zero, List.set_cons_succ])
        clear e
        repeat (first
          | refine ⟨show List.length _ ≤ 100000 from by simp, ?_⟩
          | refine ⟨show isSc _ = true from rfl, ?_⟩
          | refine ⟨List.cons_ne_nil _ _, show (2 : Int) ≤ _ from by decide, show _ ≤ (1000 : Int) from by decide, Nat.le_of_ble_eq_true rfl, ?_⟩)
        refine ⟨fun i Γ => ∃ v9, Γ = [.scr ns, .pen, .d (owD os), .d (dsD ds), v4, v5, v6, v7, v8, v9, v10, .no], ⟨_, rfl⟩, ?_⟩
        rintro i Γ ⟨w9, rfl⟩
        refine ⟨fun e => ⟨rfl, rfl⟩, fun y hy => ?_⟩
        have gy : y.good = true := goods_mem (by rfl) y (List.mem_of_getElem? hy)
        refine ⟨show 0 ≤ 100000 by decide, rfl, rfl, rfl, gy, rfl, rfl, rfl, ?_⟩
        (try dsimp only [dNext, dSeq, dIfS, dB, dOp, dNot, dOr, dAnd, dNotV, dOrV, dAndV, dAsg, dRet, dDrop, dCB, dIf, dTup, dLst, dCons, dNil, wf_d, wf_l, wb_b, wi_i, wt_t, wl_l, wl_d, tupR_t, tupR_l, lstR_t, lstR_l, List.set_cons_zero, List.set_cons_succ])
        refine ifF rfl ?_
        refine ⟨rfl, rfl, rfl, rfl, gy, rfl, rfl, rfl, ?_⟩
        (try dsimp only [dNext, dSeq, dIfS, dB, dOp, dNot, dOr, dAnd, dNotV, dOrV, dAndV, dAsg, dRet, dDrop, dCB, dIf, dTup, dLst, dCons, dNil, wf_d, wf_l, wb_b, wi_i, wt_t, wl_l, wl_d, tupR_t, tupR_l, lstR_t, lstR_l, List.set_cons_zero, List.set_cons_succ])
        exact ifF rfl ⟨_, rfl⟩
      · obtain ⟨m, rfl, m0, m1⟩ : ∃ m : Int, y = .int m ∧ 0 ≤ m ∧ m ≤ 7 := by
          have h := List.mem_of_getElem? hy
          rcases List.mem_cons.mp h with h | h
          · exact ⟨6, h, by decide, by decide⟩
          · rw [List.mem_singleton] at h
            exact ⟨7, h, by decide, by decide⟩
        refine ⟨rfl, by decide, rfl, ⟨List.cons_ne_nil _ _, by decide, by decide, by decide, ?_⟩⟩
        (try dsimp only [dNext, dSeq, dIfS, dB, dOp, dNot, dOr, dAnd, dNotV, dOrV, dAndV, dAsg, dRet, dDrop, dCB, dIf, dTup, dLst, dCons, dNil, wf_d, wf_l, wb_b, wi_i, wt_t, wl_l, wl_d, tupR_t, tupR_l, lstR_t, lstR_l, List.set_cons_zero, List.set_cons_succ])
        refine dLc_pure (items := upI 0 m.toNat) (Γ1 := [.scr ns, .pen, .d (owD os), .d (dsD ds), v4, v5, v6, v7, v8, v9, .d (.int m), .no]) (Γw := [.scr ns, .pen, .d (owD os), .d (dsD ds), v4, v5, v6, v7, v8, v9, .d (.int m), .no]) (fun x => .tup [x, .int 0, .int 1]) rfl (fun ψ h => ?_) rfl rfl ?_ (fun d hd ψ q => ?_) ?_
        · exact ⟨by omega, by omega, h⟩
        · rw [upI_len]
          omega
        · exact ⟨rfl, rfl, show 3 ≤ 100000 by decide, q _ _ rfl rfl⟩
        · refine ⟨show 1 ≤ 100000 by decide, rfl, rfl, rfl, rfl, ?_, rfl, rfl, ?_⟩
          · refine good_tup (fun a ha => ?_) (show 1 ≤ 100 by decide)
            rw [List.mem_singleton] at ha
            rw [ha]
            refine good_tup (fun b hb => ?_) (by rw [List.length_map, upI_len]; omega)
            obtain ⟨c, hc, rfl⟩ := List.mem_map.mp hb
            obtain ⟨j, _, rfl⟩ := List.mem_map.mp hc
            rfl
          · (try dsimp only [dNext, dSeq, dIfS, dB, dOp, dNot, dOr, dAnd, dNotV, dOrV, dAndV, dAsg, dRet, dDrop, dCB, dIf, dTup, dLst, dCons, dNil, wf_d, wf_l, wb_b, wi_i, wt_t, wl_l, wl_d, tupR_t, tupR_l, lstR_t, lstR_l, List.set_cons_zero, List.set_cons_succ])
            exact ifF rfl ⟨_, rfl⟩
    · have gy := gL y (List.mem_of_getElem? hy)
      refine ⟨rfl, rfl, rfl, go, gy, rfl, rfl, ?_⟩
      (try dsimp only [dNext, dSeq, dIfS, dB, dOp, dNot, dOr, dAnd, dNotV, dOrV, dAndV, dAsg, dRet, dDrop, dCB, dIf, dTup, dLst, dCons, dNil, wf_d, wf_l, wb_b, wi_i, wt_t, wl_l, wl_d, tupR_t, tupR_l, lstR_t, lstR_l, List.set_cons_zero, List.set_cons_succ])
      refine ifF rfl ?_
      refine ⟨rfl, rfl, rfl, rfl, rfl, gy, rfl, rfl, ?_⟩
      (try dsimp only [dNext, dSeq, dIfS, dB, dOp, dNot, dOr, dAnd, dNotV, dOrV, dAndV, dAsg, dRet, dDrop, dCB, dIf, dTup, dLst, dCons, dNil, wf_d, wf_l, wb_b, wi_i, wt_t, wl_l, wl_d, tupR_t, tupR_l, lstR_t, lstR_l, List.set_cons_zero, List.set_cons_succ])
      exact ifF rfl ⟨_, rfl⟩
  · (try dsimp only [dNext, dSeq, dIfS, dB, dOp, dNot, dOr, dAnd, dNotV, dOrV, dAndV, dAsg, dRet, dDrop, dCB, dIf, dTup, dLst, dCons, dNil, wf_d, wf_l, wb_b, wi_i, wt_t, wl_l, wl_d, tupR_t, tupR_l, lstR_t, lstR_l, List.set_cons_zero, List.set_cons_succ])
    refine ⟨rfl, rfl, rfl, 1, by decide, by decide, bo, fun e y ne ef gy => wf_of ef ?_⟩
    refine ⟨rfl, rfl, rfl, rfl, 2, rfl, by decide, fun e2 y2 ne2 ef2 gy2 => wf_of ef2 ?_⟩
    refine ⟨show _ ≤ _ from Nat.le_of_ble_eq_true rfl, ?_⟩
    refine ⟨rfl, rfl, rfl, rfl, 4, rfl, by decide, by decide, fun w w0 w1 => ?_⟩
    obtain ⟨z1, hz1, gz1⟩ := pick4 (P := fun z => z.good = true) w0 (decide_eq_true w1) go go gy gy2
    refine ⟨z1, hz1, ?_⟩
    clear hz1 w0 w1 gy gy2 ef ef2 ne ne2 y y2 e e2
    refine ⟨rfl, rfl, rfl, 3, by decide, by decide, bd, fun e y ne ef gy => wf_of ef ?_⟩
    refine ⟨rfl, rfl, rfl, rfl, 2, rfl, by decide, fun e2 y2 ne2 ef2 gy2 => wf_of ef2 ?_⟩
    refine ⟨show _ ≤ _ from Nat.le_of_ble_eq_true rfl, ?_⟩
    refine ⟨rfl, rfl, rfl, rfl, 4, rfl, by decide, by decide, fun w w0 w1 => ?_⟩
    obtain ⟨z2, hz2, gz2⟩ := pick4 (P := fun z => z.good = true) w0 (decide_eq_true w1) gd gd gy gy2
    refine ⟨z2, hz2, ?_⟩
    clear hz2 w0 w1 gy gy2 ef ef2 ne ne2 y y2 e e2
    refine ⟨rfl, rfl, rfl, rfl, rfl, _, rfl, by rw [List.length_map]; omega, by rw [List.length_map]; omega, fun r r0 r1 => ?_⟩
    refine ⟨rfl, rfl, rfl, rfl, rfl, rfl, rfl, 1, rfl, by decide, fun e2 y2 ne2 ef2 gy2 => wf_of ef2 ?_⟩
    refine ⟨show _ ≤ _ from Nat.le_of_ble_eq_true rfl, ?_⟩
    refine ⟨rfl, rfl, rfl, rfl, 4, rfl, by decide, by decide, fun w w0 w1 => ?_⟩
    obtain ⟨z3, hz3, gz3⟩ := pick4 (P := fun z => z.good = true) w0 (decide_eq_true w1) (show (D.int r).good = true from rfl) (show (D.int (-1)).good = true from rfl) (show (D.bl true).good = true from rfl) gy2
    refine ⟨z3, hz3, ?_⟩
    clear hz3 w0 w1 gy2 ef2 ne2 y2 e2 r0 r1 r
    refine ⟨rfl, rfl, rfl, rfl, rfl, _, rfl, by rw [List.length_map]; omega, by rw [List.length_map]; omega, fun r r0 r1 => ?_⟩
    refine ⟨rfl, rfl, rfl, rfl, rfl, rfl, rfl, 1, rfl, by decide, fun e2 y2 ne2 ef2 gy2 => wf_of ef2 ?_⟩
    refine ⟨show _ ≤ _ from Nat.le_of_ble_eq_true rfl, ?_⟩
    refine ⟨rfl, rfl, rfl, rfl, 4, rfl, by decide, by decide, fun w w0 w1 => ?_⟩
    obtain ⟨z4, hz4, gz4⟩ := pick4 (P := fun z => z.good = true) w0 (decide_eq_true w1) (show (D.int r).good = true from rfl) (show (D.int (-1)).good = true from rfl) (show D.non.good = true from rfl) gy2
    refine ⟨z4, hz4, ?_⟩
    clear hz4 w0 w1 gy2 ef2 ne2 y2 e2 r0 r1 r
    refine ⟨rfl, gz1, gz2, gz3, gz4, ?_⟩
    (try dsimp only [dNext, dSeq, dIfS, dB, dOp, dNot, dOr, dAnd, dNotV, dOrV, dAndV, dAsg, dRet, dDrop, dCB, dIf, dTup, dLst, dCons, dNil, wf_d, wf_l, wb_b, wi_i, wt_t, wl_l, wl_d, tupR_t, tupR_l, lstR_t, lstR_l, List.set_cons_zero, List.set_cons_succ])
    exact ifF rfl ⟨_, _, _, _, _, rfl⟩
end
end Dl

set_option Elab.async false
set_option maxRecDepth 100000
set_option maxHeartbeats 4000000
set_option linter.all false
namespace Dl
open PySem PySem.Spec PyProof.Rows L2 HmS Da
theorem all_mk {l : PySem.W.OpenLaw} {w : World} {K : PySem.W.Frag} {h : Heap} {mg : Str → Option Value} {fa : Addr} (X : K.In h) (G : h.Ns mainGlobals mg) (hfa : mg "law" = some (.ref fa))
    {code PT : Addr}
    {ex_o : Addr} {ex_d : Addr} {ex_n : Addr}
    {f0 : Addr} {od0 an0 : Option Addr} {sl0 : Array (Option Value)} {oc0 kV0 dc0 pm0 ct0 cd0 : Value}
    {f1 : Addr} {od1 an1 : Option Addr} {sl1 : Array (Option Value)} {oc1 kV1 dc1 pm1 ct1 cd1 : Value}
    {f2 : Addr} {od2 an2 : Option Addr} {sl2 : Array (Option Value)} {oc2 kV2 dc2 pm2 ct2 cd2 : Value}
    {f3 : Addr} {od3 an3 : Option Addr} {sl3 : Array (Option Value)} {oc3 kV3 dc3 pm3 ct3 cd3 : Value}
    {f4 : Addr} {od4 an4 : Option Addr} {sl4 : Array (Option Value)} {oc4 kV4 dc4 pm4 ct4 cd4 : Value}
    {f5 : Addr} {od5 an5 : Option Addr} {sl5 : Array (Option Value)} {oc5 kV5 dc5 pm5 ct5 cd5 : Value}
    {f6 : Addr} {od6 an6 : Option Addr} {sl6 : Array (Option Value)} {oc6 kV6 dc6 pm6 ct6 cd6 : Value}
    {f7 : Addr} {od7 an7 : Option Addr} {sl7 : Array (Option Value)} {oc7 kV7 dc7 pm7 ct7 cd7 : Value}
    {f8 : Addr} {od8 an8 : Option Addr} {sl8 : Array (Option Value)} {oc8 kV8 dc8 pm8 ct8 cd8 : Value}
    {f9 : Addr} {od9 an9 : Option Addr} {sl9 : Array (Option Value)} {oc9 kV9 dc9 pm9 ct9 cd9 : Value}
    {f10 : Addr} {od10 an10 : Option Addr} {sl10 : Array (Option Value)} {oc10 kV10 dc10 pm10 ct10 cd10 : Value}
    {f11 : Addr} {od11 an11 : Option Addr} {sl11 : Array (Option Value)} {oc11 kV11 dc11 pm11 ct11 cd11 : Value}
    {f12 : Addr} {od12 an12 : Option Addr} {sl12 : Array (Option Value)} {oc12 kV12 dc12 pm12 ct12 cd12 : Value}
    {f13 : Addr} {od13 an13 : Option Addr} {sl13 : Array (Option Value)} {oc13 kV13 dc13 pm13 ct13 cd13 : Value}
    {f14 : Addr} {od14 an14 : Option Addr} {sl14 : Array (Option Value)} {oc14 kV14 dc14 pm14 ct14 cd14 : Value}
    {f15 : Addr} {od15 an15 : Option Addr} {sl15 : Array (Option Value)} {oc15 kV15 dc15 pm15 ct15 cd15 : Value}
    {f16 : Addr} {od16 an16 : Option Addr} {sl16 : Array (Option Value)} {oc16 kV16 dc16 pm16 ct16 cd16 : Value}
    {f17 : Addr} {od17 an17 : Option Addr} {sl17 : Array (Option Value)} {oc17 kV17 dc17 pm17 ct17 cd17 : Value}
    {f18 : Addr} {od18 an18 : Option Addr} {sl18 : Array (Option Value)} {oc18 kV18 dc18 pm18 ct18 cd18 : Value}
    {f19 : Addr} {od19 an19 : Option Addr} {sl19 : Array (Option Value)} {oc19 kV19 dc19 pm19 ct19 cd19 : Value}
    {f20 : Addr} {od20 an20 : Option Addr} {sl20 : Array (Option Value)} {oc20 kV20 dc20 pm20 ct20 cd20 : Value}
    {f21 : Addr} {od21 an21 : Option Addr} {sl21 : Array (Option Value)} {oc21 kV21 dc21 pm21 ct21 cd21 : Value}
    {f22 : Addr} {od22 an22 : Option Addr} {sl22 : Array (Option Value)} {oc22 kV22 dc22 pm22 ct22 cd22 : Value}
    {f23 : Addr} {od23 an23 : Option Addr} {sl23 : Array (Option Value)} {oc23 kV23 dc23 pm23 ct23 cd23 : Value}
    {f24 : Addr} {od24 an24 : Option Addr} {sl24 : Array (Option Value)} {oc24 kV24 dc24 pm24 ct24 cd24 : Value}
    {f25 : Addr} {od25 an25 : Option Addr} {sl25 : Array (Option Value)} {oc25 kV25 dc25 pm25 ct25 cd25 : Value}
    {f26 : Addr} {od26 an26 : Option Addr} {sl26 : Array (Option Value)} {oc26 kV26 dc26 pm26 ct26 cd26 : Value}
    {f27 : Addr} {od27 an27 : Option Addr} {sl27 : Array (Option Value)} {oc27 kV27 dc27 pm27 ct27 cd27 : Value}
    {f28 : Addr} {od28 an28 : Option Addr} {sl28 : Array (Option Value)} {oc28 kV28 dc28 pm28 ct28 cd28 : Value}
    {f29 : Addr} {od29 an29 : Option Addr} {sl29 : Array (Option Value)} {oc29 kV29 dc29 pm29 ct29 cd29 : Value}
    {f30 : Addr} {od30 an30 : Option Addr} {sl30 : Array (Option Value)} {oc30 kV30 dc30 pm30 ct30 cd30 : Value}
    {f31 : Addr} {od31 an31 : Option Addr} {sl31 : Array (Option Value)} {oc31 kV31 dc31 pm31 ct31 cd31 : Value}
    {f32 : Addr} {od32 an32 : Option Addr} {sl32 : Array (Option Value)} {oc32 kV32 dc32 pm32 ct32 cd32 : Value}
    {f33 : Addr} {od33 an33 : Option Addr} {sl33 : Array (Option Value)} {oc33 kV33 dc33 pm33 ct33 cd33 : Value}
    {f34 : Addr} {od34 an34 : Option Addr} {sl34 : Array (Option Value)} {oc34 kV34 dc34 pm34 ct34 cd34 : Value}
    {f35 : Addr} {od35 an35 : Option Addr} {sl35 : Array (Option Value)} {oc35 kV35 dc35 pm35 ct35 cd35 : Value}
    {f36 : Addr} {od36 an36 : Option Addr} {sl36 : Array (Option Value)} {oc36 kV36 dc36 pm36 ct36 cd36 : Value}
    {f37 : Addr} {od37 an37 : Option Addr} {sl37 : Array (Option Value)} {oc37 kV37 dc37 pm37 ct37 cd37 : Value}
    {f38 : Addr} {od38 an38 : Option Addr} {sl38 : Array (Option Value)} {oc38 kV38 dc38 pm38 ct38 cd38 : Value}
    {f39 : Addr} {od39 an39 : Option Addr} {sl39 : Array (Option Value)} {oc39 kV39 dc39 pm39 ct39 : Value}
    {f40 : Addr} {od40 an40 : Option Addr} {sl40 : Array (Option Value)} {oc40 kV40 dc40 pm40 ct40 cd40 : Value}
    {f41 : Addr} {od41 an41 : Option Addr} {sl41 : Array (Option Value)} {oc41 kV41 dc41 pm41 ct41 cd41 : Value}
    (a0 : PySem.W.nsIn K mainGlobals "is_whole" = some (some (.ref f0)))
    (l0 : K.lookup f0 = some ⟨oc0, od0, .func (PySem.W.fnOf "is_whole" "is_whole" (defArgs st_is_whole) (defBody st_is_whole) (defScope st_is_whole) .none kV0 dc0 pm0 an0 cd0 ct0), sl0⟩)
    (c0 : PySem.W.codeIn K cd0 "is_whole" = true)
    (k0 : PySem.W.keepIn K (.ref f0) = true)
    (a1 : PySem.W.nsIn K mainGlobals "is_whole_within" = some (some (.ref f1)))
    (l1 : K.lookup f1 = some ⟨oc1, od1, .func (PySem.W.fnOf "is_whole_within" "is_whole_within" (defArgs st_is_whole_within) (defBody st_is_whole_within) (defScope st_is_whole_within) .none kV1 dc1 pm1 an1 cd1 ct1), sl1⟩)
    (c1 : PySem.W.codeIn K cd1 "is_whole_within" = true)
    (k1 : PySem.W.keepIn K (.ref f1) = true)
    (a2 : PySem.W.nsIn K mainGlobals "is_tuple" = some (some (.ref f2)))
    (l2 : K.lookup f2 = some ⟨oc2, od2, .func (PySem.W.fnOf "is_tuple" "is_tuple" (defArgs st_is_tuple) (defBody st_is_tuple) (defScope st_is_tuple) .none kV2 dc2 pm2 an2 cd2 ct2), sl2⟩)
    (c2 : PySem.W.codeIn K cd2 "is_tuple" = true)
    (k2 : PySem.W.keepIn K (.ref f2) = true)
    (a3 : PySem.W.nsIn K mainGlobals "is_rising" = some (some (.ref f3)))
    (l3 : K.lookup f3 = some ⟨oc3, od3, .func (PySem.W.fnOf "is_rising" "is_rising" (defArgs st_is_rising) (defBody st_is_rising) (defScope st_is_rising) .none kV3 dc3 pm3 an3 cd3 ct3), sl3⟩)
    (c3 : PySem.W.codeIn K cd3 "is_rising" = true)
    (k3 : PySem.W.keepIn K (.ref f3) = true)
    (a4 : PySem.W.nsIn K mainGlobals "is_rising_within" = some (some (.ref f4)))
    (l4 : K.lookup f4 = some ⟨oc4, od4, .func (PySem.W.fnOf "is_rising_within" "is_rising_within" (defArgs st_is_rising_within) (defBody st_is_rising_within) (defScope st_is_rising_within) .none kV4 dc4 pm4 an4 cd4 ct4), sl4⟩)
    (c4 : PySem.W.codeIn K cd4 "is_rising_within" = true)
    (k4 : PySem.W.keepIn K (.ref f4) = true)
    (a5 : PySem.W.nsIn K mainGlobals "is_each_once" = some (some (.ref f5)))
    (l5 : K.lookup f5 = some ⟨oc5, od5, .func (PySem.W.fnOf "is_each_once" "is_each_once" (defArgs st_is_each_once) (defBody st_is_each_once) (defScope st_is_each_once) .none kV5 dc5 pm5 an5 cd5 ct5), sl5⟩)
    (c5 : PySem.W.codeIn K cd5 "is_each_once" = true)
    (k5 : PySem.W.keepIn K (.ref f5) = true)
    (a6 : PySem.W.nsIn K mainGlobals "is_owner" = some (some (.ref f6)))
    (l6 : K.lookup f6 = some ⟨oc6, od6, .func (PySem.W.fnOf "is_owner" "is_owner" (defArgs st_is_owner) (defBody st_is_owner) (defScope st_is_owner) .none kV6 dc6 pm6 an6 cd6 ct6), sl6⟩)
    (c6 : PySem.W.codeIn K cd6 "is_owner" = true)
    (k6 : PySem.W.keepIn K (.ref f6) = true)
    (a7 : PySem.W.nsIn K mainGlobals "is_owners" = some (some (.ref f7)))
    (l7 : K.lookup f7 = some ⟨oc7, od7, .func (PySem.W.fnOf "is_owners" "is_owners" (defArgs st_is_owners) (defBody st_is_owners) (defScope st_is_owners) .none kV7 dc7 pm7 an7 cd7 ct7), sl7⟩)
    (c7 : PySem.W.codeIn K cd7 "is_owners" = true)
    (k7 : PySem.W.keepIn K (.ref f7) = true)
    (a8 : PySem.W.nsIn K mainGlobals "is_move" = some (some (.ref f8)))
    (l8 : K.lookup f8 = some ⟨oc8, od8, .func (PySem.W.fnOf "is_move" "is_move" (defArgs st_is_move) (defBody st_is_move) (defScope st_is_move) .none kV8 dc8 pm8 an8 cd8 ct8), sl8⟩)
    (c8 : PySem.W.codeIn K cd8 "is_move" = true)
    (k8 : PySem.W.keepIn K (.ref f8) = true)
    (a9 : PySem.W.nsIn K mainGlobals "is_deal" = some (some (.ref f9)))
    (l9 : K.lookup f9 = some ⟨oc9, od9, .func (PySem.W.fnOf "is_deal" "is_deal" (defArgs st_is_deal) (defBody st_is_deal) (defScope st_is_deal) .none kV9 dc9 pm9 an9 cd9 ct9), sl9⟩)
    (c9 : PySem.W.codeIn K cd9 "is_deal" = true)
    (k9 : PySem.W.keepIn K (.ref f9) = true)
    (a10 : PySem.W.nsIn K mainGlobals "is_deals" = some (some (.ref f10)))
    (l10 : K.lookup f10 = some ⟨oc10, od10, .func (PySem.W.fnOf "is_deals" "is_deals" (defArgs st_is_deals) (defBody st_is_deals) (defScope st_is_deals) .none kV10 dc10 pm10 an10 cd10 ct10), sl10⟩)
    (c10 : PySem.W.codeIn K cd10 "is_deals" = true)
    (k10 : PySem.W.keepIn K (.ref f10) = true)
    (a11 : PySem.W.nsIn K mainGlobals "moved_by" = some (some (.ref f11)))
    (l11 : K.lookup f11 = some ⟨oc11, od11, .func (PySem.W.fnOf "moved_by" "moved_by" (defArgs st_moved_by) (defBody st_moved_by) (defScope st_moved_by) .none kV11 dc11 pm11 an11 cd11 ct11), sl11⟩)
    (c11 : PySem.W.codeIn K cd11 "moved_by" = true)
    (k11 : PySem.W.keepIn K (.ref f11) = true)
    (a12 : PySem.W.nsIn K mainGlobals "owners_done" = some (some (.ref f12)))
    (l12 : K.lookup f12 = some ⟨oc12, od12, .func (PySem.W.fnOf "owners_done" "owners_done" (defArgs st_owners_done) (defBody st_owners_done) (defScope st_owners_done) .none kV12 dc12 pm12 an12 cd12 ct12), sl12⟩)
    (c12 : PySem.W.codeIn K cd12 "owners_done" = true)
    (k12 : PySem.W.keepIn K (.ref f12) = true)
    (a13 : PySem.W.nsIn K mainGlobals "check_deals" = some (some (.ref f13)))
    (l13 : K.lookup f13 = some ⟨oc13, od13, .func (PySem.W.fnOf "check_deals" "check_deals" (defArgs st_check_deals) (defBody st_check_deals) (defScope st_check_deals) .none kV13 dc13 pm13 an13 cd13 ct13), sl13⟩)
    (c13 : PySem.W.codeIn K cd13 "check_deals" = true)
    (k13 : PySem.W.keepIn K (.ref f13) = true)
    (a14 : PySem.W.nsIn K mainGlobals "check_false" = some (some (.ref f14)))
    (l14 : K.lookup f14 = some ⟨oc14, od14, .func (PySem.W.fnOf "check_false" "check_false" (defArgs st_check_false) (defBody st_check_false) (defScope st_check_false) .none kV14 dc14 pm14 an14 cd14 ct14), sl14⟩)
    (c14 : PySem.W.codeIn K cd14 "check_false" = true)
    (k14 : PySem.W.keepIn K (.ref f14) = true)
    (a15 : PySem.W.nsIn K mainGlobals "check_place" = some (some (.ref f15)))
    (l15 : K.lookup f15 = some ⟨oc15, od15, .func (PySem.W.fnOf "check_place" "check_place" (defArgs st_check_place) (defBody st_check_place) (defScope st_check_place) .none kV15 dc15 pm15 an15 cd15 ct15), sl15⟩)
    (c15 : PySem.W.codeIn K cd15 "check_place" = true)
    (k15 : PySem.W.keepIn K (.ref f15) = true)
    (a16 : PySem.W.nsIn K mainGlobals "owners_behind" = some (some (.ref f16)))
    (l16 : K.lookup f16 = some ⟨oc16, od16, .func (PySem.W.fnOf "owners_behind" "owners_behind" (defArgs st_owners_behind) (defBody st_owners_behind) (defScope st_owners_behind) .none kV16 dc16 pm16 an16 cd16 ct16), sl16⟩)
    (c16 : PySem.W.codeIn K cd16 "owners_behind" = true)
    (k16 : PySem.W.keepIn K (.ref f16) = true)
    (a17 : PySem.W.nsIn K mainGlobals "leaned_on" = some (some (.ref f17)))
    (l17 : K.lookup f17 = some ⟨oc17, od17, .func (PySem.W.fnOf "leaned_on" "leaned_on" (defArgs st_leaned_on) (defBody st_leaned_on) (defScope st_leaned_on) .none kV17 dc17 pm17 an17 cd17 ct17), sl17⟩)
    (c17 : PySem.W.codeIn K cd17 "leaned_on" = true)
    (k17 : PySem.W.keepIn K (.ref f17) = true)
    (a18 : PySem.W.nsIn K mainGlobals "first_chain" = some (some (.ref f18)))
    (l18 : K.lookup f18 = some ⟨oc18, od18, .func (PySem.W.fnOf "first_chain" "first_chain" (defArgs st_first_chain) (defBody st_first_chain) (defScope st_first_chain) .none kV18 dc18 pm18 an18 cd18 ct18), sl18⟩)
    (c18 : PySem.W.codeIn K cd18 "first_chain" = true)
    (k18 : PySem.W.keepIn K (.ref f18) = true)
    (a19 : PySem.W.nsIn K mainGlobals "chains_by" = some (some (.ref f19)))
    (l19 : K.lookup f19 = some ⟨oc19, od19, .func (PySem.W.fnOf "chains_by" "chains_by" (defArgs st_chains_by) (defBody st_chains_by) (defScope st_chains_by) .none kV19 dc19 pm19 an19 cd19 ct19), sl19⟩)
    (c19 : PySem.W.codeIn K cd19 "chains_by" = true)
    (k19 : PySem.W.keepIn K (.ref f19) = true)
    (a20 : PySem.W.nsIn K mainGlobals "fallen" = some (some (.ref f20)))
    (l20 : K.lookup f20 = some ⟨oc20, od20, .func (PySem.W.fnOf "fallen" "fallen" (defArgs st_fallen) (defBody st_fallen) (defScope st_fallen) .none kV20 dc20 pm20 an20 cd20 ct20), sl20⟩)
    (c20 : PySem.W.codeIn K cd20 "fallen" = true)
    (k20 : PySem.W.keepIn K (.ref f20) = true)
    (a21 : PySem.W.nsIn K mainGlobals "owners_left" = some (some (.ref f21)))
    (l21 : K.lookup f21 = some ⟨oc21, od21, .func (PySem.W.fnOf "owners_left" "owners_left" (defArgs st_owners_left) (defBody st_owners_left) (defScope st_owners_left) .none kV21 dc21 pm21 an21 cd21 ct21), sl21⟩)
    (c21 : PySem.W.codeIn K cd21 "owners_left" = true)
    (k21 : PySem.W.keepIn K (.ref f21) = true)
    (a22 : PySem.W.nsIn K mainGlobals "chain_of" = some (some (.ref f22)))
    (l22 : K.lookup f22 = some ⟨oc22, od22, .func (PySem.W.fnOf "chain_of" "chain_of" (defArgs st_chain_of) (defBody st_chain_of) (defScope st_chain_of) .none kV22 dc22 pm22 an22 cd22 ct22), sl22⟩)
    (c22 : PySem.W.codeIn K cd22 "chain_of" = true)
    (k22 : PySem.W.keepIn K (.ref f22) = true)
    (a23 : PySem.W.nsIn K mainGlobals "is_chain" = some (some (.ref f23)))
    (l23 : K.lookup f23 = some ⟨oc23, od23, .func (PySem.W.fnOf "is_chain" "is_chain" (defArgs st_is_chain) (defBody st_is_chain) (defScope st_is_chain) .none kV23 dc23 pm23 an23 cd23 ct23), sl23⟩)
    (c23 : PySem.W.codeIn K cd23 "is_chain" = true)
    (k23 : PySem.W.keepIn K (.ref f23) = true)
    (a24 : PySem.W.nsIn K mainGlobals "_law_pen" = some (some (.ref f24)))
    (l24 : K.lookup f24 = some ⟨oc24, od24, .func (PySem.W.fnOf "_law_pen" "_law_pen" (defArgs st__law_pen) (defBody st__law_pen) (defScope st__law_pen) .none kV24 dc24 pm24 an24 cd24 ct24), sl24⟩)
    (c24 : PySem.W.codeIn K cd24 "_law_pen" = true)
    (k24 : PySem.W.keepIn K (.ref f24) = true)
    (a25 : PySem.W.nsIn K mainGlobals "_law_cell_at" = some (some (.ref f25)))
    (l25 : K.lookup f25 = some ⟨oc25, od25, .func (PySem.W.fnOf "_law_cell_at" "_law_cell_at" (defArgs st__law_cell_at) (defBody st__law_cell_at) (defScope st__law_cell_at) .none kV25 dc25 pm25 an25 cd25 ct25), sl25⟩)
    (c25 : PySem.W.codeIn K cd25 "_law_cell_at" = true)
    (k25 : PySem.W.keepIn K (.ref f25) = true)
    (a26 : PySem.W.nsIn K mainGlobals "_law_draw" = some (some (.ref f26)))
    (l26 : K.lookup f26 = some ⟨oc26, od26, .func (PySem.W.fnOf "_law_draw" "_law_draw" (defArgs st__law_draw) (defBody st__law_draw) (defScope st__law_draw) .none kV26 dc26 pm26 an26 cd26 ct26), sl26⟩)
    (c26 : PySem.W.codeIn K cd26 "_law_draw" = true)
    (k26 : PySem.W.keepIn K (.ref f26) = true)
    (a27 : PySem.W.nsIn K mainGlobals "_law_owners" = some (some (.ref f27)))
    (l27 : K.lookup f27 = some ⟨oc27, od27, .func (PySem.W.fnOf "_law_owners" "_law_owners" (defArgs st__law_owners) (defBody st__law_owners) (defScope st__law_owners) .none kV27 dc27 pm27 an27 cd27 ct27), sl27⟩)
    (c27 : PySem.W.codeIn K cd27 "_law_owners" = true)
    (k27 : PySem.W.keepIn K (.ref f27) = true)
    (a28 : PySem.W.nsIn K mainGlobals "_law_mixed" = some (some (.ref f28)))
    (l28 : K.lookup f28 = some ⟨oc28, od28, .func (PySem.W.fnOf "_law_mixed" "_law_mixed" (defArgs st__law_mixed) (defBody st__law_mixed) (defScope st__law_mixed) .none kV28 dc28 pm28 an28 cd28 ct28), sl28⟩)
    (c28 : PySem.W.codeIn K cd28 "_law_mixed" = true)
    (k28 : PySem.W.keepIn K (.ref f28) = true)
    (a29 : PySem.W.nsIn K mainGlobals "_law_deal" = some (some (.ref f29)))
    (l29 : K.lookup f29 = some ⟨oc29, od29, .func (PySem.W.fnOf "_law_deal" "_law_deal" (defArgs st__law_deal) (defBody st__law_deal) (defScope st__law_deal) .none kV29 dc29 pm29 an29 cd29 ct29), sl29⟩)
    (c29 : PySem.W.codeIn K cd29 "_law_deal" = true)
    (k29 : PySem.W.keepIn K (.ref f29) = true)
    (a30 : PySem.W.nsIn K mainGlobals "_law_behind" = some (some (.ref f30)))
    (l30 : K.lookup f30 = some ⟨oc30, od30, .func (PySem.W.fnOf "_law_behind" "_law_behind" (defArgs st__law_behind) (defBody st__law_behind) (defScope st__law_behind) .none kV30 dc30 pm30 an30 cd30 ct30), sl30⟩)
    (c30 : PySem.W.codeIn K cd30 "_law_behind" = true)
    (k30 : PySem.W.keepIn K (.ref f30) = true)
    (a31 : PySem.W.nsIn K mainGlobals "_law_deals" = some (some (.ref f31)))
    (l31 : K.lookup f31 = some ⟨oc31, od31, .func (PySem.W.fnOf "_law_deals" "_law_deals" (defArgs st__law_deals) (defBody st__law_deals) (defScope st__law_deals) .none kV31 dc31 pm31 an31 cd31 ct31), sl31⟩)
    (c31 : PySem.W.codeIn K cd31 "_law_deals" = true)
    (k31 : PySem.W.keepIn K (.ref f31) = true)
    (a32 : PySem.W.nsIn K mainGlobals "_law_thing" = some (some (.ref f32)))
    (l32 : K.lookup f32 = some ⟨oc32, od32, .func (PySem.W.fnOf "_law_thing" "_law_thing" (defArgs st__law_thing) (defBody st__law_thing) (defScope st__law_thing) .none kV32 dc32 pm32 an32 cd32 ct32), sl32⟩)
    (c32 : PySem.W.codeIn K cd32 "_law_thing" = true)
    (k32 : PySem.W.keepIn K (.ref f32) = true)
    (a33 : PySem.W.nsIn K mainGlobals "_law_spoilt" = some (some (.ref f33)))
    (l33 : K.lookup f33 = some ⟨oc33, od33, .func (PySem.W.fnOf "_law_spoilt" "_law_spoilt" (defArgs st__law_spoilt) (defBody st__law_spoilt) (defScope st__law_spoilt) .none kV33 dc33 pm33 an33 cd33 ct33), sl33⟩)
    (c33 : PySem.W.codeIn K cd33 "_law_spoilt" = true)
    (k33 : PySem.W.keepIn K (.ref f33) = true)
    (a34 : PySem.W.nsIn K mainGlobals "_law_is_in" = some (some (.ref f34)))
    (l34 : K.lookup f34 = some ⟨oc34, od34, .func (PySem.W.fnOf "_law_is_in" "_law_is_in" (defArgs st__law_is_in) (defBody st__law_is_in) (defScope st__law_is_in) .none kV34 dc34 pm34 an34 cd34 ct34), sl34⟩)
    (c34 : PySem.W.codeIn K cd34 "_law_is_in" = true)
    (k34 : PySem.W.keepIn K (.ref f34) = true)
    (a35 : PySem.W.nsIn K mainGlobals "_law_are_owners" = some (some (.ref f35)))
    (l35 : K.lookup f35 = some ⟨oc35, od35, .func (PySem.W.fnOf "_law_are_owners" "_law_are_owners" (defArgs st__law_are_owners) (defBody st__law_are_owners) (defScope st__law_are_owners) .none kV35 dc35 pm35 an35 cd35 ct35), sl35⟩)
    (c35 : PySem.W.codeIn K cd35 "_law_are_owners" = true)
    (k35 : PySem.W.keepIn K (.ref f35) = true)
    (a36 : PySem.W.nsIn K mainGlobals "_law_is_deal" = some (some (.ref f36)))
    (l36 : K.lookup f36 = some ⟨oc36, od36, .func (PySem.W.fnOf "_law_is_deal" "_law_is_deal" (defArgs st__law_is_deal) (defBody st__law_is_deal) (defScope st__law_is_deal) .none kV36 dc36 pm36 an36 cd36 ct36), sl36⟩)
    (c36 : PySem.W.codeIn K cd36 "_law_is_deal" = true)
    (k36 : PySem.W.keepIn K (.ref f36) = true)
    (a37 : PySem.W.nsIn K mainGlobals "_law_are_deals" = some (some (.ref f37)))
    (l37 : K.lookup f37 = some ⟨oc37, od37, .func (PySem.W.fnOf "_law_are_deals" "_law_are_deals" (defArgs st__law_are_deals) (defBody st__law_are_deals) (defScope st__law_are_deals) .none kV37 dc37 pm37 an37 cd37 ct37), sl37⟩)
    (c37 : PySem.W.codeIn K cd37 "_law_are_deals" = true)
    (k37 : PySem.W.keepIn K (.ref f37) = true)
    (a38 : PySem.W.nsIn K mainGlobals "_law_why" = some (some (.ref f38)))
    (l38 : K.lookup f38 = some ⟨oc38, od38, .func (PySem.W.fnOf "_law_why" "_law_why" (defArgs st__law_why) (defBody st__law_why) (defScope st__law_why) .none kV38 dc38 pm38 an38 cd38 ct38), sl38⟩)
    (c38 : PySem.W.codeIn K cd38 "_law_why" = true)
    (k38 : PySem.W.keepIn K (.ref f38) = true)
    (a39 : PySem.W.nsIn K mainGlobals "_law_right" = some (some (.ref f39)))
    (l39 : K.lookup f39 = some ⟨oc39, od39, .func (PySem.W.fnOf "_law_right" "_law_right" (defArgs st__law_right) (defBody st__law_right) (defScope st__law_right) .none kV39 dc39 pm39 an39 (.ref code) ct39), sl39⟩)
    (c39 : PySem.W.codeIn K (.ref code) "_law_right" = true)
    (k39 : PySem.W.keepIn K (.ref f39) = true)
    (a40 : PySem.W.nsIn K mainGlobals "_law_bad_deals" = some (some (.ref f40)))
    (l40 : K.lookup f40 = some ⟨oc40, od40, .func (PySem.W.fnOf "_law_bad_deals" "_law_bad_deals" (defArgs st__law_bad_deals) (defBody st__law_bad_deals) (defScope st__law_bad_deals) .none kV40 dc40 pm40 an40 cd40 ct40), sl40⟩)
    (c40 : PySem.W.codeIn K cd40 "_law_bad_deals" = true)
    (k40 : PySem.W.keepIn K (.ref f40) = true)
    (a41 : PySem.W.nsIn K mainGlobals "law" = some (some (.ref f41)))
    (l41 : K.lookup f41 = some ⟨oc41, od41, .func (PySem.W.fnOf "law" "law" (defArgs st_law) (defBody st_law) (defScope st_law) .none kV41 dc41 pm41 an41 cd41 ct41), sl41⟩)
    (c41 : PySem.W.codeIn K cd41 "law" = true)
    (k41 : PySem.W.keepIn K (.ref f41) = true)
    (z0 : PySem.W.nsIn K mainGlobals "len" = some none)
    (z1 : PySem.W.nsIn K mainGlobals "int" = some none)
    (z2 : PySem.W.nsIn K mainGlobals "range" = some none)
    (z3 : PySem.W.nsIn K mainGlobals "sorted" = some none)
    (z4 : PySem.W.nsIn K mainGlobals "tuple" = some none)
    (z5 : PySem.W.nsIn K mainGlobals "enumerate" = some none)
    (z6 : PySem.W.nsIn K mainGlobals "isinstance" = some none)
    (z7 : PySem.W.nsIn K mainGlobals "bool" = some none)
    (z8 : PySem.W.nsIn K mainGlobals "str" = some none)
    (z9 : PySem.W.nsIn K mainGlobals "all" = some none)
    (z10 : PySem.W.nsIn K mainGlobals "any" = some none)
    (z11 : PySem.W.nsIn K mainGlobals "zip" = some none)
    (z12 : PySem.W.nsIn K mainGlobals "max" = some none)
    (z13 : PySem.W.nsIn K mainGlobals "min" = some none)
    (z14 : PySem.W.nsIn K mainGlobals "list" = some none)
    (z15 : PySem.W.nsIn K mainGlobals "set" = some none)
    (z16 : PySem.W.nsIn K mainGlobals "sum" = some none)
    (z17 : PySem.W.nsIn K mainGlobals "repr" = some none)
    (z18 : PySem.W.nsIn K mainGlobals "dict" = some none)
    (xxo : PySem.W.excIn K ex_o [.type "ValueError", .type "Exception", .type "BaseException", .type "object"] "ValueError.__new__" = true)
    (xgo : PySem.W.nsIn K mainGlobals "NoOwners" = some (some (.ref ex_o)))
    (xko : PySem.W.keepIn K (.ref ex_o) = true)
    (xbo : PySem.W.subIn K (.ref ex_o) (.type "BaseException") = some true)
    (xto : PySem.W.typeIn K (.ref ex_o) = some (.type "type"))
    (xxd : PySem.W.excIn K ex_d [.type "ValueError", .type "Exception", .type "BaseException", .type "object"] "ValueError.__new__" = true)
    (xgd : PySem.W.nsIn K mainGlobals "NoDeals" = some (some (.ref ex_d)))
    (xkd : PySem.W.keepIn K (.ref ex_d) = true)
    (xbd : PySem.W.subIn K (.ref ex_d) (.type "BaseException") = some true)
    (xtd : PySem.W.typeIn K (.ref ex_d) = some (.type "type"))
    (xxn : PySem.W.excIn K ex_n [.type "ValueError", .type "Exception", .type "BaseException", .type "object"] "ValueError.__new__" = true)
    (xgn : PySem.W.nsIn K mainGlobals "NoNumber" = some (some (.ref ex_n)))
    (xkn : PySem.W.keepIn K (.ref ex_n) = true)
    (xbn : PySem.W.subIn K (.ref ex_n) (.type "BaseException") = some true)
    (xtn : PySem.W.typeIn K (.ref ex_n) = some (.type "type"))
    (xmoo : PySem.W.exmOne K (.ref ex_o) (.ref ex_o) = some true)
    (xmdo : PySem.W.exmOne K (.ref ex_d) (.ref ex_o) = some false)
    (xmdd : PySem.W.exmOne K (.ref ex_d) (.ref ex_d) = some true)
    (xmno : PySem.W.exmOne K (.ref ex_n) (.ref ex_o) = some false)
    (xmnd : PySem.W.exmOne K (.ref ex_n) (.ref ex_d) = some false)
    (xmnn : PySem.W.exmOne K (.ref ex_n) (.ref ex_n) = some true)
    (hPT : h.get? PT = some { cls := .none, data := .fields #[] })
    (nPT : K.lookup PT = none)
    (cPT : PySem.W.codeHdIn K code PT = true)
    : LamX.LawAtS l w K CX0 16 63 "_law_script" mg fa h := by
  have e := hfa.symm.trans (PySem.W.mg_of X G a41)
  cases e
  have F0 := fun_mk (st := st_is_whole) l0 c0 k0
  have F1 := fun_mk (st := st_is_whole_within) l1 c1 k1
  have F2 := fun_mk (st := st_is_tuple) l2 c2 k2
  have F3 := fun_mk (st := st_is_rising) l3 c3 k3
  have F4 := fun_mk (st := st_is_rising_within) l4 c4 k4
  have F5 := fun_mk (st := st_is_each_once) l5 c5 k5
  have F6 := fun_mk (st := st_is_owner) l6 c6 k6
  have F7 := fun_mk (st := st_is_owners) l7 c7 k7
  have F8 := fun_mk (st := st_is_move) l8 c8 k8
  have F9 := fun_mk (st := st_is_deal) l9 c9 k9
  have F10 := fun_mk (st := st_is_deals) l10 c10 k10
  have F11 := fun_mk (st := st_moved_by) l11 c11 k11
  have F12 := fun_mk (st := st_owners_done) l12 c12 k12
  have F13 := fun_mk (st := st_check_deals) l13 c13 k13
  have F14 := fun_mk (st := st_check_false) l14 c14 k14
  have F15 := fun_mk (st := st_check_place) l15 c15 k15
  have F16 := fun_mk (st := st_owners_behind) l16 c16 k16
  have F17 := fun_mk (st := st_leaned_on) l17 c17 k17
  have F18 := fun_mk (st := st_first_chain) l18 c18 k18
  have F19 := fun_mk (st := st_chains_by) l19 c19 k19
  have F20 := fun_mk (st := st_fallen) l20 c20 k20
  have F21 := fun_mk (st := st_owners_left) l21 c21 k21
  have F22 := fun_mk (st := st_chain_of) l22 c22 k22
  have F23 := fun_mk (st := st_is_chain) l23 c23 k23
  have F24 := fun_mk (st := st__law_pen) l24 c24 k24
  have F25 := fun_mk (st := st__law_cell_at) l25 c25 k25
  have F26 := fun_mk (st := st__law_draw) l26 c26 k26
  have F27 := fun_mk (st := st__law_owners) l27 c27 k27
  have F28 := fun_mk (st := st__law_mixed) l28 c28 k28
  have F29 := fun_mk (st := st__law_deal) l29 c29 k29
  have F30 := fun_mk (st := st__law_behind) l30 c30 k30
  have F31 := fun_mk (st := st__law_deals) l31 c31 k31
  have F32 := fun_mk (st := st__law_thing) l32 c32 k32
  have F33 := fun_mk (st := st__law_spoilt) l33 c33 k33
  have F34 := fun_mk (st := st__law_is_in) l34 c34 k34
  have F35 := fun_mk (st := st__law_are_owners) l35 c35 k35
  have F36 := fun_mk (st := st__law_is_deal) l36 c36 k36
  have F37 := fun_mk (st := st__law_are_deals) l37 c37 k37
  have F38 := fun_mk (st := st__law_why) l38 c38 k38
  have F39 := fun_mk (st := st__law_right) l39 c39 k39
  have F40 := fun_mk (st := st__law_bad_deals) l40 c40 k40
  have F41 := fun_mk (st := st_law) l41 c41 k41
  let ad : Nat → Addr := fun i => ([f0, f1, f2, f3, f4, f5, f6, f7, f8, f9, f10, f11, f12, f13, f14, f15, f16, f17, f18, f19, f20, f21, f22, f23, f24, f25, f26, f27, f28, f29, f30, f31, f32, f33, f34, f35, f36, f37, f38, f39, f40, fa] : List Addr).getD i f0
  let fd : Nat → FuncData := fun i => ([PySem.W.fnOf "is_whole" "is_whole" (defArgs st_is_whole) (defBody st_is_whole) (defScope st_is_whole) .none kV0 dc0 pm0 an0 cd0 ct0, PySem.W.fnOf "is_whole_within" "is_whole_within" (defArgs st_is_whole_within) (defBody st_is_whole_within) (defScope st_is_whole_within) .none kV1 dc1 pm1 an1 cd1 ct1, PySem.W.fnOf "is_tuple" "is_tuple" (defArgs st_is_tuple) (defBody st_is_tuple) (defScope st_is_tuple) .none kV2 dc2 pm2 an2 cd2 ct2, PySem.W.fnOf "is_rising" "is_rising" (defArgs st_is_rising) (defBody st_is_rising) (defScope st_is_rising) .none kV3 dc3 pm3 an3 cd3 ct3, PySem.W.fnOf "is_rising_within" "is_rising_within" (defArgs st_is_rising_within) (defBody st_is_rising_within) (defScope st_is_rising_within) .none kV4 dc4 pm4 an4 cd4 ct4, PySem.W.fnOf "is_each_once" "is_each_once" (defArgs st_is_each_once) (defBody st_is_each_once) (defScope st_is_each_once) .none kV5 dc5 pm5 an5 cd5 ct5, PySem.W.fnOf "is_owner" "is_owner" (defArgs st_is_owner) (defBody st_is_owner) (defScope st_is_owner) .none kV6 dc6 pm6 an6 cd6 ct6, PySem.W.fnOf "is_owners" "is_owners" (defArgs st_is_owners) (defBody st_is_owners) (defScope st_is_owners) .none kV7 dc7 pm7 an7 cd7 ct7, PySem.W.fnOf "is_move" "is_move" (defArgs st_is_move) (defBody st_is_move) (defScope st_is_move) .none kV8 dc8 pm8 an8 cd8 ct8, PySem.W.fnOf "is_deal" "is_deal" (defArgs st_is_deal) (defBody st_is_deal) (defScope st_is_deal) .none kV9 dc9 pm9 an9 cd9 ct9, PySem.W.fnOf "is_deals" "is_deals" (defArgs st_is_deals) (defBody st_is_deals) (defScope st_is_deals) .none kV10 dc10 pm10 an10 cd10 ct10, PySem.W.fnOf "moved_by" "moved_by" (defArgs st_moved_by) (defBody st_moved_by) (defScope st_moved_by) .none kV11 dc11 pm11 an11 cd11 ct11, PySem.W.fnOf "owners_done" "owners_done" (defArgs st_owners_done) (defBody st_owners_done) (defScope st_owners_done) .none kV12 dc12 pm12 an12 cd12 ct12, PySem.W.fnOf "check_deals" "check_deals" (defArgs st_check_deals) (defBody st_check_deals) (defScope st_check_deals) .none kV13 dc13 pm13 an13 cd13 ct13, PySem.W.fnOf "check_false" "check_false" (defArgs st_check_false) (defBody st_check_false) (defScope st_check_false) .none kV14 dc14 pm14 an14 cd14 ct14, PySem.W.fnOf "check_place" "check_place" (defArgs st_check_place) (defBody st_check_place) (defScope st_check_place) .none kV15 dc15 pm15 an15 cd15 ct15, PySem.W.fnOf "owners_behind" "owners_behind" (defArgs st_owners_behind) (defBody st_owners_behind) (defScope st_owners_behind) .none kV16 dc16 pm16 an16 cd16 ct16, PySem.W.fnOf "leaned_on" "leaned_on" (defArgs st_leaned_on) (defBody st_leaned_on) (defScope st_leaned_on) .none kV17 dc17 pm17 an17 cd17 ct17, PySem.W.fnOf "first_chain" "first_chain" (defArgs st_first_chain) (defBody st_first_chain) (defScope st_first_chain) .none kV18 dc18 pm18 an18 cd18 ct18, PySem.W.fnOf "chains_by" "chains_by" (defArgs st_chains_by) (defBody st_chains_by) (defScope st_chains_by) .none kV19 dc19 pm19 an19 cd19 ct19, PySem.W.fnOf "fallen" "fallen" (defArgs st_fallen) (defBody st_fallen) (defScope st_fallen) .none kV20 dc20 pm20 an20 cd20 ct20, PySem.W.fnOf "owners_left" "owners_left" (defArgs st_owners_left) (defBody st_owners_left) (defScope st_owners_left) .none kV21 dc21 pm21 an21 cd21 ct21, PySem.W.fnOf "chain_of" "chain_of" (defArgs st_chain_of) (defBody st_chain_of) (defScope st_chain_of) .none kV22 dc22 pm22 an22 cd22 ct22, PySem.W.fnOf "is_chain" "is_chain" (defArgs st_is_chain) (defBody st_is_chain) (defScope st_is_chain) .none kV23 dc23 pm23 an23 cd23 ct23, PySem.W.fnOf "_law_pen" "_law_pen" (defArgs st__law_pen) (defBody st__law_pen) (defScope st__law_pen) .none kV24 dc24 pm24 an24 cd24 ct24, PySem.W.fnOf "_law_cell_at" "_law_cell_at" (defArgs st__law_cell_at) (defBody st__law_cell_at) (defScope st__law_cell_at) .none kV25 dc25 pm25 an25 cd25 ct25, PySem.W.fnOf "_law_draw" "_law_draw" (defArgs st__law_draw) (defBody st__law_draw) (defScope st__law_draw) .none kV26 dc26 pm26 an26 cd26 ct26, PySem.W.fnOf "_law_owners" "_law_owners" (defArgs st__law_owners) (defBody st__law_owners) (defScope st__law_owners) .none kV27 dc27 pm27 an27 cd27 ct27, PySem.W.fnOf "_law_mixed" "_law_mixed" (defArgs st__law_mixed) (defBody st__law_mixed) (defScope st__law_mixed) .none kV28 dc28 pm28 an28 cd28 ct28, PySem.W.fnOf "_law_deal" "_law_deal" (defArgs st__law_deal) (defBody st__law_deal) (defScope st__law_deal) .none kV29 dc29 pm29 an29 cd29 ct29, PySem.W.fnOf "_law_behind" "_law_behind" (defArgs st__law_behind) (defBody st__law_behind) (defScope st__law_behind) .none kV30 dc30 pm30 an30 cd30 ct30, PySem.W.fnOf "_law_deals" "_law_deals" (defArgs st__law_deals) (defBody st__law_deals) (defScope st__law_deals) .none kV31 dc31 pm31 an31 cd31 ct31, PySem.W.fnOf "_law_thing" "_law_thing" (defArgs st__law_thing) (defBody st__law_thing) (defScope st__law_thing) .none kV32 dc32 pm32 an32 cd32 ct32, PySem.W.fnOf "_law_spoilt" "_law_spoilt" (defArgs st__law_spoilt) (defBody st__law_spoilt) (defScope st__law_spoilt) .none kV33 dc33 pm33 an33 cd33 ct33, PySem.W.fnOf "_law_is_in" "_law_is_in" (defArgs st__law_is_in) (defBody st__law_is_in) (defScope st__law_is_in) .none kV34 dc34 pm34 an34 cd34 ct34, PySem.W.fnOf "_law_are_owners" "_law_are_owners" (defArgs st__law_are_owners) (defBody st__law_are_owners) (defScope st__law_are_owners) .none kV35 dc35 pm35 an35 cd35 ct35, PySem.W.fnOf "_law_is_deal" "_law_is_deal" (defArgs st__law_is_deal) (defBody st__law_is_deal) (defScope st__law_is_deal) .none kV36 dc36 pm36 an36 cd36 ct36, PySem.W.fnOf "_law_are_deals" "_law_are_deals" (defArgs st__law_are_deals) (defBody st__law_are_deals) (defScope st__law_are_deals) .none kV37 dc37 pm37 an37 cd37 ct37, PySem.W.fnOf "_law_why" "_law_why" (defArgs st__law_why) (defBody st__law_why) (defScope st__law_why) .none kV38 dc38 pm38 an38 cd38 ct38, PySem.W.fnOf "_law_right" "_law_right" (defArgs st__law_right) (defBody st__law_right) (defScope st__law_right) .none kV39 dc39 pm39 an39 (.ref code) ct39, PySem.W.fnOf "_law_bad_deals" "_law_bad_deals" (defArgs st__law_bad_deals) (defBody st__law_bad_deals) (defScope st__law_bad_deals) .none kV40 dc40 pm40 an40 cd40 ct40, PySem.W.fnOf "law" "law" (defArgs st_law) (defBody st_law) (defScope st_law) .none kV41 dc41 pm41 an41 cd41 ct41] : List FuncData).getD i (PySem.W.fnOf "law" "law" (defArgs st_law) (defBody st_law) (defScope st_law) .none kV41 dc41 pm41 an41 cd41 ct41)
  letI : HasT K := ⟨[(PT, qR f39 code)]⟩
  have T : Txt K mg ad fd := by
    refine ⟨fun i hi => ?_, fun i hi => ?_, fun i hi => ?_, fun i hi => ?_⟩
    · match i, hi with
      | 0, _ => exact PySem.W.mg_none_of X G z0
      | 1, _ => exact PySem.W.mg_none_of X G z1
      | 2, _ => exact PySem.W.mg_none_of X G z2
      | 3, _ => exact PySem.W.mg_none_of X G z3
      | 4, _ => exact PySem.W.mg_none_of X G z4
      | 5, _ => exact PySem.W.mg_none_of X G z5
      | 6, _ => exact PySem.W.mg_none_of X G z6
      | 7, _ => exact PySem.W.mg_none_of X G z7
      | 8, _ => exact PySem.W.mg_none_of X G z8
      | 9, _ => exact PySem.W.mg_none_of X G z9
      | 10, _ => exact PySem.W.mg_none_of X G z10
      | 11, _ => exact PySem.W.mg_none_of X G z11
      | 12, _ => exact PySem.W.mg_none_of X G z12
      | 13, _ => exact PySem.W.mg_none_of X G z13
      | 14, _ => exact PySem.W.mg_none_of X G z14
      | 15, _ => exact PySem.W.mg_none_of X G z15
      | 16, _ => exact PySem.W.mg_none_of X G z16
      | 17, _ => exact PySem.W.mg_none_of X G z17
      | 18, _ => exact PySem.W.mg_none_of X G z18
      | i + 19, h => exact absurd h (by omega)
    · match i, hi with
      | 0, _ => exact PySem.W.mg_of X G a0
      | 1, _ => exact PySem.W.mg_of X G a1
      | 2, _ => exact PySem.W.mg_of X G a2
      | 3, _ => exact PySem.W.mg_of X G a3
      | 4, _ => exact PySem.W.mg_of X G a4
      | 5, _ => exact PySem.W.mg_of X G a5
      | 6, _ => exact PySem.W.mg_of X G a6
      | 7, _ => exact PySem.W.mg_of X G a7
      | 8, _ => exact PySem.W.mg_of X G a8
      | 9, _ => exact PySem.W.mg_of X G a9
      | 10, _ => exact PySem.W.mg_of X G a10
      | 11, _ => exact PySem.W.mg_of X G a11
      | 12, _ => exact PySem.W.mg_of X G a12
      | 13, _ => exact PySem.W.mg_of X G a13
      | 14, _ => exact PySem.W.mg_of X G a14
      | 15, _ => exact PySem.W.mg_of X G a15
      | 16, _ => exact PySem.W.mg_of X G a16
      | 17, _ => exact PySem.W.mg_of X G a17
      | 18, _ => exact PySem.W.mg_of X G a18
      | 19, _ => exact PySem.W.mg_of X G a19
      | 20, _ => exact PySem.W.mg_of X G a20
      | 21, _ => exact PySem.W.mg_of X G a21
      | 22, _ => exact PySem.W.mg_of X G a22
      | 23, _ => exact PySem.W.mg_of X G a23
      | 24, _ => exact PySem.W.mg_of X G a24
      | 25, _ => exact PySem.W.mg_of X G a25
      | 26, _ => exact PySem.W.mg_of X G a26
      | 27, _ => exact PySem.W.mg_of X G a27
      | 28, _ => exact PySem.W.mg_of X G a28
      | 29, _ => exact PySem.W.mg_of X G a29
      | 30, _ => exact PySem.W.mg_of X G a30
      | 31, _ => exact PySem.W.mg_of X G a31
      | 32, _ => exact PySem.W.mg_of X G a32
      | 33, _ => exact PySem.W.mg_of X G a33
      | 34, _ => exact PySem.W.mg_of X G a34
      | 35, _ => exact PySem.W.mg_of X G a35
      | 36, _ => exact PySem.W.mg_of X G a36
      | 37, _ => exact PySem.W.mg_of X G a37
      | 38, _ => exact PySem.W.mg_of X G a38
      | 39, _ => exact PySem.W.mg_of X G a39
      | 40, _ => exact PySem.W.mg_of X G a40
      | 41, _ => exact PySem.W.mg_of X G a41
      | i + 42, h => exact absurd h (by omega)
    · match i, hi with
      | 0, _ => exact k0
      | 1, _ => exact k1
      | 2, _ => exact k2
      | 3, _ => exact k3
      | 4, _ => exact k4
      | 5, _ => exact k5
      | 6, _ => exact k6
      | 7, _ => exact k7
      | 8, _ => exact k8
      | 9, _ => exact k9
      | 10, _ => exact k10
      | 11, _ => exact k11
      | 12, _ => exact k12
      | 13, _ => exact k13
      | 14, _ => exact k14
      | 15, _ => exact k15
      | 16, _ => exact k16
      | 17, _ => exact k17
      | 18, _ => exact k18
      | 19, _ => exact k19
      | 20, _ => exact k20
      | 21, _ => exact k21
      | 22, _ => exact k22
      | 23, _ => exact k23
      | 24, _ => exact k24
      | 25, _ => exact k25
      | 26, _ => exact k26
      | 27, _ => exact k27
      | 28, _ => exact k28
      | 29, _ => exact k29
      | 30, _ => exact k30
      | 31, _ => exact k31
      | 32, _ => exact k32
      | 33, _ => exact k33
      | 34, _ => exact k34
      | 35, _ => exact k35
      | 36, _ => exact k36
      | 37, _ => exact k37
      | 38, _ => exact k38
      | 39, _ => exact k39
      | 40, _ => exact k40
      | 41, _ => exact k41
      | i + 42, h => exact absurd h (by omega)
    · match i, hi with
      | 0, _ => exact F0
      | 1, _ => exact F1
      | 2, _ => exact F2
      | 3, _ => exact F3
      | 4, _ => exact F4
      | 5, _ => exact F5
      | 6, _ => exact F6
      | 7, _ => exact F7
      | 8, _ => exact F8
      | 9, _ => exact F9
      | 10, _ => exact F10
      | 11, _ => exact F11
      | 12, _ => exact F12
      | 13, _ => exact F13
      | 14, _ => exact F14
      | 15, _ => exact F15
      | 16, _ => exact F16
      | 17, _ => exact F17
      | 18, _ => exact F18
      | 19, _ => exact F19
      | 20, _ => exact F20
      | 21, _ => exact F21
      | 22, _ => exact F22
      | 23, _ => exact F23
      | 24, _ => exact F24
      | 25, _ => exact F25
      | 26, _ => exact F26
      | 27, _ => exact F27
      | 28, _ => exact F28
      | 29, _ => exact F29
      | 30, _ => exact F30
      | 31, _ => exact F31
      | 32, _ => exact F32
      | 33, _ => exact F33
      | 34, _ => exact F34
      | 35, _ => exact F35
      | 36, _ => exact F36
      | 37, _ => exact F37
      | 38, _ => exact F38
      | 39, _ => exact F39
      | 40, _ => exact F40
      | 41, _ => exact F41
      | i + 42, h => exact absurd h (by omega)
  have TE : TxtE K mg ⟨ex_o, ex_d, ex_n⟩ := ⟨⟨xxo, PySem.W.mg_of X G xgo, xko, xbo, xto⟩, ⟨xxd, PySem.W.mg_of X G xgd, xkd, xbd, xtd⟩, ⟨xxn, PySem.W.mg_of X G xgn, xkn, xbn, xtn⟩, xmoo, xmdo, xmdd, xmno, xmnd, xmnn⟩
  refine ⟨PySem.W.fnOf "law" "law" (defArgs st_law) (defBody st_law) (defScope st_law) .none kV41 dc41 pm41 an41 cd41 ct41, [(code, PT)], spLaw K, ?_, ?_, ?_, fun s v => .of_eq rfl, ?_, ?_⟩
  · intro p hp
    rw [List.mem_singleton.mp hp]
    exact hPT
  · intro p hp
    rw [List.mem_singleton.mp hp]
    exact nPT
  · intro p hp
    rw [List.mem_singleton.mp hp]
    exact PySem.W.codeHd_of_K X cPT
  · intro H a ns hl _ hT hS
    exact ⟨a, ns, rfl, TbOk.start fun p (hp : p ∈ [(PT, qR f39 code)]) => by rw [List.mem_singleton.mp hp]; exact hT (code, PT) (List.mem_singleton.mpr rfl), hS, hl, fun _ => rfl⟩
  intro base _ _ hTB
  have TL : TxtL K mg base (ad 39) (fd 39) code PT := ⟨⟨⟨_, _, _, _, _, _, _, _, rfl, l39, c39⟩⟩, hTB (code, PT) (List.mem_singleton.mpr rfl), (show (PT, qR f39 code) ∈ [(PT, qR f39 code)] from List.mem_singleton.mpr rfl), fun p (hp : p ∈ [(PT, qR f39 code)]) _ => (congrArg Prod.snd (List.mem_singleton.mp hp) : _)⟩
  exact ok_law (P := l.prog) (w := w) (base := base) (mg := mg) T TE TL
theorem walk {l : PySem.W.OpenLaw} {q : Program} {loose : List Str} {XP : (Str → Option Value) → Heap → Prop} {YP : World → Heap → Prop} {d : DefRec} {K : Params → PySem.W.Frag} (hn : l.most = some 63) (hdf : d.params.defaults = [])
    (hY : ∀ (w : World) (h : Heap), YP w h → (K w.params).In h)
    (F : ∀ (w : World) (mg : Str → Option Value) (fa : Addr) (h : Heap), YP w h → (K w.params).In h → h.Ns mainGlobals mg → mg d.name = some (.ref fa) → LamX.LawAtS l w (K w.params) CX0 16 63 "_law_script" mg fa h) :
    PySem.W.WalkO q loose XP YP l.row.toRowW d [] (fun f vs => PySem.call f vs) :=
  LamX.walk_ofTs (n := 63) (k := 16) (x := "_law_script") (CX := fun _ => CX0) hn (by decide) hdf ⟨rfl, by decide, by decide⟩ hY F fun _ _ _ _ _ z => z
end Dl

set_option Elab.async false
open PySem PySem.W PyProof.Rows
set_option maxRecDepth 100000 in
set_option maxHeartbeats 0 in
theorem PySem.Challenge.cw_hingemount_k44_owners_and_deals_refused_holds : PySem.Challenge.rw_hingemount_k44_owners_and_deals_refused.Holds := by
  w_on; o_law; k_head; (case hw => w_witness2)
  k_fill
  refine Dl.walk (l := PySem.Challenge.rw_hingemount_k44_owners_and_deals_refused) rfl rfl (fun w h Y => PySem.W.km_in_of Y) ?F
  case F =>
    intro w mg fa h Y KX G hmg
    refine' Dl.all_mk KX G hmg ?a0 ?l0 ?c0 ?k0 ?a1 ?l1 ?c1 ?k1 ?a2 ?l2 ?c2 ?k2 ?a3 ?l3 ?c3 ?k3 ?a4 ?l4 ?c4 ?k4 ?a5 ?l5 ?c5 ?k5 ?a6 ?l6 ?c6 ?k6 ?a7 ?l7 ?c7 ?k7 ?a8 ?l8 ?c8 ?k8 ?a9 ?l9 ?c9 ?k9 ?a10 ?l10 ?c10 ?k10 ?a11 ?l11 ?c11 ?k11 ?a12 ?l12 ?c12 ?k12 ?a13 ?l13 ?c13 ?k13 ?a14 ?l14 ?c14 ?k14 ?a15 ?l15 ?c15 ?k15 ?a16 ?l16 ?c16 ?k16 ?a17 ?l17 ?c17 ?k17 ?a18 ?l18 ?c18 ?k18 ?a19 ?l19 ?c19 ?k19 ?a20 ?l20 ?c20 ?k20 ?a21 ?l21 ?c21 ?k21 ?a22 ?l22 ?c22 ?k22 ?a23 ?l23 ?c23 ?k23 ?a24 ?l24 ?c24 ?k24 ?a25 ?l25 ?c25 ?k25 ?a26 ?l26 ?c26 ?k26 ?a27 ?l27 ?c27 ?k27 ?a28 ?l28 ?c28 ?k28 ?a29 ?l29 ?c29 ?k29 ?a30 ?l30 ?c30 ?k30 ?a31 ?l31 ?c31 ?k31 ?a32 ?l32 ?c32 ?k32 ?a33 ?l33 ?c33 ?k33 ?a34 ?l34 ?c34 ?k34 ?a35 ?l35 ?c35 ?k35 ?a36 ?l36 ?c36 ?k36 ?a37 ?l37 ?c37 ?k37 ?a38 ?l38 ?c38 ?k38 ?a39 ?l39 ?c39 ?k39 ?a40 ?l40 ?c40 ?k40 ?a41 ?l41 ?c41 ?k41 ?z0 ?z1 ?z2 ?z3 ?z4 ?z5 ?z6 ?z7 ?z8 ?z9 ?z10 ?z11 ?z12 ?z13 ?z14 ?z15 ?z16 ?z17 ?z18 ?xxo ?xgo ?xko ?xbo ?xto ?xxd ?xgd ?xkd ?xbd ?xtd ?xxn ?xgn ?xkn ?xbn ?xtn ?xmoo ?xmdo ?xmdd ?xmno ?xmnd ?xmnn ?hPT ?nPT ?cPT
    (case a0 => k_is)
    (case l0 => k_is)
    (case c0 => k_is)
    (case k0 => k_is)
    (case a1 => k_is)
    (case l1 => k_is)
    (case c1 => k_is)
    (case k1 => k_is)
    (case a2 => k_is)
    (case l2 => k_is)
    (case c2 => k_is)
    (case k2 => k_is)
    (case a3 => k_is)
    (case l3 => k_is)
    (case c3 => k_is)
    (case k3 => k_is)
    (case a4 => k_is)
    (case l4 => k_is)
    (case c4 => k_is)
    (case k4 => k_is)
    (case a5 => k_is)
    (case l5 => k_is)
    (case c5 => k_is)
    (case k5 => k_is)
    (case a6 => k_is)
    (case l6 => k_is)
    (case c6 => k_is)
    (case k6 => k_is)
    (case a7 => k_is)
    (case l7 => k_is)
    (case c7 => k_is)
    (case k7 => k_is)
    (case a8 => k_is)
    (case l8 => k_is)
    (case c8 => k_is)
    (case k8 => k_is)
    (case a9 => k_is)
    (case l9 => k_is)
    (case c9 => k_is)
    (case k9 => k_is)
    (case a10 => k_is)
    (case l10 => k_is)
    (case c10 => k_is)
    (case k10 => k_is)
    (case a11 => k_is)
    (case l11 => k_is)
    (case c11 => k_is)
    (case k11 => k_is)
    (case a12 => k_is)
    (case l12 => k_is)
    (case c12 => k_is)
    (case k12 => k_is)
    (case a13 => k_is)
    (case l13 => k_is)
    (case c13 => k_is)
    (case k13 => k_is)
    (case a14 => k_is)
    (case l14 => k_is)
    (case c14 => k_is)
    (case k14 => k_is)
    (case a15 => k_is)
    (case l15 => k_is)
    (case c15 => k_is)
    (case k15 => k_is)
    (case a16 => k_is)
    (case l16 => k_is)
    (case c16 => k_is)
    (case k16 => k_is)
    (case a17 => k_is)
    (case l17 => k_is)
    (case c17 => k_is)
    (case k17 => k_is)
    (case a18 => k_is)
    (case l18 => k_is)
    (case c18 => k_is)
    (case k18 => k_is)
    (case a19 => k_is)
    (case l19 => k_is)
    (case c19 => k_is)
    (case k19 => k_is)
    (case a20 => k_is)
    (case l20 => k_is)
    (case c20 => k_is)
    (case k20 => k_is)
    (case a21 => k_is)
    (case l21 => k_is)
    (case c21 => k_is)
    (case k21 => k_is)
    (case a22 => k_is)
    (case l22 => k_is)
    (case c22 => k_is)
    (case k22 => k_is)
    (case a23 => k_is)
    (case l23 => k_is)
    (case c23 => k_is)
    (case k23 => k_is)
    (case a24 => k_is)
    (case l24 => k_is)
    (case c24 => k_is)
    (case k24 => k_is)
    (case a25 => k_is)
    (case l25 => k_is)
    (case c25 => k_is)
    (case k25 => k_is)
    (case a26 => k_is)
    (case l26 => k_is)
    (case c26 => k_is)
    (case k26 => k_is)
    (case a27 => k_is)
    (case l27 => k_is)
    (case c27 => k_is)
    (case k27 => k_is)
    (case a28 => k_is)
    (case l28 => k_is)
    (case c28 => k_is)
    (case k28 => k_is)
    (case a29 => k_is)
    (case l29 => k_is)
    (case c29 => k_is)
    (case k29 => k_is)
    (case a30 => k_is)
    (case l30 => k_is)
    (case c30 => k_is)
    (case k30 => k_is)
    (case a31 => k_is)
    (case l31 => k_is)
    (case c31 => k_is)
    (case k31 => k_is)
    (case a32 => k_is)
    (case l32 => k_is)
    (case c32 => k_is)
    (case k32 => k_is)
    (case a33 => k_is)
    (case l33 => k_is)
    (case c33 => k_is)
    (case k33 => k_is)
    (case a34 => k_is)
    (case l34 => k_is)
    (case c34 => k_is)
    (case k34 => k_is)
    (case a35 => k_is)
    (case l35 => k_is)
    (case c35 => k_is)
    (case k35 => k_is)
    (case a36 => k_is)
    (case l36 => k_is)
    (case c36 => k_is)
    (case k36 => k_is)
    (case a37 => k_is)
    (case l37 => k_is)
    (case c37 => k_is)
    (case k37 => k_is)
    (case a38 => k_is)
    (case l38 => k_is)
    (case c38 => k_is)
    (case k38 => k_is)
    (case a39 => k_is)
    (case l39 => k_is)
    (case c39 => k_is)
    (case k39 => k_is)
    (case a40 => k_is)
    (case l40 => k_is)
    (case c40 => k_is)
    (case k40 => k_is)
    (case a41 => k_is)
    (case l41 => k_is)
    (case c41 => k_is)
    (case k41 => k_is)
    (case z0 => k_is)
    (case z1 => k_is)
    (case z2 => k_is)
    (case z3 => k_is)
    (case z4 => k_is)
    (case z5 => k_is)
    (case z6 => k_is)
    (case z7 => k_is)
    (case z8 => k_is)
    (case z9 => k_is)
    (case z10 => k_is)
    (case z11 => k_is)
    (case z12 => k_is)
    (case z13 => k_is)
    (case z14 => k_is)
    (case z15 => k_is)
    (case z16 => k_is)
    (case z17 => k_is)
    (case z18 => k_is)
    (case xxo => kernel_rfl)
    (case xgo => k_is)
    (case xko => k_is)
    (case xbo => k_is)
    (case xto => k_is)
    (case xxd => kernel_rfl)
    (case xgd => k_is)
    (case xkd => k_is)
    (case xbd => k_is)
    (case xtd => k_is)
    (case xxn => kernel_rfl)
    (case xgn => k_is)
    (case xkn => k_is)
    (case xbn => k_is)
    (case xtn => k_is)
    (case xmoo => kernel_rfl)
    (case xmdo => kernel_rfl)
    (case xmdd => kernel_rfl)
    (case xmno => kernel_rfl)
    (case xmnd => kernel_rfl)
    (case xmnn => kernel_rfl)
    (case hPT => exact PySem.W.km_tabs_of Y _ (List.mem_singleton.mpr rfl))
    (case nPT => kernel_rfl)
    (case cPT => kernel_rfl)

