import PyProof.Rows.All
import Wide.All
import OpenK.AllK
import Wide.FinOn
import HandS.ForMost
import HandS.Conv
import HandS.DictTup
import HandS.TupLen
import HandS.Walk
import KE.SortData
import KE.DataCmp
import KE.GoesMore
import KE.GoesEnum
import HandS.IsInst
import HandS.Flow
import HandS.Defaults
import HandS.ForExc
import HandS.TryMany
import HandS.Lambda
import HandS.Style
import HandS.EndTab
import PySem.Challenge.RW_hingemount_k04_gaps_and_doubles
set_option Elab.async false
set_option maxRecDepth 100000
set_option maxHeartbeats 4000000
namespace HmS
open PySem PySem.Spec PyProof.Rows L2
/-! ### keys as data -/
def kD : Key → PyData
  | .inl i => .int i
  | .inr x => .str x
def keyD (k : List Key) : PyData := .tuple (k.map kD)
section
variable {X : Cx} {pins : List (Addr × Obj)} {σ : L2.St} {H : Hp} {s : Shared}
theorem key_atoms : ∀ {k : List Key} {us : List Value}, Vals (k.map kV) us → ReadsAll s.heap us (k.map kD) []
  | [], _, .nil => .nil
  | x :: k, _, .cons (b := u) r t => by
    have ih := key_atoms (k := k) t
    cases x with
    | inl i =>
      obtain ⟨tk, rfl⟩ := r
      exact ReadsAll.cons (Reads.int i tk) ih
    | inr z =>
      obtain ⟨tk, rfl⟩ := r
      exact ReadsAll.cons (Reads.str z tk) ih
theorem key_reads (I : Inv X pins σ H s) {b : Addr} {k : List Key} (e : H b = some (.tup (k.map kV))) : Reads s.heap (.ref b) (keyD k) [] := by
  obtain ⟨_, its, rv, o, ho, hc, n, hd⟩ := (show ObjOk X.prog X.w H s.heap b (.tup (k.map kV)) from I.hok b _ e)
  exact Reads.tuple ho hc hd (by simpa using key_atoms rv)
theorem each_of {α β : Type} {R : α → β → Prop} (f : β → α) : ∀ (zs : List β), (∀ z ∈ zs, R (f z) z) → PySem.W.EachIs R (zs.map f) zs
  | [], _ => .nil
  | z :: zs, h => .cons (h z List.mem_cons_self) (each_of f zs fun y hy => h y (List.mem_cons_of_mem _ hy))
theorem each_eq {α β : Type} {f : β → α} : ∀ {as : List α} {zs : List β}, PySem.W.EachIs (fun v z => v = f z) as zs → as = zs.map f
  | _, _, .nil => rfl
  | _, _, .cons h t => by rw [List.map_cons, ← each_eq t, h]
/-- sorted(d), d a dict with tuple keys: the key tuples, rising -/
def rSortDT : List V → Hp → VK → Prop := fun xs H Q => ∃ (a : Addr) (kvs : List (List Key × V)), xs = [.ref a] ∧ Rd H a (.dT kvs) ∧ kvs.length ≤ 1000 ∧ PySem.W.AllAlike (kvs.map fun p => keyD p.1) ∧ (∀ p ∈ kvs, p.1 ≠ []) ∧
  ∀ (p : Addr) (bs : List Addr), H p = none → IsKeys H kvs bs → (kvs.map (·.1)).Nodup →
    Q (.ref p) (upd H p (.lst (((bs.zip kvs).mergeSort (PySem.W.dataLe false fun z => keyD z.2.1)).map fun z => V.ref z.1)))
theorem keyD_depth (k : List Key) : (keyD k).depth ≤ 1 := by
  have h : ∀ k : List Key, PyData.depthAll (k.map kD) = 0 := by
    intro k
    induction k with
    | nil => simp [PyData.depthAll]
    | cons x k ih =>
      cases x with
      | inl i => simp [kD, PyData.depthAll, PyData.depth, ih]
      | inr z => simp [kD, PyData.depthAll, PyData.depth, ih]
  unfold keyD
  rw [PyData.depth, h]
  exact Nat.le_refl _
theorem cr_sortDT (hc : X.calm = true) (hu : X.A.units + 64 < cLine) : CallR X (.builtin "sorted") rSortDT := by
  intro pins s σ H xs us Q I r h
  obtain ⟨d, kvs, rfl, hd, hz, hal, hne, q⟩ := h
  obtain ⟨u, rfl, rx⟩ := r.one
  cases rx
  obtain ⟨z, hs, ks, pr, o, es, ep, ho, hx, hdt, he, hn⟩ := (show ObjOk X.prog X.w H s.heap d (.dT kvs) from hd.ok I.hok)
  have l1 : es.size = ks.length := size_of_entries he
  have l2 : kvs.length = ks.length := Paired.length pr
  have hsl := sizeLine_eq
  refine Calls.call_function_entry PyProof.Rows.kind_sorted PyProof.Rows.plain_sorted PyProof.Rows.entry_sorted (PyProof.Rows.args_sorted1 _) ?_
  unfold Builtin.«sorted»
  refine wpAny_bind (m := checkCount "sorted" 1 1 _) (wpAny_pure ?_)
  refine wpAny_bind (PySem.W.kdu_collect (A := X.A.in1) (kdl_raw hs hx hdt) (I.ok.hd hc) ho (by omega) fun h' tk acc kp it => ?_)
  have ea : acc.toList = (ks.map fun x => x.2.1).map Value.ref := by
    have hl : acc.toList.length = ks.length := by
      rw [Array.length_toList, it.1]
      exact l1
    apply List.ext_getElem?
    intro j
    rw [List.getElem?_map, List.getElem?_map]
    cases hj : acc.toList[j]? with
    | none =>
      have h1 := List.getElem?_eq_none_iff.mp hj
      rw [List.getElem?_eq_none (by omega)]
      rfl
    | some v =>
      obtain ⟨en, hen, hv⟩ := it.2 j v (by rw [← Array.getElem?_toList]; exact hj)
      have qe := entry_at he j
      rw [hen] at qe
      cases hb : ks[j]? with
      | none =>
        rw [hb] at qe
        exact nomatch (show some en = none from qe)
      | some b =>
        rw [hb] at qe
        have e2 : en = entryOfKey (tupleKind (mixKind X.prog X.w)) b := Option.some.inj qe
        rw [hv, e2]
        rfl
  generalize hbs : ks.map (fun x => x.2.1) = bs at ea
  have hik : IsKeys H kvs bs := by
    rw [← hbs]
    exact isKeys_of pr
  have lb : bs.length = kvs.length := by rw [← hbs, List.length_map, l2]
  have nk : (kvs.map (·.1)).Nodup := by
    have e : ∀ {kvs : List (List Key × V)} {ks : List (List Key × Addr × Value)}, Paired (fun (p : List Key × V) (q : List Key × Addr × Value) => p.1 = q.1 ∧ H q.2.1 = some (.tup (p.1.map kV)) ∧ RelV p.2 q.2.2) kvs ks → kvs.map (·.1) = ks.map (·.1) := by
      intro kvs ks r
      induction r with
      | nil => rfl
      | cons h t ih => rw [List.map_cons, List.map_cons, ih, h.1]
    rw [e pr]
    exact hn
  have hz2 : ((bs.zip kvs).map fun z => Value.ref z.1) = acc.toList := by
    rw [ea, show (fun z : Addr × List Key × V => Value.ref z.1) = Value.ref ∘ Prod.fst from rfl, ← List.map_map, List.map_fst_zip (by omega)]
  have I1 : Inv X pins σ H { s with heap := h', toks := tk } := I.kept kp
  have lz : (bs.zip kvs).length = kvs.length := by rw [List.length_zip]; omega
  refine wpAny_bind (wpAny_newList ?_ (by rw [← hz2, List.length_map, lz]; omega))
  have hoL : (h'.push (seqObj "list" acc.toList.toArray 0)).get? h'.objs.size = some (seqObj "list" acc.toList.toArray 0) := Heap.get?_push_size _ rfl
  show wpAny (model X.prog X.w) X.A.in1 _ _ _ { s with heap := h'.push (seqObj "list" acc.toList.toArray 0), toks := tk }
  have inz : ∀ z ∈ bs.zip kvs, H z.1 = some (.tup (z.2.1.map kV)) := by
    have e : ∀ {kvs : List (List Key × V)} {bs : List Addr}, IsKeys H kvs bs → ∀ z ∈ bs.zip kvs, H z.1 = some (.tup (z.2.1.map kV)) := by
      intro kvs bs r
      unfold IsKeys at r
      induction r with
      | nil => intro z hz; simp at hz
      | cons h t ih =>
        intro z hz
        rw [List.zip_cons_cons] at hz
        rcases List.mem_cons.mp hz with rfl | hz
        · exact h
        · exact ih z hz
    exact e hik
  have inz2 : ∀ z ∈ bs.zip kvs, z.2 ∈ kvs := fun z hz => (List.of_mem_zip hz).2
  rw [← hz2]
  rw [← hz2] at hoL
  refine wpAny_bind (wpAny_holding (PySem.W.list_sort_data (bs := bs.zip kvs) (enc := fun z => keyD z.2.1) (R := fun v z => v = Value.ref z.1) (s := { s with heap := h'.push (seqObj "list" ((bs.zip kvs).map fun z => Value.ref z.1).toArray 0), toks := tk }) hoL
    (each_of _ _ fun _ _ => rfl) (each_of _ _ fun z hz => ⟨[], PyProof.Rows.Reads.keeps (fun b o e => Heap.get?_push_of_some _ e) (key_reads I1 (inz z hz)), by simp⟩) ?_ ?_ (by rw [lz]; omega) (fun z _ => ?_) fun out ol eo => ?_))
  · intro x hx y hy
    obtain ⟨z1, m1, rfl⟩ := List.mem_map.mp hx
    obtain ⟨z2, m2, rfl⟩ := List.mem_map.mp hy
    exact hal _ (List.mem_map.mpr ⟨z1.2, inz2 _ m1, rfl⟩) _ (List.mem_map.mpr ⟨z2.2, inz2 _ m2, rfl⟩)
  · refine .inl fun x hx => ?_
    obtain ⟨z, m, rfl⟩ := List.mem_map.mp hx
    have nz := hne _ (inz2 _ m)
    cases e : z.2.1 with
    | nil => exact absurd e nz
    | cons k r => exact ⟨kD k, r.map kD, by simp [keyD]⟩
  · have := keyD_depth z.2.1
    show X.A.units + 1 + 1 + (keyD z.2.1).depth < cLine
    omega
  · have eout := each_eq (f := fun z : Addr × List Key × V => Value.ref z.1) eo
    obtain ⟨e', he'⟩ := PyProof.Rows.sortedHeap_at (vs := (bs.zip kvs).map fun z => Value.ref z.1) (out := out.toArray) hoL
    have hperm := List.mergeSort_perm (bs.zip kvs) (PySem.W.dataLe false fun z => keyD z.2.1)
    have hlen : (((bs.zip kvs).mergeSort (PySem.W.dataLe false fun z => keyD z.2.1)).map fun z => V.ref z.1).length ≤ sizeLine := by
      rw [List.length_map, hperm.length_eq, lz]
      omega
    have rv : Vals (((bs.zip kvs).mergeSort (PySem.W.dataLe false fun z => keyD z.2.1)).map fun z => V.ref z.1) out := by
      rw [eout]
      have e : ∀ l : List (Addr × List Key × V), Vals (l.map fun z => V.ref z.1) (l.map fun z => Value.ref z.1) := by
        intro l
        induction l with
        | nil => exact .nil
        | cons z l ih => exact .cons rfl ih
      exact e _
    refine wpAny_pure ⟨_, rfl, .ref h'.objs.size, upd H h'.objs.size (.lst (((bs.zip kvs).mergeSort (PySem.W.dataLe false fun z => keyD z.2.1)).map fun z => V.ref z.1)), I1.laid (t' := tk) (fun b u e => ?_) (Nat.le_refl _)
      (show ObjOk X.prog X.w _ _ _ (.lst _) from ⟨hlen, out, e', rv, by simpa using he'⟩), rfl, q _ bs (I1.hok.fresh (Nat.le_refl _)) hik nk⟩
    have hb : b < h'.objs.size := Heap.lt_size e
    rw [PyProof.Rows.sortedHeap_old (Nat.ne_of_lt hb) (by rw [size_push']; exact Nat.lt_succ_of_lt hb)]
    exact Heap.get?_push_of_some _ e
/-- sorted(d.items()), d a dict with tuple keys and ints: the pairs, rising -/
def encC (c : List Key × Int) : PyData := .tuple [keyD c.1, .int c.2]
def sortC (cs : List (List Key × Int)) : List (List Key × Int) := cs.mergeSort (PySem.W.dataLe false encC)
def rSortIC : List V → Hp → VK → Prop := fun xs H Q => ∃ (v a : Addr) (cs : List (List Key × Int)), xs = [.ref v] ∧ H v = some (DX.itemsO v a) ∧ H a = some (.dT (cs.map fun c => (c.1, V.int c.2))) ∧ cs.length ≤ 1000 ∧
  PySem.W.AllAlike (cs.map encC) ∧ (∀ c ∈ cs, c.1 ≠ []) ∧ ∀ (l : Addr) (H' : Hp) (as : List Addr), Same H H' → H l = none → (cs.map (·.1)).Nodup → H' l = some (.lst (as.map V.ref)) →
    Paired (fun b (c : List Key × Int) => ∃ q, H' b = some (.tup [.ref q, .int c.2]) ∧ H' q = some (.tup (c.1.map kV))) as (sortC cs) → Q (.ref l) H'
theorem encC_depth (c : List Key × Int) : (encC c).depth ≤ 2 := by
  have h := keyD_depth c.1
  unfold encC
  simp only [PyData.depth, PyData.depthAll]
  omega
theorem paired_map {α β γ : Type} {F : γ → β → Prop} (f : α → γ) (g : α → β) : ∀ (zs : List α), (∀ z ∈ zs, F (f z) (g z)) → Paired F (zs.map f) (zs.map g)
  | [], _ => .nil
  | z :: zs, h => .cons (h z List.mem_cons_self) (paired_map f g zs fun y hy => h y (List.mem_cons_of_mem _ hy))
theorem cr_sortIC (hc : X.calm = true) (hu : X.A.units + 64 < cLine) : CallR X (.builtin "sorted") rSortIC := by
  intro pins s σ H xs us Q I r h
  obtain ⟨v, a, cs, rfl, hv, ha, hz, hal, hne, q⟩ := h
  obtain rfl := Vals.ref1 r
  have hsl := sizeLine_eq
  have view : s.heap.IsItemsView v a := (show ObjOk X.prog X.w H s.heap v (DX.itemsO v a) from I.hok v _ hv).1
  obtain ⟨_, hd, ks, rel, o, es, ep, ho, hx, hdat, hes, _, hn⟩ := dt_of I.hok ha
  have l1 : cs.length = ks.length := by
    have e := Paired.length rel
    rw [List.length_map] at e
    exact e
  have l2 : es.size = ks.length := size_of_entries hes
  have nk : (cs.map (·.1)).Nodup := by
    have e : ∀ {cs : List (List Key × Int)} {ks : List (List Key × Addr × Value)}, Paired (fun (p : List Key × V) (q : List Key × Addr × Value) => p.1 = q.1 ∧ H q.2.1 = some (.tup (p.1.map kV)) ∧ RelV p.2 q.2.2) (cs.map fun c => (c.1, V.int c.2)) ks → cs.map (·.1) = ks.map (·.1) := by
      intro cs
      induction cs with
      | nil => intro ks r; cases r; rfl
      | cons c cs ih =>
        intro ks r
        cases r with
        | cons h t => rw [List.map_cons, List.map_cons, ih t, h.1]
    rw [e rel]
    exact hn
  refine DT.sortedI (es := es) (ep := ep) (I.ok.hd hc) view ⟨o, ho, hx, hdat⟩ (by omega) fun h' tk as hk hlt hl hG => ?_
  have la : as.length = cs.length := by omega
  have nd : as.Nodup := List.Pairwise.imp (fun h => Nat.ne_of_lt h) hG.rise
  -- the new pairs, with what they hold
  let bs : List (Addr × Addr × (List Key × Int)) := as.zip ((ks.map fun x => x.2.1).zip cs)
  have lz : ((ks.map fun x => x.2.1).zip cs).length = cs.length := by rw [List.length_zip, List.length_map]; omega
  have lb : bs.length = cs.length := by
    show (as.zip _).length = _
    rw [List.length_zip]
    omega
  have bsA : bs.map (·.1) = as := List.map_fst_zip (by omega)
  have bsC : bs.map (·.2.2) = cs := by
    have e : bs.map (·.2.2) = (bs.map (·.2)).map (·.2) := by rw [List.map_map]; rfl
    rw [e, show bs.map (·.2) = (ks.map fun x => x.2.1).zip cs from List.map_snd_zip (by omega), List.map_snd_zip (by rw [List.length_map]; omega)]
  have I1 : Inv X pins σ H { s with heap := h', toks := tk } := I.kept hk
  have facts : ∀ z ∈ bs, H z.2.1 = some (.tup (z.2.2.1.map kV)) ∧ ∃ t, h'.get? z.1 = some { cls := .type "tuple", data := .seq #[Value.ref z.2.1, Value.int z.2.2.2 t] } := by
    intro z hzm
    obtain ⟨j, hj⟩ := List.mem_iff_getElem?.mp hzm
    obtain ⟨j1, j2⟩ := List.getElem?_zip_eq_some.mp hj
    obtain ⟨j3, j4⟩ := List.getElem?_zip_eq_some.mp j2
    obtain ⟨en, he, hg⟩ := hG.pairs j z.1 j1
    rw [entry_at hes j] at he
    rw [List.getElem?_map] at j3
    cases hxj : ks[j]? with
    | none =>
      rw [hxj] at j3
      cases j3
    | some x =>
      rw [hxj] at he j3
      have een : entryOfKey (tupleKind (mixKind X.prog X.w)) x = en := Option.some.inj he
      have ex : x.2.1 = z.2.1 := Option.some.inj j3
      obtain ⟨e0, he0, _, r2, r3⟩ := DX.pget rel hxj
      rw [List.getElem?_map, j4] at he0
      have ee : (z.2.2.1, V.int z.2.2.2) = e0 := Option.some.inj he0
      rw [← ee] at r2 r3
      obtain ⟨t, r3'⟩ := r3
      refine ⟨by rw [← ex]; exact r2, t, ?_⟩
      rw [hg, ← een, ← ex, ← r3']
      rfl
  have hob : (h'.push (seqObj "list" (as.map Value.ref).toArray 0)).get? h'.objs.size = some (seqObj "list" (as.map Value.ref).toArray 0) := Heap.get?_push_size _ rfl
  have eAs : as.map Value.ref = bs.map fun z => Value.ref z.1 := by rw [← bsA, List.map_map]; rfl
  show wpAny (model X.prog X.w) X.A.in1 (call (.builtin "list.sort") [.ref h'.objs.size]) _ _ { s with heap := h'.push (seqObj "list" (as.map Value.ref).toArray 0), toks := tk }
  rw [eAs] at hob ⊢
  have kb : ∀ b o, h'.get? b = some o → (h'.push (seqObj "list" (bs.map fun z => Value.ref z.1).toArray 0)).get? b = some o := fun b o e => Heap.get?_push_of_some _ e
  refine PySem.W.list_sort_data (bs := bs) (enc := fun z => encC z.2.2) (R := fun v z => v = Value.ref z.1) (s := { s with heap := h'.push (seqObj "list" (bs.map fun z => Value.ref z.1).toArray 0), toks := tk }) hob
    (each_of _ _ fun _ _ => rfl) (each_of _ _ fun z hzm => ?_) ?_ (.inl fun x hx => ?_) (by omega) (fun z _ => ?_) fun out ol eo => ?_
  · obtain ⟨f1, t, f2⟩ := facts z hzm
    refine ⟨[], PyProof.Rows.Reads.keeps kb (Reads.tuple (as := []) f2 rfl rfl ?_), by simp⟩
    exact ReadsAll.cons (as := []) (bs := []) (key_reads I1 f1) (ReadsAll.cons (as := []) (bs := []) (Reads.int _ t) ReadsAll.nil)
  · intro x hx y hy
    have e : bs.map (fun z => encC z.2.2) = cs.map encC := by rw [← bsC, List.map_map]; rfl
    rw [e] at hx hy
    exact hal x hx y hy
  · obtain ⟨z, _, rfl⟩ := List.mem_map.mp hx
    exact ⟨_, _, rfl⟩
  · have := encC_depth z.2.2
    show X.A.units + 1 + 1 + (encC z.2.2).depth < cLine
    omega
  · have eout := each_eq (f := fun z : Addr × Addr × (List Key × Int) => Value.ref z.1) eo
    obtain ⟨e', he'⟩ := PyProof.Rows.sortedHeap_at (vs := bs.map fun z => Value.ref z.1) (out := out.toArray) hob
    generalize hzs : bs.mergeSort (PySem.W.dataLe false fun z => encC z.2.2) = zs at eout
    have hperm : zs.Perm bs := by rw [← hzs]; exact List.mergeSort_perm _ _
    have srt : zs.map (·.2.2) = sortC cs := by
      rw [← hzs, PySem.W.sort_maps (r := PySem.W.dataLe false fun z : Addr × Addr × (List Key × Int) => encC z.2.2) (s := PySem.W.dataLe false encC) (fun z : Addr × Addr × (List Key × Int) => z.2.2) (fun a _ b _ => rfl), bsC]
      rfl
    have hlen : ((zs.map (·.1)).map V.ref).length ≤ sizeLine := by
      rw [List.length_map, List.length_map, hperm.length_eq]
      omega
    have ne0 : ∀ b o, h'.get? b = some o → b ≠ h'.objs.size := fun b o e => Nat.ne_of_lt (Heap.lt_size e)
    have kF : ∀ b o, h'.get? b = some o → (sortedHeap (h'.push (seqObj "list" (bs.map fun z => Value.ref z.1).toArray 0)) h'.objs.size (bs.map fun z => Value.ref z.1) out.toArray).get? b = some o := fun b o e => by
      rw [PyProof.Rows.sortedHeap_old (ne0 b o e) (by rw [size_push']; exact Nat.lt_succ_of_lt (Heap.lt_size e))]
      exact kb b o e
    have rv : Vals ((zs.map (·.1)).map V.ref) out := by
      rw [eout]
      have e : ∀ l : List (Addr × Addr × (List Key × Int)), Vals ((l.map (·.1)).map V.ref) (l.map fun z => Value.ref z.1) := by
        intro l
        induction l with
        | nil => exact .nil
        | cons z l ih => exact .cons rfl ih
      exact e _
    have J1 : Inv X pins σ H { s with heap := sortedHeap (h'.push (seqObj "list" (bs.map fun z => Value.ref z.1).toArray 0)) h'.objs.size (bs.map fun z => Value.ref z.1) out.toArray, toks := tk } := I1.kept (t' := tk) kF
    have hn0 : H h'.objs.size = none := I1.hok.fresh (Nat.le_refl _)
    have J2 : Inv X pins σ (upd H h'.objs.size (.lst ((zs.map (·.1)).map V.ref))) { s with heap := sortedHeap (h'.push (seqObj "list" (bs.map fun z => Value.ref z.1).toArray 0)) h'.objs.size (bs.map fun z => Value.ref z.1) out.toArray, toks := tk } :=
      J1.take (t' := tk) (fun b ob _ e => e) (I.fpOk (Nat.le_of_lt hlt) hn0) ⟨hlen, out, e', rv, by simpa using he'⟩
    obtain ⟨H2, J3, g, qt⟩ := DX.takeT (P := fun b vs => ∃ z ∈ bs, z.1 = b ∧ vs = [V.ref z.2.1, V.int z.2.2.2]) I as _ J2 nd fun b hb => by
      rw [← bsA] at hb
      obtain ⟨z, hzm, rfl⟩ := List.mem_map.mp hb
      obtain ⟨f1, t, f2⟩ := facts z hzm
      have hbl : s.heap.objs.size ≤ z.1 := Nat.le_of_lt (hG.above z.1 (by rw [← bsA]; exact List.mem_map.mpr ⟨z, hzm, rfl⟩))
      refine ⟨hbl, ?_, _, ⟨z, hzm, rfl, rfl⟩, fun H3 => ⟨(by show 2 ≤ sizeLine; decide), [Value.ref z.2.1, Value.int z.2.2.2 t], .cons rfl (.cons ⟨t, rfl⟩ .nil), ⟨_, kF _ _ f2, rfl, 0, rfl⟩⟩⟩
      rw [upd_ne (ne0 _ _ f2)]
      exact I.hok.fresh hbl
    have gr : Same H H2 := fun b o e => g b o (by rw [upd_ne (ne_of_none e hn0)]; exact e)
    refine ⟨.ref h'.objs.size, H2, J3, rfl, q h'.objs.size H2 (zs.map (·.1)) gr hn0 nk (g _ _ upd_same) ?_⟩
    rw [← srt]
    refine paired_map (F := fun b (c : List Key × Int) => ∃ q, H2 b = some (.tup [.ref q, .int c.2]) ∧ H2 q = some (.tup (c.1.map kV))) (fun z : Addr × Addr × (List Key × Int) => z.1) (fun z => z.2.2) zs fun z hzm => ?_
    have hzb := hperm.mem_iff.mp hzm
    obtain ⟨vs, ⟨z2, hz2, e1, e2⟩, hH⟩ := qt z.1 (by rw [← bsA]; exact List.mem_map.mpr ⟨z, hzb, rfl⟩)
    have ez : z2 = z := by
      obtain ⟨i, hi⟩ := List.mem_iff_getElem?.mp hz2
      obtain ⟨j, hj⟩ := List.mem_iff_getElem?.mp hzb
      have i1 : as[i]? = some z.1 := by rw [← bsA, List.getElem?_map, hi, ← e1]; rfl
      have j1 : as[j]? = some z.1 := by rw [← bsA, List.getElem?_map, hj]; rfl
      have eij : i = j := (List.getElem?_inj (List.getElem?_eq_some_iff.mp i1).1 nd).mp (i1.trans j1.symm)
      rw [eij, hj] at hi
      exact (Option.some.inj hi).symm
    rw [ez] at e2
    rw [e2] at hH
    exact ⟨z.2.1, hH, gr _ _ (facts z hzb).1⟩
end
end HmS

set_option Elab.async false
set_option maxRecDepth 100000
set_option maxHeartbeats 4000000
namespace HmS
open PySem PySem.Spec PyProof.Rows L2
open AutoSeq1 (wpAny_loadPart')
/-! ### enumerate(t), t a tuple -/
abbrev tupIt (l : Addr) : Obj := { cls := .type "tuple_iterator", data := .fields #[.ref l, .int 0 0] }
abbrev enumOf (it : Addr) : Obj := { cls := .type "enumerate", data := .fields #[.none, .bool false, .ref it, rawInt 0, .none, .none] }
theorem meets_enumT (l : Addr) (items : Array Value) : Meets (Builtin.«enumerate.__new__» ⟨[.type "enumerate", .ref l], []⟩)
    (fun _ R s => s.heap.IsTuple l items ∧ R (.ok (.ret (.ref (s.heap.push (tupIt l)).objs.size))) { s with heap := (s.heap.push (tupIt l)).push (enumOf s.heap.objs.size) }) :=
  .of_wp fun prog w A R s h => by
    obtain ⟨hp, g, d, tk, os⟩ := s
    obtain ⟨h1, h⟩ := h
    have sub := sub_enumerate
    have q1 : ∀ {A' : Around} {E : Value → Shared → Prop} {Q : Value → Shared → Prop}, Q (.ref hp.objs.size) ⟨hp.push (tupIt l), g, d, tk, os⟩ → wpAny (model prog w) A' (pyIter (.ref l)) Q E ⟨hp, g, d, tk, os⟩ :=
      fun q => (begins_tuple l items).iter prog w _ _ ⟨hp, g, d, tk, os⟩ _ h1 q
    wp_walk using q1
    refine wpAny_stack_any fun st => wpAny_pure ?_
    split
    · rename_i c _ _ _ _ _
      cases (c == Value.type "enumerate") <;> (wp_walk using q1; exact ⟨_, rfl, h⟩)
    · wp_walk using q1
      exact ⟨_, rfl, h⟩
theorem call_enumT {prog : Program} {w : World} {A : Around} {E : Value → Shared → Prop} {s : Shared} {l : Addr} {items : Array Value} {Q : Value → Shared → Prop} (hL : s.heap.IsTuple l items)
    (h : ∀ h', IsEnum h' (s.heap.objs.size + 1) s.heap.objs.size 0 .none → h'.IsTupleIter s.heap.objs.size l 0 → (∀ b o, s.heap.get? b = some o → h'.get? b = some o) → Q (.ref (s.heap.objs.size + 1)) { s with heap := h' }) :
    wpAny (model prog w) A (call (.type "enumerate") [.ref l]) Q E s := by
  refine callType_new F.called_enumerate (by decide) (F.typeCall_enumerate_1 _) (F.newCall_enumerate_1 _) (fun obj => F.args_object_init_2 obj _) F.entry_enumerate_new (meets_enumT l items) ⟨hL, ?_⟩
  have hz : (s.heap.push (tupIt l)).objs.size = s.heap.objs.size + 1 := Heap.size_push ..
  show _ ∧ _
  rw [hz]
  have he : ((s.heap.push (tupIt l)).push (enumOf s.heap.objs.size)).get? (s.heap.objs.size + 1) = some (enumOf s.heap.objs.size) := by
    rw [← hz]
    exact Heap.get?_push_size _ rfl
  exact ⟨⟨_, he, rfl⟩, h _ he ⟨_, Heap.get?_push_of_some _ (Heap.get?_push_size _ rfl), rfl, rfl⟩ fun b o x => Heap.get?_push_of_some _ (Heap.get?_push_of_some _ x)⟩
/-- the tuple at a, each item in a new pair with its place -/
def IteT (K : PySem.W.Frag) (a : Addr) : It :=
  ⟨fun i H => ∃ (xs : List V) (x : V), SqT K H a xs ∧ xs[i]? = some x, fun i H v H' => ∃ T x, v = .ref T ∧ H T = none ∧ H' = upd H T (.tup [.int (i : Nat), x]) ∧ ∀ xs, SqT K H a xs → xs[i]? = some x,
    fun i H => ∃ xs : List V, SqT K H a xs ∧ xs.length ≤ i⟩
theorem tup_ne {h : Heap} {a b : Addr} {items : Array Value} {o : Obj} {T : String} (p : h.IsTuple a items) (e : h.get? b = some o) (c : o.cls = .type T) (n : T ≠ "tuple") : a ≠ b := by
  rintro rfl
  obtain ⟨o', e', c', _⟩ := p
  rw [e] at e'
  cases e'
  rw [c] at c'
  injection c' with z
  exact n z
theorem turn_enumT {P : Program} {w : World} {K : PySem.W.Frag} {elts : List Expr} {kk : Nat} {tpos : Pos} (a e it : Addr) :
    Turn P w K (.Tuple elts kk tpos) (IteT K a) [e, it] e (fun i h => (∃ old, IsEnum h e it ((i : Nat) : Int) old) ∧ h.IsTupleIter it a i ∧ e ≠ it) where
  mem := by simp
  obj := fun i h st b hb => by
    obtain ⟨⟨old, he⟩, ⟨o, ho, hc, hd⟩, _⟩ := st
    rcases (show b = e ∨ b = it by simpa using hb) with z | z
    · rw [z]
      exact ⟨_, he, fun v q => nomatch q⟩
    · rw [z]
      exact ⟨o, ho, fun v q => by rw [hd] at q; cases q⟩
  keep := fun i h h' st k => by
    obtain ⟨⟨old, he⟩, hi, hne⟩ := st
    exact ⟨⟨old, k e (by simp) _ he⟩, hi.at fun o q => k it (by simp) o q, hne⟩
  item := by
    intro X hP hw hK hc i pins s σ H E I hf st hg
    subst hP hw hK
    obtain ⟨⟨old, he⟩, hit, hne⟩ := st
    obtain ⟨xs, x, hq, hx⟩ := hg
    obtain ⟨its, rv, p, hz⟩ := I.tuple hq
    have p' : s.heap.IsTuple a its.toArray := p
    obtain ⟨u, hu, ru⟩ := rv.get hx
    have nit : a ≠ it := by
      obtain ⟨o, ho, ch, _⟩ := id hit
      exact tup_ne p' ho ch (by decide)
    have nea : a ≠ e := tup_ne p' he rfl (by decide)
    have hel : e < s.heap.objs.size := Heap.lt_size he
    have hil : it < s.heap.objs.size := by
      obtain ⟨_, q, _⟩ := id hit
      exact Heap.lt_size q
    have hlt : i < its.toArray.size := by
      have := (List.getElem?_eq_some_iff.mp hu).1
      simpa using this
    refine wpAny_pyNext_enum_itemD (Draws.tuple (A := X.A.in1) (show X.A.in1.handled = none from I.ok.hd hc) it a nit its.toArray) he ⟨hit, p'⟩ hlt hne (by simp [hne, Ne.symm nea]) fun v h' tk hv ho hst hT hsz hk => ?_
    have evu : v = u := by
      have e1 : its[i]? = some v := by simpa using hv
      rw [hu] at e1
      exact (Option.some.inj e1).symm
    subst evu
    refine ⟨_, rfl, wpAny_letOwnedTupleGo_enum (s := { s with heap := h', toks := tk + 1 }) ho fun h2 he2 sb => ?_⟩
    have hT2 : h2.get? s.heap.objs.size = some { cls := .type "tuple", data := .seq #[.int i tk, v] } := (sb.2 _ (Nat.ne_of_gt hel)).trans hT
    have new : ObjOk X.prog X.w (upd H s.heap.objs.size (.tup [.int (i : Nat), x])) h2 s.heap.objs.size (.tup [.int (i : Nat), x]) :=
      ⟨by show 2 ≤ sizeLine; decide, [.int i tk, v], .cons ⟨_, rfl⟩ (.cons ru .nil), ⟨_, hT2, rfl, _, rfl⟩⟩
    have I1 : Inv X pins σ (upd H s.heap.objs.size (.tup [.int (i : Nat), x])) { s with heap := h2, toks := tk + 1 } :=
      I.turnedNew (ch := [e, it]) (fun b ob hb q => (sb.2 b (fun z => hb (by simp [z]))).trans (hk b ob (fun z => hb (by simp [z])) (fun z => hb (by simp [z])) q)) hf (Nat.le_refl _) new
    refine ⟨.ref s.heap.objs.size, _, I1, rfl, ⟨_, x, rfl, I.hok.fresh (Nat.le_refl _), rfl, fun ys hy => by rw [I.tuple_inj hy hq]; exact hx⟩, ⟨⟨v, ?_⟩, hst.1.at fun o q => (sb.2 it (Ne.symm hne)).trans q, hne⟩, fun b hb => ?_⟩
    · have e1 : ((i + 1 : Nat) : Int) = (i : Int) + 1 := by omega
      rw [e1]
      exact he2
    · have hb' : b < s.heap.objs.size := by
        rcases (show b = e ∨ b = it by simpa using hb) with z | z
        · rw [z]
          exact hel
        · rw [z]
          exact hil
      rw [upd_ne (Nat.ne_of_lt hb')]
      exact (hf b hb).1
  done := by
    intro X hP hw hK hc i pins s σ H E I hf st hg
    subst hP hw hK
    obtain ⟨⟨old, he⟩, hit, hne⟩ := st
    obtain ⟨xs, hq, hx⟩ := hg
    obtain ⟨its, rv, p, hz⟩ := I.tuple hq
    have p' : s.heap.IsTuple a its.toArray := p
    have nit : a ≠ it := by
      obtain ⟨o, ho, ch, _⟩ := id hit
      exact tup_ne p' ho ch (by decide)
    obtain ⟨f0, f1, f2, f3, f4, f5⟩ := hf it (by simp)
    have hl := rv.length
    have hdone : Draws X.prog X.w X.A.in1 it [it, a] i (fun _ _ => False) (fun j h => j = i ∧ h.IsTupleIter it a i ∧ h.IsTuple a its.toArray) := {
      live := fun _ _ st => let ⟨o, ho, _⟩ := st.2.1; ⟨o, ho⟩
      frame := fun _ _ _ st hk => ⟨st.1, st.2.1.at fun o e => hk it (by simp) o e, st.2.2.at fun o e => hk a (by simp) o e⟩
      item := fun j s Q E hj st _ => absurd hj (by rw [st.1]; exact Nat.lt_irrefl _)
      done := fun s Q E st hE => wpAny_nextOf_tuple_end (show X.A.in1.handled = none from I.ok.hd hc) st.2.1 st.2.2 (by simp; omega) hE }
    exact wpAny_pyNext_enum_endD hdone he ⟨rfl, hit, p'⟩ fun h' eb => ⟨rfl, I.turned (t' := s.toks) (fun b o hb q => eb b o hb q) f0 f1 f3 f4 f5⟩
  self := fun A i s Q E st h => let ⟨⟨_, he⟩, _⟩ := st; wpAny_pyIter_enum he h
def iEnumT (K : PySem.W.Frag) (ta : TA) : TI := fun σ H R => ta σ H fun vs H1 => ∃ a xs, vs = [.ref a] ∧ SqT K H1 a xs ∧ R (IteT K a) H1
theorem pi_enumT {X : Cx} {e : Expr} {ta : TA} {p pos tpos : Pos} {elts : List Expr} {kk : Nat} (hg : Gl X "enumerate") (hm : X.mg "enumerate" = none) (ha : PA X [e] ta) (hs : starEach [e] X.env = [(false, eval e X.env)] := by rfl) :
    PI X (.Tuple elts kk tpos) (.Call (.Name "enumerate" p) [e] [] pos) (iEnumT X.K ta) := by
  refine ⟨fun pins s σ H R I h => ?_⟩
  refine Call_ (ld_blt I hg hm boot_enumerate (PyProof.Rows.callWith_type1 (thn (ha.run pos pins s σ H _ I h) fun us s1 hq1 => ?_) hs rfl))
  obtain ⟨vs, H1, I1, r1, a, xs, rfl, hq, q⟩ := hq1
  cases r1 with
  | cons r rr =>
    cases rr
    cases r
    obtain ⟨its, rv, p', hz⟩ := I1.tuple hq
    refine call_enumT (show s1.heap.IsTuple a its.toArray from p') fun h' he hit hk => wpAny_pyIter_enum he ?_
    have I2 : Inv X pins σ H1 { s1 with heap := h' } := I1.kept (t' := s1.toks) hk
    refine ⟨s1.heap.objs.size + 1, [s1.heap.objs.size + 1, s1.heap.objs.size], _, _, H1, rfl, I2, turn_enumT a (s1.heap.objs.size + 1) s1.heap.objs.size, ⟨⟨.none, he⟩, hit, Nat.succ_ne_self _⟩, fun b hb => ?_, q⟩
    have hle : s1.heap.objs.size ≤ b := by
      rcases (show b = s1.heap.objs.size + 1 ∨ b = s1.heap.objs.size by simpa using hb) with z | z
      · rw [z]
        exact Nat.le_add_right _ _
      · rw [z]
        exact Nat.le_refl _
    exact I1.fpOk hle (I1.hok.fresh hle)
theorem walk_enumT {K : PySem.W.Frag} {a : Addr} {xs : List V} : Walk (IteT K a) xs.length (fun H => SqT K H a xs) (YPair (fun i => some (.int (i : Nat))) (fun i => xs[i]?)) where
  goes := fun i H hi h => ⟨xs, xs[i], h, by simp [hi]⟩
  stops := fun H h => ⟨xs, h, Nat.le_refl _⟩
  yields := fun i H x H' hi h y => by
    obtain ⟨T, z, e1, e2, e3, e4⟩ := y
    exact ⟨T, _, z, e1, e2, e3, rfl, e4 xs h⟩
end HmS

set_option Elab.async false
set_option maxRecDepth 100000
set_option maxHeartbeats 4000000
namespace Hm
open PySem L2
def topSt (i : Nat) : Stmt := PySem.Challenge.pw_hingemount_k04_gaps_and_doubles.main.body.getD i (.Pass ⟨0, 0, 0, 0⟩)
abbrev stCell : Stmt := topSt 38 -- row _law_cell_at
abbrev stPen : Stmt := topSt 39 -- row _law_pen
abbrev stDraw : Stmt := topSt 40 -- row _law_draw

/-! a pen: a list of four ints, the last one below its modulus -/
def PenAt (H : Hp) (p : Addr) : Prop := ∃ a b c d : Int, H p = some (.lst [.int a, .int b, .int c, .int d]) ∧ 0 ≤ d ∧ d < 1000000007
/-- all but p as it was -/
def But (p : Addr) (H H' : Hp) : Prop := ∀ b, b ≠ p → H' b = H b
def spCellAt (K : PySem.W.Frag) : Sp := fun vs H Q _ => ∃ (l : Addr) (ns : List Int) (j : Nat),
  vs = [.ref l, .int (j : Int)] ∧ SqL K H l (ns.map V.int) ∧ ∀ z : Int, Q (.int z) H
def spPenOf : Sp := fun vs H Q _ => ∃ z : Int, vs = [.int z] ∧ ∀ p H', H p = none → PenAt H' p → But p H H' → Q (.ref p) H'
def spDrawn : Sp := fun vs H Q _ => ∃ (p : Addr) (n : Int), vs = [.ref p, .int n] ∧ 0 < n ∧ n < 1073741824 ∧ PenAt H p ∧
  ∀ (r : Int) H', 0 ≤ r → r < n → PenAt H' p → But p H H' → Q (.int r) H'
structure TxtLen (mg : Str → Option Value) : Prop where
  len : mg "len" = none
  int : mg "int" = none
section
variable {P : Program} {w : World} {K : PySem.W.Frag} {mg : Str → Option Value} {base : Heap}
theorem sc_cell : FnScope ["_law_script", "_law_k"] ["_law_script", "_law_k"] (defScope stCell) :=
  ⟨rfl, rfl, rfl, by decide +kernel, rfl, by decide +kernel, by decide +kernel⟩
theorem ok_cell {f : Addr} {fd : FuncData} (F : Fun K "_law_cell_at" "_law_cell_at" stCell f fd) (T : TxtLen mg) :
    FnOk P w K mg base CX0 1 f fd ["_law_script", "_law_k"] (spCellAt K) := by
  refine F.ok sc_cell (fun vs H Q E h => ?_) (fun cdv A outer s H vs Q E hr h => ?_)
  · obtain ⟨l, ns, j, rfl, _⟩ := h
    rfl
  · obtain ⟨l, ns, j, rfl, hS, q⟩ := h
    refine ⟨_, pss_cons (ps_if (pt_cmpR op_lt (pv 1) (pe_callB call_len_seq (by rfl) T.len PySem.boot_len (pa_cons (pv 0) pa_nil)) (nomark _))
      (pss_one (ps_ret (pe_ix ix_list (pv 0) (pv 1) (fun _ _ => rfl)))) pss_nil) (pss_one (ps_ret pe_int)), ?_⟩
    refine ⟨_, rfl, _, rfl, l, _, rfl, .inl hS, _, _, rfl, rfl, _, rfl, ?_⟩
    refine ite2 (fun c => ?_) (fun c => q 0)
    have c' := of_decide_eq_true c
    rw [List.length_map] at c'
    have hj : j < ns.length := by omega
    refine ⟨_, rfl, _, rfl, l, _, _, .int ns[j], rfl, rfl, hS, ?_, q _⟩
    exact atI_nat (by rw [List.getElem?_map, List.getElem?_eq_getElem hj]; rfl)
theorem sc_pen : FnScope ["_law_cell"] ["_law_cell"] (defScope stPen) := ⟨rfl, rfl, rfl, by decide +kernel, rfl, by decide +kernel, by decide +kernel⟩
theorem ok_pen {f : Addr} {fd : FuncData} (F : Fun K "_law_pen" "_law_pen" stPen f fd) (T : TxtLen mg) :
    FnOk P w K mg base CX0 1 f fd ["_law_cell"] spPenOf := by
  refine F.ok sc_pen (fun vs H Q E h => ?_) (fun cdv A outer s H vs Q E hr h => ?_)
  · obtain ⟨z, rfl, _⟩ := h
    rfl
  · obtain ⟨z, rfl, q⟩ := h
    refine ⟨_, pss_one (ps_ret (pe_lst (pa_cons (pv 0) (pa_cons (pe_callTy call_int1 (by rfl) T.int (by decide +kernel)
        (pa_cons (pe_cmpR op_ge (pv 0) (pe_op op_pow pe_int pe_int) (nomark _)) pa_nil))
      (pa_cons pe_int (pa_cons (pe_op op_mod (pv 0) pe_int) pa_nil)))))), ?_⟩
    refine ⟨_, rfl, _, rfl, _, _, rfl, rfl, ⟨by decide, by decide, by decide⟩, _, _, rfl, rfl, .inr ⟨_, rfl, ?_⟩⟩
    refine ⟨_, rfl, _, _, rfl, rfl, (by show (0 : Int) < 1000000007; decide), (by show 4 ≤ sizeLine; decide), fun p hp => ?_⟩
    exact q p _ hp ⟨_, _, _, _, upd_same, Int.emod_nonneg _ (by decide), Int.emod_lt_of_pos _ (by decide)⟩ (fun b hb => upd_ne hb)
end
end Hm
namespace Hm
open PySem L2
section
variable {P : Program} {w : World} {K : PySem.W.Frag} {mg : Str → Option Value} {base : Heap}
theorem sc_draw : FnScope ["_law_pen_here", "_law_bound", "_law_found", "_law_stir"] ["_law_pen_here", "_law_bound"] (defScope stDraw) :=
  ⟨rfl, rfl, rfl, by decide +kernel, rfl, by decide +kernel, by decide +kernel⟩
theorem ok_draw {f : Addr} {fd : FuncData} (F : Fun K "_law_draw" "_law_draw" stDraw f fd) :
    FnOk P w K mg base CX0 1 f fd ["_law_pen_here", "_law_bound"] spDrawn := by
  refine F.ok sc_draw (fun vs H Q E h => ?_) (fun cdv A outer s H vs Q E hr h => ?_)
  · obtain ⟨p, n, rfl, _⟩ := h
    rfl
  · obtain ⟨p, n, rfl, n0, n1, ⟨a, b, c, d, hp, d0, d1⟩, q⟩ := h
    refine ⟨_, pss_cons (ps_if (PW.pt (pw_and (pt_cmpR op_eq (pe_ix ix_list (pv 0) pe_int (fun _ _ => rfl)) pe_int (nomark _))
          (pw_and1 (pt_cmpR op_gt (pe_ix ix_list (pv 0) pe_int (fun _ _ => rfl)) pe_int (nomark _)))))
        (pss_cons (ps_set (i := 2) sc_draw.nd rfl (Or.inl rfl) (pe_op op_mod (pe_ix ix_list (pv 0) pe_int (fun _ _ => rfl)) (pv 1)))
        (pss_cons (ps_asg (pe_op op_fdiv (pe_ix ix_list (pv 0) pe_int (fun _ _ => rfl)) (pv 1)) (pg_sub (pv 0) pe_int set_list))
        (pss_one (ps_ret (pv 2))))) pss_nil)
      (pss_cons (ps_asg (pe_op op_add (pe_ix ix_list (pv 0) pe_int (fun _ _ => rfl)) pe_int) (pg_sub (pv 0) pe_int set_list))
      (pss_cons (ps_set (i := 3) sc_draw.nd rfl (Or.inl rfl)
          (pe_op op_mod (pe_op op_mul (pe_op op_add (pe_ix ix_list (pv 0) pe_int (fun _ _ => rfl)) pe_int) (pe_op op_add pe_int (pe_op op_mul pe_int (pe_ix ix_list (pv 0) pe_int (fun _ _ => rfl))))) pe_int))
      (pss_cons (ps_set (i := 3) sc_draw.nd rfl (Or.inl rfl)
          (pe_op op_mod (pe_op op_add (pe_op op_add (pe_op op_mul (pv 3) (pv 3)) (pe_op op_mul pe_int (pe_ix ix_list (pv 0) pe_int (fun _ _ => rfl)))) pe_int) pe_int))
      (pss_one (ps_ret (pe_op op_mod (pe_op op_fdiv (pe_op op_mod (pe_op op_mul (pv 3) pe_int) pe_int) pe_int) (pv 1))))))), ?_⟩
    have back : ∀ r : Int, 0 ≤ r % n ∧ r % n < n := fun r => ⟨Int.emod_nonneg _ (by omega), Int.emod_lt_of_pos _ n0⟩
    have g0 : ∀ {x y z u : V}, atI [x, y, z, u] 0 = some x := rfl
    -- the test; both ways of it
    refine ⟨_, rfl, p, _, _, _, rfl, rfl, SqL.of hp, rfl, rfl, _, rfl, ?_⟩
    refine (fun slow => ite2 (fun _ => ⟨_, rfl, p, _, _, _, rfl, rfl, SqL.of hp, rfl, _, _, rfl, rfl, _, rfl, ite2 (fun _ => ?fast) (fun _ => slow)⟩) (fun _ => slow)) ?slow
    case fast =>
      refine ⟨_, rfl, p, _, _, _, rfl, rfl, SqL.of hp, rfl, _, rfl, _, _, rfl, rfl, n0, ?_⟩
      refine ⟨_, rfl, p, _, _, _, rfl, rfl, SqL.of hp, rfl, _, rfl, _, _, rfl, rfl, ⟨n0, n1⟩, _, rfl, p, _, _, _, rfl, rfl, hp, rfl, _, rfl, ?_⟩
      exact q _ _ (back _).1 (back _).2 ⟨_, b, c, d, upd_same, d0, d1⟩ (fun b hb => upd_ne hb)
    case slow =>
      refine ⟨_, rfl, p, _, _, _, rfl, rfl, SqL.of hp, rfl, _, _, rfl, rfl, _, rfl, p, _, _, _, rfl, rfl, hp, rfl, ?_⟩
      refine ⟨_, rfl, p, _, _, _, rfl, rfl, SqL.of upd_same, rfl, _, _, rfl, rfl, _, rfl, p, _, _, _, rfl, rfl, SqL.of upd_same, rfl, _, _, rfl, rfl, .inl ⟨by decide, by decide⟩, _, _, rfl, rfl, _, _, rfl, rfl, .inl ⟨by omega, by omega⟩, _, _, rfl, rfl, (by show (0 : Int) < 2147483647; decide), ?_⟩
      generalize hx : ((d + 17) * (69621 + 2 * (c + 1))) % 2147483647 = x
      have x0 : 0 ≤ x := by rw [← hx]; exact Int.emod_nonneg _ (by decide)
      have x1 : x < 2147483647 := by rw [← hx]; exact Int.emod_lt_of_pos _ (by decide)
      refine ⟨_, rfl, _, rfl, _, _, rfl, rfl, .inl ⟨by omega, by omega⟩, _, rfl, p, _, _, _, rfl, rfl, SqL.of upd_same, rfl, _, _, rfl, rfl, .inl ⟨by decide, by decide⟩, _, _, rfl, rfl, _, _, rfl, rfl, _, _, rfl, rfl, (by show (0 : Int) < 2147483629; decide), ?_⟩
      generalize hy : (x * x + 40503 * (c + 1) + 5) % 2147483629 = y
      have y0 : 0 ≤ y := by rw [← hy]; exact Int.emod_nonneg _ (by decide)
      have y1 : y < 2147483629 := by rw [← hy]; exact Int.emod_lt_of_pos _ (by decide)
      refine ⟨_, rfl, _, _, rfl, rfl, .inl ⟨by omega, by omega⟩, _, _, rfl, rfl, (by show (0 : Int) < 2147483647; decide), _, _, rfl, rfl, ⟨by decide, by decide⟩, _, rfl, _, _, rfl, rfl, n0, ?_⟩
      exact q _ _ (back _).1 (back _).2 ⟨a, b, c + 1, d, upd_same, d0, d1⟩ (fun b hb => upd_ne hb)
end
end Hm

set_option Elab.async false
set_option maxRecDepth 100000
set_option maxHeartbeats 4000000
namespace Hm
open PySem PySem.Spec PyProof.Rows L2 HmS
abbrev stList : Stmt := topSt 41 -- row _law_list
theorem seqset {te : TE} {i : Nat} {u : TS} {D : Ends} {σ : L2.St} {H : Hp} (h : te σ H fun x H1 => u D (σ.set i (some x)) H1) : tSeq (tAsg te (gName i)) u D σ H := h
theorem retset {te : TE} {D : Ends} {σ : L2.St} {H : Hp} (h : te σ H D.rt) : tRet te D σ H := h
theorem same_upd {H : Hp} {l : Addr} {o : HO} (h : H l = none) : Same H (upd H l o) := fun b u e => by rw [upd_ne (ne_of_none e h)]; exact e
theorem yesT {σ : L2.St} {H : Hp} {A B : Hp → Prop} (h : A H) : tYes σ H fun b H1 => if b = true then A H1 else B H1 := (if_pos rfl : (if true = true then A H else B H) = A H).mpr h
/-! ### a list of sets, as data and in the heap -/
abbrev SetT := Str × Int × Int
abbrev setLt (s t : SetT) : Prop := s.1.cps.toList < t.1.cps.toList ∨ (s.1 = t.1 ∧ s.2.1 < t.2.1)
def landsL : List Str := ["a", "b", "ab", "abcdefgh"]
structure SetOk (s : SetT) : Prop where
  land : s.1 ∈ landsL
  y0 : 1840 ≤ s.2.1
  y1 : s.2.1 ≤ 2100
  m0 : 1 ≤ s.2.2
  m1 : s.2.2 ≤ 6
structure BookOk (sets : List SetT) : Prop where
  len0 : 1 ≤ sets.length
  len1 : sets.length ≤ 4
  ok : ∀ s ∈ sets, SetOk s
  rise : sets.Pairwise setLt
def SetAt (H : Hp) (a : Addr) (s : SetT) : Prop := H a = some (.tup [.str s.1, .int s.2.1, .int s.2.2])
def Book (H : Hp) (b : Addr) (sets : List SetT) : Prop := BookOk sets ∧ ∃ as : List Addr, H b = some (.tup (as.map V.ref)) ∧ Paired (SetAt H) as sets
/-- what was tracked stays, but at p -/
def Keep (p : Addr) (H H' : Hp) : Prop := ∀ c o, c ≠ p → H c = some o → H' c = some o
theorem Keep.refl {p : Addr} {H : Hp} : Keep p H H := fun _ _ _ e => e
theorem Keep.trans {p : Addr} {H H1 H2 : Hp} (a : Keep p H H1) (b : Keep p H1 H2) : Keep p H H2 := fun c o h e => b c o h (a c o h e)
theorem But.keep {p : Addr} {H H' : Hp} (b : But p H H') : Keep p H H' := fun c o h e => by rw [b c h]; exact e
theorem Same.keep {p : Addr} {H H' : Hp} (s : Same H H') : Keep p H H' := fun c o _ e => s c o e
theorem keep_upd {p a : Addr} {H : Hp} {o : HO} (h : H a = none) : Keep p H (upd H a o) := fun c u _ e => by rw [upd_ne (ne_of_none e h)]; exact e
theorem pen_upd {p a : Addr} {H : Hp} {o : HO} (x : PenAt H p) (h : H a = none) : PenAt (upd H a o) p := by
  obtain ⟨x1, x2, x3, x4, e, r⟩ := x
  exact ⟨x1, x2, x3, x4, by rw [upd_ne (ne_of_none e h)]; exact e, r⟩
theorem pen_ne {p a : Addr} {H : Hp} {o : HO} (x : PenAt H p) (h : H a = some o) (d : ∀ xs, o ≠ .lst xs) : a ≠ p := by
  obtain ⟨x1, x2, x3, x4, e, r⟩ := x
  intro z
  rw [z, e] at h
  exact d _ (Option.some.inj h).symm
theorem pen_ne_none {p a : Addr} {H : Hp} (x : PenAt H p) (h : H a = none) : a ≠ p := by
  obtain ⟨x1, x2, x3, x4, e, r⟩ := x
  intro z
  rw [z, e] at h
  cases h
theorem at_draw {α : Type} {xs : List α} {r : Int} (h0 : 0 ≤ r) (h1 : r < xs.length) : ∃ v, v ∈ xs ∧ atI xs r = some v := by
  have hj : r.toNat < xs.length := by omega
  refine ⟨xs[r.toNat], List.getElem_mem hj, ?_⟩
  have e : ((r.toNat : Nat) : Int) = r := Int.toNat_of_nonneg h0
  have z := atI_nat (List.getElem?_eq_getElem hj)
  rw [e] at z
  exact z
theorem Paired.mp {α β : Type} {F G : α → β → Prop} (h : ∀ a b, F a b → G a b) : ∀ {l : List α} {m : List β}, Paired F l m → Paired G l m
  | _, _, .nil => .nil
  | _, _, .cons a t => .cons (h _ _ a) (Paired.mp h t)
theorem Book.keep {p b : Addr} {H H' : Hp} {sets : List SetT} (k : Keep p H H') (pen : PenAt H p) (x : Book H b sets) : Book H' b sets := by
  obtain ⟨ok, as, e, pr⟩ := x
  exact ⟨ok, as, k _ _ (pen_ne pen e fun _ z => by cases z) e, Paired.mp (fun a s q => k _ _ (pen_ne pen q fun _ z => by cases z) q) pr⟩
theorem Book.same {b : Addr} {H H' : Hp} {sets : List SetT} (k : Same H H') (x : Book H b sets) : Book H' b sets := by
  obtain ⟨ok, as, e, pr⟩ := x
  exact ⟨ok, as, k _ _ e, Paired.mp (fun a s q => k _ _ q) pr⟩
/-! ### the dict of lands and years -/
def entS (s : SetT) : List Key × V := ([Sum.inr s.1, Sum.inl s.2.1], .int s.2.2)
theorem put_ent (ps : List SetT) (l : Str) (y m : Int) : ∃ ps' : List SetT, putK (ps.map entS) [Sum.inr l, Sum.inl y] (.int m) = ps'.map entS ∧ ps'.length ≤ ps.length + 1 ∧ 0 < ps'.length ∧ ∀ s ∈ ps', s ∈ ps ∨ s = (l, y, m) := by
  unfold putK
  by_cases a : ((ps.map entS).any fun kv => decide (kv.1 = [Sum.inr l, Sum.inl y])) = true
  · rw [if_pos a]
    refine ⟨ps.map fun s => if s.1 = l ∧ s.2.1 = y then (l, y, m) else s, ?_, by simp, ?_, fun s hs => ?_⟩
    · rw [List.map_map, List.map_map]
      refine List.map_congr_left fun s _ => ?_
      show (if (entS s).1 = [Sum.inr l, Sum.inl y] then ((entS s).1, V.int m) else entS s) = entS (if s.1 = l ∧ s.2.1 = y then (l, y, m) else s)
      by_cases c : s.1 = l ∧ s.2.1 = y
      · rw [if_pos c, if_pos (by simp [entS, c.1, c.2])]
        simp [entS, c.1, c.2]
      · rw [if_neg c, if_neg (fun z => c (by simpa [entS] using z))]
    · rw [List.length_map]
      cases ps with
      | nil => simp at a
      | cons _ _ => simp
    · obtain ⟨t, ht, rfl⟩ := List.mem_map.mp hs
      by_cases c : t.1 = l ∧ t.2.1 = y
      · rw [if_pos c]
        exact .inr rfl
      · rw [if_neg c]
        exact .inl ht
  · rw [if_neg a]
    refine ⟨ps ++ [(l, y, m)], by rw [List.map_append]; rfl, by simp, by simp, fun s hs => ?_⟩
    rcases List.mem_append.mp hs with h | h
    · exact .inl h
    · exact .inr (List.mem_singleton.mp h)
theorem draw_run {σ : L2.St} {H : Hp} {Q : VK} {p : Addr} {n : Int} (h0 : σ[0]? = some (some (.ref p))) (pen : PenAt H p) (n0 : 0 < n) (n1 : n < 1073741824) (q : ∀ (r : Int) H', 0 ≤ r → r < n → PenAt H' p → But p H H' → Q (.int r) H') :
    tCall spDrawn [] E0 (tCons (tVar 0) (tCons (tC (.int n)) tNil)) σ H Q := ⟨_, h0, p, n, rfl, n0, n1, pen, q⟩
theorem valV_mem {κ : Type} [DecidableEq κ] : ∀ {kvs : List (κ × V)} {k : κ} {v : V}, (kvs.map (·.1)).Nodup → (k, v) ∈ kvs → valV kvs k = some v
  | [], _, _, _, h => by simp at h
  | (k0, v0) :: r, k, v, nd, h => by
    rw [List.map_cons, List.nodup_cons] at nd
    rcases List.mem_cons.mp h with e | h
    · cases e
      exact valV_pos rfl
    · have ne : ¬ k0 = k := fun e => nd.1 (by rw [e]; exact List.mem_map.mpr ⟨_, h, rfl⟩)
      rw [valV_neg ne]
      exact valV_mem nd.2 h
theorem dl_set (s t : SetT) : PySem.W.dataLt (keyD (entS s).1) (keyD (entS t).1) = decide (setLt s t) := by
  show PySem.W.dataLt (.tuple [.str s.1, .int s.2.1]) (.tuple [.str t.1, .int t.2.1]) = _
  rw [PySem.W.dataLt_pair (by simp [PySem.W.alike]) (by simp [PySem.W.alike])]
  by_cases e : s.1 = t.1
  · have e1 : PyData.eqv (.str s.1) (.str t.1) = true := by rw [e]; simp [PyData.eqv]
    rw [if_pos e1]
    by_cases e2 : s.2.1 = t.2.1
    · rw [if_pos (by rw [e2]; simp [PyData.eqv])]
      refine (decide_eq_false ?_).symm
      rintro (z | z)
      · rw [e] at z
        exact absurd z (List.lt_irrefl _)
      · omega
    · rw [if_neg (by simpa [PyData.eqv] using e2), PySem.W.dataLt_int]
      refine decide_eq_decide.mpr ⟨fun z => .inr ⟨e, z⟩, fun z => ?_⟩
      rcases z with z | z
      · rw [e] at z
        exact absurd z (List.lt_irrefl _)
      · exact z.2
  · rw [if_neg (by simpa [PyData.eqv] using e), PySem.W.dataLt_str]
    refine decide_eq_decide.mpr ⟨fun z => .inl z, fun z => ?_⟩
    rcases z with z | z
    · exact z
    · exact absurd z.1 e
theorem set_tri {s t : SetT} (n : ¬ setLt t s) (d : (entS s).1 ≠ (entS t).1) : setLt s t := by
  by_cases e : s.1 = t.1
  · right
    refine ⟨e, ?_⟩
    have h1 : ¬ t.2.1 < s.2.1 := fun z => n (.inr ⟨e.symm, z⟩)
    have h2 : s.2.1 ≠ t.2.1 := fun z => d (by simp [entS, e, z])
    omega
  · left
    have h1 : ¬ t.1.cps.toList < s.1.cps.toList := fun z => n (.inl z)
    exact Std.lt_of_le_of_ne h1 fun z => e (PySem.W.str_of_cps z)
/-- the pairs of a key tuple's address and its set, rising -/
def sortS (bs : List Addr) (ps : List SetT) : List (Addr × SetT) := (bs.zip ps).mergeSort (PySem.W.dataLe false fun z => keyD (entS z.2).1)
theorem sortS_refs (bs : List Addr) (ps : List SetT) : (((bs.zip (ps.map entS)).mergeSort (PySem.W.dataLe false fun z => keyD z.2.1)).map fun z => V.ref z.1) = (sortS bs ps).map fun z => V.ref z.1 := by
  have e : bs.zip (ps.map entS) = (bs.zip ps).map fun z => (z.1, entS z.2) := by
    rw [List.zip_map_right]
    rfl
  unfold sortS
  rw [e, ← PySem.W.sort_maps (r := PySem.W.dataLe false fun z : Addr × SetT => keyD (entS z.2).1) (fun z : Addr × SetT => (z.1, entS z.2)) (fun a _ b _ => rfl), List.map_map]
  rfl
theorem sortS_perm (bs : List Addr) (ps : List SetT) : (sortS bs ps).Perm (bs.zip ps) := List.mergeSort_perm _ _
theorem sortS_sets {bs : List Addr} {ps : List SetT} (hl : bs.length = ps.length) : ((sortS bs ps).map (·.2)).Perm ps := by
  have e := (sortS_perm bs ps).map (·.2)
  rw [List.map_snd_zip (by omega)] at e
  exact e
theorem sortS_rise {bs : List Addr} {ps : List SetT} (hl : bs.length = ps.length) (nd : (ps.map fun s => (entS s).1).Nodup) : ((sortS bs ps).map (·.2)).Pairwise setLt := by
  have h1 : (sortS bs ps).Pairwise (fun a b => PySem.W.dataLe false (fun z : Addr × SetT => keyD (entS z.2).1) a b = true) := PySem.W.sort_pairwise (PySem.W.sortLe_total _ _ _) _
  have h2 : (((sortS bs ps).map (·.2)).map fun s => (entS s).1).Nodup := ((sortS_sets hl).map _).nodup_iff.mpr nd
  rw [List.Nodup, List.pairwise_map, List.pairwise_map] at h2
  rw [List.pairwise_map]
  refine (h1.and h2).imp fun {a b} h => ?_
  have h3 : (!PySem.W.dataLt (keyD (entS b.2).1) (keyD (entS a.2).1)) = true := h.1
  rw [dl_set] at h3
  refine set_tri (fun z => ?_) h.2
  rw [decide_eq_true z] at h3
  cases h3
theorem isKeys_zip {H : Hp} : ∀ {ps : List SetT} {bs : List Addr}, IsKeys H (ps.map entS) bs → bs.length = ps.length ∧ ∀ z ∈ bs.zip ps, H z.1 = some (.tup [.str z.2.1, .int z.2.2.1])
  | [], bs, h => by
    unfold IsKeys at h
    cases h
    exact ⟨rfl, fun z hz => by simp at hz⟩
  | s :: ps, bs, h => by
    unfold IsKeys at h
    cases h with
    | cons h1 h2 =>
      obtain ⟨l, q⟩ := isKeys_zip (ps := ps) h2
      refine ⟨by simp [l], fun z hz => ?_⟩
      rw [List.zip_cons_cons] at hz
      rcases List.mem_cons.mp hz with rfl | hz
      · exact h1
      · exact q z hz
theorem Paired.snoc {α β : Type} {F : α → β → Prop} {a : α} {b : β} (h : F a b) : ∀ {l : List α} {m : List β}, Paired F l m → Paired F (l ++ [a]) (m ++ [b])
  | _, _, .nil => .cons h .nil
  | _, _, .cons x t => .cons x (Paired.snoc h t)
def spListOf : Sp := fun vs H Q _ => ∃ p : Addr, vs = [.ref p] ∧ PenAt H p ∧ ∀ (H' : Hp) (b : Addr) (sets : List SetT), Keep p H H' → PenAt H' p → Book H' b sets → Q (.ref b) H'
structure TxtList (mg : Str → Option Value) (fD : Addr) : Prop where
  range : mg "range" = none
  sorted : mg "sorted" = none
  tuple : mg "tuple" = none
  gD : mg "_law_draw" = some (.ref fD)
section
variable {P : Program} {w : World} {K : PySem.W.Frag} {mg : Str → Option Value} {base : Heap}
abbrev nList : List Str := ["_law_pen_here", "_law_found", "_law_k", "_law_land", "_law_year"]
theorem sc_list : FnScope nList ["_law_pen_here"] (defScope stList) := ⟨rfl, rfl, rfl, by decide +kernel, rfl, by decide +kernel, by decide +kernel⟩
theorem ok_list {f fD : Addr} {fd fdD : FuncData} (F : Fun K "_law_list" "_law_list" stList f fd) (T : TxtList mg fD) (kD : PySem.W.keepIn K (.ref fD) = true)
    (GD : FnOk P w K mg base CX0 1 fD fdD ["_law_pen_here", "_law_bound"] spDrawn) (bD : Binds K fdD ["_law_pen_here", "_law_bound"] []) :
    FnOk P w K mg base CX0 2 f fd ["_law_pen_here"] spListOf := by
  refine F.ok sc_list (fun vs H Q E h => ?_) (fun cdv A outer s H vs Q E hr h => ?_)
  · obtain ⟨p, rfl, _⟩ := h
    rfl
  · obtain ⟨p, rfl, pen, q⟩ := h
    have hu := hu_of hr
    refine ⟨_, pss_cons (ps_set (i := 1) sc_list.nd rfl (Or.inr rfl) pe_dnewT)
      (pss_cons (ps_for PassesOwn.never rfl (pi_range1 (by rfl) T.range (pa_cons (pe_op op_add pe_int (pe_call GD hr (by rfl) T.gD kD bD .nil pass0 (pa_cons (pv 0) (pa_cons pe_int pa_nil)))) pa_nil)) (pg_name (i := 2) sc_list.nd rfl (Or.inl rfl))
        (pss_cons (ps_set (i := 3) sc_list.nd rfl (Or.inl rfl) (pe_ix ix_list (pe_lst (pa_cons pe_str (pa_cons pe_str (pa_cons pe_str (pa_cons pe_str pa_nil))))) (pe_call GD hr (by rfl) T.gD kD bD .nil pass0 (pa_cons (pv 0) (pa_cons pe_int pa_nil))) (fun _ _ => rfl)))
        (pss_cons (ps_set (i := 4) sc_list.nd rfl (Or.inl rfl) (pe_ix ix_list (pe_lst (pa_cons pe_int (pa_cons pe_int (pa_cons pe_int (pa_cons (pe_op op_add pe_int (pe_call GD hr (by rfl) T.gD kD bD .nil pass0 (pa_cons (pv 0) (pa_cons pe_int pa_nil)))) pa_nil)))))
            (pe_call GD hr (by rfl) T.gD kD bD .nil pass0 (pa_cons (pv 0) (pa_cons pe_int pa_nil))) (fun _ _ => rfl)))
        (pss_one (ps_dput hu (pv 1) (pe_tup (pa_cons (pv 3) (pa_cons (pv 4) pa_nil))) (pe_op op_add pe_int (pe_call GD hr (by rfl) T.gD kD bD .nil pass0 (pa_cons (pv 0) (pa_cons (pe_ix ix_list (pe_lst (pa_cons pe_int (pa_cons pe_int pa_nil)))
            (pe_call GD hr (by rfl) T.gD kD bD .nil pass0 (pa_cons (pv 0) (pa_cons pe_int pa_nil))) (fun _ _ => rfl)) pa_nil)))) rfl)))))
      (pss_one (ps_ret (pe_callTy call_tuple_of (by rfl) T.tuple (by decide +kernel) (pa_cons (pe_lc (own := [("_law_land", 3), ("_law_year", 4)]) (g := gTup K 2 (gCons (gName 3) (gCons (gName 4) gNil))) (tt := tYes) rfl sc_list.nd
          (pi_list (pe_callB (cr_sortDT rfl hr.units) (by rfl) T.sorted (by decide +kernel) (pa_cons (pv 1) pa_nil)))
          (blkOk_by (N := nList) (sc := defScope stList) (by decide +kernel)) (fun _ _ _ _ _ => by exact pg_tup rfl (pgs_cons (pg_name (i := 3) sc_list.nd rfl (Or.inl rfl)) (pgs_cons (pg_name (i := 4) sc_list.nd rfl (Or.inl rfl)) pgs_nil)))
          (fun _ _ _ _ _ => pts_nil) (fun _ _ _ _ _ => pe_tup (pa_cons (pv 3) (pa_cons (pv 4) (pa_cons (pe_dget hu (pv 1) (pe_tup (pa_cons (pv 3) (pa_cons (pv 4) pa_nil))) (fun _ _ => rfl)) pa_nil))))) pa_nil))))), ?_⟩
    refine seqset (fun d hd => ?_)
    have pen0 := pen_upd (o := .dT []) pen hd
    have dp : d ≠ p := pen_ne_none pen hd
    have keep : ∀ {H1 H2 : Hp} {o : HO}, H1 d = some o → But p H1 H2 → H2 d = some o := fun e b => by rw [b d dp]; exact e
    refine draw_run rfl pen0 (by decide) (by decide) fun r0 H1 a0 a1 pen1 but1 => ⟨_, _, rfl, rfl, _, rfl, by omega, by omega, ?_⟩
    have k1 : Keep p H H1 := (keep_upd hd).trans but1.keep
    refine for_range (lo := 0) (fun i σ H' => ∃ (ps : List SetT) (v2 v3 v4 : Option V), σ = [some (.ref p), some (.ref d), v2, v3, v4] ∧ Keep p H H' ∧ PenAt H' p ∧ H' d = some (.dT (ps.map entS)) ∧ ps.length ≤ i ∧ (0 < i → 0 < ps.length) ∧ ∀ s ∈ ps, SetOk s)
      ⟨[], none, none, none, rfl, k1, pen1, keep upd_same but1, Nat.le_refl _, fun z => absurd z (Nat.lt_irrefl _), fun s hs => by simp at hs⟩ ?_ ?_
    · rintro i σ H2 hi ⟨ps, v2, v3, v4, rfl, k2, pen2, hd2, hl2, hp2, ok2⟩
      refine seqset ⟨by decide, fun l hl => draw_run rfl (pen_upd pen2 hl) (by decide) (by decide) fun r H3 b0 b1 pen3 but3 => ?_⟩
      obtain ⟨vl, hvl, atl⟩ := at_draw (xs := [V.str "a", V.str "b", V.str "ab", V.str "abcdefgh"]) b0 b1
      obtain ⟨zl, rfl, hzl⟩ : ∃ z, vl = V.str z ∧ z ∈ landsL := by
        simp only [List.mem_cons, List.not_mem_nil, or_false] at hvl
        rcases hvl with rfl | rfl | rfl | rfl <;> exact ⟨_, rfl, by decide +kernel⟩
      refine ⟨l, _, r, _, rfl, rfl, SqL.of (by rw [but3 l (pen_ne_none pen2 hl)]; exact upd_same), atl, ?_⟩
      have k3 : Keep p H H3 := (k2.trans (keep_upd hl)).trans but3.keep
      have hd3 := keep (by rw [upd_ne (ne_of_none hd2 hl)]; exact hd2) but3
      refine seqset (draw_run rfl pen3 (by decide) (by decide) fun ry H4 c0 c1 pen4 but4 => ⟨_, _, rfl, rfl, by show 4 ≤ sizeLine; decide, fun l2 hl2 => draw_run rfl (pen_upd pen4 hl2) (by decide) (by decide) fun r2 H5 d0 d1 pen5 but5 => ?_⟩)
      obtain ⟨vy, hvy, aty⟩ := at_draw (xs := [V.int 1840, V.int 1900, V.int 2100, V.int (1840 + ry)]) d0 d1
      obtain ⟨zy, rfl, hzy⟩ : ∃ z, vy = V.int z ∧ 1840 ≤ z ∧ z ≤ 2100 := by
        simp only [List.mem_cons, List.not_mem_nil, or_false] at hvy
        rcases hvy with rfl | rfl | rfl | rfl <;> exact ⟨_, rfl, by omega, by omega⟩
      refine ⟨l2, _, r2, _, rfl, rfl, SqL.of (by rw [but5 l2 (pen_ne_none pen4 hl2)]; exact upd_same), aty, ?_⟩
      have k5 : Keep p H H5 := ((k3.trans but4.keep).trans (keep_upd hl2)).trans but5.keep
      have hd4 := keep hd3 but4
      have hd5 := keep (by rw [upd_ne (ne_of_none hd4 hl2)]; exact hd4) but5
      refine ⟨_, rfl, by decide, fun l3 hl3 => draw_run rfl (pen_upd pen5 hl3) (by decide) (by decide) fun r3 H6 e0 e1 pen6 but6 => ?_⟩
      obtain ⟨vm, hvm, atm⟩ := at_draw (xs := [V.int 2, V.int 6]) e0 e1
      obtain ⟨zm, rfl, hzm⟩ : ∃ z, vm = V.int z ∧ 0 < z ∧ z ≤ 6 := by
        simp only [List.mem_cons, List.not_mem_nil, or_false] at hvm
        rcases hvm with rfl | rfl <;> exact ⟨_, rfl, by omega, by omega⟩
      refine ⟨l3, _, r3, _, rfl, rfl, SqL.of (by rw [but6 l3 (pen_ne_none pen5 hl3)]; exact upd_same), atm, p, zm, rfl, hzm.1, by omega, pen6, fun m H7 m0 m1 pen7 but7 => ⟨_, _, rfl, rfl, _, rfl, _, rfl, _, rfl, by show 2 ≤ sizeLine; decide, fun t ht => ?_⟩⟩
      have k7 : Keep p H H7 := ((k5.trans (keep_upd hl3)).trans but6.keep).trans but7.keep
      have hd6 := keep (by rw [upd_ne (ne_of_none hd5 hl3)]; exact hd5) but6
      have hd7 := keep hd6 but7
      have hd8 : (upd H7 t (.tup [.str zl, .int zy])) d = some (.dT (ps.map entS)) := by rw [upd_ne (ne_of_none hd7 ht)]; exact hd7
      obtain ⟨ps', e', l', n', o'⟩ := put_ent ps zl zy (1 + m)
      refine ⟨d, _, rfl, DPut.t (k := [Sum.inr zl, Sum.inl zy]) hd8 upd_same (by rw [List.length_map]; exact small1000 (by omega)), ps', _, _, _, rfl, ?_, ?_, ?_, by omega, fun _ => n', fun s hs => ?_⟩
      · intro c o hc e
        have e7 := k7 c o hc e
        rw [upd_ne (ne_of_none e hd), upd_ne (ne_of_none e7 ht)]
        exact e7
      · have z := pen_upd (o := .tup [.str zl, .int zy]) pen7 ht
        obtain ⟨x1, x2, x3, x4, e, rr⟩ := z
        exact ⟨x1, x2, x3, x4, by rw [upd_ne (Ne.symm dp)]; exact e, rr⟩
      · rw [upd_same, e']
      · rcases o' s hs with h | rfl
        · exact ok2 s h
        · exact ⟨hzl, hzy.1, hzy.2, by show 1 ≤ 1 + m; omega, by show 1 + m ≤ 6; omega⟩
    · rintro σ H2 ⟨ps, v2, v3, v4, rfl, k2, pen2, hd2, hl2, hp2, ok2⟩
      have hlen : 1 ≤ ps.length ∧ ps.length ≤ 4 := by
        refine ⟨hp2 (by omega), ?_⟩
        omega
      refine ⟨_, rfl, d, ps.map entS, rfl, Rd.of hd2, by rw [List.length_map]; omega, ?_, ?_, fun l bs hl hik nk => ?_⟩
      · intro x hx y hy
        obtain ⟨z1, m1, rfl⟩ := List.mem_map.mp hx
        obtain ⟨z2, m2, rfl⟩ := List.mem_map.mp hy
        obtain ⟨s1, _, rfl⟩ := List.mem_map.mp m1
        obtain ⟨s2, _, rfl⟩ := List.mem_map.mp m2
        simp [keyD, entS, HmS.kD, PySem.W.alike, PySem.W.alikeAll]
      · intro x hx
        obtain ⟨s1, _, rfl⟩ := List.mem_map.mp hx
        simp [entS]
      rw [sortS_refs]
      obtain ⟨lb, hz⟩ := isKeys_zip hik
      have nd : (ps.map fun s => (entS s).1).Nodup := by
        rw [List.map_map] at nk
        exact nk
      have hzl : (sortS bs ps).length = ps.length := by
        rw [(sortS_perm bs ps).length_eq, List.length_zip]
        omega
      have dl : l ≠ d := fun z => by
        rw [z, hd2] at hl
        cases hl
      refine ⟨l, rfl, ⟨_, SqL.of upd_same⟩, fun D hD => lc_list (K := K) (xs := (sortS bs ps).map fun z => V.ref z.1)
        (fun i H' => Same (upd H2 l (.lst ((sortS bs ps).map fun z => V.ref z.1))) H' ∧ ∃ as : List Addr, H' D = some (.lst (as.map V.ref)) ∧ Paired (SetAt H') as (((sortS bs ps).take i).map (·.2)))
        ⟨same_upd hD, [], upd_same, .nil⟩ (fun i H' _ pv => SqL.of (pv.1 _ _ upd_same)) (fun i x H' hx pv => ?_) (fun H' pv => ?_)⟩
      · obtain ⟨sm, as, hDl, pr⟩ := pv
        rw [List.getElem?_map] at hx
        cases hi : (sortS bs ps)[i]? with
        | none =>
          rw [hi] at hx
          cases hx
        | some z =>
          rw [hi] at hx
          cases hx
          have hm := (sortS_perm bs ps).mem_iff.mp (List.mem_of_getElem? hi)
          have hm2 : z.2 ∈ ps := (List.of_mem_zip hm).2
          have s0 : Same H2 H' := (same_upd hl).trans sm
          have lk : valV (ps.map entS) [Sum.inr z.2.1, Sum.inl z.2.2.1] = some (.int z.2.2.2) := by
            refine valV_mem nk (List.mem_map.mpr ⟨z.2, hm2, rfl⟩)
          refine ⟨z.1, _, rfl, SqT.of (s0 _ _ (hz z hm)), rfl, _, _, rfl, _, _, rfl, rfl, rfl, yesT ?_⟩
          have lAs : as.length ≤ 1000 := by
            rw [Paired.length pr, List.length_map, List.length_take]
            omega
          refine ⟨_, rfl, _, rfl, _, rfl, _, rfl, _, rfl, by show 2 ≤ sizeLine; decide, fun t ht => ⟨d, .int z.2.2.2, rfl, ?_, by show 3 ≤ sizeLine; decide, fun t2 ht2 => ?_⟩⟩
          · rw [← lk]
            exact DGet.t (k := [Sum.inr z.2.1, Sum.inl z.2.2.1]) ((same_upd ht) _ _ (s0 _ _ hd2)) upd_same
          · have s2 : Same H' (upd (upd H' t (.tup [.str z.2.1, .int z.2.2.1])) t2 (.tup [.str z.2.1, .int z.2.2.1, .int z.2.2.2])) := (same_upd ht).trans (same_upd ht2)
            have nD : ∀ {b : Addr} {o : HO}, (upd H2 l (.lst ((sortS bs ps).map fun z => V.ref z.1))) b = some o → b ≠ D := fun e => ne_of_none e hD
            have nT : ∀ {b : Addr} {xs : List V} {G : Hp}, G D = some (.lst (as.map V.ref)) → G b = some (.tup xs) → b ≠ D := fun e1 e2 z => by
              rw [z, e1] at e2
              cases e2
            refine ⟨_, s2 _ _ hDl, by rw [List.length_map]; exact small1000 lAs, ?_, as ++ [t2], by rw [upd_same, List.map_append]; rfl, ?_⟩
            · intro b o e
              rw [upd_ne (nD e)]
              exact s2 _ _ (sm _ _ e)
            · have e2 : (sortS bs ps).take (i + 1) = (sortS bs ps).take i ++ [z] := by rw [List.take_add_one, hi]; rfl
              rw [e2, List.map_append]
              refine Paired.snoc ?_ (Paired.mp (fun a s q => ?_) pr)
              · show upd _ D _ t2 = _
                rw [upd_ne (nT (s2 _ _ hDl) upd_same)]
                exact upd_same
              · show upd _ D _ a = _
                rw [upd_ne (nT hDl q)]
                exact s2 _ _ q
      · obtain ⟨sm, as, hDl, pr⟩ := pv
        rw [List.length_map, List.take_length] at pr
        have s0 : Same H2 H' := (same_upd hl).trans sm
        refine ⟨D, _, rfl, .inl ⟨SqL.of hDl, fun t ht => q _ t ((sortS bs ps).map (·.2)) (k2.trans (Same.keep (s0.trans (same_upd ht)))) ?_ ⟨⟨?_, ?_, ?_, sortS_rise lb nd⟩, as, upd_same, ?_⟩⟩⟩
        · obtain ⟨x1, x2, x3, x4, e, rr⟩ := pen2
          exact ⟨x1, x2, x3, x4, (same_upd ht) _ _ (s0 _ _ e), rr⟩
        · rw [List.length_map, hzl]
          exact hlen.1
        · rw [List.length_map, hzl]
          exact hlen.2
        · intro s hs
          exact ok2 s ((sortS_sets lb).mem_iff.mp hs)
        · exact Paired.mp (fun a s q => (same_upd ht) _ _ q) pr
end
end Hm

set_option Elab.async false
set_option maxRecDepth 100000
set_option maxHeartbeats 4000000
namespace Hm
open PySem PySem.Spec PyProof.Rows L2 HmS
abbrev stPlc : Stmt := topSt 42 -- row _law_places
abbrev stName : Stmt := topSt 43 -- row _law_name
abbrev PlT := Int × Int
def PlAt (H : Hp) (a : Addr) (p : PlT) : Prop := H a = some (.tup [.int p.1, .int p.2])
def rowP (i : Nat) (s : SetT) : List PlT := (List.range s.2.2.toNat).map fun (k : Nat) => (((i : Int), (k : Int)) : PlT)
def placesM : Nat → List SetT → List PlT
  | _, [] => []
  | i, s :: r => rowP i s ++ placesM (i + 1) r
theorem placesM_snoc (s : SetT) : ∀ (l : List SetT) (i : Nat), placesM i (l ++ [s]) = placesM i l ++ rowP (i + l.length) s
  | [], i => by simp [placesM]
  | t :: l, i => by
    show rowP i t ++ placesM (i + 1) (l ++ [s]) = (rowP i t ++ placesM (i + 1) l) ++ rowP (i + (l.length + 1)) s
    rw [placesM_snoc s l (i + 1), List.append_assoc, show i + 1 + l.length = i + (l.length + 1) by omega]
theorem placesM_len : ∀ (l : List SetT) (i : Nat), (∀ s ∈ l, SetOk s) → (placesM i l).length ≤ 6 * l.length ∧ l.length ≤ (placesM i l).length
  | [], i, _ => by simp [placesM]
  | t :: l, i, h => by
    obtain ⟨h1, h2⟩ := placesM_len l (i + 1) fun s hs => h s (List.mem_cons_of_mem _ hs)
    have o := h t List.mem_cons_self
    have e : (rowP i t).length = t.2.2.toNat := by simp [rowP]
    show (rowP i t ++ placesM (i + 1) l).length ≤ 6 * (l.length + 1) ∧ l.length + 1 ≤ (rowP i t ++ placesM (i + 1) l).length
    rw [List.length_append, e]
    have := o.m0
    have := o.m1
    omega
theorem Paired.app {α β : Type} {F : α → β → Prop} {l2 : List α} {m2 : List β} (h : Paired F l2 m2) : ∀ {l : List α} {m : List β}, Paired F l m → Paired F (l ++ l2) (m ++ m2)
  | _, _, .nil => h
  | _, _, .cons x t => .cons x (Paired.app h t)
theorem Paired.gt {α β : Type} {F : α → β → Prop} : ∀ {l : List α} {m : List β} {i : Nat} {b : β}, Paired F l m → m[i]? = some b → ∃ a, l[i]? = some a ∧ F a b
  | _, _, i, b, .nil, h => by simp at h
  | _, _, 0, b, .cons x _, h => by
    cases h
    exact ⟨_, rfl, x⟩
  | _, _, i + 1, b, .cons _ t, h => by
    obtain ⟨a, e, f⟩ := Paired.gt (i := i) t (by simpa using h)
    exact ⟨a, by simpa using e, f⟩
theorem Paired.gl {α β : Type} {F : α → β → Prop} : ∀ {l : List α} {m : List β} {i : Nat} {a : α}, Paired F l m → l[i]? = some a → ∃ b, m[i]? = some b ∧ F a b
  | _, _, i, b, .nil, h => by simp at h
  | _, _, 0, b, .cons x _, h => by
    cases h
    exact ⟨_, rfl, x⟩
  | _, _, i + 1, b, .cons _ t, h => by
    obtain ⟨a, e, f⟩ := Paired.gl (i := i) t (by simpa using h)
    exact ⟨a, by simpa using e, f⟩
theorem same_tup {H H' : Hp} (s : Same H H') {as : List Addr} {ps : List PlT} (p : Paired (PlAt H) as ps) : Paired (PlAt H') as ps := Paired.mp (fun _ _ q => s _ _ q) p
theorem none_of {H H' : Hp} {p : Addr} (s : Same H H') (h : H' p = none) : H p = none := by
  cases e : H p with
  | none => rfl
  | some o => rw [s _ _ e] at h; cases h
def spPlcs : Sp := fun vs H Q _ => ∃ (b : Addr) (sets : List SetT), vs = [.ref b] ∧ Book H b sets ∧ ∀ (H' : Hp) (l : Addr) (as : List Addr), Same H H' → H l = none → H' l = some (.lst (as.map V.ref)) → Paired (PlAt H') as (placesM 0 sets) → Q (.ref l) H'
structure TxtIt (mg : Str → Option Value) : Prop where
  range : mg "range" = none
  enum : mg "enumerate" = none
section
variable {P : Program} {w : World} {K : PySem.W.Frag} {mg : Str → Option Value} {base : Heap}
abbrev nPlc : List Str := ["_law_sets", "_law_found", "_law_at", "_law_land", "_law_year", "_law_many", "_law_number"]
theorem sc_plc : FnScope nPlc ["_law_sets"] (defScope stPlc) := ⟨rfl, rfl, rfl, by decide +kernel, rfl, by decide +kernel, by decide +kernel⟩
theorem ok_plc {f : Addr} {fd : FuncData} (F : Fun K "_law_places" "_law_places" stPlc f fd) (T : TxtIt mg) : FnOk P w K mg base CX0 1 f fd ["_law_sets"] spPlcs := by
  refine F.ok sc_plc (fun vs H Q E h => ?_) (fun cdv A outer s H vs Q E hr h => ?_)
  · obtain ⟨b, sets, rfl, _⟩ := h
    rfl
  · obtain ⟨b, sets, rfl, bk, q⟩ := h
    obtain ⟨ok, bs, hb, pb⟩ := id bk
    refine ⟨_, pss_cons (ps_set (i := 1) sc_plc.nd rfl (Or.inl rfl) (pe_lst pa_nil))
      (pss_cons (ps_for PassesOwn.never rfl (pi_enumT (by rfl) T.enum (pa_cons (pv 0) pa_nil))
          (pg_tup rfl (pgs_cons (pg_name (i := 2) sc_plc.nd rfl (Or.inr rfl)) (pgs_cons (pg_tup rfl (pgs_cons (pg_name (i := 3) sc_plc.nd rfl (Or.inl rfl)) (pgs_cons (pg_name (i := 4) sc_plc.nd rfl (Or.inl rfl)) (pgs_cons (pg_name (i := 5) sc_plc.nd rfl (Or.inl rfl)) pgs_nil)))) pgs_nil)))
        (pss_one (ps_set (i := 1) sc_plc.nd rfl (Or.inl rfl) (pe_op op_cat (pv 1) (pe_lc (own := [("_law_number", 6)]) (g := gName 6) (tt := tYes) rfl sc_plc.nd (pi_range1 (by rfl) T.range (pa_cons (pv 5) pa_nil))
          (blkOk_by (N := nPlc) (sc := defScope stPlc) (by decide +kernel)) (fun _ _ _ _ _ => pg_name (i := 6) sc_plc.nd rfl (Or.inl rfl)) (fun _ _ _ _ _ => pts_nil) (fun _ _ _ _ _ => pe_tup (pa_cons (pv 2) (pa_cons (pv 6) pa_nil))))))))
      (pss_one (ps_ret (pv 1)))), ?_⟩
    refine seqset ⟨by decide, fun l0 hl0 => ?_⟩
    have s0 : Same H (upd H l0 (.lst [])) := same_upd hl0
    refine ⟨_, rfl, b, _, rfl, SqT.of (s0 _ _ hb), for_it (walk_enumT (K := K) (a := b) (xs := bs.map V.ref))
      (fun i σ H' => ∃ (l : Addr) (as : List Addr) (v2 v3 v4 v5 : Option V), σ = [some (.ref b), some (.ref l), v2, v3, v4, v5, none] ∧ Same H H' ∧ H l = none ∧ H' l = some (.lst (as.map V.ref)) ∧ Paired (PlAt H') as (placesM 0 (sets.take i)))
      ⟨l0, [], none, none, none, none, rfl, s0, hl0, upd_same, .nil⟩ (fun i σ H' _ ⟨_, _, _, _, _, _, _, sm, _⟩ => SqT.of (sm _ _ hb)) ?_ ?_⟩
    · rintro i x σ H1 H2 hi ⟨l, as, v2, v3, v4, v5, rfl, sm, nl, hl, pr⟩ ⟨tt, x1, y, rfl, htt, rfl, ex, ey⟩
      cases ex
      have ey : (bs.map V.ref)[i]? = some y := ey
      rw [List.getElem?_map] at ey
      cases hbi : bs[i]? with
      | none =>
        rw [hbi] at ey
        cases ey
      | some bi =>
        rw [hbi] at ey
        cases ey
        obtain ⟨st, hst, hat⟩ := Paired.gl pb hbi
        have okS := ok.ok st (List.mem_of_getElem? hst)
        have s2 := same_upd (o := .tup [.int (i : Nat), .ref bi]) htt
        refine ⟨tt, _, rfl, SqT.of upd_same, rfl, _, _, rfl, _, _, rfl, ⟨bi, _, rfl, SqT.of (s2 _ _ (sm _ _ hat)), rfl, _, _, rfl, _, _, rfl, _, _, rfl, rfl, ?_⟩⟩
        refine ⟨rfl, _, rfl, _, rfl, st.2.2, rfl, by have := okS.m0; omega, by have := okS.m1; omega, fun D hD => lc_range (lo := 0) (n := st.2.2.toNat)
          (fun k H' => Same (upd H1 tt (.tup [.int (i : Nat), .ref bi])) H' ∧ ∃ cs : List Addr, H' D = some (.lst (cs.map V.ref)) ∧ Paired (PlAt H') cs ((List.range k).map fun (k : Nat) => (((i : Int), (k : Int)) : PlT))) ⟨same_upd hD, [], upd_same, .nil⟩ (fun k H' hk pv => ?_) (fun H' pv => ?_)⟩
        · obtain ⟨sk, cs, hDc, pc⟩ := pv
          have lcs : cs.length ≤ 6 := by
            rw [Paired.length pc, List.length_map, List.length_range]
            have := okS.m1
            have := okS.m0
            omega
          refine ⟨rfl, yesT ⟨_, rfl, _, rfl, by show 2 ≤ sizeLine; decide, fun t ht => ⟨cs.map V.ref, (same_upd ht) _ _ hDc, by rw [List.length_map]; exact small1000 (by omega), fun c o e => ?_, cs ++ [t], by rw [upd_same, List.map_append]; rfl, ?_⟩⟩⟩
          · rw [upd_ne (ne_of_none e hD)]
            exact (same_upd ht) _ _ (sk _ _ e)
          · rw [List.range_succ, List.map_append]
            have nT : ∀ {c : Addr} {xs : List V}, H' c = some (.tup xs) → c ≠ D := fun e z => by
              rw [z, hDc] at e
              cases e
            have tD : t ≠ D := fun z => by
              rw [z, hDc] at ht
              cases ht
            refine Paired.snoc ?_ (Paired.mp (fun a s q => ?_) pc)
            · show upd _ D _ t = _
              rw [upd_ne tD, upd_same, Int.zero_add]
            · show upd _ D _ a = _
              rw [upd_ne (nT q)]
              exact (same_upd ht) _ _ q
        · obtain ⟨sk, cs, hDc, pc⟩ := pv
          have s3 : Same H1 H' := s2.trans sk
          have lcs : cs.length ≤ 6 := by
            rw [Paired.length pc, List.length_map, List.length_range]
            have := okS.m1
            have := okS.m0
            omega
          have las : as.length ≤ 24 := by
            have h1 := (placesM_len (sets.take i) 0 fun s hs => ok.ok s (List.mem_of_mem_take hs)).1
            have h2 : (sets.take i).length ≤ 4 := Nat.le_trans (List.length_take_le' _ _) ok.len1
            rw [Paired.length pr]
            omega
          refine ⟨l, D, _, _, rfl, rfl, s3 _ _ hl, hDc, ?_, fun p hp => ⟨p, as ++ cs, _, _, _, _, rfl, (sm.trans s3).trans (same_upd hp), none_of (sm.trans s3) hp, by rw [upd_same, List.map_append], ?_⟩⟩
          · rw [List.length_map, List.length_map, sizeLine_eq]
            omega
          · have e2 : sets.take (i + 1) = sets.take i ++ [st] := by rw [List.take_add_one, hst]; rfl
            have e3 : (sets.take i).length = i := by
              have := (List.getElem?_eq_some_iff.mp hst).1
              rw [List.length_take]
              omega
            rw [e2, placesM_snoc, e3, Nat.zero_add]
            exact Paired.app (same_tup (same_upd hp) pc) (same_tup (s3.trans (same_upd hp)) pr)
    · rintro σ H1 ⟨l, as, v2, v3, v4, v5, rfl, sm, nl, hl, pr⟩
      rw [List.length_map, Paired.length pb, List.take_length] at pr
      exact ⟨_, rfl, q H1 l as sm nl hl pr⟩
end
end Hm

set_option Elab.async false
set_option maxRecDepth 100000
set_option maxHeartbeats 4000000
namespace Hm
open PySem PySem.Spec PyProof.Rows L2 HmS
abbrev stStm : Stmt := topSt 44 -- row _law_stamps
theorem asgset {te : TE} {i : Nat} {D : Ends} {σ : L2.St} {H : Hp} (h : te σ H fun x H1 => D.nx (σ.set i (some x)) H1) : tAsg te (gName i) D σ H := h
abbrev StT := Int × Int × Int
def StAt (H : Hp) (a : Addr) (s : StT) : Prop := H a = some (.tup [.int s.1, .int s.2.1, .int s.2.2])
structure StOk (sets : List SetT) (s : StT) : Prop where
  pl : (s.1, s.2.1) ∈ placesM 0 sets
  g0 : 0 ≤ s.2.2
  g1 : s.2.2 ≤ 1
theorem st_keep {p : Addr} {H H' : Hp} (k : Keep p H H') (pen : PenAt H p) {as : List Addr} {ss : List StT} (x : Paired (StAt H) as ss) : Paired (StAt H') as ss :=
  Paired.mp (fun a s q => k _ _ (pen_ne pen q fun _ z => by cases z) q) x
theorem pl_keep {p : Addr} {H H' : Hp} (k : Keep p H H') (pen : PenAt H p) {as : List Addr} {ss : List PlT} (x : Paired (PlAt H) as ss) : Paired (PlAt H') as ss :=
  Paired.mp (fun a s q => k _ _ (pen_ne pen q fun _ z => by cases z) q) x
theorem st_same {H H' : Hp} (k : Same H H') {as : List Addr} {ss : List StT} (x : Paired (StAt H) as ss) : Paired (StAt H') as ss := Paired.mp (fun a s q => k _ _ q) x
theorem paired_rep {H : Hp} {t : Addr} {s : StT} (h : StAt H t s) : ∀ n, Paired (StAt H) (List.replicate n t) (List.replicate n s)
  | 0 => .nil
  | n + 1 => .cons h (paired_rep h n)
def spStms : Sp := fun vs H Q _ => ∃ (p b : Addr) (m : Int) (sets : List SetT), vs = [.ref p, .ref b, .int m] ∧ 0 ≤ m ∧ m ≤ 100 ∧ PenAt H p ∧ Book H b sets ∧
  ∀ (H' : Hp) (t : Addr) (as : List Addr) (ss : List StT), Keep p H H' → PenAt H' p → H' t = some (.tup (as.map V.ref)) → Paired (StAt H') as ss → (∀ s ∈ ss, StOk sets s) → ss.length ≤ 400 → Q (.ref t) H'
structure TxtStm (mg : Str → Option Value) (fD fP : Addr) : Prop where
  range : mg "range" = none
  len : mg "len" = none
  tuple : mg "tuple" = none
  gD : mg "_law_draw" = some (.ref fD)
  gP : mg "_law_places" = some (.ref fP)
section
variable {P : Program} {w : World} {K : PySem.W.Frag} {mg : Str → Option Value} {base : Heap}
abbrev nStm : List Str := ["_law_pen_here", "_law_sets", "_law_most", "_law_places_here", "_law_found", "_law_k", "_law_place"]
theorem sc_stm : FnScope nStm ["_law_pen_here", "_law_sets", "_law_most"] (defScope stStm) := ⟨rfl, rfl, rfl, by decide +kernel, rfl, by decide +kernel, by decide +kernel⟩
theorem ok_stm {f fD fP : Addr} {fd fdD fdP : FuncData} (F : Fun K "_law_stamps" "_law_stamps" stStm f fd) (T : TxtStm mg fD fP) (kD : PySem.W.keepIn K (.ref fD) = true) (kP : PySem.W.keepIn K (.ref fP) = true)
    (GD : FnOk P w K mg base CX0 1 fD fdD ["_law_pen_here", "_law_bound"] spDrawn) (bD : Binds K fdD ["_law_pen_here", "_law_bound"] [])
    (GP : FnOk P w K mg base CX0 1 fP fdP ["_law_sets"] spPlcs) (bP : Binds K fdP ["_law_sets"] []) :
    FnOk P w K mg base CX0 2 f fd ["_law_pen_here", "_law_sets", "_law_most"] spStms := by
  refine F.ok sc_stm (fun vs H Q E h => ?_) (fun cdv A outer s H vs Q E hr h => ?_)
  · obtain ⟨p, b, m, sets, rfl, _⟩ := h
    rfl
  · obtain ⟨p, b, m, sets, rfl, m0, m1, pen, bk, q⟩ := h
    refine ⟨_, pss_cons (ps_par (i := 3) (j := 4) (by rfl) sc_stm.nd rfl rfl (by decide) rfl rfl (pa_cons (pe_call GP hr (by rfl) T.gP kP bP .nil pass0 (pa_cons (pv 1) pa_nil)) (pa_cons (pe_lst pa_nil) pa_nil)) (by rfl))
      (pss_cons (ps_for PassesOwn.never rfl (pi_range1 (by rfl) T.range (pa_cons (pe_call GD hr (by rfl) T.gD kD bD .nil pass0 (pa_cons (pv 0) (pa_cons (pe_op op_add (pv 2) pe_int) pa_nil))) pa_nil)) (pg_name (i := 5) sc_stm.nd rfl (Or.inl rfl))
        (pss_cons (ps_set (i := 6) sc_stm.nd rfl (Or.inl rfl) (pe_ix ix_list (pv 3) (pe_call GD hr (by rfl) T.gD kD bD .nil pass0 (pa_cons (pv 0) (pa_cons (pe_callB call_len_seq (by rfl) T.len PySem.boot_len (pa_cons (pv 3) pa_nil)) pa_nil))) (fun _ _ => rfl)))
        (pss_one (ps_set (i := 4) sc_stm.nd rfl (Or.inl rfl) (pe_op op_cat (pv 4) (pe_op op_rep (pe_lst (pa_cons (pe_op op_catT (pv 6) (pe_tup (pa_cons (pe_call GD hr (by rfl) T.gD kD bD .nil pass0 (pa_cons (pv 0) (pa_cons pe_int pa_nil))) pa_nil))) pa_nil))
            (pe_ix ix_list (pe_lst (pa_cons pe_int (pa_cons pe_int (pa_cons pe_int (pa_cons pe_int pa_nil))))) (pe_call GD hr (by rfl) T.gD kD bD .nil pass0 (pa_cons (pv 0) (pa_cons pe_int pa_nil))) (fun _ _ => rfl))))))))
      (pss_one (ps_ret (pe_callTy call_tuple_of (by rfl) T.tuple (by decide +kernel) (pa_cons (pv 4) pa_nil))))), ?_⟩
    refine ⟨_, rfl, b, sets, rfl, bk, fun H1 lp ps s1 nlp hlp1 pp1 => ⟨by decide, fun lf hlf => ⟨_, _, rfl, ?_⟩⟩⟩
    have okB := bk.1
    have sA : Same H1 (upd H1 lf (.lst [])) := same_upd hlf
    have lpp : lp ≠ p := pen_ne_none pen nlp
    have pen1 : PenAt (upd H1 lf (.lst [])) p := by
      obtain ⟨x1, x2, x3, x4, e, rr⟩ := pen
      exact ⟨x1, x2, x3, x4, sA _ _ (s1 _ _ e), rr⟩
    have lfp : lf ≠ p := pen_ne_none pen (none_of s1 hlf)
    have plen : 1 ≤ (placesM 0 sets).length ∧ (placesM 0 sets).length ≤ 24 := by
      have := placesM_len sets 0 okB.ok
      have := okB.len0
      have := okB.len1
      omega
    have psl : ps.length = (placesM 0 sets).length := Paired.length pp1
    refine ⟨_, rfl, _, rfl, m, 1, rfl, rfl, p, m + 1, rfl, by omega, by omega, pen1, fun r0 H2 a0 a1 pen2 but2 => ⟨_, rfl, by omega, by omega, ?_⟩⟩
    have kA : Keep p H H2 := (Same.keep (s1.trans sA)).trans but2.keep
    have k12 : Keep p H1 H2 := (Same.keep sA).trans but2.keep
    refine for_range (lo := 0) (fun i σ H' => ∃ (lf : Addr) (as : List Addr) (ss : List StT) (v5 v6 : Option V), σ = [some (.ref p), some (.ref b), some (.int m), some (.ref lp), some (.ref lf), v5, v6] ∧ Keep p H H' ∧ PenAt H' p ∧
        H' lp = some (.lst (ps.map V.ref)) ∧ Paired (PlAt H') ps (placesM 0 sets) ∧ H' lf = some (.lst (as.map V.ref)) ∧ Paired (StAt H') as ss ∧ (∀ s ∈ ss, StOk sets s) ∧ ss.length ≤ 4 * i ∧ lf ≠ p)
      ⟨lf, [], [], none, none, rfl, kA, pen2, k12 _ _ lpp hlp1, pl_keep but2.keep pen1 (same_tup sA pp1), by rw [but2 lf lfp]; exact upd_same, .nil, fun s hs => by simp at hs, Nat.zero_le _, lfp⟩ ?_ ?_
    · rintro i σ H3 hi ⟨lf, as, ss, v5, v6, rfl, k3, pen3, hlp3, pp3, hlf3, st3, ok3, len3, lfp3⟩
      refine seqset ⟨_, rfl, _, rfl, _, rfl, lp, _, rfl, .inl (SqL.of hlp3), p, _, rfl, ?_, ?_, pen3, fun r H4 b0 b1 pen4 but4 => ?_⟩
      · rw [List.length_map]; omega
      · rw [List.length_map]; omega
      rw [List.length_map] at b1
      have hj : r.toNat < ps.length := by omega
      have er : ((r.toNat : Nat) : Int) = r := Int.toNat_of_nonneg b0
      have at4 : atI (ps.map V.ref) r = some (.ref ps[r.toNat]) := by
        have z := atI_nat (xs := ps.map V.ref) (j := r.toNat) (v := .ref ps[r.toNat]) (by rw [List.getElem?_map, List.getElem?_eq_getElem hj]; rfl)
        rw [er] at z
        exact z
      obtain ⟨pl, hpl, hat⟩ := Paired.gl pp3 (List.getElem?_eq_getElem hj)
      have keepL : ∀ {c : Addr} {o : HO} {G G' : Hp}, c ≠ p → G c = some o → But p G G' → G' c = some o := fun d e bt => by rw [bt _ d]; exact e
      have nP : ps[r.toNat] ≠ p := pen_ne pen3 hat fun _ z => by cases z
      have at4' := keepL nP hat but4
      refine ⟨lp, _, r, _, rfl, rfl, SqL.of (keepL lpp hlp3 but4), at4, asgset ⟨_, rfl, _, rfl, draw_run rfl pen4 (by decide) (by decide) fun g H5 g0 g1 pen5 but5 => ⟨by show 1 ≤ sizeLine; decide, fun t1 ht1 => ?_⟩⟩⟩
      have at5 := keepL nP at4' but5
      refine ⟨_, t1, _, _, rfl, rfl, SqT.of ((same_upd ht1) _ _ at5), SqT.of upd_same, by simp, by show 3 ≤ sizeLine; decide, ⟨?_, ?_⟩⟩
      · intro z
        cases z
      intro _ t2 ht2
      refine ⟨by show 1 ≤ sizeLine; decide, fun l1 hl1 => ⟨by show 4 ≤ sizeLine; decide, fun l2 hl2 => ?_⟩⟩
      refine draw_run rfl (pen_upd (pen_upd (pen_upd (pen_upd pen5 ht1) ht2) hl1) hl2) (by decide) (by decide) fun d H6 d0 d1 pen6 but6 => ?_
      have penT1 := pen_upd (o := .tup [.int g]) pen5 ht1
      have penT2 := pen_upd (o := .tup ([.int pl.1, .int pl.2] ++ [.int g])) penT1 ht2
      have penL1 := pen_upd (o := .lst [.ref t2]) penT2 hl1
      have e2 := keepL (pen_ne_none penL1 hl2) upd_same but6
      have e1 := keepL (pen_ne_none penT2 hl1) ((same_upd hl2) _ _ upd_same) but6
      have et := keepL (pen_ne_none penT1 ht2) ((same_upd hl2) _ _ ((same_upd hl1) _ _ upd_same)) but6
      have k36 : Keep p H3 H6 := ((but4.keep.trans but5.keep).trans (Same.keep ((((same_upd ht1).trans (same_upd ht2)).trans (same_upd hl1)).trans (same_upd hl2)))).trans but6.keep
      obtain ⟨z, hz, atz⟩ := at_draw (xs := [V.int 1, V.int 1, V.int 2, V.int 4]) d0 d1
      obtain ⟨k, rfl, hk0, hk1⟩ : ∃ k, z = V.int k ∧ 1 ≤ k ∧ k ≤ 4 := by
        simp only [List.mem_cons, List.not_mem_nil, or_false] at hz
        rcases hz with rfl | rfl | rfl | rfl <;> exact ⟨_, rfl, by omega, by omega⟩
      have hk : k.toNat ≤ 4 := by omega
      have ef : (List.replicate k.toNat [V.ref t2]).flatten = (List.replicate k.toNat t2).map V.ref := by
        rw [List.flatten_replicate_singleton, List.map_replicate]
      have las : as.length ≤ 400 := by
        rw [Paired.length st3]
        omega
      refine ⟨l2, _, d, _, rfl, rfl, SqL.of e2, atz, l1, k, _, rfl, rfl, e1, by omega, by omega, by rw [sizeLine_eq]; simp; omega, fun rp hrp => ?_⟩
      have eLf := k36 _ _ lfp3 hlf3
      refine ⟨lf, rp, _, _, rfl, rfl, (same_upd hrp) _ _ eLf, upd_same, by rw [sizeLine_eq, ef, List.length_map, List.length_map, List.length_replicate]; omega, fun q2 hq2 => ?_⟩
      have s6 : Same H6 (upd (upd H6 rp (.lst (List.replicate k.toNat [V.ref t2]).flatten)) q2 (.lst (as.map V.ref ++ (List.replicate k.toNat [V.ref t2]).flatten))) := (same_upd hrp).trans (same_upd hq2)
      have et2 : StAt H6 t2 (pl.1, pl.2, g) := et
      refine ⟨q2, as ++ List.replicate k.toNat t2, ss ++ List.replicate k.toNat (pl.1, pl.2, g), _, _, rfl, k3.trans (k36.trans (Same.keep s6)), pen_upd (pen_upd pen6 hrp) hq2, s6 _ _ (k36 _ _ lpp hlp3), ?_, by rw [upd_same, ef, List.map_append], ?_, ?_, ?_, pen_ne_none (pen_upd pen6 hrp) hq2⟩
      · exact same_tup s6 (pl_keep k36 pen3 pp3)
      · exact Paired.app (st_same s6 (paired_rep et2 _)) (st_same s6 (st_keep k36 pen3 st3))
      · intro s hs
        rcases List.mem_append.mp hs with h | h
        · exact ok3 s h
        · obtain rfl := (List.mem_replicate.mp h).2
          exact ⟨List.mem_of_getElem? hpl, g0, by show g ≤ 1; omega⟩
      · rw [List.length_append, List.length_replicate]
        omega
    · rintro σ H3 ⟨lf, as, ss, v5, v6, rfl, k3, pen3, hlp3, pp3, hlf3, st3, ok3, len3, lfp3⟩
      refine ⟨_, rfl, lf, _, rfl, .inl ⟨SqL.of hlf3, fun t ht => q _ t as ss (k3.trans (keep_upd ht)) (pen_upd pen3 ht) upd_same (st_same (same_upd ht) st3) ok3 (by omega)⟩⟩
end
end Hm

set_option Elab.async false
set_option maxRecDepth 100000
set_option maxHeartbeats 4000000
namespace Hm
open PySem PySem.Spec PyProof.Rows L2 HmS
abbrev stCnt : Stmt := topSt 45 -- row _law_counts
/-! ### counts: what a dict of stamps holds -/
abbrev CtT := List (StT × Int)
def keyS (s : StT) : List Key := [.inl s.1, .inl s.2.1, .inl s.2.2]
theorem keyS_inj {s t : StT} (h : keyS s = keyS t) : s = t := by
  simp only [keyS, List.cons.injEq, Sum.inl.injEq, and_true] at h
  exact Prod.ext h.1 (Prod.ext h.2.1 h.2.2)
def entC (c : StT × Int) : List Key × V := (keyS c.1, .int c.2)
def getC : CtT → StT → Option Int
  | [], _ => none
  | (t, n) :: r, s => if t = s then some n else getC r s
theorem valV_ent : ∀ (cs : CtT) (s : StT), valV (cs.map entC) (keyS s) = (getC cs s).map V.int
  | [], _ => rfl
  | (t, n) :: r, s => by
    rw [List.map_cons, getC]
    by_cases c : t = s
    · rw [if_pos c]
      exact valV_pos (by rw [c]; rfl)
    · rw [if_neg c]
      rw [show entC (t, n) = (keyS t, V.int n) from rfl, valV_neg (fun z => c (keyS_inj z))]
      exact valV_ent r s
def putC (cs : CtT) (s : StT) (m : Int) : CtT := if cs.any (fun c => decide (c.1 = s)) then cs.map (fun c => if c.1 = s then (c.1, m) else c) else cs ++ [(s, m)]
theorem put_entC (cs : CtT) (s : StT) (m : Int) : putK (cs.map entC) (keyS s) (.int m) = (putC cs s m).map entC := by
  have ea : ((cs.map entC).any fun kv => decide (kv.1 = keyS s)) = cs.any fun c => decide (c.1 = s) := by
    rw [List.any_map]
    congr 1
    funext c
    show decide (keyS c.1 = keyS s) = decide (c.1 = s)
    exact decide_eq_decide.mpr ⟨keyS_inj, fun z => by rw [z]⟩
  unfold putK putC
  rw [ea]
  by_cases a : (cs.any fun c => decide (c.1 = s)) = true
  · rw [if_pos a, if_pos a, List.map_map, List.map_map]
    refine List.map_congr_left fun c _ => ?_
    show (if (entC c).1 = keyS s then ((entC c).1, V.int m) else entC c) = entC (if c.1 = s then (c.1, m) else c)
    by_cases e : c.1 = s
    · rw [if_pos e, if_pos (by show keyS c.1 = keyS s; rw [e])]
      rfl
    · rw [if_neg e, if_neg (show ¬ (entC c).1 = keyS s from fun z => e (keyS_inj z))]
  · rw [if_neg a, if_neg a, List.map_append]
    rfl
def bump (cs : CtT) (s : StT) : CtT := putC cs s ((getC cs s).getD 0 + 1)
def countsM (ss : List StT) : CtT := ss.foldl bump []
theorem putC_len (cs : CtT) (s : StT) (m : Int) : (putC cs s m).length ≤ cs.length + 1 := by
  unfold putC
  split <;> simp
theorem foldl_len : ∀ (ss : List StT) (cs : CtT), (ss.foldl bump cs).length ≤ cs.length + ss.length
  | [], cs => by simp
  | s :: r, cs => by
    have h := foldl_len r (bump cs s)
    have h2 := putC_len cs s ((getC cs s).getD 0 + 1)
    rw [List.foldl_cons, List.length_cons]
    have e : (bump cs s).length ≤ cs.length + 1 := h2
    omega
theorem countsM_len (ss : List StT) : (countsM ss).length ≤ ss.length := by
  have := foldl_len ss []
  simpa [countsM] using this
theorem getC_mem : ∀ {cs : CtT} {s : StT} {n : Int}, getC cs s = some n → (s, n) ∈ cs
  | (t, k) :: r, s, n, h => by
    unfold getC at h
    by_cases c : t = s
    · rw [if_pos c] at h
      cases h
      rw [c]
      exact List.mem_cons_self
    · rw [if_neg c] at h
      exact List.mem_cons_of_mem _ (getC_mem h)
theorem getC_none : ∀ {cs : CtT} {s : StT}, getC cs s = none → ∀ c ∈ cs, c.1 ≠ s
  | [], s, h, c, hc => by simp at hc
  | (t, k) :: r, s, h, c, hc => by
    unfold getC at h
    by_cases e : t = s
    · rw [if_pos e] at h
      cases h
    · rw [if_neg e] at h
      rcases List.mem_cons.mp hc with rfl | hc
      · exact e
      · exact getC_none h c hc
theorem getC_of : ∀ {cs : CtT} {s : StT} {n : Int}, (cs.map (·.1)).Nodup → (s, n) ∈ cs → getC cs s = some n
  | (t, k) :: r, s, n, nd, h => by
    rw [List.map_cons, List.nodup_cons] at nd
    unfold getC
    rcases List.mem_cons.mp h with e | h
    · cases e
      rw [if_pos rfl]
    · have ne : ¬ t = s := fun e => nd.1 (by rw [e]; exact List.mem_map.mpr ⟨_, h, rfl⟩)
      rw [if_neg ne]
      exact getC_of nd.2 h
/-- a count of good stamps, each there -/
structure CtOk (sets : List SetT) (cs : CtT) : Prop where
  nd : (cs.map (·.1)).Nodup
  pos : ∀ c ∈ cs, 1 ≤ c.2
  st : ∀ c ∈ cs, StOk sets c.1
theorem CtOk.bump {sets : List SetT} {cs : CtT} (h : CtOk sets cs) {s : StT} (hs : StOk sets s) : CtOk sets (bump cs s) := by
  have g0 : 0 ≤ (getC cs s).getD 0 := by
    cases e : getC cs s with
    | none => exact Int.le_refl _
    | some n =>
      have := h.pos _ (getC_mem e)
      show 0 ≤ n
      have h2 : 1 ≤ n := this
      omega
  unfold Hm.bump putC
  by_cases a : (cs.any fun c => decide (c.1 = s)) = true
  · rw [if_pos a]
    have e1 : (cs.map (fun c => if c.1 = s then (c.1, (getC cs s).getD 0 + 1) else c)).map (·.1) = cs.map (·.1) := by
      rw [List.map_map]
      refine List.map_congr_left fun c _ => ?_
      show (if c.1 = s then (c.1, (getC cs s).getD 0 + 1) else c).1 = c.1
      split <;> rfl
    refine ⟨by rw [e1]; exact h.nd, fun c hc => ?_, fun c hc => ?_⟩
    · obtain ⟨d, hd, rfl⟩ := List.mem_map.mp hc
      by_cases e : d.1 = s
      · rw [if_pos e]
        show 1 ≤ (getC cs s).getD 0 + 1
        omega
      · rw [if_neg e]
        exact h.pos d hd
    · obtain ⟨d, hd, rfl⟩ := List.mem_map.mp hc
      by_cases e : d.1 = s
      · rw [if_pos e]
        exact h.st d hd
      · rw [if_neg e]
        exact h.st d hd
  · rw [if_neg a]
    have no : s ∉ cs.map (·.1) := by
      intro z
      obtain ⟨d, hd, e⟩ := List.mem_map.mp z
      exact a (List.any_eq_true.mpr ⟨d, hd, decide_eq_true e⟩)
    refine ⟨?_, fun c hc => ?_, fun c hc => ?_⟩
    · rw [List.map_append, List.nodup_append]
      refine ⟨h.nd, by simp, fun x hx y hy => ?_⟩
      have ey : y = s := by simpa using hy
      rw [ey]
      exact fun z => no (by rw [← z]; exact hx)
    · rcases List.mem_append.mp hc with hc | hc
      · exact h.pos c hc
      · rw [List.mem_singleton.mp hc]
        show 1 ≤ (getC cs s).getD 0 + 1
        omega
    · rcases List.mem_append.mp hc with hc | hc
      · exact h.st c hc
      · rw [List.mem_singleton.mp hc]
        exact hs
theorem countsM_ok {sets : List SetT} : ∀ (ss : List StT) (cs : CtT), CtOk sets cs → (∀ s ∈ ss, StOk sets s) → CtOk sets (ss.foldl bump cs)
  | [], cs, h, _ => h
  | s :: r, cs, h, o => by
    rw [List.foldl_cons]
    exact countsM_ok r _ (h.bump (o s List.mem_cons_self)) fun t ht => o t (List.mem_cons_of_mem _ ht)
theorem CtOk.of {sets : List SetT} {ss : List StT} (o : ∀ s ∈ ss, StOk sets s) : CtOk sets (countsM ss) :=
  countsM_ok ss [] ⟨by simp, fun c hc => by simp at hc, fun c hc => by simp at hc⟩ o
theorem countsM_snoc (ss : List StT) (s : StT) : countsM (ss ++ [s]) = bump (countsM ss) s := by simp [countsM, List.foldl_append]
def spCnts : Sp := fun vs H Q _ => ∃ (t : Addr) (as : List Addr) (ss : List StT), vs = [.ref t] ∧ H t = some (.tup (as.map V.ref)) ∧ Paired (StAt H) as ss ∧ ss.length ≤ 400 ∧
  ∀ (H' : Hp) (d : Addr), Same H H' → H d = none → H' d = some (.dT ((countsM ss).map entC)) → Q (.ref d) H'
section
variable {P : Program} {w : World} {K : PySem.W.Frag} {mg : Str → Option Value} {base : Heap}
abbrev nCnt : List Str := ["_law_stamps_here", "_law_found", "_law_stamp"]
theorem sc_cnt : FnScope nCnt ["_law_stamps_here"] (defScope stCnt) := ⟨rfl, rfl, rfl, by decide +kernel, rfl, by decide +kernel, by decide +kernel⟩
theorem ok_cnt {f : Addr} {fd : FuncData} (F : Fun K "_law_counts" "_law_counts" stCnt f fd) : FnOk P w K mg base CX0 1 f fd ["_law_stamps_here"] spCnts := by
  refine F.ok sc_cnt (fun vs H Q E h => ?_) (fun cdv A outer s H vs Q E hr h => ?_)
  · obtain ⟨t, as, ss, rfl, _⟩ := h
    rfl
  · obtain ⟨t, as, ss, rfl, ht, pr, hz, q⟩ := h
    have hu := hu_of hr
    refine ⟨_, pss_cons (ps_set (i := 1) sc_cnt.nd rfl (Or.inl rfl) pe_dnewT)
      (pss_cons (ps_for PassesOwn.never rfl (pi_tup (pv 0)) (pg_name (i := 2) sc_cnt.nd rfl (Or.inl rfl))
        (pss_one (ps_dput hu (pv 1) (pv 2) (pe_op op_add (pe_dget2 hu (pv 1) (pv 2) pe_int ⟨rfl, rfl, rfl, rfl⟩) pe_int) rfl)))
      (pss_one (ps_ret (pv 1)))), ?_⟩
    refine seqset (fun d hd => ?_)
    have s0 : Same H (upd H d (.dT [])) := same_upd hd
    refine ⟨_, rfl, t, rfl, ⟨_, SqT.of (s0 _ _ ht)⟩, for_tup (xs := as.map V.ref) (fun i σ H' => ∃ v2, σ = [some (.ref t), some (.ref d), v2] ∧ Same H H' ∧ H' d = some (.dT ((countsM (ss.take i)).map entC)))
      ⟨none, rfl, s0, upd_same⟩ (fun i σ H' _ ⟨_, _, sm, _⟩ => SqT.of (sm _ _ ht)) ?_ ?_⟩
    · rintro i x σ H1 hx ⟨v2, rfl, sm, hdi⟩
      rw [List.getElem?_map] at hx
      cases hbi : as[i]? with
      | none =>
        rw [hbi] at hx
        cases hx
      | some a =>
        rw [hbi] at hx
        cases hx
        obtain ⟨st, hst, hat⟩ := Paired.gl pr hbi
        have hi : i < ss.length := (List.getElem?_eq_some_iff.mp hst).1
        have at1 := sm _ _ hat
        have il : (countsM (ss.take i)).length ≤ 400 := by
          have := countsM_len (ss.take i)
          rw [List.length_take] at this
          omega
        have gt : DGet H1 d (.ref a) (valV ((countsM (ss.take i)).map entC) (keyS st)) := DGet.t hdi at1
        rw [valV_ent] at gt
        refine ⟨_, rfl, d, rfl, .inr ⟨_, .inl hdi⟩, _, rfl, _, gt, ?_⟩
        have ev : ((getC (countsM (ss.take i)) st).map V.int).getD (.int 0) = .int ((getC (countsM (ss.take i)) st).getD 0) := by
          cases getC (countsM (ss.take i)) st <;> rfl
        rw [ev]
        refine ⟨_, _, rfl, rfl, _, rfl, _, rfl, d, _, rfl, DPut.t (k := keyS st) hdi at1 (by rw [List.length_map]; exact small1000 (by omega)), _, rfl, ?_, ?_⟩
        · intro b o e
          have hb : b ≠ d := ne_of_none e hd
          rw [upd_ne hb]
          exact sm _ _ e
        · rw [upd_same, put_entC]
          have e2 : ss.take (i + 1) = ss.take i ++ [st] := by rw [List.take_add_one, hst]; rfl
          rw [e2, countsM_snoc]
          rfl
    · rintro σ H1 ⟨v2, rfl, sm, hdi⟩
      rw [List.length_map, Paired.length pr, List.take_length] at hdi
      exact ⟨_, rfl, q H1 d sm hd hdi⟩
end
end Hm

set_option Elab.async false
set_option maxRecDepth 100000
set_option maxHeartbeats 4000000
namespace Hm
open PySem PySem.Spec PyProof.Rows L2 HmS
abbrev stHas : Stmt := topSt 47 -- row _law_has
abbrev stGap : Stmt := topSt 48 -- row _law_gaps
/-! ### rising by stamps -/
def rowI (s : StT) : List Int := [s.1, s.2.1, s.2.2]
theorem rowI_inj {s t : StT} (h : rowI s = rowI t) : s = t := by
  simp only [rowI, List.cons.injEq, and_true] at h
  exact Prod.ext h.1 (Prod.ext h.2.1 h.2.2)
theorem dl_st (s t : StT) : PySem.W.dataLt (keyD (keyS s)) (keyD (keyS t)) = decide (rowI s < rowI t) := by
  show PySem.W.dataLt (.tuple ((rowI s).map PyData.int)) (.tuple ((rowI t).map PyData.int)) = _
  rw [PySem.W.dataLt_tuple]
  exact PySem.W.dataLt_ints (rowI s) (rowI t)
def riseM (cs : CtT) : CtT := cs.mergeSort (PySem.W.dataLe false fun c => keyD (keyS c.1))
def stLt (a b : StT × Int) : Prop := rowI a.1 < rowI b.1
theorem riseM_perm (cs : CtT) : (riseM cs).Perm cs := List.mergeSort_perm _ _
theorem riseM_rise {cs : CtT} (nd : (cs.map (·.1)).Nodup) : (riseM cs).Pairwise stLt := by
  have h1 : (riseM cs).Pairwise (fun a b => PySem.W.dataLe false (fun c : StT × Int => keyD (keyS c.1)) a b = true) := PySem.W.sort_pairwise (PySem.W.sortLe_total _ _ _) _
  have h2 : ((riseM cs).map (·.1)).Nodup := ((riseM_perm cs).map _).nodup_iff.mpr nd
  rw [List.Nodup, List.pairwise_map] at h2
  refine (h1.and h2).imp fun {a b} h => ?_
  have h3 : (!PySem.W.dataLt (keyD (keyS b.1)) (keyD (keyS a.1))) = true := h.1
  rw [dl_st] at h3
  have h4 : ¬ rowI b.1 < rowI a.1 := fun z => by rw [decide_eq_true z] at h3; cases h3
  exact Std.lt_of_le_of_ne h4 fun z => h.2 (rowI_inj z)
theorem stLt_irr {a : StT × Int} : ¬ stLt a a := List.lt_irrefl _
theorem stLt_asym {a b : StT × Int} (h : stLt a b) (h' : stLt b a) : False := List.lt_irrefl _ (List.lt_trans h h')
def kcC (c : StT × Int) : List Key × Int := (keyS c.1, c.2)
theorem kcC_inj {a b : StT × Int} (h : kcC a = kcC b) : a = b := by
  have h1 := congrArg Prod.fst h
  have h2 := congrArg Prod.snd h
  exact Prod.ext (keyS_inj h1) h2
theorem al_st (s t : StT) : PySem.W.alike (keyD (keyS s)) (keyD (keyS t)) = true := by simp [keyD, keyS, HmS.kD, PySem.W.alike, PySem.W.alikeAll]
theorem eqv_st {s t : StT} (h : s ≠ t) : PyData.eqv (keyD (keyS s)) (keyD (keyS t)) = false := by
  cases e : PyData.eqv (keyD (keyS s)) (keyD (keyS t)) with
  | false => rfl
  | true =>
    refine absurd ?_ h
    simp [keyD, keyS, HmS.kD, PyData.eqv, PyData.eqvAll] at e
    exact Prod.ext e.1 (Prod.ext e.2.1 e.2.2)
theorem sortC_rise {cs : CtT} (nd : (cs.map (·.1)).Nodup) : sortC (cs.map kcC) = (riseM cs).map kcC := by
  have e : sortC (cs.map kcC) = (cs.mergeSort (PySem.W.dataLe false fun c => encC (kcC c))).map kcC := by
    unfold sortC
    exact (PySem.W.sort_maps (r := PySem.W.dataLe false fun c : StT × Int => encC (kcC c)) kcC (fun a _ b _ => rfl)).symm
  rw [e]
  congr 1
  have hp : (cs.mergeSort (PySem.W.dataLe false fun c => encC (kcC c))).Perm cs := List.mergeSort_perm _ _
  refine List.Perm.eq_of_pairwise (le := stLt) (fun a b _ _ h h' => (stLt_asym h h').elim) ?_ (riseM_rise nd) (hp.trans (riseM_perm cs).symm)
  have h1 : (cs.mergeSort (PySem.W.dataLe false fun c => encC (kcC c))).Pairwise (fun a b => PySem.W.dataLe false (fun c : StT × Int => encC (kcC c)) a b = true) := PySem.W.sort_pairwise (PySem.W.sortLe_total _ _ _) _
  have h2 : ((cs.mergeSort (PySem.W.dataLe false fun c => encC (kcC c))).map (·.1)).Nodup := (hp.map _).nodup_iff.mpr nd
  rw [List.Nodup, List.pairwise_map] at h2
  refine (h1.and h2).imp fun {a b} h => ?_
  have h3 : (!PySem.W.dataLt (encC (kcC b)) (encC (kcC a))) = true := h.1
  have h5 : PySem.W.dataLt (encC (kcC b)) (encC (kcC a)) = decide (rowI b.1 < rowI a.1) := by
    show PySem.W.dataLt (.tuple [keyD (keyS b.1), .int b.2]) (.tuple [keyD (keyS a.1), .int a.2]) = _
    rw [PySem.W.dataLt_pair (al_st _ _) (by simp [PySem.W.alike]), eqv_st (Ne.symm h.2), if_neg Bool.false_ne_true, dl_st]
  rw [h5] at h3
  have h4 : ¬ rowI b.1 < rowI a.1 := fun z => by rw [decide_eq_true z] at h3; cases h3
  exact Std.lt_of_le_of_ne h4 fun z => h.2 (rowI_inj z)
/-! ### has, gaps -/
def cntM (cs : CtT) (s : StT) : Int := (getC cs s).getD 0
def hasM (cs : CtT) (p : PlT) : Bool := decide (cntM cs (p.1, p.2, 0) + cntM cs (p.1, p.2, 1) > 0)
def manyM (sets : List SetT) (i : Nat) : Nat := ((sets[i]?).map fun s => s.2.2.toNat).getD 0
def gapsM (sets : List SetT) (cs : CtT) (i : Nat) : List Int := ((List.range (manyM sets i)).map fun (k : Nat) => (k : Int)).filter fun k => !hasM cs ((i : Int), k)
theorem getD_ev (cs : CtT) (s : StT) : ((getC cs s).map V.int).getD (.int 0) = .int (cntM cs s) := by
  unfold cntM
  cases getC cs s <;> rfl
def spHas : Sp := fun vs H Q _ => ∃ (d p : Addr) (cs : CtT) (pl : PlT), vs = [.ref d, .ref p] ∧ H d = some (.dT (cs.map entC)) ∧ PlAt H p pl ∧ ∀ (H' : Hp), Same H H' → Q (.bl (hasM cs pl)) H'
def spGap : Sp := fun vs H Q _ => ∃ (b d : Addr) (i : Nat) (sets : List SetT) (cs : CtT), vs = [.ref b, .ref d, .int (i : Int)] ∧ Book H b sets ∧ i < sets.length ∧ H d = some (.dT (cs.map entC)) ∧
  ∀ (H' : Hp) (l : Addr), Same H H' → H l = none → H' l = some (.lst ((gapsM sets cs i).map V.int)) → Q (.ref l) H'
structure TxtGap (mg : Str → Option Value) (fH : Addr) : Prop where
  range : mg "range" = none
  gH : mg "_law_has" = some (.ref fH)
section
variable {P : Program} {w : World} {K : PySem.W.Frag} {mg : Str → Option Value} {base : Heap}
abbrev nHas : List Str := ["_law_counts_here", "_law_place"]
theorem sc_has : FnScope nHas ["_law_counts_here", "_law_place"] (defScope stHas) := ⟨rfl, rfl, rfl, by decide +kernel, rfl, by decide +kernel, by decide +kernel⟩
theorem ok_has {f : Addr} {fd : FuncData} (F : Fun K "_law_has" "_law_has" stHas f fd) : FnOk P w K mg base CX0 1 f fd ["_law_counts_here", "_law_place"] spHas := by
  refine F.ok sc_has (fun vs H Q E h => ?_) (fun cdv A outer s H vs Q E hr h => ?_)
  · obtain ⟨d, p, cs, pl, rfl, _⟩ := h
    rfl
  · obtain ⟨d, p, cs, pl, rfl, hd, hp, q⟩ := h
    have hu := hu_of hr
    refine ⟨_, pss_one (ps_ret (pe_cmpR op_gt (pe_op op_add (pe_dget2 hu (pv 0) (pe_op op_catT (pv 1) (pe_tup (pa_cons pe_int pa_nil))) pe_int ⟨rfl, rfl, rfl, rfl⟩)
      (pe_dget2 hu (pv 0) (pe_op op_catT (pv 1) (pe_tup (pa_cons pe_int pa_nil))) pe_int ⟨rfl, rfl, rfl, rfl⟩)) pe_int (nomark _))), ?_⟩
    refine ⟨_, rfl, d, rfl, .inr ⟨_, .inl hd⟩, _, rfl, by show 1 ≤ sizeLine; decide, fun t1 h1 => ⟨_, t1, _, _, rfl, rfl, SqT.of ((same_upd h1) _ _ hp), SqT.of upd_same, by simp, by show 3 ≤ sizeLine; decide, ⟨fun z => (by cases z), fun _ t2 h2 => ?_⟩⟩⟩
    have s2 : Same H _ := (same_upd (o := .tup [V.int 0]) h1).trans (same_upd (o := .tup ([V.int pl.1, V.int pl.2] ++ [V.int 0])) h2)
    have g1 := DGet.t (k := keyS (pl.1, pl.2, 0)) (s2 _ _ hd) upd_same
    rw [valV_ent] at g1
    refine ⟨_, g1, ?_⟩
    rw [getD_ev]
    refine ⟨_, rfl, d, rfl, .inr ⟨_, .inl (s2 _ _ hd)⟩, _, rfl, by show 1 ≤ sizeLine; decide, fun t3 h3 => ⟨_, t3, _, _, rfl, rfl, SqT.of ((same_upd h3) _ _ (s2 _ _ hp)), SqT.of upd_same, by simp, by show 3 ≤ sizeLine; decide, ⟨fun z => (by cases z), fun _ t4 h4 => ?_⟩⟩⟩
    have s4 : Same H _ := (s2.trans (same_upd (o := .tup [V.int 1]) h3)).trans (same_upd (o := .tup ([V.int pl.1, V.int pl.2] ++ [V.int 1])) h4)
    have g2 := DGet.t (k := keyS (pl.1, pl.2, 1)) (s4 _ _ hd) upd_same
    rw [valV_ent] at g2
    refine ⟨_, g2, ?_⟩
    rw [getD_ev]
    exact ⟨_, _, rfl, rfl, _, _, rfl, rfl, q _ s4⟩
abbrev nGap : List Str := ["_law_sets", "_law_counts_here", "_law_at", "_law_number"]
theorem sc_gap : FnScope nGap ["_law_sets", "_law_counts_here", "_law_at"] (defScope stGap) := ⟨rfl, rfl, rfl, by decide +kernel, rfl, by decide +kernel, by decide +kernel⟩
theorem ok_gap {f fH : Addr} {fd fdH : FuncData} (F : Fun K "_law_gaps" "_law_gaps" stGap f fd) (T : TxtGap mg fH) (kH : PySem.W.keepIn K (.ref fH) = true)
    (GH : FnOk P w K mg base CX0 1 fH fdH ["_law_counts_here", "_law_place"] spHas) (bH : Binds K fdH ["_law_counts_here", "_law_place"] []) :
    FnOk P w K mg base CX0 2 f fd ["_law_sets", "_law_counts_here", "_law_at"] spGap := by
  refine F.ok sc_gap (fun vs H Q E h => ?_) (fun cdv A outer s H vs Q E hr h => ?_)
  · obtain ⟨b, d, i, sets, cs, rfl, _⟩ := h
    rfl
  · obtain ⟨b, d, i, sets, cs, rfl, bk, hi, hd, q⟩ := h
    obtain ⟨ok, bs, hb, pb⟩ := id bk
    refine ⟨_, pss_one (ps_ret (pe_lc (own := [("_law_number", 3)]) (g := gName 3) rfl sc_gap.nd (pi_range1 (by rfl) T.range (pa_cons (pe_ix (r := rIxT K) ix_tup (pe_ix (r := rIxT K) ix_tup (pv 0) (pv 2) (fun _ _ => rfl)) pe_int (fun _ _ => rfl)) pa_nil))
      (blkOk_by (N := nGap) (sc := defScope stGap) (by decide +kernel)) (fun _ _ _ _ _ => pg_name (i := 3) sc_gap.nd rfl (Or.inl rfl))
      (fun _ _ _ _ _ => pts_one (pt_not (pt_val (pe_call GH hr (by rfl) T.gH kH bH .nil pass0 (pa_cons (pv 1) (pa_cons (pe_tup (pa_cons (pv 2) (pa_cons (pv 3) pa_nil))) pa_nil)))))) (fun _ _ _ _ _ => pv 3))), ?_⟩
    obtain ⟨st, hst⟩ : ∃ st, sets[i]? = some st := ⟨_, List.getElem?_eq_getElem hi⟩
    obtain ⟨a, ha, hat⟩ := Paired.gt pb hst
    have okS := ok.ok st (List.mem_of_getElem? hst)
    have em : manyM sets i = st.2.2.toNat := by simp [manyM, hst]
    refine ⟨_, rfl, _, rfl, b, _, _, .ref a, rfl, rfl, SqT.of hb, atI_nat (by rw [List.getElem?_map, ha]; rfl), a, _, _, .int st.2.2, rfl, rfl, SqT.of hat, rfl, ?_⟩
    refine ⟨st.2.2, rfl, by have := okS.m0; omega, by have := okS.m1; omega, fun D hD => lc_range (lo := 0) (n := st.2.2.toNat)
      (fun k H' => Same H H' ∧ H' D = some (.lst ((((List.range k).map fun (k : Nat) => (k : Int)).filter fun k => !hasM cs ((i : Int), k)).map V.int))) ⟨same_upd hD, upd_same⟩ (fun k H' hk pv => ?_) (fun H' pv => ?_)⟩
    · obtain ⟨sk, hDk⟩ := pv
      have ln : ((((List.range k).map fun (k : Nat) => (k : Int)).filter fun k => !hasM cs ((i : Int), k)).map V.int).length ≤ 6 := by
        have h1 := List.length_filter_le (fun k => !hasM cs ((i : Int), k)) ((List.range k).map fun (k : Nat) => (k : Int))
        rw [List.length_map, List.length_range] at h1
        have h2 := okS.m0
        have h3 := okS.m1
        rw [List.length_map]
        omega
      have es : ((List.range (k + 1)).map fun (k : Nat) => (k : Int)).filter (fun k => !hasM cs ((i : Int), k)) = ((List.range k).map fun (k : Nat) => (k : Int)).filter (fun k => !hasM cs ((i : Int), k)) ++ (if (!hasM cs ((i : Int), (k : Int))) = true then [(k : Int)] else []) := by
        rw [List.range_succ, List.map_append, List.filter_append]
        congr 1
        rw [List.map_cons, List.map_nil, List.filter_cons, List.filter_nil]
      refine ⟨rfl, _, rfl, _, rfl, _, rfl, by show 2 ≤ sizeLine; decide, fun t ht => ⟨d, t, cs, ((i : Int), 0 + (k : Int)), rfl, (same_upd ht) _ _ (sk _ _ hd), upd_same, fun H4 s4 => ⟨_, rfl, ?_⟩⟩⟩
      have sH : Same H H4 := (sk.trans (same_upd ht)).trans s4
      have hD4 : H4 D = some _ := s4 _ _ ((same_upd ht) _ _ hDk)
      rw [Int.zero_add]
      refine ite2 (fun c => ?_) (fun c => ?_)
      · refine ⟨_, rfl, _, hD4, by rw [sizeLine_eq]; omega, fun x o e => ?_, ?_⟩
        · rw [upd_ne (ne_of_none e hD)]
          exact sH _ _ e
        · rw [upd_same, es, if_pos c, List.map_append]
          rfl
      · refine ⟨sH, ?_⟩
        rw [es, if_neg c, List.append_nil]
        exact hD4
    · obtain ⟨sk, hDk⟩ := pv
      exact q H' D sk hD (by rw [hDk]; unfold gapsM; rw [em])
end
end Hm

set_option Elab.async false
set_option maxRecDepth 100000
set_option maxHeartbeats 4000000
namespace Hm
open PySem PySem.Spec PyProof.Rows L2 HmS
abbrev stAll : Stmt := topSt 46 -- row _law_all
abbrev stDbl : Stmt := topSt 49 -- row _law_doubles
abbrev stNam : Stmt := topSt 43 -- row _law_name
/-! ### rows: a stamp and how many -/
def RowAt (H : Hp) (a : Addr) (c : StT × Int) : Prop := ∃ t, H a = some (.tup [.ref t, .int c.2]) ∧ StAt H t c.1
theorem RowAt.same {H H' : Hp} (s : Same H H') {a : Addr} {c : StT × Int} (h : RowAt H a c) : RowAt H' a c := by
  obtain ⟨t, e, f⟩ := h
  exact ⟨t, s _ _ e, s _ _ f⟩
theorem rows_same {H H' : Hp} (s : Same H H') {as : List Addr} {cs : CtT} (p : Paired (RowAt H) as cs) : Paired (RowAt H') as cs := Paired.mp (fun _ _ q => q.same s) p
theorem isKeys_zipC {H : Hp} : ∀ {cs : CtT} {bs : List Addr}, IsKeys H (cs.map entC) bs → bs.length = cs.length ∧ ∀ z ∈ bs.zip cs, StAt H z.1 z.2.1
  | [], bs, h => by
    unfold IsKeys at h
    cases h
    exact ⟨rfl, fun z hz => by simp at hz⟩
  | s :: ps, bs, h => by
    unfold IsKeys at h
    cases h with
    | cons h1 h2 =>
      obtain ⟨l, q⟩ := isKeys_zipC (cs := ps) h2
      refine ⟨by simp [l], fun z hz => ?_⟩
      rw [List.zip_cons_cons] at hz
      rcases List.mem_cons.mp hz with rfl | hz
      · exact h1
      · exact q z hz
def sortZ (bs : List Addr) (cs : CtT) : List (Addr × (StT × Int)) := (bs.zip cs).mergeSort (PySem.W.dataLe false fun z => keyD (keyS z.2.1))
theorem sortZ_refs (bs : List Addr) (cs : CtT) : (((bs.zip (cs.map entC)).mergeSort (PySem.W.dataLe false fun z => keyD z.2.1)).map fun z => V.ref z.1) = (sortZ bs cs).map fun z => V.ref z.1 := by
  have e : bs.zip (cs.map entC) = (bs.zip cs).map fun z => (z.1, entC z.2) := by
    rw [List.zip_map_right]
    rfl
  unfold sortZ
  rw [e, ← PySem.W.sort_maps (r := PySem.W.dataLe false fun z : Addr × (StT × Int) => keyD (keyS z.2.1)) (fun z : Addr × (StT × Int) => (z.1, entC z.2)) (fun a _ b _ => rfl), List.map_map]
  rfl
theorem sortZ_perm (bs : List Addr) (cs : CtT) : (sortZ bs cs).Perm (bs.zip cs) := List.mergeSort_perm _ _
theorem sortZ_rise {bs : List Addr} {cs : CtT} (h : bs.length = cs.length) : (sortZ bs cs).map (·.2) = riseM cs := by
  unfold sortZ riseM
  rw [PySem.W.sort_maps (r := PySem.W.dataLe false fun z : Addr × (StT × Int) => keyD (keyS z.2.1)) (s := PySem.W.dataLe false fun c : StT × Int => keyD (keyS c.1)) (fun z : Addr × (StT × Int) => z.2) (fun a _ b _ => rfl), List.map_snd_zip (by omega)]
theorem alike_keys (cs : CtT) : PySem.W.AllAlike ((cs.map entC).map fun p => keyD p.1) := by
  intro x hx y hy
  obtain ⟨z1, m1, rfl⟩ := List.mem_map.mp hx
  obtain ⟨z2, m2, rfl⟩ := List.mem_map.mp hy
  obtain ⟨s1, _, rfl⟩ := List.mem_map.mp m1
  obtain ⟨s2, _, rfl⟩ := List.mem_map.mp m2
  exact al_st s1.1 s2.1
theorem ne_keys (cs : CtT) : ∀ p ∈ cs.map entC, p.1 ≠ [] := by
  intro x hx
  obtain ⟨s1, _, rfl⟩ := List.mem_map.mp hx
  simp [entC, keyS]
def spAll : Sp := fun vs H Q _ => ∃ (d : Addr) (cs : CtT), vs = [.ref d] ∧ H d = some (.dT (cs.map entC)) ∧ cs.length ≤ 400 ∧ (∀ c ∈ cs, 1 ≤ c.2) ∧
  ∀ (H' : Hp) (l : Addr) (rs : List Addr), Same H H' → H l = none → H' l = some (.lst (rs.map V.ref)) → Paired (RowAt H') rs (riseM cs) → Q (.ref l) H'
def keptM (cs : CtT) (s : StT) : Int := if s.2.2 = 0 ∧ cntM cs (s.1, s.2.1, 1) > 0 then 0 else 1
def dblM (cs : CtT) (c : StT × Int) : CtT := if c.2 > keptM cs c.1 then [(c.1, c.2 - keptM cs c.1)] else []
def dblsM (cs : CtT) : CtT := (riseM cs).flatMap (dblM cs)
def spDbl : Sp := fun vs H Q _ => ∃ (d : Addr) (cs : CtT), vs = [.ref d] ∧ H d = some (.dT (cs.map entC)) ∧ cs.length ≤ 400 ∧ (∀ c ∈ cs, 1 ≤ c.2) ∧
  ∀ (H' : Hp) (l : Addr) (rs : List Addr), Same H H' → H l = none → H' l = some (.lst (rs.map V.ref)) → Paired (RowAt H') rs (dblsM cs) → Q (.ref l) H'
def namesL : List Str := ["", "a", "z", "ann", "bobbobbo"]
def spNam : Sp := fun vs H Q _ => ∃ p : Addr, vs = [.ref p] ∧ PenAt H p ∧ ∀ (n : Str) (H' : Hp), n ∈ namesL → Keep p H H' → PenAt H' p → Q (.str n) H'
section
variable {P : Program} {w : World} {K : PySem.W.Frag} {mg : Str → Option Value} {base : Heap}
theorem sc_nam : FnScope ["_law_pen_here"] ["_law_pen_here"] (defScope stNam) := ⟨rfl, rfl, rfl, by decide +kernel, rfl, by decide +kernel, by decide +kernel⟩
theorem ok_nam {f fD : Addr} {fd fdD : FuncData} (F : Fun K "_law_name" "_law_name" stNam f fd) (gD : mg "_law_draw" = some (.ref fD)) (kD : PySem.W.keepIn K (.ref fD) = true)
    (GD : FnOk P w K mg base CX0 1 fD fdD ["_law_pen_here", "_law_bound"] spDrawn) (bD : Binds K fdD ["_law_pen_here", "_law_bound"] []) :
    FnOk P w K mg base CX0 2 f fd ["_law_pen_here"] spNam := by
  refine F.ok sc_nam (fun vs H Q E h => ?_) (fun cdv A outer s H vs Q E hr h => ?_)
  · obtain ⟨p, rfl, _⟩ := h
    rfl
  · obtain ⟨p, rfl, pen, q⟩ := h
    refine ⟨_, pss_one (ps_ret (pe_ix ix_list (pe_lst (pa_cons pe_str (pa_cons pe_str (pa_cons pe_str (pa_cons pe_str (pa_cons pe_str pa_nil)))))) (pe_call GD hr (by rfl) gD kD bD .nil pass0 (pa_cons (pv 0) (pa_cons pe_int pa_nil))) (fun _ _ => rfl))), ?_⟩
    refine ⟨by show 5 ≤ sizeLine; decide, fun l hl => draw_run rfl (pen_upd pen hl) (by decide) (by decide) fun r H3 b0 b1 pen3 but3 => ?_⟩
    obtain ⟨v, hv, atv⟩ := at_draw (xs := [V.str "", V.str "a", V.str "z", V.str "ann", V.str "bobbobbo"]) b0 b1
    obtain ⟨z, rfl, hz⟩ : ∃ z, v = V.str z ∧ z ∈ namesL := by
      simp only [List.mem_cons, List.not_mem_nil, or_false] at hv
      rcases hv with rfl | rfl | rfl | rfl | rfl <;> exact ⟨_, rfl, by simp [namesL]⟩
    exact ⟨l, _, r, _, rfl, rfl, SqL.of (by rw [but3 l (pen_ne_none pen hl)]; exact upd_same), atv, q z H3 hz ((keep_upd hl).trans but3.keep) pen3⟩
abbrev nAll : List Str := ["_law_counts_here", "_law_stamp"]
theorem sc_all : FnScope nAll ["_law_counts_here"] (defScope stAll) := ⟨rfl, rfl, rfl, by decide +kernel, rfl, by decide +kernel, by decide +kernel⟩
theorem ok_all {f : Addr} {fd : FuncData} (F : Fun K "_law_all" "_law_all" stAll f fd) (hS : mg "sorted" = none) : FnOk P w K mg base CX0 1 f fd ["_law_counts_here"] spAll := by
  refine F.ok sc_all (fun vs H Q E h => ?_) (fun cdv A outer s H vs Q E hr h => ?_)
  · obtain ⟨d, cs, rfl, _⟩ := h
    rfl
  · obtain ⟨d, cs, rfl, hd, hz, hp, q⟩ := h
    have hu := hu_of hr
    refine ⟨_, pss_one (ps_ret (pe_lc (own := [("_law_stamp", 1)]) (g := gName 1) rfl sc_all.nd
        (pi_list (pe_callB (cr_sortDT rfl hr.units) (by rfl) hS (by decide +kernel) (pa_cons (pv 0) pa_nil)))
        (blkOk_by (N := nAll) (sc := defScope stAll) (by decide +kernel)) (fun _ _ _ _ _ => pg_name (i := 1) sc_all.nd rfl (Or.inl rfl))
        (fun _ _ _ _ _ => pts_one (pt_cmpR op_gt (pe_dget hu (pv 0) (pv 1) (fun _ _ => rfl)) pe_int (nomark _)))
        (fun _ _ _ _ _ => pe_tup (pa_cons (pv 1) (pa_cons (pe_dget hu (pv 0) (pv 1) (fun _ _ => rfl)) pa_nil))))), ?_⟩
    refine ⟨_, rfl, d, cs.map entC, rfl, Rd.of hd, by rw [List.length_map]; omega, alike_keys cs, ne_keys cs, fun l bs hl hik nk => ?_⟩
    rw [sortZ_refs]
    obtain ⟨lb, hzz⟩ := isKeys_zipC hik
    have nd : (cs.map (·.1)).Nodup := by
      rw [List.map_map] at nk
      have e : (cs.map (Prod.fst ∘ entC)) = (cs.map (·.1)).map keyS := by rw [List.map_map]; rfl
      rw [e] at nk
      rw [List.Nodup, List.pairwise_map] at nk
      exact nk.imp fun h z => h (by rw [z])
    have lz : (sortZ bs cs).length = cs.length := by
      rw [(sortZ_perm bs cs).length_eq, List.length_zip]
      omega
    refine ⟨l, rfl, ⟨_, SqL.of upd_same⟩, fun D hD => lc_list (K := K) (xs := (sortZ bs cs).map fun z => V.ref z.1)
        (fun i H' => Same (upd H l (.lst ((sortZ bs cs).map fun z => V.ref z.1))) H' ∧ ∃ rs : List Addr, H' D = some (.lst (rs.map V.ref)) ∧ Paired (RowAt H') rs (((sortZ bs cs).take i).map (·.2)))
        ⟨same_upd hD, [], upd_same, .nil⟩ (fun i H' _ pv => SqL.of (pv.1 _ _ upd_same)) (fun i x H' hx pv => ?_) (fun H' pv => ?_)⟩
    · obtain ⟨sm, rs, hDl, pr⟩ := pv
      rw [List.getElem?_map] at hx
      cases hi : (sortZ bs cs)[i]? with
      | none =>
        rw [hi] at hx
        cases hx
      | some z =>
        rw [hi] at hx
        cases hx
        have hm := (sortZ_perm bs cs).mem_iff.mp (List.mem_of_getElem? hi)
        have hm2 : z.2 ∈ cs := (List.of_mem_zip hm).2
        have s0 : Same H H' := (same_upd hl).trans sm
        have gz : getC cs z.2.1 = some z.2.2 := getC_of nd hm2
        have ez := s0 _ _ (hzz z hm)
        have gt : ∀ {G : Hp}, Same H' G → DGet G d (.ref z.1) (some (.int z.2.2)) := fun {G} sg => by
          have g1 : DGet G d (.ref z.1) (valV (cs.map entC) (keyS z.2.1)) := DGet.t (sg _ _ (s0 _ _ hd)) (sg _ _ ez)
          rw [valV_ent, gz] at g1
          exact g1
        have pz : 1 ≤ z.2.2 := hp _ hm2
        have lrs : rs.length ≤ 400 := by
          rw [Paired.length pr, List.length_map, List.length_take]
          omega
        refine ⟨rfl, _, rfl, _, rfl, d, _, rfl, gt (fun _ _ e => e), _, _, rfl, rfl, _, rfl, ?_⟩
        refine ite2 (fun _ => ?_) (fun c => absurd (decide_eq_true (by show z.2.2 > 0; omega)) c)
        refine ⟨_, rfl, _, rfl, _, rfl, d, _, rfl, gt (fun _ _ e => e), by show 2 ≤ sizeLine; decide, fun t ht => ?_⟩
        have nD : ∀ {b : Addr} {o : HO}, (upd H l (.lst ((sortZ bs cs).map fun z => V.ref z.1))) b = some o → b ≠ D := fun e => ne_of_none e hD
        refine ⟨_, (same_upd ht) _ _ hDl, by rw [List.length_map]; exact small1000 (by omega), fun b o e => ?_, rs ++ [t], by rw [upd_same, List.map_append]; rfl, ?_⟩
        · rw [upd_ne (nD e)]
          exact (same_upd ht) _ _ (sm _ _ e)
        · have e2 : (sortZ bs cs).take (i + 1) = (sortZ bs cs).take i ++ [z] := by rw [List.take_add_one, hi]; rfl
          rw [e2, List.map_append]
          have nT : ∀ {c : Addr} {xs : List V} {G : Hp}, G D = some (.lst (rs.map V.ref)) → G c = some (.tup xs) → c ≠ D := fun e1 e2 y => by
            rw [y, e1] at e2
            cases e2
          have hD2 := (same_upd (o := .tup [.ref z.1, .int z.2.2]) ht) _ _ hDl
          refine Paired.snoc ?_ (Paired.mp (fun a c h => ?_) pr)
          · refine ⟨z.1, ?_, ?_⟩
            · rw [upd_ne (nT hD2 upd_same)]
              exact upd_same
            · show upd _ D _ z.1 = _
              rw [upd_ne (nT hDl ez)]
              exact (same_upd ht) _ _ ez
          · obtain ⟨u, h1, h2⟩ := h
            refine ⟨u, ?_, ?_⟩
            · rw [upd_ne (nT hDl h1)]
              exact (same_upd ht) _ _ h1
            · show upd _ D _ u = _
              rw [upd_ne (nT hDl h2)]
              exact (same_upd ht) _ _ h2
    · obtain ⟨sm, rs, hDl, pr⟩ := pv
      rw [List.length_map, List.take_length, sortZ_rise lb] at pr
      exact q H' D rs ((same_upd hl).trans sm) (none_of (same_upd hl) hD) hDl pr
end
end Hm

set_option Elab.async false
set_option maxRecDepth 100000
set_option maxHeartbeats 4000000
namespace Hm
open PySem PySem.Spec PyProof.Rows L2 HmS
theorem seqJ {t u : TS} {D : Ends} {σ : L2.St} {H : Hp} (R : L2.St → Hp → Prop) (hJ : ∀ σ' G, R σ' G → u D σ' G) (h : (∀ σ' G, R σ' G → u D σ' G) → t { D with nx := fun σ' G => u D σ' G } σ H) : tSeq t u D σ H := h hJ
theorem RowAt.keep {l : Addr} {xs : List V} {H H' : Hp} (k : Keep l H H') (hl : H l = some (.lst xs)) {a : Addr} {c : StT × Int} (h : RowAt H a c) : RowAt H' a c := by
  have n : ∀ {b : Addr} {ys : List V}, H b = some (.tup ys) → b ≠ l := fun e z => by
    rw [z, hl] at e
    cases e
  obtain ⟨t, e, f⟩ := h
  exact ⟨t, k _ _ (n e) e, k _ _ (n f) f⟩
theorem keep_new {l : Addr} {H H' : Hp} (k : Keep l H H') (hl : H l = none) : Same H H' := fun b o e => k b o (ne_of_none e hl) e
theorem dblM_len (cs : CtT) (c : StT × Int) : (dblM cs c).length ≤ 1 := by
  unfold dblM
  split <;> simp
structure TxtDbl (mg : Str → Option Value) (fA : Addr) : Prop where
  gA : mg "_law_all" = some (.ref fA)
section
variable {P : Program} {w : World} {K : PySem.W.Frag} {mg : Str → Option Value} {base : Heap}
abbrev nDbl : List Str := ["_law_counts_here", "_law_found", "_law_stamp", "_law_many", "_law_kept"]
theorem sc_dbl : FnScope nDbl ["_law_counts_here"] (defScope stDbl) := ⟨rfl, rfl, rfl, by decide +kernel, rfl, by decide +kernel, by decide +kernel⟩
theorem ok_dbl {f fA : Addr} {fd fdA : FuncData} (F : Fun K "_law_doubles" "_law_doubles" stDbl f fd) (T : TxtDbl mg fA) (kA : PySem.W.keepIn K (.ref fA) = true)
    (GA : FnOk P w K mg base CX0 1 fA fdA ["_law_counts_here"] spAll) (bA : Binds K fdA ["_law_counts_here"] []) : FnOk P w K mg base CX0 2 f fd ["_law_counts_here"] spDbl := by
  refine F.ok sc_dbl (fun vs H Q E h => ?_) (fun cdv A outer s H vs Q E hr h => ?_)
  · obtain ⟨d, cs, rfl, _⟩ := h
    rfl
  · obtain ⟨d, cs, rfl, hd, hz, hp, q⟩ := h
    have hu := hu_of hr
    refine ⟨_, pss_cons (ps_set (i := 1) sc_dbl.nd rfl (Or.inl rfl) (pe_lst pa_nil))
      (pss_cons (ps_for PassesOwn.never rfl (pi_list (pe_call GA hr (by rfl) T.gA kA bA .nil pass0 (pa_cons (pv 0) pa_nil)))
          (pg_tup rfl (pgs_cons (pg_name (i := 2) sc_dbl.nd rfl (Or.inl rfl)) (pgs_cons (pg_name (i := 3) sc_dbl.nd rfl (Or.inl rfl)) pgs_nil)))
        (pss_cons (ps_set (i := 4) sc_dbl.nd rfl (Or.inl rfl) pe_int)
        (pss_cons (ps_if (PW.pt (pw_and (pt_cmpR op_eq (pe_ix (r := rIxT K) ix_tup (pv 2) pe_int (fun _ _ => rfl)) pe_int (nomark _))
              (pw_and1 (pt_cmpR op_gt (pe_dget2 hu (pv 0) (pe_op op_catT (pe_slice sl_tup (pv 2) po_none (po_some pe_int)) (pe_tup (pa_cons pe_int pa_nil))) pe_int ⟨rfl, rfl, rfl, rfl⟩) pe_int (nomark _)))))
            (pss_one (ps_set (i := 4) sc_dbl.nd rfl (Or.inl rfl) pe_int)) pss_nil)
        (pss_one (ps_if (pt_cmpR op_gt (pv 3) (pv 4) (nomark _))
            (pss_one (ps_expr (pe_bm PySem.F.plainAttrs_list PySem.F.slot_list_append PySem.F.type_list_append mt_append (pv 1) (pa_cons (pe_tup (pa_cons (pv 2) (pa_cons (pe_op op_sub (pv 3) (pv 4)) pa_nil))) pa_nil)))) pss_nil)))))
      (pss_one (ps_ret (pv 1)))), ?_⟩
    refine seqset ⟨by decide, fun lf hlf => ⟨_, rfl, d, cs, rfl, (same_upd hlf) _ _ hd, hz, hp, fun H1 l rs s1 nl hl pr => ⟨l, rfl, ⟨_, SqL.of hl⟩, ?_⟩⟩⟩
    have hlf1 : H1 lf = some (.lst []) := s1 _ _ upd_same
    have llf : l ≠ lf := fun z => by
      rw [z, upd_same] at nl
      cases nl
    have hd1 : H1 d = some (.dT (cs.map entC)) := s1 _ _ ((same_upd hlf) _ _ hd)
    have dlf : d ≠ lf := fun z => by
      rw [z, hlf1] at hd1
      cases hd1
    have rl : (riseM cs).length = cs.length := (riseM_perm cs).length_eq
    refine for_list (K := K) (xs := rs.map V.ref) (fun i σ H' => ∃ (v2 v3 v4 : Option V) (qs : List Addr), σ = [some (.ref d), some (.ref lf), v2, v3, v4] ∧ Keep lf H1 H' ∧ H' lf = some (.lst (qs.map V.ref)) ∧ Paired (RowAt H') qs (((riseM cs).take i).flatMap (dblM cs)) ∧ qs.length ≤ i)
      ⟨none, none, none, [], rfl, Keep.refl, hlf1, .nil, Nat.zero_le _⟩ (fun i σ H' _ ⟨_, _, _, _, _, k, _⟩ => SqL.of (k _ _ llf hl)) ?_ ?_
    · rintro i x σ H2 hx ⟨v2, v3, v4, qs, rfl, k2, hlf2, pq, lq⟩
      rw [List.getElem?_map] at hx
      cases hbi : rs[i]? with
      | none =>
        rw [hbi] at hx
        cases hx
      | some r =>
        rw [hbi] at hx
        cases hx
        obtain ⟨c, hc, rat⟩ := Paired.gl pr hbi
        have hi : i < cs.length := by
          have := (List.getElem?_eq_some_iff.mp hc).1
          omega
        obtain ⟨t, e1, e2⟩ := rat.keep k2 hlf1
        refine ⟨r, _, rfl, SqT.of e1, rfl, _, _, rfl, _, _, rfl, rfl, seqset ?_⟩
        refine seqJ (fun σ' G => ∃ k : Int, σ' = [some (.ref d), some (.ref lf), some (.ref t), some (.int c.2), some (.int k)] ∧ Same H2 G ∧ k = keptM cs c.1) ?_ (fun J => ?_)
        · rintro σ' G ⟨k, rfl, sG, ek⟩
          have hlfG : G lf = some (.lst (qs.map V.ref)) := sG _ _ hlf2
          have et : (riseM cs).take (i + 1) = (riseM cs).take i ++ [c] := by rw [List.take_add_one, hc]; rfl
          have kG : Keep lf H1 G := k2.trans (Same.keep sG)
          refine ⟨_, rfl, _, rfl, _, _, rfl, rfl, _, rfl, ite2 (fun gt => ?_) (fun ng => ?_)⟩
          · have gt' : c.2 > k := of_decide_eq_true gt
            refine ⟨_, rfl, .inl ⟨rfl, _, SqL.of hlfG⟩, _, rfl, _, rfl, _, rfl, _, _, rfl, rfl, by show 2 ≤ sizeLine; decide, fun t2 ht2 => ⟨lf, _, _, rfl, rfl, (same_upd ht2) _ _ hlfG, by rw [List.length_map]; exact small1000 (by omega), ?_⟩⟩
            have t2lf : t2 ≠ lf := fun z => by
              rw [z, hlfG] at ht2
              cases ht2
            refine ⟨_, _, _, qs ++ [t2], rfl, fun b o hb e => ?_, by rw [upd_same, List.map_append]; rfl, ?_, by rw [List.length_append]; simp; omega⟩
            · rw [upd_ne hb]
              exact (same_upd ht2) _ _ (kG _ _ hb e)
            · rw [et, List.flatMap_append]
              have ed : [c].flatMap (dblM cs) = [(c.1, c.2 - k)] := by
                rw [List.flatMap_cons, List.flatMap_nil, List.append_nil]
                unfold dblM
                rw [← ek, if_pos gt']
              rw [ed]
              have kk : Keep lf G (upd (upd G t2 (.tup [.ref t, .int (c.2 - k)])) lf (.lst (qs.map V.ref ++ [.ref t2]))) := fun b o hb e => by
                rw [upd_ne hb]
                exact (same_upd ht2) _ _ e
              have e2G : StAt G t c.1 := sG _ _ e2
              have tlf : t ≠ lf := fun z => by
                have e3 : G t = some (.tup _) := e2G
                rw [z, hlfG] at e3
                cases e3
              refine Paired.snoc ⟨t, ?_, kk _ _ tlf e2G⟩ (Paired.mp (fun a b h => (h.same sG).keep kk hlfG) pq)
              rw [upd_ne t2lf]
              exact upd_same
          · have ng' : ¬ c.2 > k := fun z => ng (decide_eq_true z)
            refine ⟨_, _, _, qs, rfl, kG, hlfG, ?_, by omega⟩
            rw [et, List.flatMap_append]
            have ed : [c].flatMap (dblM cs) = [] := by
              rw [List.flatMap_cons, List.flatMap_nil, List.append_nil]
              unfold dblM
              rw [← ek, if_neg ng']
            rw [ed, List.append_nil]
            exact rows_same sG pq
        · have hd2 : H2 d = some (.dT (cs.map entC)) := k2 _ _ dlf hd1
          refine ⟨_, rfl, t, _, _, _, rfl, rfl, SqT.of e2, rfl, rfl, _, rfl, ite2 (fun g0 => ?_) (fun g1 => ?_)⟩
          · have g0' : c.1.2.2 = 0 := by simpa using g0
            refine ⟨_, rfl, d, rfl, .inr ⟨_, .inl hd2⟩, _, rfl, 2, rfl, t, _, rfl, SqT.of e2, (fun z => absurd z.2 (by show ¬ HT.sIx 3 3 (some 2) = 3; decide)), fun p1 hp1 => ⟨by show 1 ≤ sizeLine; decide, fun t1 ht1 => ?_⟩⟩
            refine ⟨p1, t1, _, _, rfl, rfl, SqT.of ((same_upd ht1) _ _ upd_same), SqT.of upd_same, (fun z => by cases z), by show 3 ≤ sizeLine; decide, ⟨fun z => (by cases z), fun _ t3 ht3 => ?_⟩⟩
            have sT : Same H2 _ := ((same_upd (o := .tup [V.int c.1.1, V.int c.1.2.1]) hp1).trans (same_upd (o := .tup [V.int 1]) ht1)).trans (same_upd (o := .tup ([V.int c.1.1, V.int c.1.2.1] ++ [V.int 1])) ht3)
            have g2 := DGet.t (k := keyS (c.1.1, c.1.2.1, 1)) (sT _ _ hd2) upd_same
            rw [valV_ent] at g2
            refine ⟨_, g2, ?_⟩
            rw [getD_ev]
            refine ⟨_, _, rfl, rfl, _, rfl, ite2 (fun h => ?_) (fun h => ?_)⟩
            · have h' : cntM cs (c.1.1, c.1.2.1, 1) > 0 := of_decide_eq_true h
              exact J _ _ ⟨0, rfl, sT, by unfold keptM; rw [if_pos ⟨g0', h'⟩]⟩
            · have h' : ¬ cntM cs (c.1.1, c.1.2.1, 1) > 0 := fun z => h (decide_eq_true z)
              exact J _ _ ⟨1, rfl, sT, by unfold keptM; rw [if_neg (fun z => h' z.2)]⟩
          · have g1' : ¬ c.1.2.2 = 0 := by simpa using g1
            exact J _ _ ⟨1, rfl, fun _ _ e => e, by unfold keptM; rw [if_neg (fun z => g1' z.1)]⟩
    · rintro σ H2 ⟨v2, v3, v4, qs, rfl, k2, hlf2, pq, lq⟩
      rw [List.length_map, Paired.length pr, List.take_length] at pq
      exact ⟨_, rfl, q H2 lf qs (keep_new (Keep.trans (Same.keep ((same_upd hlf).trans s1)) k2) hlf) hlf hlf2 pq⟩
end
end Hm

set_option Elab.async false
set_option maxRecDepth 100000
set_option maxHeartbeats 4000000
namespace Hm
open PySem PySem.Spec PyProof.Rows L2 HmS
abbrev stIsW : Stmt := topSt 20 -- row is_whole
abbrev stWit : Stmt := topSt 21 -- row is_whole_within
abbrev stLet : Stmt := topSt 22 -- row is_letters
abbrev stTup : Stmt := topSt 23 -- row is_tuple
abbrev stRis : Stmt := topSt 24 -- row is_rising
/-- a plain thing: a number, a truth, nothing, a text, a tuple -/
inductive Plain (H : Hp) : V → Value → Prop where
  | int (i : Int) : Plain H (.int i) (.type "int")
  | bl (b : Bool) : Plain H (.bl b) (.type "bool")
  | non : Plain H .non (.type "NoneType")
  | str (z : Str) : Plain H (.str z) (.type "str")
  | tup {a : Addr} {xs : List V} (e : H a = some (.tup xs)) : Plain H (.ref a) (.type "tuple")
theorem Plain.ty {K : PySem.W.Frag} {H : Hp} {x : V} {t : Value} (p : Plain H x t) : TyX K H x t := by
  cases p with
  | int i => exact .base (.int i)
  | bl b => exact .base (.bl b)
  | non => exact .base .non
  | str z => exact .base (.str z)
  | tup e => exact .base (.tup e)
def isWv : V → Bool
  | .int _ => true
  | _ => false
def isSv : V → Bool
  | .str _ => true
  | _ => false
def isTv : V → Bool
  | .ref _ => true
  | _ => false
def isBv : V → Bool
  | .bl _ => true
  | _ => false
theorem Plain.kI {K : PySem.W.Frag} {H : Hp} {x : V} {t : Value} (p : Plain H x t) : PySem.W.kitOne K t (.type "int") = some (isWv x || isBv x) := by
  cases p <;> first | exact kit_ty (show kitB _ _ = some true by decide +kernel) | exact kit_ty (show kitB _ _ = some false by decide +kernel)
theorem Plain.kB {K : PySem.W.Frag} {H : Hp} {x : V} {t : Value} (p : Plain H x t) : PySem.W.kitOne K t (.type "bool") = some (isBv x) := by
  cases p <;> first | exact kit_ty (show kitB _ _ = some true by decide +kernel) | exact kit_ty (show kitB _ _ = some false by decide +kernel)
theorem Plain.kS {K : PySem.W.Frag} {H : Hp} {x : V} {t : Value} (p : Plain H x t) : PySem.W.kitOne K t (.type "str") = some (isSv x) := by
  cases p <;> first | exact kit_ty (show kitB _ _ = some true by decide +kernel) | exact kit_ty (show kitB _ _ = some false by decide +kernel)
theorem Plain.kT {K : PySem.W.Frag} {H : Hp} {x : V} {t : Value} (p : Plain H x t) : PySem.W.kitOne K t (.type "tuple") = some (isTv x) := by
  cases p <;> first | exact kit_ty (show kitB _ _ = some true by decide +kernel) | exact kit_ty (show kitB _ _ = some false by decide +kernel)
def spIsW : Sp := fun vs H Q _ => ∃ (x : V) (t : Value), vs = [x] ∧ Plain H x t ∧ Q (.bl (isWv x)) H
def within (x : V) (a b : Int) : Bool :=
  match x with
  | .int i => decide (a ≤ i) && decide (i ≤ b)
  | _ => false
def spWit : Sp := fun vs H Q _ => ∃ (x : V) (t : Value) (a b : Int), vs = [x, .int a, .int b] ∧ Plain H x t ∧ Q (.bl (within x a b)) H
/-- whether a plain thing is a tuple of so many parts -/
def tupB (H : Hp) (x : V) (a b : Int) : Bool :=
  match x with
  | .ref p => match H p with
    | some (.tup xs) => decide (a ≤ xs.length) && decide ((xs.length : Int) ≤ b)
    | _ => false
  | _ => false
theorem tupB_of {H : Hp} {p : Addr} {xs : List V} (e : H p = some (.tup xs)) (a b : Int) : tupB H (.ref p) a b = (decide (a ≤ xs.length) && decide ((xs.length : Int) ≤ b)) := by simp [tupB, e]
def spTupN : Sp := fun vs H Q _ => ∃ (x : V) (t : Value) (a b : Int), vs = [x, .int a, .int b] ∧ Plain H x t ∧ Q (.bl (tupB H x a b)) H
structure TxtKind (mg : Str → Option Value) : Prop where
  isi : mg "isinstance" = none
  int : mg "int" = none
  bool : mg "bool" = none
  str : mg "str" = none
  tuple : mg "tuple" = none
  len : mg "len" = none
  all : mg "all" = none
  zip : mg "zip" = none
section
variable {P : Program} {w : World} {K : PySem.W.Frag} {mg : Str → Option Value} {base : Heap}
theorem sc_isw : FnScope ["thing"] ["thing"] (defScope stIsW) := ⟨rfl, rfl, rfl, by decide +kernel, rfl, by decide +kernel, by decide +kernel⟩
theorem ok_isw {f : Addr} {fd : FuncData} (F : Fun K "is_whole" "is_whole" stIsW f fd) (T : TxtKind mg) : FnOk P w K mg base CX0 1 f fd ["thing"] spIsW := by
  refine F.ok sc_isw (fun vs H Q E h => ?_) (fun cdv A outer s H vs Q E hr h => ?_)
  · obtain ⟨x, t, rfl, _⟩ := h
    rfl
  · obtain ⟨x, t, rfl, p, q⟩ := h
    refine ⟨_, pss_one (ps_ret (pe_and (pe_callB call_isi (by rfl) T.isi boot_isinstance (pa_cons (pv 0) (pa_cons (pe_bltn (v := .ty "int") (by rfl) T.int (by decide +kernel) rfl) pa_nil)))
      (pe_one (pe_not (pe_callB call_isi (by rfl) T.isi boot_isinstance (pa_cons (pv 0) (pa_cons (pe_bltn (v := .ty "bool") (by rfl) T.bool (by decide +kernel) rfl) pa_nil))))))), ?_⟩
    refine ⟨_, rfl, x, _, t, _, _, rfl, .ty "int", p.ty, p.kI, _, rfl, ?_⟩
    cases p with
    | int i => exact iteT ⟨_, rfl, _, _, _, _, _, rfl, .ty "bool", (Plain.int (H := H) i).ty, (Plain.int (H := H) i).kB, _, rfl, q⟩
    | bl b => exact iteT ⟨_, rfl, _, _, _, _, _, rfl, .ty "bool", (Plain.bl (H := H) b).ty, (Plain.bl (H := H) b).kB, _, rfl, q⟩
    | non => exact iteF q
    | str z => exact iteF q
    | tup e => exact iteF q
theorem sc_wit : FnScope ["thing", "least", "most"] ["thing", "least", "most"] (defScope stWit) := ⟨rfl, rfl, rfl, by decide +kernel, rfl, by decide +kernel, by decide +kernel⟩
theorem ok_wit {f fW : Addr} {fd fdW : FuncData} (F : Fun K "is_whole_within" "is_whole_within" stWit f fd) (gW : mg "is_whole" = some (.ref fW)) (kW : PySem.W.keepIn K (.ref fW) = true)
    (GW : FnOk P w K mg base CX0 1 fW fdW ["thing"] spIsW) (bW : Binds K fdW ["thing"] []) : FnOk P w K mg base CX0 2 f fd ["thing", "least", "most"] spWit := by
  refine F.ok sc_wit (fun vs H Q E h => ?_) (fun cdv A outer s H vs Q E hr h => ?_)
  · obtain ⟨x, t, a, b, rfl, _⟩ := h
    rfl
  · obtain ⟨x, t, a, b, rfl, p, q⟩ := h
    refine ⟨_, pss_one (ps_ret (pe_and (pe_call GW hr (by rfl) gW kW bW .nil pass0 (pa_cons (pv 0) pa_nil)) (pe_one (pe_chain op_le op_le (pv 1) (pv 0) (pv 2))))), ?_⟩
    refine ⟨_, rfl, x, t, rfl, p, _, rfl, ?_⟩
    cases p with
    | int i =>
      refine iteT ⟨_, rfl, _, rfl, _, _, rfl, rfl, _, rfl, ?_⟩
      by_cases c : a ≤ i
      · rw [decide_eq_true c]
        refine iteT ⟨_, rfl, _, _, rfl, rfl, ?_⟩
        have e : within (.int i) a b = decide (i ≤ b) := by simp [within, c]
        rw [e] at q
        exact q
      · rw [decide_eq_false c]
        refine iteF ?_
        have e : within (.int i) a b = false := by simp [within, c]
        rw [e] at q
        exact q
    | bl b => exact iteF q
    | non => exact iteF q
    | str z => exact iteF q
    | tup e => exact iteF q
theorem sc_tup : FnScope ["thing", "fewest", "most"] ["thing", "fewest", "most"] (defScope stTup) := ⟨rfl, rfl, rfl, by decide +kernel, rfl, by decide +kernel, by decide +kernel⟩
theorem ok_tup {f : Addr} {fd : FuncData} (F : Fun K "is_tuple" "is_tuple" stTup f fd) (T : TxtKind mg) : FnOk P w K mg base CX0 1 f fd ["thing", "fewest", "most"] spTupN := by
  refine F.ok sc_tup (fun vs H Q E h => ?_) (fun cdv A outer s H vs Q E hr h => ?_)
  · obtain ⟨x, t, a, b, rfl, _⟩ := h
    rfl
  · obtain ⟨x, t, a, b, rfl, p, q⟩ := h
    refine ⟨_, pss_one (ps_ret (pe_and (pe_callB call_isi (by rfl) T.isi boot_isinstance (pa_cons (pv 0) (pa_cons (pe_bltn (v := .ty "tuple") (by rfl) T.tuple (by decide +kernel) rfl) pa_nil)))
      (pe_one (pe_chain op_le op_le (pv 1) (pe_callB call_len_seq (by rfl) T.len PySem.boot_len (pa_cons (pv 0) pa_nil)) (pv 2))))), ?_⟩
    refine ⟨_, rfl, x, _, t, _, _, rfl, .ty "tuple", p.ty, p.kT, _, rfl, ?_⟩
    cases p with
    | int i => exact iteF q
    | bl b => exact iteF q
    | non => exact iteF q
    | str z => exact iteF q
    | @tup pa xs e =>
      rw [tupB_of e] at q
      refine iteT ⟨_, rfl, _, rfl, _, _, rfl, .inr (SqT.of e), _, _, rfl, rfl, _, rfl, ?_⟩
      by_cases c : a ≤ (xs.length : Int)
      · rw [decide_eq_true c]
        rw [decide_eq_true c, Bool.true_and] at q
        exact iteT ⟨_, rfl, _, _, rfl, rfl, q⟩
      · rw [decide_eq_false c]
        rw [decide_eq_false c, Bool.false_and] at q
        exact iteF q
end
end Hm

set_option Elab.async false
set_option maxRecDepth 100000
set_option maxHeartbeats 4000000
namespace Hm
open PySem PySem.Spec PyProof.Rows L2 HmS
def rLtD (K : PySem.W.Frag) : R2 := fun x y H Q => ∃ d e, Dp K H x d ∧ Dp K H y e ∧ PySem.W.alike d e = true ∧ d ≠ .none ∧ d.depth ≤ 60 ∧ Q (.bl (PySem.W.dataLt d e)) H
theorem op_ltD {X : Cx} (hu : X.A.units + 64 < cLine) : OpR X (compareOp .Lt) (rLtD X.K) := by
  intro pins s σ H x y v u Q I rx ry h
  obtain ⟨d, e, hd, he, al, nn, dp, q⟩ := h
  obtain ⟨as, r1⟩ := Dp.reads I d x v hd rx
  obtain ⟨bs, r2⟩ := Dp.reads I e y u he ry
  exact PySem.W.lt_data r1 r2 al nn (by omega) ⟨.bl _, H, I, rfl, q⟩
def signOk (c : Nat) : Bool := !decide ([c] < [97]) && !decide ([122] < [c])
def lettersV (x : V) (a b : Int) : Bool :=
  match x with
  | .str z => decide (a ≤ z.length) && decide ((z.length : Int) ≤ b) && (z.cps.toList.map signOk).all id
  | _ => false
def spLet : Sp := fun vs H Q _ => ∃ (x : V) (t : Value) (a b : Int), vs = [x, .int a, .int b] ∧ Plain H x t ∧ (∀ z, x = .str z → z.length ≤ 1000) ∧ ∀ H', Same H H' → Q (.bl (lettersV x a b)) H'
def KyAt (H : Hp) (a : Addr) (s : SetT) : Prop := H a = some (.tup [.str s.1, .int s.2.1])
def riseK (ss : List SetT) : Bool := ((ss.zip ss.tail).map fun p => decide (setLt p.1 p.2)).all id
def spRis : Sp := fun vs H Q _ => ∃ (l : Addr) (as : List Addr) (ss : List SetT), vs = [.ref l] ∧ H l = some (.lst (as.map V.ref)) ∧ Paired (KyAt H) as ss ∧ ss.length ≤ 1000 ∧ ∀ H', Same H H' → Q (.bl (riseK ss)) H'
section
variable {P : Program} {w : World} {K : PySem.W.Frag} {mg : Str → Option Value} {base : Heap}
abbrev nLet : List Str := ["thing", "fewest", "most", "sign"]
theorem sc_let : FnScope nLet ["thing", "fewest", "most"] (defScope stLet) := ⟨rfl, rfl, rfl, by decide +kernel, rfl, by decide +kernel, by decide +kernel⟩
theorem ok_let {f : Addr} {fd : FuncData} (F : Fun K "is_letters" "is_letters" stLet f fd) (T : TxtKind mg) : FnOk P w K mg base CX0 1 f fd ["thing", "fewest", "most"] spLet := by
  refine F.ok sc_let (fun vs H Q E h => ?_) (fun cdv A outer s H vs Q E hr h => ?_)
  · obtain ⟨x, t, a, b, rfl, _⟩ := h
    rfl
  · obtain ⟨x, t, a, b, rfl, p, lz, q⟩ := h
    refine ⟨_, pss_cons (ps_if (PW.pt (pw_or (pt_not (pt_val (pe_callB call_isi (by rfl) T.isi boot_isinstance (pa_cons (pv 0) (pa_cons (pe_bltn (v := .ty "str") (by rfl) T.str (by decide +kernel) rfl) pa_nil)))))
        (pw_or1 (pt_not (pt_chain op_le op_le (pv 1) (pe_callB call_len (by rfl) T.len PySem.boot_len (pa_cons (pv 0) pa_nil)) (pv 2)))))) (pss_one (ps_ret pe_bl)) pss_nil)
      (pss_one (ps_ret (pe_callB (cr_all rfl) (by rfl) T.all (by decide +kernel) (pa_cons (pe_lc (own := [("sign", 3)]) (g := gName 3) (tt := tYes) rfl sc_let.nd (pi_str (pv 0))
        (blkOk_by (N := nLet) (sc := defScope stLet) (by decide +kernel)) (fun _ _ _ _ _ => pg_name (i := 3) sc_let.nd rfl (Or.inl rfl)) (fun _ _ _ _ _ => pts_nil)
        (fun _ _ _ _ _ => pe_chain op_le_str op_le_str pe_str (pv 3) pe_str)) pa_nil)))), ?_⟩
    refine ⟨_, rfl, x, _, t, _, _, rfl, .ty "str", p.ty, p.kS, _, rfl, ?_⟩
    cases p with
    | int i => exact iteT (iteT (q H fun _ _ e => e))
    | bl b => exact iteT (iteT (q H fun _ _ e => e))
    | non => exact iteT (iteT (q H fun _ _ e => e))
    | tup e => exact iteT (iteT (q H fun _ _ e => e))
    | str z =>
      have hz := lz z rfl
      refine iteF ⟨_, rfl, _, rfl, _, z.length, rfl, ⟨by rw [sizeLine_eq]; omega, rfl⟩, _, _, rfl, rfl, _, rfl, ?_⟩
      have fin : a ≤ z.length → (z.length : Int) ≤ b → lettersV (.str z) a b = (z.cps.toList.map signOk).all id := fun h1 h2 => by simp [lettersV, h1, h2]
      by_cases c1 : a ≤ (z.length : Int)
      · rw [decide_eq_true c1]
        refine iteT ⟨_, rfl, _, _, rfl, rfl, _, rfl, ?_⟩
        by_cases c2 : (z.length : Int) ≤ b
        · rw [decide_eq_true c2]
          refine iteF ⟨_, rfl, z, rfl, fun D hD => lc_it walk_str (fun i H' => Same H H' ∧ H' D = some (.lst (((z.cps.toList.take i).map signOk).map V.bl))) ⟨same_upd hD, upd_same⟩ (fun _ _ _ _ => True.intro) (fun i x H1 H2 hi pv y => ?_) (fun H' pv => ?_)⟩
          · obtain ⟨sm, hDi⟩ := pv
            obtain ⟨rfl, ch, hc, rfl⟩ := y
            have hc2 : z.cps.toList[i]? = some ch := by rw [Array.getElem?_toList]; exact hc
            have et : z.cps.toList.take (i + 1) = z.cps.toList.take i ++ [ch] := by rw [List.take_add_one, hc2]; rfl
            have hi2 : i < z.length := hi
            have ll : (((z.cps.toList.take i).map signOk).map V.bl).length < sizeLine := by
              have := List.length_take (i := i) (l := z.cps.toList)
              rw [List.length_map, List.length_map, sizeLine_eq]
              omega
            have step : ∀ {b : Bool}, b = signOk ch → Same H (upd H2 D (.lst (((z.cps.toList.take i).map signOk).map V.bl ++ [.bl b]))) ∧ upd H2 D (.lst (((z.cps.toList.take i).map signOk).map V.bl ++ [.bl b])) D = some (.lst (((z.cps.toList.take (i + 1)).map signOk).map V.bl)) := by
              intro b eb
              refine ⟨fun c o e => ?_, ?_⟩
              · rw [upd_ne (ne_of_none e hD)]
                exact sm _ _ e
              · rw [upd_same, et, List.map_append, List.map_append, eb]
                rfl
            refine ⟨rfl, yesT ⟨_, rfl, _, _, rfl, rfl, _, rfl, ?_⟩⟩
            by_cases g1 : [ch] < [97]
            · have e1 : (!decide (([ch] : List Nat) < [97])) = false := by rw [decide_eq_true g1]; rfl
              show if (!decide (([ch] : List Nat) < [97])) = true then _ else _
              rw [e1]
              exact iteF ⟨_, hDi, ll, step (by unfold signOk; rw [e1]; rfl)⟩
            · have e1 : (!decide (([ch] : List Nat) < [97])) = true := by rw [decide_eq_false g1]; rfl
              show if (!decide (([ch] : List Nat) < [97])) = true then _ else _
              rw [e1]
              refine iteT ⟨_, _, rfl, rfl, _, hDi, ll, step ?_⟩
              unfold signOk
              rw [e1, Bool.true_and]
              rfl
          · obtain ⟨sm, hDi⟩ := pv
            have el : z.cps.toList.take z.cps.size = z.cps.toList := List.take_of_length_le (by simp)
            rw [el] at hDi
            refine ⟨D, _, rfl, SqL.of hDi, ?_⟩
            rw [← fin c1 c2]
            exact q H' sm
        · rw [decide_eq_false c2]
          refine iteT ?_
          have e : lettersV (.str z) a b = false := by simp [lettersV, c2]
          rw [← e]
          exact q H fun _ _ e => e
      · rw [decide_eq_false c1]
        refine iteF ⟨_, rfl, ?_⟩
        refine iteT ?_
        have e : lettersV (.str z) a b = false := by simp [lettersV, c1]
        rw [← e]
        exact q H fun _ _ e => e
abbrev nRis : List Str := ["things", "ahead", "behind"]
theorem sc_ris : FnScope nRis ["things"] (defScope stRis) := ⟨rfl, rfl, rfl, by decide +kernel, rfl, by decide +kernel, by decide +kernel⟩
theorem ok_ris {f : Addr} {fd : FuncData} (F : Fun K "is_rising" "is_rising" stRis f fd) (T : TxtKind mg) : FnOk P w K mg base CX0 1 f fd ["things"] spRis := by
  refine F.ok sc_ris (fun vs H Q E h => ?_) (fun cdv A outer s H vs Q E hr h => ?_)
  · obtain ⟨l, as, ss, rfl, _⟩ := h
    rfl
  · obtain ⟨l, as, ss, rfl, hl, pr, hz, q⟩ := h
    refine ⟨_, pss_one (ps_ret (pe_callB (cr_all rfl) (by rfl) T.all (by decide +kernel) (pa_cons (pe_lc (own := [("ahead", 1), ("behind", 2)]) (g := gTup K 2 (gCons (gName 1) (gCons (gName 2) gNil))) (tt := tYes) rfl sc_ris.nd
        (pi_zip (by rfl) T.zip (pa_cons (pv 0) (pa_cons (pe_slice sl_list (pv 0) (po_some pe_int) po_none) pa_nil)))
        (blkOk_by (N := nRis) (sc := defScope stRis) (by decide +kernel)) (fun _ _ _ _ _ => by exact pg_tup rfl (pgs_cons (pg_name (i := 1) sc_ris.nd rfl (Or.inl rfl)) (pgs_cons (pg_name (i := 2) sc_ris.nd rfl (Or.inl rfl)) pgs_nil))) (fun _ _ _ _ _ => pts_nil)
        (fun _ _ _ _ _ => pe_cmpR (r := rLtD K) (op_ltD hr.units) (pv 1) (pv 2) (nomark _))) pa_nil))), ?_⟩
    refine ⟨_, rfl, _, rfl, 1, rfl, l, _, rfl, SqL.of hl, fun l2 hl2 => ⟨l, l2, _, _, rfl, SqL.of ((same_upd hl2) _ _ hl), SqL.of upd_same, fun D hD => ?_⟩⟩
    have ec : cutV (as.map V.ref) (some 1) none = as.tail.map V.ref := by
      unfold cutV
      cases as with
      | nil => rfl
      | cons a r =>
        have e1 : HT.sIx ((a :: r).map V.ref).length 0 (some ((1 : Nat) : Int)) = 1 := by
          rw [HT.sIx_nat, List.length_map, List.length_cons]
          omega
        show (((a :: r).map V.ref).drop (HT.sIx ((a :: r).map V.ref).length 0 (some ((1 : Nat) : Int)))).take (((a :: r).map V.ref).length - HT.sIx ((a :: r).map V.ref).length 0 (some ((1 : Nat) : Int))) = _
        rw [e1, List.map_cons, List.drop_succ_cons, List.drop_zero, List.tail_cons]
        exact List.take_of_length_le (by simp)
    rw [ec] at hD ⊢
    have el : as.length = ss.length := Paired.length pr
    have hn : (ss.zip ss.tail).length = min (as.map V.ref).length (as.tail.map V.ref).length := by
      rw [List.length_zip, List.length_map, List.length_map, List.length_tail, List.length_tail, el]
    have prt : Paired (KyAt H) as.tail ss.tail := by
      cases pr with
      | nil => exact .nil
      | cons _ t => exact t
    refine lc_it (walk_zip (K := K) (a := l) (b := l2) (xs := as.map V.ref) (ys := as.tail.map V.ref) hn)
      (fun i H' => Same (upd H l2 (.lst (as.tail.map V.ref))) H' ∧ H' D = some (.lst ((((ss.zip ss.tail).take i).map fun p => decide (setLt p.1 p.2)).map V.bl))) ⟨same_upd hD, upd_same⟩
      (fun i H' _ pv => ⟨SqL.of (pv.1 _ _ ((same_upd hl2) _ _ hl)), SqL.of (pv.1 _ _ upd_same)⟩) (fun i x H1 H2 hi pv y => ?_) (fun H' pv => ?_)
    · obtain ⟨sm, hDi⟩ := pv
      obtain ⟨T1, x1, y1, rfl, hT1, rfl, ex, ey⟩ := y
      have ex : (as.map V.ref)[i]? = some x1 := ex
      have ey : (as.tail.map V.ref)[i]? = some y1 := ey
      rw [List.getElem?_map] at ex ey
      cases h1 : as[i]? with
      | none =>
        rw [h1] at ex
        cases ex
      | some a1 =>
        rw [h1] at ex
        cases ex
        cases h2 : as.tail[i]? with
        | none =>
          rw [h2] at ey
          cases ey
        | some a2 =>
          rw [h2] at ey
          cases ey
          obtain ⟨s1, g1, k1⟩ := Paired.gl pr h1
          obtain ⟨s2, g2, k2⟩ := Paired.gl prt h2
          have gz : (ss.zip ss.tail)[i]? = some (s1, s2) := List.getElem?_zip_eq_some.mpr ⟨g1, g2⟩
          have et : (ss.zip ss.tail).take (i + 1) = (ss.zip ss.tail).take i ++ [(s1, s2)] := by rw [List.take_add_one, gz]; rfl
          have sT : Same H (upd H1 T1 (.tup [.ref a1, .ref a2])) := ((same_upd hl2).trans sm).trans (same_upd hT1)
          have dp : ∀ {a : Addr} {s : SetT}, KyAt H a s → Dp K (upd H1 T1 (.tup [.ref a1, .ref a2])) (.ref a) (keyD (entS s).1) := fun {a s} h =>
            .tup (SqT.of (sT _ _ h)) (.cons (.str _) (.cons (.int _) .nil))
          refine ⟨T1, _, rfl, SqT.of upd_same, rfl, _, _, rfl, _, _, rfl, rfl, rfl, yesT ⟨_, rfl, _, rfl, keyD (entS s1).1, keyD (entS s2).1, dp k1, dp k2, ?_, ?_, ?_, _, (same_upd hT1) _ _ hDi, ?_, ?_, ?_⟩⟩
          · simp [keyD, entS, HmS.kD, PySem.W.alike, PySem.W.alikeAll]
          · intro z
            cases z
          · have := keyD_depth (entS s1).1
            omega
          · have := List.length_take (i := i) (l := ss.zip ss.tail)
            have h3 : (ss.zip ss.tail).length ≤ ss.length := by rw [List.length_zip]; omega
            rw [List.length_map, List.length_map, sizeLine_eq]
            omega
          · intro c o e
            rw [upd_ne (ne_of_none e hD)]
            exact (same_upd hT1) _ _ (sm _ _ e)
          · rw [upd_same, et, List.map_append, List.map_append, dl_set]
            rfl
    · obtain ⟨sm, hDi⟩ := pv
      rw [List.take_length] at hDi
      exact ⟨D, _, rfl, SqL.of hDi, q H' ((same_upd hl2).trans sm)⟩
end
end Hm

set_option Elab.async false
set_option maxRecDepth 100000
set_option maxHeartbeats 4000000
namespace Hm
open PySem PySem.Spec PyProof.Rows L2 HmS
abbrev stYea : Stmt := topSt 28 -- row is_year
abbrev stSet : Stmt := topSt 29 -- row is_set
abbrev stLis : Stmt := topSt 30 -- row is_list
abbrev stNum : Stmt := topSt 31 -- row is_set_number
theorem placesM_mem : ∀ {sets : List SetT} {i : Nat} {p : PlT}, p ∈ placesM i sets ↔ ∃ (k : Nat) (st : SetT), sets[k]? = some st ∧ p.1 = ((i + k : Nat) : Int) ∧ ∃ n : Nat, n < st.2.2.toNat ∧ p.2 = (n : Int)
  | [], i, p => by simp [placesM]
  | s :: r, i, p => by
    show p ∈ rowP i s ++ placesM (i + 1) r ↔ _
    rw [List.mem_append, placesM_mem (sets := r)]
    constructor
    · rintro (h | ⟨k, st, h1, h2, h3⟩)
      · obtain ⟨n, hn, rfl⟩ := List.mem_map.mp h
        exact ⟨0, s, rfl, rfl, n, List.mem_range.mp hn, rfl⟩
      · exact ⟨k + 1, st, by simpa using h1, by rw [h2, show i + 1 + k = i + (k + 1) by omega], h3⟩
    · rintro ⟨k, st, h1, h2, n, h3, h4⟩
      cases k with
      | zero =>
        cases (show some s = some st from by simpa using h1)
        exact .inl (List.mem_map.mpr ⟨n, List.mem_range.mpr h3, Prod.ext h2.symm h4.symm⟩)
      | succ k => exact .inr ⟨k, st, by simpa using h1, by rw [h2, show i + (k + 1) = i + 1 + k by omega], n, h3, h4⟩
theorem lands_ok : ∀ z ∈ landsL, z.length ≤ 8 ∧ 1 ≤ z.length ∧ lettersV (.str z) 1 8 = true := by
  intro z hz
  simp only [landsL, List.mem_cons, List.not_mem_nil, or_false] at hz
  rcases hz with rfl | rfl | rfl | rfl <;> exact ⟨by decide, by decide, by decide +kernel⟩
theorem names_ok : ∀ z ∈ namesL, z.length ≤ 8 ∧ lettersV (.str z) 0 8 = true := by
  intro z hz
  simp only [namesL, List.mem_cons, List.not_mem_nil, or_false] at hz
  rcases hz with rfl | rfl | rfl | rfl | rfl <;> exact ⟨by decide, by decide +kernel⟩
def spSetIs : Sp := fun vs H Q _ => ∃ (a : Addr) (s : SetT), vs = [.ref a] ∧ SetAt H a s ∧ SetOk s ∧ ∀ H', Same H H' → Q (.bl true) H'
def spLisIs : Sp := fun vs H Q _ => ∃ (b : Addr) (sets : List SetT), vs = [.ref b] ∧ Book H b sets ∧ ∀ H', Same H H' → Q (.bl true) H'
def spYea : Sp := fun vs H Q _ => ∃ (x : V) (t : Value), vs = [x] ∧ Plain H x t ∧ Q (.bl (within x 1840 2100)) H
def spNum : Sp := fun vs H Q _ => ∃ (b : Addr) (sets : List SetT) (x : V) (t : Value), vs = [.ref b, x] ∧ Book H b sets ∧ Plain H x t ∧ Q (.bl (within x 0 ((sets.length : Int) - 1))) H
theorem rise_zip : ∀ {ss : List SetT}, ss.Pairwise setLt → ∀ p ∈ ss.zip ss.tail, setLt p.1 p.2
  | [], _, p, hp => by simp at hp
  | [_], _, p, hp => by simp at hp
  | s :: s2 :: r2, h, p, hp => by
    rw [List.tail_cons, List.zip_cons_cons] at hp
    rw [List.pairwise_cons] at h
    rcases List.mem_cons.mp hp with rfl | hp
    · exact h.1 s2 List.mem_cons_self
    · exact rise_zip h.2 p hp
theorem riseK_ok {ss : List SetT} (h : ss.Pairwise setLt) : riseK ss = true := by
  unfold riseK
  rw [List.all_eq_true]
  intro b hb
  obtain ⟨p, hp, rfl⟩ := List.mem_map.mp hb
  exact decide_eq_true (rise_zip h p hp)
structure TxtBook (mg : Str → Option Value) (fW fL fR fS fT fY : Addr) : Prop where
  k : TxtKind mg
  gT : mg "is_tuple" = some (.ref fT)
  gY : mg "is_year" = some (.ref fY)
  gW : mg "is_whole_within" = some (.ref fW)
  gL : mg "is_letters" = some (.ref fL)
  gR : mg "is_rising" = some (.ref fR)
  gS : mg "is_set" = some (.ref fS)
section
variable {P : Program} {w : World} {K : PySem.W.Frag} {mg : Str → Option Value} {base : Heap}
theorem sc_num : FnScope ["book", "thing"] ["book", "thing"] (defScope stNum) := ⟨rfl, rfl, rfl, by decide +kernel, rfl, by decide +kernel, by decide +kernel⟩
theorem ok_num {f fW : Addr} {fd fdW : FuncData} (F : Fun K "is_set_number" "is_set_number" stNum f fd) (gW : mg "is_whole_within" = some (.ref fW)) (hl : mg "len" = none) (kW : PySem.W.keepIn K (.ref fW) = true)
    (GW : FnOk P w K mg base CX0 2 fW fdW ["thing", "least", "most"] spWit) (bW : Binds K fdW ["thing", "least", "most"] []) : FnOk P w K mg base CX0 3 f fd ["book", "thing"] spNum := by
  refine F.ok sc_num (fun vs H Q E h => ?_) (fun cdv A outer s H vs Q E hr h => ?_)
  · obtain ⟨b, sets, x, t, rfl, _⟩ := h
    rfl
  · obtain ⟨b, sets, x, t, rfl, bk, p, q⟩ := h
    obtain ⟨ok, bs, hb, pb⟩ := id bk
    refine ⟨_, pss_one (ps_ret (pe_call GW hr (by rfl) gW kW bW .nil pass0 (pa_cons (pv 1) (pa_cons pe_int (pa_cons (pe_op op_sub (pe_callB call_len_seq (by rfl) hl PySem.boot_len (pa_cons (pv 0) pa_nil)) pe_int) pa_nil))))), ?_⟩
    refine ⟨_, rfl, _, rfl, b, _, rfl, .inr (SqT.of hb), _, _, rfl, rfl, x, t, _, _, rfl, p, ?_⟩
    rw [List.length_map, Paired.length pb]
    exact q
theorem sc_yea : FnScope ["thing"] ["thing"] (defScope stYea) := ⟨rfl, rfl, rfl, by decide +kernel, rfl, by decide +kernel, by decide +kernel⟩
theorem ok_yea {f fW : Addr} {fd fdW : FuncData} (F : Fun K "is_year" "is_year" stYea f fd) (gW : mg "is_whole_within" = some (.ref fW)) (kW : PySem.W.keepIn K (.ref fW) = true)
    (GW : FnOk P w K mg base CX0 2 fW fdW ["thing", "least", "most"] spWit) (bW : Binds K fdW ["thing", "least", "most"] []) : FnOk P w K mg base CX0 3 f fd ["thing"] spYea := by
  refine F.ok sc_yea (fun vs H Q E h => ?_) (fun cdv A outer s H vs Q E hr h => ?_)
  · obtain ⟨x, t, rfl, _⟩ := h
    rfl
  · obtain ⟨x, t, rfl, p, q⟩ := h
    refine ⟨_, pss_one (ps_ret (pe_call GW hr (by rfl) gW kW bW .nil pass0 (pa_cons (pv 0) (pa_cons pe_int (pa_cons pe_int pa_nil))))), ?_⟩
    exact ⟨_, rfl, x, t, 1840, 2100, rfl, p, q⟩
abbrev nSet : List Str := ["thing", "land", "year", "many"]
theorem sc_set : FnScope nSet ["thing"] (defScope stSet) := ⟨rfl, rfl, rfl, by decide +kernel, rfl, by decide +kernel, by decide +kernel⟩
theorem ok_set {f fW fL fR fS fT fY : Addr} {fd fdW fdL fdT fdY : FuncData} (F : Fun K "is_set" "is_set" stSet f fd) (T : TxtBook mg fW fL fR fS fT fY) (kW : PySem.W.keepIn K (.ref fW) = true) (kL : PySem.W.keepIn K (.ref fL) = true)
    (GW : FnOk P w K mg base CX0 2 fW fdW ["thing", "least", "most"] spWit) (bW : Binds K fdW ["thing", "least", "most"] [])
    (GL : FnOk P w K mg base CX0 1 fL fdL ["thing", "fewest", "most"] spLet) (bL : Binds K fdL ["thing", "fewest", "most"] [])
    (kT : PySem.W.keepIn K (.ref fT) = true) (GT : FnOk P w K mg base CX0 1 fT fdT ["thing", "fewest", "most"] spTupN) (bT : Binds K fdT ["thing", "fewest", "most"] [])
    (kY : PySem.W.keepIn K (.ref fY) = true) (GY : FnOk P w K mg base CX0 3 fY fdY ["thing"] spYea) (bY : Binds K fdY ["thing"] []) : FnOk P w K mg base CX0 4 f fd ["thing"] spSetIs := by
  refine F.ok sc_set (fun vs H Q E h => ?_) (fun cdv A outer s H vs Q E hr h => ?_)
  · obtain ⟨a, st, rfl, _⟩ := h
    rfl
  · obtain ⟨a, st, rfl, ha, ok, q⟩ := h
    refine ⟨_, pss_cons (ps_if (pt_not (pt_val (pe_call GT (hr.mono (by decide)) (by rfl) T.gT kT bT .nil pass0 (pa_cons (pv 0) (pa_cons pe_int (pa_cons pe_int pa_nil)))))) (pss_one (ps_ret pe_bl)) pss_nil)
      (pss_cons (ps_asg (pv 0) (pg_tup rfl (pgs_cons (pg_name (i := 1) sc_set.nd rfl (Or.inl rfl)) (pgs_cons (pg_name (i := 2) sc_set.nd rfl (Or.inl rfl)) (pgs_cons (pg_name (i := 3) sc_set.nd rfl (Or.inl rfl)) pgs_nil)))))
      (pss_one (ps_ret (pe_and (pe_call GL (hr.mono (by decide)) (by rfl) T.gL kL bL .nil pass0 (pa_cons (pv 1) (pa_cons pe_int (pa_cons pe_int pa_nil))))
        (pe_and (pe_call GY hr (by rfl) T.gY kY bY .nil pass0 (pa_cons (pv 2) pa_nil)) (pe_one (pe_call GW (hr.mono (by decide)) (by rfl) T.gW kW bW .nil pass0 (pa_cons (pv 3) (pa_cons pe_int (pa_cons pe_int pa_nil)))))))))), ?_⟩
    have pa : Plain H (.ref a) (.type "tuple") := .tup ha
    refine ⟨_, rfl, .ref a, _, 3, 3, rfl, pa, _, rfl, ?_⟩
    rw [tupB_of ha]
    refine iteF ?_
    refine ⟨_, rfl, a, _, rfl, SqT.of ha, rfl, _, _, rfl, _, _, rfl, _, _, rfl, rfl, ?_⟩
    have ol := lands_ok st.1 ok.land
    have y0 := ok.y0
    have y1 := ok.y1
    have m0 := ok.m0
    have m1 := ok.m1
    refine ⟨_, rfl, .str st.1, _, 1, 8, rfl, .str _, (fun z e => by cases e; omega), fun H1 s1 => ⟨_, rfl, ?_⟩⟩
    rw [ol.2.2]
    refine iteT ⟨_, rfl, .int st.2.1, _, rfl, .int _, _, rfl, ?_⟩
    have e1 : within (.int st.2.1) 1840 2100 = true := by simp [within, y0, y1]
    rw [e1]
    refine iteT ⟨_, rfl, .int st.2.2, _, 1, 6, rfl, .int _, ?_⟩
    have e2 : within (.int st.2.2) 1 6 = true := by simp [within, m0, m1]
    rw [e2]
    exact q H1 s1
abbrev nLis : List Str := ["thing", "part"]
theorem sc_lis : FnScope nLis ["thing"] (defScope stLis) := ⟨rfl, rfl, rfl, by decide +kernel, rfl, by decide +kernel, by decide +kernel⟩
theorem ok_lis {f fW fL fR fS fT fY : Addr} {fd fdR fdS fdT : FuncData} (F : Fun K "is_list" "is_list" stLis f fd) (T : TxtBook mg fW fL fR fS fT fY) (kR : PySem.W.keepIn K (.ref fR) = true) (kS : PySem.W.keepIn K (.ref fS) = true)
    (kT : PySem.W.keepIn K (.ref fT) = true) (GT : FnOk P w K mg base CX0 1 fT fdT ["thing", "fewest", "most"] spTupN) (bT : Binds K fdT ["thing", "fewest", "most"] [])
    (GS : FnOk P w K mg base CX0 4 fS fdS ["thing"] spSetIs) (bS : Binds K fdS ["thing"] [])
    (GR : FnOk P w K mg base CX0 1 fR fdR ["things"] spRis) (bR : Binds K fdR ["things"] []) : FnOk P w K mg base CX0 5 f fd ["thing"] spLisIs := by
  refine F.ok sc_lis (fun vs H Q E h => ?_) (fun cdv A outer s H vs Q E hr h => ?_)
  · obtain ⟨b, sets, rfl, _⟩ := h
    rfl
  · obtain ⟨b, sets, rfl, bk, q⟩ := h
    obtain ⟨ok, bs, hb, pb⟩ := id bk
    refine ⟨_, pss_cons (ps_if (PW.pt (pw_or (pt_not (pt_val (pe_call GT (hr.mono (by decide)) (by rfl) T.gT kT bT .nil pass0 (pa_cons (pv 0) (pa_cons pe_int (pa_cons pe_int pa_nil))))))
        (pw_or1 (pt_not (pt_val (pe_callB (cr_all rfl) (by rfl) T.k.all (by decide +kernel) (pa_cons (pe_lc (own := [("part", 1)]) (g := gName 1) (tt := tYes) rfl sc_lis.nd (pi_tup (pv 0))
          (blkOk_by (N := nLis) (sc := defScope stLis) (by decide +kernel)) (fun _ _ _ _ _ => pg_name (i := 1) sc_lis.nd rfl (Or.inl rfl)) (fun _ _ _ _ _ => pts_nil)
          (fun _ _ _ _ _ => pe_call GS hr (by rfl) T.gS kS bS .nil pass0 (pa_cons (pv 1) pa_nil))) pa_nil))))))) (pss_one (ps_ret pe_bl)) pss_nil)
      (pss_one (ps_ret (pe_call GR (hr.mono (by decide)) (by rfl) T.gR kR bR .nil pass0 (pa_cons (pe_lc (own := [("part", 1)]) (g := gName 1) (tt := tYes) rfl sc_lis.nd (pi_tup (pv 0))
          (blkOk_by (N := nLis) (sc := defScope stLis) (by decide +kernel)) (fun _ _ _ _ _ => pg_name (i := 1) sc_lis.nd rfl (Or.inl rfl)) (fun _ _ _ _ _ => pts_nil)
          (fun _ _ _ _ _ => pe_slice (r := rSlT K) sl_tup (pv 1) po_none (po_some pe_int))) pa_nil)))), ?_⟩
    have pa : Plain H (.ref b) (.type "tuple") := .tup hb
    have bl : bs.length = sets.length := Paired.length pb
    have l0 := ok.len0
    have l1 := ok.len1
    refine ⟨_, rfl, .ref b, _, 1, 4, rfl, pa, _, rfl, ?_⟩
    rw [tupB_of hb, List.length_map, bl, decide_eq_true (show (1 : Int) ≤ sets.length by omega), decide_eq_true (show (sets.length : Int) ≤ 4 by omega)]
    refine iteF ⟨_, rfl, b, rfl, ⟨_, SqT.of hb⟩, fun D hD => lc_tup (K := K) (xs := bs.map V.ref) (fun i H' => Same H H' ∧ H' D = some (.lst ((List.replicate i true).map V.bl)))
      ⟨same_upd hD, upd_same⟩ (fun i H' _ pv => SqT.of (pv.1 _ _ hb)) (fun i x H1 hx pv => ?_) (fun H1 pv => ?_)⟩
    · obtain ⟨sm, hDi⟩ := pv
      rw [List.getElem?_map] at hx
      cases h1 : bs[i]? with
      | none =>
        rw [h1] at hx
        cases hx
      | some a1 =>
        rw [h1] at hx
        cases hx
        obtain ⟨s1, g1, k1⟩ := Paired.gl pb h1
        have hi := (List.getElem?_eq_some_iff.mp g1).1
        refine ⟨rfl, yesT ⟨_, rfl, a1, s1, rfl, sm _ _ k1, ok.ok _ (List.mem_of_getElem? g1), fun H2 s2 => ⟨_, s2 _ _ hDi, by rw [List.length_map, List.length_replicate]; exact small1000 (by omega), fun c o e => ?_, ?_⟩⟩⟩
        · rw [upd_ne (ne_of_none e hD)]
          exact s2 _ _ (sm _ _ e)
        · rw [upd_same, List.replicate_succ', List.map_append]
          rfl
    · obtain ⟨sm, hDi⟩ := pv
      have ea : (List.replicate (bs.map V.ref).length true).all id = true := by rw [List.all_replicate]; simp
      refine ⟨D, _, rfl, SqL.of hDi, _, rfl, ?_⟩
      rw [ea]
      refine iteF ⟨_, rfl, b, rfl, ⟨_, SqT.of (sm _ _ hb)⟩, fun D2 hD2 => lc_tup (K := K) (xs := bs.map V.ref) (fun i H' => Same H1 H' ∧ ∃ cs : List Addr, H' D2 = some (.lst (cs.map V.ref)) ∧ Paired (KyAt H') cs (sets.take i))
        ⟨same_upd hD2, [], upd_same, .nil⟩ (fun i H' _ pv => SqT.of (pv.1 _ _ (sm _ _ hb))) (fun i x H2 hx pv => ?_) (fun H2 pv => ?_)⟩
      · obtain ⟨sm2, cs, hDc, pc⟩ := pv
        rw [List.getElem?_map] at hx
        cases h1 : bs[i]? with
        | none =>
          rw [h1] at hx
          cases hx
        | some a1 =>
          rw [h1] at hx
          cases hx
          obtain ⟨s1, g1, k1⟩ := Paired.gl pb h1
          have hi := (List.getElem?_eq_some_iff.mp g1).1
          have lc : cs.length ≤ 4 := by
            rw [Paired.length pc, List.length_take]
            omega
          refine ⟨rfl, yesT ⟨_, rfl, 2, rfl, a1, _, rfl, SqT.of (sm2 _ _ (sm _ _ k1)), (fun z => absurd z.2 (by show ¬ HT.sIx 3 3 (some 2) = 3; decide)), fun p hp => ⟨_, (same_upd hp) _ _ hDc, by rw [List.length_map]; exact small1000 (by omega), fun c o e => ?_, cs ++ [p], by rw [upd_same, List.map_append]; rfl, ?_⟩⟩⟩
          · rw [upd_ne (ne_of_none e hD2)]
            exact (same_upd hp) _ _ (sm2 _ _ e)
          · have et : sets.take (i + 1) = sets.take i ++ [s1] := by rw [List.take_add_one, g1]; rfl
            rw [et]
            have pD : p ≠ D2 := fun z => by
              rw [z, hDc] at hp
              cases hp
            refine Paired.snoc ?_ (Paired.mp (fun a s h => ?_) pc)
            · show upd _ D2 _ p = _
              rw [upd_ne pD]
              exact upd_same
            · have nD : a ≠ D2 := fun z => by
                have h' : H2 a = some (.tup _) := h
                rw [z, hDc] at h'
                cases h'
              show upd _ D2 _ a = _
              rw [upd_ne nD]
              exact (same_upd hp) _ _ h
      · obtain ⟨sm2, cs, hDc, pc⟩ := pv
        rw [List.length_map, bl, List.take_length] at pc
        refine ⟨D2, cs, sets, rfl, hDc, pc, by omega, fun H3 s3 => ?_⟩
        rw [riseK_ok ok.rise]
        exact q H3 ((sm.trans sm2).trans s3)
end
end Hm

set_option Elab.async false
set_option maxRecDepth 100000
set_option maxHeartbeats 4000000
namespace Hm
open PySem PySem.Spec PyProof.Rows L2 HmS
abbrev stIpl : Stmt := topSt 32 -- row is_place
abbrev stStp : Stmt := topSt 33 -- row is_stamp
abbrev stSts : Stmt := topSt 35 -- row is_stamps
def spStp : Sp := fun vs H Q _ => ∃ (b a : Addr) (sets : List SetT) (s : StT), vs = [.ref b, .ref a] ∧ Book H b sets ∧ StAt H a s ∧ StOk sets s ∧ ∀ H', Same H H' → Q (.bl true) H'
def spIpl : Sp := fun vs H Q _ => ∃ (b a : Addr) (sets : List SetT) (p : PlT), vs = [.ref b, .ref a] ∧ Book H b sets ∧ H a = some (.tup [.int p.1, .int p.2]) ∧ p ∈ placesM 0 sets ∧ Q (.bl true) H
def spSts : Sp := fun vs H Q _ => ∃ (b t : Addr) (sets : List SetT) (as : List Addr) (ss : List StT), vs = [.ref b, .ref t] ∧ Book H b sets ∧ H t = some (.tup (as.map V.ref)) ∧ Paired (StAt H) as ss ∧ (∀ s ∈ ss, StOk sets s) ∧ ss.length ≤ 400 ∧
  ∀ H', Same H H' → Q (.bl true) H'
structure TxtStp (mg : Str → Option Value) (fW fN fS fT fP : Addr) : Prop where
  k : TxtKind mg
  gW : mg "is_whole_within" = some (.ref fW)
  gN : mg "is_set_number" = some (.ref fN)
  gS : mg "is_stamp" = some (.ref fS)
  gT : mg "is_tuple" = some (.ref fT)
  gP : mg "is_place" = some (.ref fP)
  hinged : ∃ t, mg "HINGED" = some (.int 0 t)
  whole : ∃ t, mg "WHOLE" = some (.int 1 t)
section
variable {P : Program} {w : World} {K : PySem.W.Frag} {mg : Str → Option Value} {base : Heap}
abbrev nIpl : List Str := ["book", "thing", "at", "number"]
theorem sc_ipl : FnScope nIpl ["book", "thing"] (defScope stIpl) := ⟨rfl, rfl, rfl, by decide +kernel, rfl, by decide +kernel, by decide +kernel⟩
theorem ok_ipl {f fW fN fS fT fP : Addr} {fd fdW fdN fdT : FuncData} (F : Fun K "is_place" "is_place" stIpl f fd) (T : TxtStp mg fW fN fS fT fP) (kW : PySem.W.keepIn K (.ref fW) = true) (kN : PySem.W.keepIn K (.ref fN) = true) (kT : PySem.W.keepIn K (.ref fT) = true)
    (GW : FnOk P w K mg base CX0 2 fW fdW ["thing", "least", "most"] spWit) (bW : Binds K fdW ["thing", "least", "most"] [])
    (GT : FnOk P w K mg base CX0 1 fT fdT ["thing", "fewest", "most"] spTupN) (bT : Binds K fdT ["thing", "fewest", "most"] [])
    (GN : FnOk P w K mg base CX0 3 fN fdN ["book", "thing"] spNum) (bN : Binds K fdN ["book", "thing"] []) : FnOk P w K mg base CX0 4 f fd ["book", "thing"] spIpl := by
  refine F.ok sc_ipl (fun vs H Q E h => ?_) (fun cdv A outer s H vs Q E hr h => ?_)
  · obtain ⟨b, a, sets, st, rfl, _⟩ := h
    rfl
  · obtain ⟨b, a, sets, pl, rfl, bk, ha, hpl, q⟩ := h
    obtain ⟨ok, bs, hb, pb⟩ := id bk
    refine ⟨_, pss_cons (ps_if (pt_not (pt_val (pe_call GT (hr.mono (by decide)) (by rfl) T.gT kT bT .nil pass0 (pa_cons (pv 1) (pa_cons pe_int (pa_cons pe_int pa_nil)))))) (pss_one (ps_ret pe_bl)) pss_nil)
      (pss_cons (ps_asg (pv 1) (pg_tup rfl (pgs_cons (pg_name (i := 2) sc_ipl.nd rfl (Or.inl rfl)) (pgs_cons (pg_name (i := 3) sc_ipl.nd rfl (Or.inl rfl)) pgs_nil))))
      (pss_one (ps_ret (pe_and (pe_call GN hr (by rfl) T.gN kN bN .nil pass0 (pa_cons (pv 0) (pa_cons (pv 2) pa_nil)))
        (pe_one (pe_call GW (hr.mono (by decide)) (by rfl) T.gW kW bW .nil pass0 (pa_cons (pv 3) (pa_cons pe_int (pa_cons (pe_op op_sub (pe_ix (r := rIxT K) ix_tup (pe_ix (r := rIxT K) ix_tup (pv 0) (pv 2) (fun _ _ => rfl)) pe_int (fun _ _ => rfl)) pe_int) pa_nil))))))))), ?_⟩
    have pa : Plain H (.ref a) (.type "tuple") := .tup ha
    refine ⟨_, rfl, .ref a, _, 2, 2, rfl, pa, _, rfl, ?_⟩
    rw [tupB_of ha]
    refine iteF ?_
    refine ⟨_, rfl, a, _, rfl, SqT.of ha, rfl, _, _, rfl, _, _, rfl, rfl, ?_⟩
    obtain ⟨k, sx, hk, e1, n, hn, e2⟩ := placesM_mem.mp hpl
    rw [Nat.zero_add] at e1
    have hk2 := (List.getElem?_eq_some_iff.mp hk).1
    have okS := ok.ok sx (List.mem_of_getElem? hk)
    have m0 := okS.m0
    have w1 : within (.int pl.1) 0 ((sets.length : Int) - 1) = true := by
      simp only [within, Bool.and_eq_true, decide_eq_true_eq]
      omega
    refine ⟨_, rfl, _, rfl, b, sets, .int pl.1, _, rfl, bk, .int _, _, rfl, ?_⟩
    rw [w1]
    obtain ⟨ax, hax, kx⟩ := Paired.gt pb hk
    have at1 : atI (bs.map V.ref) pl.1 = some (.ref ax) := by
      rw [e1]
      exact atI_nat (by rw [List.getElem?_map, hax]; rfl)
    refine iteT ⟨_, rfl, _, rfl, _, rfl, b, _, _, _, rfl, rfl, SqT.of hb, at1, ax, _, _, .int sx.2.2, rfl, rfl, SqT.of kx, rfl, _, _, rfl, rfl, .int pl.2, _, 0, sx.2.2 - 1, rfl, .int _, ?_⟩
    have w2 : within (.int pl.2) 0 (sx.2.2 - 1) = true := by
      simp only [within, Bool.and_eq_true, decide_eq_true_eq]
      omega
    rw [w2]
    exact q
theorem sc_stp : FnScope ["book", "thing"] ["book", "thing"] (defScope stStp) := ⟨rfl, rfl, rfl, by decide +kernel, rfl, by decide +kernel, by decide +kernel⟩
theorem ok_stp {f fW fN fS fT fP : Addr} {fd fdW fdT fdP : FuncData} (F : Fun K "is_stamp" "is_stamp" stStp f fd) (T : TxtStp mg fW fN fS fT fP) (kW : PySem.W.keepIn K (.ref fW) = true) (kP : PySem.W.keepIn K (.ref fP) = true) (kT : PySem.W.keepIn K (.ref fT) = true)
    (GW : FnOk P w K mg base CX0 2 fW fdW ["thing", "least", "most"] spWit) (bW : Binds K fdW ["thing", "least", "most"] [])
    (GT : FnOk P w K mg base CX0 1 fT fdT ["thing", "fewest", "most"] spTupN) (bT : Binds K fdT ["thing", "fewest", "most"] [])
    (GP : FnOk P w K mg base CX0 4 fP fdP ["book", "thing"] spIpl) (bP : Binds K fdP ["book", "thing"] []) : FnOk P w K mg base CX0 5 f fd ["book", "thing"] spStp := by
  refine F.ok sc_stp (fun vs H Q E h => ?_) (fun cdv A outer s H vs Q E hr h => ?_)
  · obtain ⟨b, a, sets, st, rfl, _⟩ := h
    rfl
  · obtain ⟨b, a, sets, st, rfl, bk, ha, so, q⟩ := h
    obtain ⟨t0, hH⟩ := T.hinged
    obtain ⟨t1, hW⟩ := T.whole
    refine ⟨_, pss_cons (ps_if (pt_not (pt_val (pe_call GT (hr.mono (by decide)) (by rfl) T.gT kT bT .nil pass0 (pa_cons (pv 1) (pa_cons pe_int (pa_cons pe_int pa_nil)))))) (pss_one (ps_ret pe_bl)) pss_nil)
      (pss_one (ps_ret (pe_and (pe_call GP hr (by rfl) T.gP kP bP .nil pass0 (pa_cons (pv 0) (pa_cons (pe_slice (r := rSlT K) sl_tup (pv 1) po_none (po_some pe_int)) pa_nil)))
        (pe_one (pe_call GW (hr.mono (by decide)) (by rfl) T.gW kW bW .nil pass0 (pa_cons (pe_ix (r := rIxT K) ix_tup (pv 1) pe_int (fun _ _ => rfl)) (pa_cons (pe_glob (v := .int 0) (by rfl) hH ⟨_, rfl⟩) (pa_cons (pe_glob (v := .int 1) (by rfl) hW ⟨_, rfl⟩) pa_nil)))))))), ?_⟩
    have pa : Plain H (.ref a) (.type "tuple") := .tup ha
    refine ⟨_, rfl, .ref a, _, 3, 3, rfl, pa, _, rfl, ?_⟩
    rw [tupB_of ha]
    refine iteF ?_
    refine ⟨_, rfl, _, rfl, 2, rfl, a, _, rfl, SqT.of ha, (fun z => absurd z.2 (by show ¬ HT.sIx 3 3 (some 2) = 3; decide)), fun t ht => ?_⟩
    have s1 : Same H (upd H t (.tup [V.int st.1, V.int st.2.1])) := same_upd ht
    refine ⟨b, t, sets, (st.1, st.2.1), rfl, bk.same s1, upd_same, so.pl, _, rfl, ?_⟩
    have w3 : within (.int st.2.2) 0 1 = true := by
      have := so.g0
      have := so.g1
      simp only [within, Bool.and_eq_true, decide_eq_true_eq]
      omega
    refine iteT ⟨_, rfl, a, _, _, .int st.2.2, rfl, rfl, SqT.of (s1 _ _ ha), rfl, .int st.2.2, _, 0, 1, rfl, .int _, ?_⟩
    rw [w3]
    exact q _ s1
abbrev nSts : List Str := ["book", "thing", "part"]
theorem sc_sts : FnScope nSts ["book", "thing"] (defScope stSts) := ⟨rfl, rfl, rfl, by decide +kernel, rfl, by decide +kernel, by decide +kernel⟩
theorem ok_sts {f fW fN fS fT fP : Addr} {fd fdS : FuncData} (F : Fun K "is_stamps" "is_stamps" stSts f fd) (T : TxtStp mg fW fN fS fT fP) (kS : PySem.W.keepIn K (.ref fS) = true)
    (GS : FnOk P w K mg base CX0 5 fS fdS ["book", "thing"] spStp) (bS : Binds K fdS ["book", "thing"] []) : FnOk P w K mg base CX0 6 f fd ["book", "thing"] spSts := by
  refine F.ok sc_sts (fun vs H Q E h => ?_) (fun cdv A outer s H vs Q E hr h => ?_)
  · obtain ⟨b, t, sets, as, ss, rfl, _⟩ := h
    rfl
  · obtain ⟨b, t, sets, as, ss, rfl, bk, ht, pr, so, hz, q⟩ := h
    refine ⟨_, pss_one (ps_ret (pe_and (pe_callB call_isi (by rfl) T.k.isi boot_isinstance (pa_cons (pv 1) (pa_cons (pe_bltn (v := .ty "tuple") (by rfl) T.k.tuple (by decide +kernel) rfl) pa_nil)))
      (pe_one (pe_callB (cr_all rfl) (by rfl) T.k.all (by decide +kernel) (pa_cons (pe_lc (own := [("part", 2)]) (g := gName 2) (tt := tYes) rfl sc_sts.nd (pi_tup (pv 1))
          (blkOk_by (N := nSts) (sc := defScope stSts) (by decide +kernel)) (fun _ _ _ _ _ => pg_name (i := 2) sc_sts.nd rfl (Or.inl rfl)) (fun _ _ _ _ _ => pts_nil)
          (fun _ _ _ _ _ => pe_call GS hr (by rfl) T.gS kS bS .nil pass0 (pa_cons (pv 0) (pa_cons (pv 2) pa_nil)))) pa_nil))))), ?_⟩
    have pa : Plain H (.ref t) (.type "tuple") := .tup ht
    have bl : as.length = ss.length := Paired.length pr
    refine ⟨_, rfl, _, _, _, _, _, rfl, .ty "tuple", pa.ty, pa.kT, _, rfl, iteT ⟨_, rfl, t, rfl, ⟨_, SqT.of ht⟩, fun D hD => lc_tup (K := K) (xs := as.map V.ref) (fun i H' => Same H H' ∧ H' D = some (.lst ((List.replicate i true).map V.bl)))
      ⟨same_upd hD, upd_same⟩ (fun i H' _ pv => SqT.of (pv.1 _ _ ht)) (fun i x H1 hx pv => ?_) (fun H1 pv => ?_)⟩⟩
    · obtain ⟨sm, hDi⟩ := pv
      rw [List.getElem?_map] at hx
      cases h1 : as[i]? with
      | none =>
        rw [h1] at hx
        cases hx
      | some a1 =>
        rw [h1] at hx
        cases hx
        obtain ⟨s1, g1, k1⟩ := Paired.gl pr h1
        have hi := (List.getElem?_eq_some_iff.mp g1).1
        refine ⟨rfl, yesT ⟨_, rfl, _, rfl, b, a1, sets, s1, rfl, bk.same sm, sm _ _ k1, so _ (List.mem_of_getElem? g1), fun H2 s2 => ⟨_, s2 _ _ hDi, by rw [List.length_map, List.length_replicate]; exact small1000 (by omega), fun c o e => ?_, ?_⟩⟩⟩
        · rw [upd_ne (ne_of_none e hD)]
          exact s2 _ _ (sm _ _ e)
        · rw [upd_same, List.replicate_succ', List.map_append]
          rfl
    · obtain ⟨sm, hDi⟩ := pv
      have ea : (List.replicate (as.map V.ref).length true).all id = true := by rw [List.all_replicate]; simp
      refine ⟨D, _, rfl, SqL.of hDi, ?_⟩
      rw [ea]
      exact q H1 sm
end
end Hm

set_option Elab.async false
set_option maxRecDepth 100000
set_option maxHeartbeats 4000000
namespace Hm
open PySem PySem.Spec PyProof.Rows L2 HmS
abbrev stAlb : Stmt := topSt 36 -- row Album
abbrev sInit : Stmt := inClass stAlb 0 -- meth Album __init__
abbrev sChk : Stmt := inClass stAlb 4 -- meth Album _check_stamp
abbrev sCof : Stmt := inClass stAlb 7 -- meth Album count_of
abbrev sAof : Stmt := inClass stAlb 8 -- meth Album all_of
abbrev sGaA : Stmt := inClass stAlb 9 -- meth Album gaps
abbrev sFil : Stmt := inClass stAlb 10 -- meth Album _fills
abbrev sDbA : Stmt := inClass stAlb 11 -- meth Album doubles
abbrev sKee : Stmt := inClass stAlb 12 -- meth Album _keeps
abbrev sWho : Stmt := inClass stAlb 13 -- meth Album whole_sets
/-- a suite that isn't reached -/
def tNever : TS := fun _ _ _ => False
theorem pss_never {X : Cx} {b : List Stmt} : PSs X b tNever := ⟨fun _ _ _ _ _ _ h => h.elim⟩
/-! ### an album in the heap -/
theorem nbn : ¬ (("_book" : Str) = "_name") := by decide +kernel
theorem nbm : ¬ (("_book" : Str) = "_many") := by decide +kernel
theorem nnm : ¬ (("_name" : Str) = "_many") := by decide +kernel
def albF (b : Addr) (n : Str) (d : Addr) : List (Str × V) := putF "_many" (.ref d) (putF "_name" (.str n) (putF "_book" (.ref b) []))
theorem albF_eq (b : Addr) (n : Str) (d : Addr) : albF b n d = ([("_book", V.ref b), ("_name", V.str n), ("_many", V.ref d)] : List (Str × V)) := by
  unfold albF
  show putF "_many" (.ref d) (if ("_book" : Str) = "_name" then _ else (("_book" : Str), V.ref b) :: putF "_name" (V.str n) []) = _
  rw [if_neg nbn]
  show (if ("_book" : Str) = "_many" then _ else (("_book" : Str), V.ref b) :: (if ("_name" : Str) = "_many" then _ else (("_name" : Str), V.str n) :: putF "_many" (V.ref d) [])) = _
  rw [if_neg nbm, if_neg nnm]
  rfl
theorem albF_m (b : Addr) (n : Str) (d : Addr) : (albF b n d).lookup ("_many" : Str) = some (.ref d) := by
  unfold albF
  rw [lookup_putF, if_pos rfl]
theorem albF_n (b : Addr) (n : Str) (d : Addr) : (albF b n d).lookup ("_name" : Str) = some (.str n) := by
  unfold albF
  rw [lookup_putF, if_neg nnm, lookup_putF, if_pos rfl]
theorem albF_b (b : Addr) (n : Str) (d : Addr) : (albF b n d).lookup ("_book" : Str) = some (.ref b) := by
  unfold albF
  rw [lookup_putF, if_neg nbm, lookup_putF, if_neg nbn, lookup_putF, if_pos rfl]
theorem albF_no (b : Addr) (n : Str) (d : Addr) {m : Str} (h1 : ¬ m = "_many") (h2 : ¬ m = "_name") (h3 : ¬ m = "_book") : (albF b n d).lookup m = none := by
  unfold albF
  rw [lookup_putF, if_neg h1, lookup_putF, if_neg h2, lookup_putF, if_neg h3]
  rfl
/-- an album at p: the list at b, the name n, the counts cs at d -/
structure AlbAt (C : Addr) (H : Hp) (p b : Addr) (n : Str) (d : Addr) (cs : CtT) : Prop where
  ob : ∃ dx, H p = some (.ins C dx (albF b n d))
  dc : H d = some (.dT (cs.map entC))
theorem AlbAt.same {C : Addr} {H H' : Hp} {p b d : Addr} {n : Str} {cs : CtT} (s : Same H H') (h : AlbAt C H p b n d cs) : AlbAt C H' p b n d cs := by
  obtain ⟨⟨dx, e⟩, f⟩ := h
  exact ⟨⟨dx, s _ _ e⟩, s _ _ f⟩
theorem alb2 (b : Addr) (n : Str) : (putF "_name" (V.str n) (putF "_book" (V.ref b) [])).length < 1000 := by
  show (if ("_book" : Str) = "_name" then [(("_book" : Str), V.str n)] else (("_book" : Str), V.ref b) :: putF "_name" (V.str n) []).length < 1000
  rw [if_neg nbn]
  show 2 < 1000
  decide
theorem orT_tup {K : PySem.W.Frag} {σ : L2.St} {H : Hp} {Q : VK} {i : Nat} {t : Addr} {as : List Addr} (ht : σ[i]? = some (some (.ref t))) (hT : H t = some (.tup (as.map V.ref))) (q : ∀ t' G, Same H G → G t' = some (.tup (as.map V.ref)) → Q (.ref t') G) :
    tOrT K (tVar i) (tTup tNil) σ H Q := by
  cases as with
  | nil => exact ⟨_, ht, false, .inr (.inl ⟨_, SqT.of hT, rfl⟩), iteF ⟨by show 0 ≤ sizeLine; decide, fun t0 h0 => q t0 _ (same_upd h0) upd_same⟩⟩
  | cons a r => exact ⟨_, ht, true, .inr (.inl ⟨_, SqT.of hT, rfl⟩), iteT (q t H (fun _ _ e => e) hT)⟩
structure TxtAlb (K : PySem.W.Frag) (mg : Str → Option Value) (C : Addr) : Prop where
  cl : Cls K C
  nB : NoAttr K C "_book"
  nN : NoAttr K C "_name"
  nM : NoAttr K C "_many"
  mgC : mg "Album" = some (.ref C)
structure TxtCal (mg : Str → Option Value) (fLs fLt fSs fSt fNu : Addr) : Prop where
  gLs : mg "is_list" = some (.ref fLs)
  gLt : mg "is_letters" = some (.ref fLt)
  gSs : mg "is_stamps" = some (.ref fSs)
  gSt : mg "is_stamp" = some (.ref fSt)
  gNu : mg "is_set_number" = some (.ref fNu)
/-- a def with defaults that lets nothing out -/
theorem FunD.ok0 {P : Program} {w : World} {K : PySem.W.Frag} {mg : Str → Option Value} {base : Heap} {x qual : Str} {params : Arguments} {body : List Stmt} {scope : Scope} {dvs : List V} {kws : List (Str × V)} {f : Addr} {fd : FuncData} {N ps : List Str} {k : Nat} {sp : Sp} (F : FunD K x qual params body scope dvs kws f fd) (S : FnScope N ps scope) (len : ∀ vs H Q E, sp vs H Q E → vs.length = ps.length)
    (hbody : ∀ (cdv : Value) (A : Around) (outer : List Env) (s : Shared) (H : Hp) (vs : List V) (Q : VK) (E : XK), Room k (A.deeper (envOfC qual scope s.heap.objs.size f cdv)) → sp vs H Q E →
      ∃ t, PSs (cxOf CX0 P w K mg base N qual scope f cdv A outer s H E).nox body t ∧ t { nx := fun _ H' => Q .non H', rt := Q } (L2.start N vs) H) : FnOk P w K mg base CX0 (k + 1) f fd ps sp :=
  FunD.ok F S len fun cdv A outer s H vs Q E hr hsp => by
    obtain ⟨t, h, q⟩ := hbody cdv A outer s H vs Q E hr hsp
    exact ⟨t, h.nox, q⟩
abbrev FInit (K : PySem.W.Frag) (f : Addr) (fd : FuncData) : Prop := FunD K "__init__" "Album.__init__" (defArgs sInit) (defBody sInit) (defScope sInit) [.str "", .non] [] f fd
def spInit (C : Addr) : Sp := fun vs H Q _ => ∃ (p dx b t : Addr) (n : Str) (sets : List SetT) (as : List Addr) (ss : List StT), vs = [.ref p, .ref b, .str n, .ref t] ∧ H p = some (.ins C dx []) ∧ Book H b sets ∧ n ∈ namesL ∧
  H t = some (.tup (as.map V.ref)) ∧ Paired (StAt H) as ss ∧ (∀ s ∈ ss, StOk sets s) ∧ ss.length ≤ 400 ∧
  ∀ (H' : Hp) (d : Addr), Keep p H H' → H d = none → AlbAt C H' p b n d (countsM ss) → Q .non H'
section
variable {P : Program} {w : World} {K : PySem.W.Frag} {mg : Str → Option Value} {base : Heap}
abbrev nInit : List Str := ["self", "book", "name", "stamps", "stamp"]
theorem sc_init : FnScope nInit ["self", "book", "name", "stamps"] (defScope sInit) := ⟨rfl, rfl, rfl, by decide +kernel, rfl, by decide +kernel, by decide +kernel⟩
theorem ok_init {f C fLs fLt fSs fSt fNu : Addr} {fd fdLs fdLt fdSs : FuncData} (F : FInit K f fd) (T : TxtAlb K mg C) (TC : TxtCal mg fLs fLt fSs fSt fNu)
    (kLs : PySem.W.keepIn K (.ref fLs) = true) (kLt : PySem.W.keepIn K (.ref fLt) = true) (kSs : PySem.W.keepIn K (.ref fSs) = true)
    (GLs : FnOk P w K mg base CX0 5 fLs fdLs ["thing"] spLisIs) (bLs : Binds K fdLs ["thing"] [])
    (GLt : FnOk P w K mg base CX0 1 fLt fdLt ["thing", "fewest", "most"] spLet) (bLt : Binds K fdLt ["thing", "fewest", "most"] [])
    (GSs : FnOk P w K mg base CX0 6 fSs fdSs ["book", "thing"] spSts) (bSs : Binds K fdSs ["book", "thing"] []) :
    FnOk P w K mg base CX0 7 f fd ["self", "book", "name", "stamps"] (spInit C) := by
  refine FunD.ok0 F sc_init (fun vs H Q E h => ?_) (fun cdv A outer s H vs Q E hr h => ?_)
  · obtain ⟨p, dx, b, t, n, sets, as, ss, rfl, _⟩ := h
    rfl
  · obtain ⟨p, dx, b, t, n, sets, as, ss, rfl, hp, bk, hn, ht, pr, so, hz, q⟩ := h
    have hu := hu_of hr
    refine ⟨_, pss_cons (ps_if (pt_not (pt_val (pe_call GLs (hr.mono (by decide)) (by rfl) TC.gLs kLs bLs .nil pass0 (pa_cons (pv 1) pa_nil)))) pss_never pss_nil)
      (pss_cons (ps_if (pt_not (pt_val (pe_call GLt (hr.mono (by decide)) (by rfl) TC.gLt kLt bLt .nil pass0 (pa_cons (pv 2) (pa_cons pe_int (pa_cons pe_int pa_nil)))))) pss_never pss_nil)
      (pss_cons (ps_if (PW.pt (pw_and (pt_cmpR op_notN (pv 3) pe_non (nomark _)) (pw_and1 (pt_not (pt_val (pe_call GSs hr (by rfl) TC.gSs kSs bSs .nil pass0 (pa_cons (pv 1) (pa_cons (pv 3) pa_nil)))))))) pss_never pss_nil)
      (pss_cons (ps_fld (pv 0) (pv 1) rfl) (pss_cons (ps_fld (pv 0) (pv 2) rfl) (pss_cons (ps_fld (pv 0) pe_dnewT rfl)
      (pss_one (ps_for PassesOwn.never rfl (pi_tup (pe_orT (pv 3) (pe_one (pe_tup pa_nil)))) (pg_name (i := 4) sc_init.nd rfl (Or.inl rfl))
        (pss_one (ps_dput hu (pe_fld (pv 0) rfl) (pv 4) (pe_op op_add (pe_dget2 hu (pe_fld (pv 0) rfl) (pv 4) pe_int ⟨rfl, rfl, rfl, rfl⟩) pe_int) rfl))))))))), ?_⟩
    have no := names_ok n hn
    refine ⟨_, rfl, b, sets, rfl, bk, fun H1 s1 => ⟨_, rfl, iteF ?_⟩⟩
    refine ⟨_, rfl, .str n, _, 0, 8, rfl, .str _, (fun z e => by cases e; omega), fun H2 s2 => ⟨_, rfl, ?_⟩⟩
    rw [no.2]
    have s12 := s1.trans s2
    refine iteF ⟨_, rfl, rfl, _, rfl, ?_⟩
    have en : (!decide (V.ref t = V.non)) = true := by simp
    rw [en]
    refine iteT ⟨_, rfl, _, rfl, b, t, sets, as, ss, rfl, bk.same s12, s12 _ _ ht, st_same s12 pr, so, hz, fun H3 s3 => ⟨_, rfl, iteF ?_⟩⟩
    have s13 := s12.trans s3
    have hp3 := s13 _ _ hp
    have ht3 := s13 _ _ ht
    have pr3 := st_same s13 pr
    have tp : t ≠ p := fun z => by
      rw [z, hp] at ht
      cases ht
    refine ⟨_, rfl, _, rfl, p, C, dx, [], rfl, hp3, T.cl, T.nB, (by show 0 < 1000; decide), _, rfl, _, rfl, p, C, dx, _, rfl, upd_same, T.cl, T.nN, (by show 1 < 1000; decide), fun d hd => ?_⟩
    have hd3 : H3 d = none := by
      have hdp : d ≠ p := fun z => by
        rw [z, upd_same] at hd
        cases hd
      rw [upd_ne hdp, upd_ne hdp] at hd
      exact hd
    have dp : d ≠ p := fun z => by
      rw [z, hp3] at hd3
      cases hd3
    refine ⟨_, rfl, p, C, dx, _, rfl, (by rw [upd_ne (Ne.symm dp)]; exact upd_same), T.cl, T.nM, alb2 b n, ?_⟩
    have k3 : ∀ c o, c ≠ p → H3 c = some o → (upd (upd (upd (upd H3 p (.ins C dx (putF "_book" (.ref b) []))) p (.ins C dx (putF "_name" (.str n) (putF "_book" (.ref b) [])))) d (.dT [])) p (.ins C dx (albF b n d))) c = some o := fun c o hc e => by
      rw [upd_ne hc, upd_ne (ne_of_none e hd3), upd_ne hc, upd_ne hc]
      exact e
    refine orT_tup rfl (k3 _ _ tp ht3) fun t' G sG hT => ⟨t', rfl, ⟨_, SqT.of hT⟩, ?_⟩
    have hpG : G p = some (.ins C dx (albF b n d)) := sG _ _ upd_same
    have hdG : G d = some (.dT []) := sG _ _ (by rw [upd_ne dp]; exact upd_same)
    have prG : Paired (StAt G) as ss := Paired.mp (fun a s h => sG _ _ (k3 _ _ (fun z => by
      have h' : H3 a = some (.tup _) := h
      rw [z, hp3] at h'
      cases h') h)) pr3
    have tuD : ∀ {c : Addr} {xs : List V}, G c = some (.tup xs) → c ≠ d := fun e z => by
      rw [z, hdG] at e
      cases e
    refine for_tup (xs := as.map V.ref) (fun i σ H' => ∃ v4, σ = [some (.ref p), some (.ref b), some (.str n), some (.ref t), v4] ∧ Keep d G H' ∧ H' d = some (.dT ((countsM (ss.take i)).map entC)))
      ⟨none, rfl, Keep.refl, hdG⟩ (fun i σ H' _ ⟨_, _, k, _⟩ => SqT.of (k _ _ (tuD hT) hT)) ?_ ?_
    · rintro i x σ H4 hx ⟨v4, rfl, k4, hdi⟩
      rw [List.getElem?_map] at hx
      cases hbi : as[i]? with
      | none =>
        rw [hbi] at hx
        cases hx
      | some a =>
        rw [hbi] at hx
        cases hx
        obtain ⟨st, hst, hat⟩ := Paired.gl prG hbi
        have hi : i < ss.length := (List.getElem?_eq_some_iff.mp hst).1
        have at1 := k4 _ _ (tuD hat) hat
        have hp4 := k4 _ _ (Ne.symm dp) hpG
        have il : (countsM (ss.take i)).length ≤ 400 := by
          have := countsM_len (ss.take i)
          rw [List.length_take] at this
          omega
        have gt : DGet H4 d (.ref a) (valV ((countsM (ss.take i)).map entC) (keyS st)) := DGet.t hdi at1
        rw [valV_ent] at gt
        refine ⟨_, rfl, p, C, dx, _, _, rfl, hp4, T.cl, T.nM, albF_m b n d, d, rfl, .inr ⟨_, .inl hdi⟩, _, rfl, _, gt, ?_⟩
        rw [getD_ev]
        refine ⟨_, _, rfl, rfl, _, rfl, p, C, dx, _, _, rfl, hp4, T.cl, T.nM, albF_m b n d, _, rfl, d, _, rfl, DPut.t (k := keyS st) hdi at1 (by rw [List.length_map]; exact small1000 (by omega)), _, rfl, ?_, ?_⟩
        · intro c o hc e
          rw [upd_ne hc]
          exact k4 _ _ hc e
        · rw [upd_same, put_entC]
          have e2 : ss.take (i + 1) = ss.take i ++ [st] := by rw [List.take_add_one, hst]; rfl
          rw [e2, countsM_snoc]
          rfl
    · rintro σ H4 ⟨v4, rfl, k4, hdi⟩
      rw [List.length_map, Paired.length pr, List.take_length] at hdi
      refine q H4 d (fun c o hc e => k4 _ _ (ne_of_none (s13 _ _ e) hd3) (sG _ _ (k3 _ _ hc (s13 _ _ e)))) (none_of s13 hd3) ⟨⟨dx, k4 _ _ (Ne.symm dp) hpG⟩, hdi⟩
end
end Hm

set_option Elab.async false
set_option maxRecDepth 100000
set_option maxHeartbeats 4000000
namespace Hm
open PySem PySem.Spec PyProof.Rows L2 HmS
def spChk (C : Addr) : Sp := fun vs H Q _ => ∃ (p a b d : Addr) (n : Str) (cs : CtT) (sets : List SetT) (s : StT), vs = [.ref p, .ref a] ∧ AlbAt C H p b n d cs ∧ Book H b sets ∧ StAt H a s ∧ StOk sets s ∧ ∀ H', Same H H' → Q .non H'
def spCof (C : Addr) : Sp := fun vs H Q _ => ∃ (p a b d : Addr) (n : Str) (cs : CtT) (sets : List SetT) (s : StT), vs = [.ref p, .ref a] ∧ AlbAt C H p b n d cs ∧ Book H b sets ∧ StAt H a s ∧ StOk sets s ∧ ∀ H', Same H H' → Q (.int (cntM cs s)) H'
def spAof (C : Addr) : Sp := fun vs H Q _ => ∃ (p b d : Addr) (n : Str) (cs : CtT), vs = [.ref p] ∧ AlbAt C H p b n d cs ∧ cs.length ≤ 400 ∧
  ∀ (H' : Hp) (l : Addr) (rs : List Addr), Same H H' → H l = none → H' l = some (.lst (rs.map V.ref)) → Paired (RowAt H') rs (riseM cs) → Q (.ref l) H'
def spFil (C : Addr) : Sp := fun vs H Q _ => ∃ (p b d : Addr) (n : Str) (cs : CtT) (pl : PlT), vs = [.ref p, .int pl.1, .int pl.2] ∧ AlbAt C H p b n d cs ∧ (∀ c ∈ cs, 1 ≤ c.2) ∧ ∀ H', Same H H' → Q (.bl (hasM cs pl)) H'
def spGaA (C : Addr) : Sp := fun vs H Q _ => ∃ (p b d : Addr) (n : Str) (cs : CtT) (sets : List SetT) (i : Nat), vs = [.ref p, .int (i : Int)] ∧ AlbAt C H p b n d cs ∧ Book H b sets ∧ i < sets.length ∧ (∀ c ∈ cs, 1 ≤ c.2) ∧
  ∀ (H' : Hp) (l : Addr), Same H H' → H l = none → H' l = some (.lst ((gapsM sets cs i).map V.int)) → Q (.ref l) H'
theorem has_some {cs : CtT} (h : ∀ c ∈ cs, 1 ≤ c.2) (pl : PlT) : hasM cs pl = ((getC cs (pl.1, pl.2, 0)).isSome || (getC cs (pl.1, pl.2, 1)).isSome) := by
  have pos : ∀ s n, getC cs s = some n → 1 ≤ n := fun s n e => h _ (getC_mem e)
  unfold hasM cntM
  cases e0 : getC cs (pl.1, pl.2, 0) with
  | none =>
    cases e1 : getC cs (pl.1, pl.2, 1) with
    | none => rfl
    | some m =>
      have := pos _ _ e1
      simp
      omega
  | some n =>
    have := pos _ _ e0
    cases e1 : getC cs (pl.1, pl.2, 1) with
    | none =>
      simp
      omega
    | some m =>
      have := pos _ _ e1
      simp
      omega
theorem isS_map (o : Option Int) : (o.map V.int).isSome = o.isSome := by cases o <;> rfl
theorem pr_rows {H : Hp} : ∀ {cs : CtT} {rs : List Addr}, Paired (fun b (c : List Key × Int) => ∃ q, H b = some (.tup [.ref q, .int c.2]) ∧ H q = some (.tup (c.1.map kV))) rs (cs.map kcC) → Paired (RowAt H) rs cs
  | [], _, .nil => .nil
  | _ :: _, _, .cons h t => .cons h (pr_rows t)
structure TxtU (mg : Str → Option Value) (fSt fNu : Addr) : Prop where
  gSt : mg "is_stamp" = some (.ref fSt)
  gNu : mg "is_set_number" = some (.ref fNu)
  sorted : mg "sorted" = none
  range : mg "range" = none
  len : mg "len" = none
  hinged : ∃ t, mg "HINGED" = some (.int 0 t)
  whole : ∃ t, mg "WHOLE" = some (.int 1 t)
section
variable {P : Program} {w : World} {K : PySem.W.Frag} {mg : Str → Option Value} {base : Heap}
theorem sc_chk : FnScope ["self", "stamp"] ["self", "stamp"] (defScope sChk) := ⟨rfl, rfl, rfl, by decide +kernel, rfl, by decide +kernel, by decide +kernel⟩
theorem ok_chk {f C fSt fNu : Addr} {fd fdSt : FuncData} (F : Fun K "_check_stamp" "Album._check_stamp" sChk f fd) (T : TxtAlb K mg C) (TU : TxtU mg fSt fNu) (kSt : PySem.W.keepIn K (.ref fSt) = true)
    (GSt : FnOk P w K mg base CX0 5 fSt fdSt ["book", "thing"] spStp) (bSt : Binds K fdSt ["book", "thing"] []) : FnOk P w K mg base CX0 6 f fd ["self", "stamp"] (spChk C) := by
  refine F.ok sc_chk (fun vs H Q E h => ?_) (fun cdv A outer s H vs Q E hr h => ?_)
  · obtain ⟨p, a, b, d, n, cs, sets, st, rfl, _⟩ := h
    rfl
  · obtain ⟨p, a, b, d, n, cs, sets, st, rfl, ⟨⟨dx, hp⟩, hd⟩, bk, ha, so, q⟩ := h
    refine ⟨_, pss_one (ps_if (pt_not (pt_val (pe_call GSt hr (by rfl) TU.gSt kSt bSt .nil pass0 (pa_cons (pe_fld (pv 0) rfl) (pa_cons (pv 1) pa_nil))))) pss_never pss_nil), ?_⟩
    exact ⟨_, rfl, p, C, dx, _, _, rfl, hp, T.cl, T.nB, albF_b b n d, _, rfl, b, a, sets, st, rfl, bk, ha, so, fun H1 s1 => ⟨_, rfl, iteF (q H1 s1)⟩⟩
theorem sc_cof : FnScope ["self", "stamp"] ["self", "stamp"] (defScope sCof) := ⟨rfl, rfl, rfl, by decide +kernel, rfl, by decide +kernel, by decide +kernel⟩
theorem ok_cof {f C fC : Addr} {fd fdC : FuncData} (F : Fun K "count_of" "Album.count_of" sCof f fd) (T : TxtAlb K mg C) (mC : Meth K C "_check_stamp" fC)
    (GC : FnOk P w K mg base CX0 6 fC fdC ["self", "stamp"] (spChk C)) (bC : Binds K fdC ["self", "stamp"] []) : FnOk P w K mg base CX0 7 f fd ["self", "stamp"] (spCof C) := by
  refine F.ok sc_cof (fun vs H Q E h => ?_) (fun cdv A outer s H vs Q E hr h => ?_)
  · obtain ⟨p, a, b, d, n, cs, sets, st, rfl, _⟩ := h
    rfl
  · obtain ⟨p, a, b, d, n, cs, sets, st, rfl, al, bk, ha, so, q⟩ := h
    obtain ⟨⟨dx, hp⟩, hd⟩ := id al
    have hu := hu_of hr
    refine ⟨_, pss_cons (ps_expr (pe_meth (pv 0) T.cl mC GC hr bC .nil pass0 (pa_cons (pv 1) pa_nil)))
      (pss_one (ps_ret (pe_dget2 hu (pe_fld (pv 0) rfl) (pv 1) pe_int ⟨rfl, rfl, rfl, rfl⟩))), ?_⟩
    refine ⟨_, rfl, p, dx, _, rfl, hp, albF_no b n d (by decide +kernel) (by decide +kernel) (by decide +kernel), _, rfl, p, a, b, d, n, cs, sets, st, rfl, al, bk, ha, so, fun H1 s1 => ?_⟩
    have gt : DGet H1 d (.ref a) (valV (cs.map entC) (keyS st)) := DGet.t (s1 _ _ hd) (s1 _ _ ha)
    rw [valV_ent] at gt
    refine ⟨_, rfl, p, C, dx, _, _, rfl, s1 _ _ hp, T.cl, T.nM, albF_m b n d, d, rfl, .inr ⟨_, .inl (s1 _ _ hd)⟩, _, rfl, _, gt, ?_⟩
    rw [getD_ev]
    exact q H1 s1
theorem sc_aof : FnScope ["self"] ["self"] (defScope sAof) := ⟨rfl, rfl, rfl, by decide +kernel, rfl, by decide +kernel, by decide +kernel⟩
theorem ok_aof {f C : Addr} {fd : FuncData} (F : Fun K "all_of" "Album.all_of" sAof f fd) (T : TxtAlb K mg C) (hS : mg "sorted" = none) : FnOk P w K mg base CX0 1 f fd ["self"] (spAof C) := by
  refine F.ok sc_aof (fun vs H Q E h => ?_) (fun cdv A outer s H vs Q E hr h => ?_)
  · obtain ⟨p, b, d, n, cs, rfl, _⟩ := h
    rfl
  · obtain ⟨p, b, d, n, cs, rfl, ⟨⟨dx, hp⟩, hd⟩, hz, q⟩ := h
    refine ⟨_, pss_one (ps_ret (pe_callB (cr_sortIC rfl hr.units) (by rfl) hS (by decide +kernel) (pa_cons (pe_bm0 PySem.F.plainAttrs_dict PySem.F.slot_dict_items PySem.F.type_dict_items DX.mt_itemsT (pe_fld (pv 0) rfl)) pa_nil))), ?_⟩
    have e : (cs.map kcC).map (fun c => (c.1, V.int c.2)) = cs.map entC := by rw [List.map_map]; rfl
    refine ⟨_, rfl, p, C, dx, _, _, rfl, hp, T.cl, T.nM, albF_m b n d, (.inr (.inr (.inl ⟨rfl, .inr ⟨_, hd⟩⟩))), d, _, rfl, rfl, hd, fun v hv => ?_⟩
    have sv : Same H (upd H v (DX.itemsO v d)) := same_upd hv
    refine ⟨v, d, cs.map kcC, rfl, upd_same, by rw [e]; exact sv _ _ hd, by rw [List.length_map]; omega, ?_, ?_, fun l H' rs s' nl nk hl pr => ?_⟩
    · intro x hx y hy
      obtain ⟨z1, m1, rfl⟩ := List.mem_map.mp hx
      obtain ⟨z2, m2, rfl⟩ := List.mem_map.mp hy
      obtain ⟨s1, _, rfl⟩ := List.mem_map.mp m1
      obtain ⟨s2, _, rfl⟩ := List.mem_map.mp m2
      simp [encC, kcC, keyD, keyS, HmS.kD, PySem.W.alike, PySem.W.alikeAll]
    · intro c hc
      obtain ⟨s1, _, rfl⟩ := List.mem_map.mp hc
      simp [kcC, keyS]
    · have nd : (cs.map (·.1)).Nodup := by
        rw [List.map_map] at nk
        have e2 : (cs.map (Prod.fst ∘ kcC)) = (cs.map (·.1)).map keyS := by rw [List.map_map]; rfl
        rw [e2, List.Nodup, List.pairwise_map] at nk
        exact nk.imp fun h z => h (by rw [z])
      rw [sortC_rise nd] at pr
      exact q H' l rs (sv.trans s') (none_of sv nl) hl (pr_rows pr)
end
end Hm

set_option Elab.async false
set_option maxRecDepth 100000
set_option maxHeartbeats 4000000
namespace Hm
open PySem PySem.Spec PyProof.Rows L2 HmS
def keepsM (cs : CtT) (s : StT) : Bool := decide (s.2.2 = 1) || !(getC cs (s.1, s.2.1, 1)).isSome
theorem kept_keeps {cs : CtT} (h : ∀ c ∈ cs, 1 ≤ c.2) {s : StT} (g0 : 0 ≤ s.2.2) (g1 : s.2.2 ≤ 1) : keptM cs s = if keepsM cs s = true then 1 else 0 := by
  have pos : ∀ s n, getC cs s = some n → 1 ≤ n := fun s n e => h _ (getC_mem e)
  unfold keptM keepsM cntM
  cases e : getC cs (s.1, s.2.1, 1) with
  | none => simp
  | some n =>
    have := pos _ _ e
    by_cases c : s.2.2 = 1
    · simp [c]
    · have c0 : s.2.2 = 0 := by omega
      simp [c0]
      omega
def spKee (C : Addr) : Sp := fun vs H Q _ => ∃ (p a b d : Addr) (n : Str) (cs : CtT) (s : StT), vs = [.ref p, .ref a] ∧ AlbAt C H p b n d cs ∧ StAt H a s ∧ ∀ H', Same H H' → Q (.bl (keepsM cs s)) H'
def spDbA (C : Addr) : Sp := fun vs H Q _ => ∃ (p b d : Addr) (n : Str) (cs : CtT), vs = [.ref p] ∧ AlbAt C H p b n d cs ∧ cs.length ≤ 400 ∧ (∀ c ∈ cs, 1 ≤ c.2) ∧ (∀ c ∈ cs, 0 ≤ c.1.2.2 ∧ c.1.2.2 ≤ 1) ∧
  ∀ (H' : Hp) (l : Addr) (rs : List Addr), Same H H' → H l = none → H' l = some (.lst (rs.map V.ref)) → Paired (RowAt H') rs (dblsM cs) → Q (.ref l) H'
def wholeM (sets : List SetT) (cs : CtT) : List Int := ((List.range sets.length).map fun (k : Nat) => (k : Int)).filter fun k => (gapsM sets cs k.toNat).isEmpty
def spWho (C : Addr) : Sp := fun vs H Q _ => ∃ (p b d : Addr) (n : Str) (cs : CtT) (sets : List SetT), vs = [.ref p] ∧ AlbAt C H p b n d cs ∧ Book H b sets ∧ (∀ c ∈ cs, 1 ≤ c.2) ∧
  ∀ (H' : Hp) (l : Addr), Same H H' → H l = none → H' l = some (.lst ((wholeM sets cs).map V.int)) → Q (.ref l) H'
section
variable {P : Program} {w : World} {K : PySem.W.Frag} {mg : Str → Option Value} {base : Heap}
theorem sc_fil : FnScope ["self", "at", "number"] ["self", "at", "number"] (defScope sFil) := ⟨rfl, rfl, rfl, by decide +kernel, rfl, by decide +kernel, by decide +kernel⟩
theorem ok_fil {f C fSt fNu : Addr} {fd : FuncData} (F : Fun K "_fills" "Album._fills" sFil f fd) (T : TxtAlb K mg C) (TU : TxtU mg fSt fNu) : FnOk P w K mg base CX0 1 f fd ["self", "at", "number"] (spFil C) := by
  refine F.ok sc_fil (fun vs H Q E h => ?_) (fun cdv A outer s H vs Q E hr h => ?_)
  · obtain ⟨p, b, d, n, cs, pl, rfl, _⟩ := h
    rfl
  · obtain ⟨p, b, d, n, cs, pl, rfl, ⟨⟨dx, hp⟩, hd⟩, pos, q⟩ := h
    have hu := hu_of hr
    obtain ⟨t0, hH⟩ := TU.hinged
    obtain ⟨t1, hW⟩ := TU.whole
    refine ⟨_, pss_one (ps_ret (pe_or (pe_cmp (pc_din hu (pe_tup (pa_cons (pv 1) (pa_cons (pv 2) (pa_cons (pe_glob (v := .int 0) (by rfl) hH ⟨_, rfl⟩) pa_nil)))) (pe_fld (pv 0) rfl)))
      (pe_one (pe_cmp (pc_din hu (pe_tup (pa_cons (pv 1) (pa_cons (pv 2) (pa_cons (pe_glob (v := .int 1) (by rfl) hW ⟨_, rfl⟩) pa_nil)))) (pe_fld (pv 0) rfl)))))), ?_⟩
    rw [has_some pos] at q
    refine ⟨_, rfl, _, rfl, by show 3 ≤ sizeLine; decide, fun t ht => ?_⟩
    have s1 : Same H (upd H t (.tup [V.int pl.1, V.int pl.2, V.int 0])) := same_upd ht
    have g1 := DGet.t (k := keyS (pl.1, pl.2, 0)) (s1 _ _ hd) upd_same
    rw [valV_ent] at g1
    refine ⟨_, rfl, p, C, dx, _, _, rfl, s1 _ _ hp, T.cl, T.nM, albF_m b n d, d, _, rfl, g1, _, rfl, ?_⟩
    rw [isS_map]
    cases e0 : (getC cs (pl.1, pl.2, 0)).isSome with
    | true =>
      rw [e0, Bool.true_or] at q
      exact iteT (q _ s1)
    | false =>
      rw [e0, Bool.false_or] at q
      refine iteF ⟨_, rfl, _, rfl, by show 3 ≤ sizeLine; decide, fun t2 ht2 => ?_⟩
      have s2 : Same H _ := s1.trans (same_upd (o := .tup [V.int pl.1, V.int pl.2, V.int 1]) ht2)
      have g2 := DGet.t (k := keyS (pl.1, pl.2, 1)) (s2 _ _ hd) upd_same
      rw [valV_ent] at g2
      refine ⟨_, rfl, p, C, dx, _, _, rfl, s2 _ _ hp, T.cl, T.nM, albF_m b n d, d, _, rfl, g2, ?_⟩
      rw [isS_map]
      exact q _ s2
abbrev nGaA : List Str := ["self", "place", "number"]
theorem sc_gaA : FnScope nGaA ["self", "place"] (defScope sGaA) := ⟨rfl, rfl, rfl, by decide +kernel, rfl, by decide +kernel, by decide +kernel⟩
theorem ok_gaA {f C fF fSt fNu : Addr} {fd fdF fdNu : FuncData} (F : Fun K "gaps" "Album.gaps" sGaA f fd) (T : TxtAlb K mg C) (TU : TxtU mg fSt fNu) (mF : Meth K C "_fills" fF) (kNu : PySem.W.keepIn K (.ref fNu) = true)
    (GF : FnOk P w K mg base CX0 1 fF fdF ["self", "at", "number"] (spFil C)) (bF : Binds K fdF ["self", "at", "number"] [])
    (GNu : FnOk P w K mg base CX0 3 fNu fdNu ["book", "thing"] spNum) (bNu : Binds K fdNu ["book", "thing"] []) : FnOk P w K mg base CX0 4 f fd ["self", "place"] (spGaA C) := by
  refine F.ok sc_gaA (fun vs H Q E h => ?_) (fun cdv A outer s H vs Q E hr h => ?_)
  · obtain ⟨p, b, d, n, cs, sets, i, rfl, _⟩ := h
    rfl
  · obtain ⟨p, b, d, n, cs, sets, i, rfl, al, bk, hi, pos, q⟩ := h
    obtain ⟨⟨dx, hp⟩, hd⟩ := id al
    obtain ⟨ok, bs, hb, pb⟩ := id bk
    refine ⟨_, pss_cons (ps_if (pt_not (pt_val (pe_call GNu hr (by rfl) TU.gNu kNu bNu .nil pass0 (pa_cons (pe_fld (pv 0) rfl) (pa_cons (pv 1) pa_nil))))) pss_never pss_nil)
      (pss_one (ps_ret (pe_lc (own := [("number", 2)]) (g := gName 2) rfl sc_gaA.nd (pi_range1 (by rfl) TU.range (pa_cons (pe_ix (r := rIxT K) ix_tup (pe_ix (r := rIxT K) ix_tup (pe_fld (pv 0) rfl) (pv 1) (fun _ _ => rfl)) pe_int (fun _ _ => rfl)) pa_nil))
      (blkOk_by (N := nGaA) (sc := defScope sGaA) (by decide +kernel)) (fun _ _ _ _ _ => pg_name (i := 2) sc_gaA.nd rfl (Or.inl rfl))
      (fun _ _ _ _ _ => pts_one (pt_not (pt_val (pe_meth (pv 0) T.cl mF GF (hr.mono (by decide)) bF .nil pass0 (pa_cons (pv 1) (pa_cons (pv 2) pa_nil)))))) (fun _ _ _ _ _ => pv 2)))), ?_⟩
    obtain ⟨st, hst⟩ : ∃ st, sets[i]? = some st := ⟨_, List.getElem?_eq_getElem hi⟩
    obtain ⟨a, ha, hat⟩ := Paired.gt pb hst
    have okS := ok.ok st (List.mem_of_getElem? hst)
    have em : manyM sets i = st.2.2.toNat := by simp [manyM, hst]
    have w1 : within (.int (i : Int)) 0 ((sets.length : Int) - 1) = true := by
      simp only [within, Bool.and_eq_true, decide_eq_true_eq]
      omega
    refine ⟨_, rfl, p, C, dx, _, _, rfl, hp, T.cl, T.nB, albF_b b n d, _, rfl, b, sets, .int (i : Int), _, rfl, bk, .int _, _, rfl, ?_⟩
    rw [w1]
    refine iteF ⟨_, rfl, p, C, dx, _, _, rfl, hp, T.cl, T.nB, albF_b b n d, _, rfl, b, _, _, .ref a, rfl, rfl, SqT.of hb, atI_nat (by rw [List.getElem?_map, ha]; rfl), a, _, _, .int st.2.2, rfl, rfl, SqT.of hat, rfl, ?_⟩
    refine ⟨st.2.2, rfl, by have := okS.m0; omega, by have := okS.m1; omega, fun D hD => lc_range (lo := 0) (n := st.2.2.toNat)
      (fun k H' => Same H H' ∧ H' D = some (.lst ((((List.range k).map fun (k : Nat) => (k : Int)).filter fun k => !hasM cs ((i : Int), k)).map V.int))) ⟨same_upd hD, upd_same⟩ (fun k H' hk pv => ?_) (fun H' pv => ?_)⟩
    · obtain ⟨sk, hDk⟩ := pv
      have ln : ((((List.range k).map fun (k : Nat) => (k : Int)).filter fun k => !hasM cs ((i : Int), k)).map V.int).length ≤ 6 := by
        have h1 := List.length_filter_le (fun k => !hasM cs ((i : Int), k)) ((List.range k).map fun (k : Nat) => (k : Int))
        rw [List.length_map, List.length_range] at h1
        have h2 := okS.m0
        have h3 := okS.m1
        rw [List.length_map]
        omega
      have es : ((List.range (k + 1)).map fun (k : Nat) => (k : Int)).filter (fun k => !hasM cs ((i : Int), k)) = ((List.range k).map fun (k : Nat) => (k : Int)).filter (fun k => !hasM cs ((i : Int), k)) ++ (if (!hasM cs ((i : Int), (k : Int))) = true then [(k : Int)] else []) := by
        rw [List.range_succ, List.map_append, List.filter_append]
        congr 1
        rw [List.map_cons, List.map_nil, List.filter_cons, List.filter_nil]
      refine ⟨rfl, _, rfl, p, dx, _, rfl, sk _ _ hp, albF_no b n d (by decide +kernel) (by decide +kernel) (by decide +kernel), _, rfl, _, rfl, p, b, d, n, cs, ((i : Int), 0 + (k : Int)), rfl, al.same sk, pos, fun H4 s4 => ⟨_, rfl, ?_⟩⟩
      have sH : Same H H4 := sk.trans s4
      have hD4 : H4 D = some _ := s4 _ _ hDk
      rw [Int.zero_add]
      refine ite2 (fun c => ?_) (fun c => ?_)
      · refine ⟨_, rfl, _, hD4, by rw [sizeLine_eq]; omega, fun x o e => ?_, ?_⟩
        · rw [upd_ne (ne_of_none e hD)]
          exact sH _ _ e
        · rw [upd_same, es, if_pos c, List.map_append]
          rfl
      · refine ⟨sH, ?_⟩
        rw [es, if_neg c, List.append_nil]
        exact hD4
    · obtain ⟨sk, hDk⟩ := pv
      exact q H' D sk hD (by rw [hDk]; unfold gapsM; rw [em])
abbrev nKee : List Str := ["self", "stamp", "at", "number", "grade"]
theorem sc_kee : FnScope nKee ["self", "stamp"] (defScope sKee) := ⟨rfl, rfl, rfl, by decide +kernel, rfl, by decide +kernel, by decide +kernel⟩
theorem ok_kee {f C fSt fNu : Addr} {fd : FuncData} (F : Fun K "_keeps" "Album._keeps" sKee f fd) (T : TxtAlb K mg C) (TU : TxtU mg fSt fNu) : FnOk P w K mg base CX0 1 f fd ["self", "stamp"] (spKee C) := by
  refine F.ok sc_kee (fun vs H Q E h => ?_) (fun cdv A outer s H vs Q E hr h => ?_)
  · obtain ⟨p, a, b, d, n, cs, st, rfl, _⟩ := h
    rfl
  · obtain ⟨p, a, b, d, n, cs, st, rfl, ⟨⟨dx, hp⟩, hd⟩, ha, q⟩ := h
    have hu := hu_of hr
    obtain ⟨t1, hW⟩ := TU.whole
    refine ⟨_, pss_cons (ps_asg (pv 1) (pg_tup rfl (pgs_cons (pg_name (i := 2) sc_kee.nd rfl (Or.inl rfl)) (pgs_cons (pg_name (i := 3) sc_kee.nd rfl (Or.inl rfl)) (pgs_cons (pg_name (i := 4) sc_kee.nd rfl (Or.inl rfl)) pgs_nil)))))
      (pss_one (ps_ret (pe_or (pe_cmpR op_eq (pv 4) (pe_glob (v := .int 1) (by rfl) hW ⟨_, rfl⟩) (nomark _))
        (pe_one (pe_cmp (pc_dnotin hu (pe_tup (pa_cons (pv 2) (pa_cons (pv 3) (pa_cons (pe_glob (v := .int 1) (by rfl) hW ⟨_, rfl⟩) pa_nil)))) (pe_fld (pv 0) rfl))))))), ?_⟩
    refine ⟨_, rfl, a, _, rfl, SqT.of ha, rfl, _, _, rfl, _, _, rfl, _, _, rfl, rfl, ?_⟩
    refine ⟨_, rfl, rfl, _, rfl, ite2 (fun c => ?_) (fun c => ?_)⟩
    · have c' : st.2.2 = 1 := by simpa using c
      have e : keepsM cs st = true := by simp [keepsM, c']
      rw [e] at q
      exact q H fun _ _ e => e
    · have c' : ¬ st.2.2 = 1 := by simpa using c
      refine ⟨_, rfl, _, rfl, by show 3 ≤ sizeLine; decide, fun t ht => ?_⟩
      have s1 : Same H (upd H t (.tup [V.int st.1, V.int st.2.1, V.int 1])) := same_upd ht
      have g1 := DGet.t (k := keyS (st.1, st.2.1, 1)) (s1 _ _ hd) upd_same
      rw [valV_ent] at g1
      refine ⟨_, rfl, p, C, dx, _, _, rfl, s1 _ _ hp, T.cl, T.nM, albF_m b n d, d, _, rfl, g1, ?_⟩
      rw [isS_map]
      have e : keepsM cs st = !(getC cs (st.1, st.2.1, 1)).isSome := by simp [keepsM, c']
      rw [e] at q
      exact q _ s1
end
end Hm

set_option Elab.async false
set_option maxRecDepth 100000
set_option maxHeartbeats 4000000
namespace Hm
open PySem PySem.Spec PyProof.Rows L2 HmS
def tTru (K : PySem.W.Frag) (ta : TE) : TT := fun σ H Q => ta σ H fun x H' => ∃ k, TruV K x H' k ∧ Q k H'
theorem pt_tru {X : Cx} {a : Expr} {ta : TE} (ha : PE X a ta) (he : ∀ whole, isTrue a X.env whole = (do let v ← whole; standAt a.pos; holding [v] (truthy v))) : PT X a (tTru X.K ta) := pt_truth ha he
section
variable {P : Program} {w : World} {K : PySem.W.Frag} {mg : Str → Option Value} {base : Heap}
abbrev nDbA : List Str := ["self", "told", "stamp", "many", "spare"]
theorem sc_dbA : FnScope nDbA ["self"] (defScope sDbA) := ⟨rfl, rfl, rfl, by decide +kernel, rfl, by decide +kernel, by decide +kernel⟩
theorem ok_dbA {f C fA fK : Addr} {fd fdA fdK : FuncData} (F : Fun K "doubles" "Album.doubles" sDbA f fd) (T : TxtAlb K mg C) (mA : Meth K C "all_of" fA) (mK : Meth K C "_keeps" fK)
    (GA : FnOk P w K mg base CX0 1 fA fdA ["self"] (spAof C)) (bA : Binds K fdA ["self"] [])
    (GK : FnOk P w K mg base CX0 1 fK fdK ["self", "stamp"] (spKee C)) (bK : Binds K fdK ["self", "stamp"] []) : FnOk P w K mg base CX0 2 f fd ["self"] (spDbA C) := by
  refine F.ok sc_dbA (fun vs H Q E h => ?_) (fun cdv A outer s H vs Q E hr h => ?_)
  · obtain ⟨p, b, d, n, cs, rfl, _⟩ := h
    rfl
  · obtain ⟨p, b, d, n, cs, rfl, al, hz, hp, hg, q⟩ := h
    refine ⟨_, pss_cons (ps_set (i := 1) sc_dbA.nd rfl (Or.inl rfl) (pe_lst pa_nil))
      (pss_cons (ps_for PassesOwn.never rfl (pi_list (pe_meth0 (pv 0) T.cl mA GA hr bA .nil pass0))
          (pg_tup rfl (pgs_cons (pg_name (i := 2) sc_dbA.nd rfl (Or.inl rfl)) (pgs_cons (pg_name (i := 3) sc_dbA.nd rfl (Or.inl rfl)) pgs_nil)))
        (pss_cons (ps_set (i := 4) sc_dbA.nd rfl (Or.inl rfl) (pe_ifExp (pt_val (pe_meth (pv 0) T.cl mK GK hr bK .nil pass0 (pa_cons (pv 2) pa_nil))) (pe_op op_sub (pv 3) pe_int) (pv 3)))
        (pss_one (ps_if (pt_cmpR op_gt (pv 4) pe_int (nomark _))
            (pss_one (ps_expr (pe_bm PySem.F.plainAttrs_list PySem.F.slot_list_append PySem.F.type_list_append mt_append (pv 1) (pa_cons (pe_tup (pa_cons (pv 2) (pa_cons (pv 4) pa_nil))) pa_nil)))) pss_nil))))
      (pss_one (ps_ret (pv 1)))), ?_⟩
    obtain ⟨⟨dx, hpA⟩, _⟩ := id al
    refine seqset ⟨by decide, fun lf hlf => ⟨_, rfl, p, dx, _, rfl, (same_upd hlf) _ _ hpA, albF_no b n d (by decide +kernel) (by decide +kernel) (by decide +kernel), p, b, d, n, cs, rfl, al.same (same_upd hlf), hz, fun H1 l rs s1 nl hl pr => ⟨l, rfl, ⟨_, SqL.of hl⟩, ?_⟩⟩⟩
    have hlf1 : H1 lf = some (.lst []) := s1 _ _ upd_same
    have llf : l ≠ lf := fun z => by
      rw [z, upd_same] at nl
      cases nl
    have al1 : AlbAt C H1 p b n d cs := al.same ((same_upd hlf).trans s1)
    have rl : (riseM cs).length = cs.length := (riseM_perm cs).length_eq
    have alK : ∀ {G : Hp}, Keep lf H1 G → AlbAt C G p b n d cs := fun {G} k => by
      obtain ⟨⟨dx, e1⟩, e2⟩ := al1
      refine ⟨⟨dx, k _ _ (fun z => ?_) e1⟩, k _ _ (fun z => ?_) e2⟩
      · rw [z, hlf1] at e1
        cases e1
      · rw [z, hlf1] at e2
        cases e2
    refine for_list (K := K) (xs := rs.map V.ref) (fun i σ H' => ∃ (v2 v3 v4 : Option V) (qs : List Addr), σ = [some (.ref p), some (.ref lf), v2, v3, v4] ∧ Keep lf H1 H' ∧ H' lf = some (.lst (qs.map V.ref)) ∧ Paired (RowAt H') qs (((riseM cs).take i).flatMap (dblM cs)) ∧ qs.length ≤ i)
      ⟨none, none, none, [], rfl, Keep.refl, hlf1, .nil, Nat.zero_le _⟩ (fun i σ H' _ ⟨_, _, _, _, _, k, _⟩ => SqL.of (k _ _ llf hl)) ?_ ?_
    · rintro i x σ H2 hx ⟨v2, v3, v4, qs, rfl, k2, hlf2, pq, lq⟩
      rw [List.getElem?_map] at hx
      cases hbi : rs[i]? with
      | none =>
        rw [hbi] at hx
        cases hx
      | some r =>
        rw [hbi] at hx
        cases hx
        obtain ⟨c, hc, rat⟩ := Paired.gl pr hbi
        have hi : i < cs.length := by
          have := (List.getElem?_eq_some_iff.mp hc).1
          omega
        have hcm : c ∈ cs := (riseM_perm cs).mem_iff.mp (List.mem_of_getElem? hc)
        obtain ⟨t, e1, e2⟩ := rat.keep k2 hlf1
        have al2 := alK k2
        obtain ⟨⟨dx2, hp2⟩, _⟩ := id al2
        refine ⟨r, _, rfl, SqT.of e1, rfl, _, _, rfl, _, _, rfl, rfl, seqset ⟨_, rfl, p, dx2, _, rfl, hp2, albF_no b n d (by decide +kernel) (by decide +kernel) (by decide +kernel), _, rfl, p, t, b, d, n, cs, c.1, rfl, al2, e2, fun G sG => ⟨_, rfl, ?_⟩⟩⟩
        have ek := kept_keeps hp (hg _ hcm).1 (hg _ hcm).2
        have hlfG : G lf = some (.lst (qs.map V.ref)) := sG _ _ hlf2
        have et : (riseM cs).take (i + 1) = (riseM cs).take i ++ [c] := by rw [List.take_add_one, hc]; rfl
        have kG : Keep lf H1 G := k2.trans (Same.keep sG)
        have body : ∀ (m : Int) (Dn : L2.St → Hp → Prop), m = c.2 - keptM cs c.1 →
            (∀ σ' H', (∃ (v2 v3 v4 : Option V) (qs : List Addr), σ' = [some (.ref p), some (.ref lf), v2, v3, v4] ∧ Keep lf H1 H' ∧ H' lf = some (.lst (qs.map V.ref)) ∧ Paired (RowAt H') qs (((riseM cs).take (i + 1)).flatMap (dblM cs)) ∧ qs.length ≤ i + 1) → Dn σ' H') →
            (∀ t2, m > 0 → G t2 = none → Dn [some (.ref p), some (.ref lf), some (.ref t), some (.int c.2), some (.int m)] (upd (upd G t2 (.tup [.ref t, .int m])) lf (.lst (qs.map V.ref ++ [.ref t2])))) ∧
            (¬ m > 0 → Dn [some (.ref p), some (.ref lf), some (.ref t), some (.int c.2), some (.int m)] G) := by
          intro m Dn em hD
          refine ⟨fun t2 gt ht2 => ?_, fun ng => ?_⟩
          · have t2lf : t2 ≠ lf := fun z => by
              rw [z, hlfG] at ht2
              cases ht2
            refine hD _ _ ⟨_, _, _, qs ++ [t2], rfl, fun b o hb e => ?_, by rw [upd_same, List.map_append]; rfl, ?_, by rw [List.length_append]; simp; omega⟩
            · rw [upd_ne hb]
              exact (same_upd ht2) _ _ (kG _ _ hb e)
            · rw [et, List.flatMap_append]
              have ed : [c].flatMap (dblM cs) = [(c.1, m)] := by
                rw [List.flatMap_cons, List.flatMap_nil, List.append_nil]
                unfold dblM
                rw [if_pos (by omega), em]
              rw [ed]
              have kk : Keep lf G (upd (upd G t2 (.tup [.ref t, .int m])) lf (.lst (qs.map V.ref ++ [.ref t2]))) := fun b o hb e => by
                rw [upd_ne hb]
                exact (same_upd ht2) _ _ e
              have e2G : StAt G t c.1 := sG _ _ e2
              have tlf : t ≠ lf := fun z => by
                have e3 : G t = some (.tup _) := e2G
                rw [z, hlfG] at e3
                cases e3
              refine Paired.snoc ⟨t, ?_, kk _ _ tlf e2G⟩ (Paired.mp (fun a b h => (h.same sG).keep kk hlfG) pq)
              rw [upd_ne t2lf]
              exact upd_same
          · refine hD _ _ ⟨_, _, _, qs, rfl, kG, hlfG, ?_, by omega⟩
            rw [et, List.flatMap_append]
            have ed : [c].flatMap (dblM cs) = [] := by
              rw [List.flatMap_cons, List.flatMap_nil, List.append_nil]
              unfold dblM
              rw [if_neg (by omega)]
            rw [ed, List.append_nil]
            exact rows_same sG pq
        refine ite2 (fun kk => ?_) (fun kk => ?_)
        · rw [if_pos kk] at ek
          obtain ⟨b1, b2⟩ := body (c.2 - 1) _ (by rw [ek]) (fun σ' H' h => h)
          refine ⟨_, rfl, _, _, rfl, rfl, _, rfl, _, _, rfl, rfl, _, rfl, ite2 (fun gt => ?_) (fun ng => ?_)⟩
          · exact ⟨_, rfl, .inl ⟨rfl, _, SqL.of hlfG⟩, _, rfl, _, rfl, by show 2 ≤ sizeLine; decide, fun t2 ht2 => ⟨lf, _, _, rfl, rfl, (same_upd ht2) _ _ hlfG, by rw [List.length_map]; exact small1000 (by omega), b1 t2 (of_decide_eq_true gt) ht2⟩⟩
          · exact b2 fun z => ng (decide_eq_true z)
        · rw [if_neg kk] at ek
          obtain ⟨b1, b2⟩ := body c.2 _ (by rw [ek]; omega) (fun σ' H' h => h)
          refine ⟨_, rfl, _, rfl, _, _, rfl, rfl, _, rfl, ite2 (fun gt => ?_) (fun ng => ?_)⟩
          · exact ⟨_, rfl, .inl ⟨rfl, _, SqL.of hlfG⟩, _, rfl, _, rfl, by show 2 ≤ sizeLine; decide, fun t2 ht2 => ⟨lf, _, _, rfl, rfl, (same_upd ht2) _ _ hlfG, by rw [List.length_map]; exact small1000 (by omega), b1 t2 (of_decide_eq_true gt) ht2⟩⟩
          · exact b2 fun z => ng (decide_eq_true z)
    · rintro σ H2 ⟨v2, v3, v4, qs, rfl, k2, hlf2, pq, lq⟩
      rw [List.length_map, Paired.length pr, List.take_length] at pq
      exact ⟨_, rfl, q H2 lf qs (keep_new (Keep.trans (Same.keep ((same_upd hlf).trans s1)) k2) hlf) hlf hlf2 pq⟩
abbrev nWho : List Str := ["self", "at"]
theorem sc_who : FnScope nWho ["self"] (defScope sWho) := ⟨rfl, rfl, rfl, by decide +kernel, rfl, by decide +kernel, by decide +kernel⟩
theorem ok_who {f C fG fSt fNu : Addr} {fd fdG : FuncData} (F : Fun K "whole_sets" "Album.whole_sets" sWho f fd) (T : TxtAlb K mg C) (TU : TxtU mg fSt fNu) (mG : Meth K C "gaps" fG)
    (GG : FnOk P w K mg base CX0 4 fG fdG ["self", "place"] (spGaA C)) (bG : Binds K fdG ["self", "place"] []) : FnOk P w K mg base CX0 5 f fd ["self"] (spWho C) := by
  refine F.ok sc_who (fun vs H Q E h => ?_) (fun cdv A outer s H vs Q E hr h => ?_)
  · obtain ⟨p, b, d, n, cs, sets, rfl, _⟩ := h
    rfl
  · obtain ⟨p, b, d, n, cs, sets, rfl, al, bk, pos, q⟩ := h
    obtain ⟨⟨dx, hp⟩, hd⟩ := id al
    obtain ⟨ok, bs, hb, pb⟩ := id bk
    refine ⟨_, pss_one (ps_ret (pe_lc (own := [("at", 1)]) (g := gName 1) (tt := tNot (tTru K (tMeth C "gaps" (spGaA C) [] E0 (tVar 0) (tCons (tVar 1) tNil)))) rfl sc_who.nd (pi_range1 (by rfl) TU.range (pa_cons (pe_callB call_len_seq (by rfl) TU.len PySem.boot_len (pa_cons (pe_fld (pv 0) rfl) pa_nil)) pa_nil))
      (blkOk_by (N := nWho) (sc := defScope sWho) (by decide +kernel)) (fun _ _ _ _ _ => pg_name (i := 1) sc_who.nd rfl (Or.inl rfl))
      (fun _ _ _ _ _ => pts_one (pt_not (pt_tru (pe_meth (pv 0) T.cl mG GG hr bG .nil pass0 (pa_cons (pv 1) pa_nil)) (by intro _; rfl)))) (fun _ _ _ _ _ => pv 1))), ?_⟩
    have bl : bs.length = sets.length := Paired.length pb
    have l1 := ok.len1
    refine ⟨_, rfl, p, C, dx, _, _, rfl, hp, T.cl, T.nB, albF_b b n d, b, _, rfl, .inr (SqT.of hb), ?_⟩
    rw [List.length_map, bl]
    refine ⟨_, rfl, by omega, by omega, fun D hD => lc_range (lo := 0) (n := sets.length)
      (fun k H' => Same H H' ∧ H' D = some (.lst ((((List.range k).map fun (k : Nat) => (k : Int)).filter fun k => (gapsM sets cs k.toNat).isEmpty).map V.int))) ⟨same_upd hD, upd_same⟩ (fun k H' hk pv => ?_) (fun H' pv => ?_)⟩
    · obtain ⟨sk, hDk⟩ := pv
      have ln : ((((List.range k).map fun (k : Nat) => (k : Int)).filter fun k => (gapsM sets cs k.toNat).isEmpty).map V.int).length ≤ 4 := by
        have h1 := List.length_filter_le (fun k : Int => (gapsM sets cs k.toNat).isEmpty) ((List.range k).map fun (k : Nat) => (k : Int))
        rw [List.length_map, List.length_range] at h1
        rw [List.length_map]
        omega
      have es : ((List.range (k + 1)).map fun (k : Nat) => (k : Int)).filter (fun k => (gapsM sets cs k.toNat).isEmpty) = ((List.range k).map fun (k : Nat) => (k : Int)).filter (fun k => (gapsM sets cs k.toNat).isEmpty) ++ (if (gapsM sets cs k).isEmpty = true then [(k : Int)] else []) := by
        rw [List.range_succ, List.map_append, List.filter_append]
        congr 1
        rw [List.map_cons, List.map_nil, List.filter_cons, List.filter_nil, Int.toNat_natCast]
      have e0 : (0 : Int) + (k : Int) = (k : Int) := Int.zero_add _
      refine ⟨rfl, ?_⟩
      rw [e0]
      refine ⟨_, rfl, p, dx, _, rfl, sk _ _ hp, albF_no b n d (by decide +kernel) (by decide +kernel) (by decide +kernel), _, rfl, p, b, d, n, cs, sets, k, rfl, al.same sk, bk.same sk, hk, pos, fun H4 l s4 nl hl => ⟨_, .inl ⟨_, SqL.of hl, rfl⟩, ?_⟩⟩
      have sH : Same H H4 := sk.trans s4
      have hD4 : H4 D = some _ := s4 _ _ hDk
      have eE : (!(!((gapsM sets cs k).map V.int).isEmpty)) = (gapsM sets cs k).isEmpty := by rw [Bool.not_not, List.isEmpty_map]
      show if (!(!((gapsM sets cs k).map V.int).isEmpty)) = true then _ else _
      rw [eE]
      refine ite2 (fun c => ?_) (fun c => ?_)
      · refine ⟨_, rfl, _, hD4, by rw [sizeLine_eq]; omega, fun x o e => ?_, ?_⟩
        · rw [upd_ne (ne_of_none e hD)]
          exact sH _ _ e
        · rw [upd_same, es, if_pos c, List.map_append]
          rfl
      · refine ⟨sH, ?_⟩
        rw [es, if_neg c, List.append_nil]
        exact hD4
    · obtain ⟨sk, hDk⟩ := pv
      exact q H' D sk hD hDk
end
end Hm

set_option Elab.async false
set_option maxRecDepth 100000
set_option maxHeartbeats 4000000
namespace HmT
open PySem PyProof.Rows L2
def p0 : Pos := ⟨0, 0, 0, 0⟩
/-- a suite on which no run goes on -/
def stuck : List Stmt := [.Return (some (.BoolOp .And [] p0)) p0]
theorem some_field {M : Model} {Γ : PySem.Ctx} {e : Value} {n : Nat} {R : Value → Pos → Shared → Prop} {E : Value → Pos → Shared → Prop} {p : Pos} {s : Shared} (h : Sem.wp M Γ (field e n) R E p s) : ∃ v p' s', R v p' s' := by
  unfold field fieldsOf at h
  rw [Sem.wp_bind'] at h
  cases e with
  | ref a =>
    dsimp only at h
    rw [Sem.wp_bind'] at h
    obtain ⟨o, ho, h⟩ := (show ∃ o, s.heap.get? a = some o ∧ _ from h)
    rw [Sem.wp_pure] at h
    cases hd : o.data with
    | fields vs =>
      rw [hd] at h
      dsimp only at h
      rw [Sem.wp_pure'] at h
      cases hx : vs[n]? with
      | some x =>
        rw [hx] at h
        dsimp only at h
        rw [Sem.wp_pure'] at h
        exact ⟨_, _, _, h⟩
      | none =>
        rw [hx] at h
        exact h.elim
    | _ =>
      rw [hd] at h
      exact h.elim
  | _ => exact h.elim
theorem no_flight {M : Model} {Γ : PySem.Ctx} {e : Value} {E : Value → Pos → Shared → Prop} {p : Pos} {s : Shared} (h : Sem.wp M Γ (setFlight e none) (fun _ _ _ => False) E p s) : False := by
  unfold setFlight at h
  rw [Sem.wp_bind'] at h
  obtain ⟨v, p', s', h⟩ := some_field h
  by_cases c : (v != Value.none) = true
  · rw [if_pos c] at h
    unfold setField updateField at h
    cases v with
    | ref a =>
      dsimp only at h
      rw [Sem.wp_bind'] at h
      obtain ⟨o, ho, h⟩ := (show ∃ o, s'.heap.get? a = some o ∧ _ from h)
      rw [Sem.wp_pure] at h
      cases hd : o.data with
      | fields vs =>
        rw [hd] at h
        dsimp only at h
        by_cases c3 : 3 < vs.size
        · rw [if_pos c3] at h
          exact (show _ ∧ False from h).2
        · rw [if_neg c3] at h
          exact h
      | _ =>
        rw [hd] at h
        exact h
    | _ => exact h
  · rw [if_neg c] at h
    exact h
theorem no_stuck {M : Model} {Γ : PySem.Ctx} {env : Env} {Q : Flow → Pos → Shared → Prop} {E : Value → Pos → Shared → Prop} {p : Pos} {s : Shared} (h : Sem.wp M Γ (execs stuck env) Q E p s) : False := by
  unfold stuck execs at h
  rw [Sem.wp_bind'] at h
  unfold exec at h
  exact h
theorem no_suite {prog : Program} {w : World} {Γ : PySem.Ctx} {e : Value} {env : Env} {pos : Pos} {R : Result → Shared → Prop} {p : Pos} {s : Shared} (hc : Γ.code = .handlers e [.ExceptHandler none none stuck pos] env) (h : wpCode (model prog w) Γ R p s) : False := by
  rw [wpCode_iff_wp, hc] at h
  have h2 : Sem.wp (model prog w) Γ (do return Fin.done (← (handleWith e env [.ExceptHandler none none stuck pos]).onRaise (fun x => do noteFrame x env; theTreesLotGoes x))) (Sem.finPost (model prog w) Γ R) (fun e _ s' => R (.error e) s') p s := h
  rw [Sem.wp_bind', Sem.wp_onRaise] at h2
  unfold handleWith at h2
  rw [Sem.wp_bind'] at h2
  have h3 := (show Sem.wp (model prog w) Γ (do setFlight e none; execs stuck env) _ _ _ _ from h2)
  rw [Sem.wp_bind'] at h3
  exact no_flight (Sem.wp_mono (model prog w) Γ _ (fun _ _ _ z => no_stuck z) (fun _ _ _ z => z) _ _ h3)
/-- a first clause that is not hit: by a run of the same statement with a stuck suite -/
theorem skip_handler {prog : Program} {w : World} {Γ : PySem.Ctx} {e : Value} {env : Env} {t : Expr} {name : Option Str} {body : List Stmt} {pos : Pos} {rest : List ExceptHandler} {Q : Flow → Pos → Shared → Prop} {E : Value → Pos → Shared → Prop} {p : Pos} {s : Shared}
    (h : Sem.wp (model prog w) Γ (handleBy e env (.ExceptHandler (some t) none stuck pos :: rest)) Q E p s) : Sem.wp (model prog w) Γ (handleBy e env (.ExceptHandler (some t) name body pos :: rest)) Q E p s := by
  unfold handleBy at h ⊢
  rw [Sem.wp_bind'] at h ⊢
  refine Sem.wp_mono (model prog w) Γ _ (fun hit p' s' z => ?_) (fun _ _ _ z => z) _ _ h
  cases hit with
  | next => exact z
  | cont => exact z
  | ret v => exact z
  | brk =>
    exfalso
    have z1 : Sem.wp (model prog w) Γ ((holding [e] (runOwn (.handlers e [.ExceptHandler none none stuck pos] env) env (some e))).bind fun f => Sem.pure f) Q E p' s' := z
    rw [Sem.wp_bind, Sem.wp_holding] at z1
    unfold runOwn at z1
    rw [Sem.wp_onRaise, Sem.wp_run] at z1
    exact no_suite rfl z1
theorem skip_try {prog : Program} {w : World} {A : Around} {env : Env} {sb : List Stmt} {t : Expr} {name : Option Str} {body : List Stmt} {pos pos' : Pos} {rest : List ExceptHandler} {Q : Flow → Shared → Prop} {E : Value → Shared → Prop} {s : Shared}
    (h : wpAny (model prog w) A (exec (.Try sb (.ExceptHandler (some t) none stuck pos :: rest) [] [] pos') env) Q E s) : wpAny (model prog w) A (exec (.Try sb (.ExceptHandler (some t) name body pos :: rest) [] [] pos') env) Q E s := by
  intro Γ p hΓ
  have h1 := h Γ p hΓ
  rw [arm_exec_Try, Sem.wp_bind'] at h1 ⊢
  refine Sem.wp_mono (model prog w) Γ _ (fun _ p' s' z => ?_) (fun _ _ _ z => z) _ _ h1
  have e1 : ∀ hd : ExceptHandler, tryStmt false (execs sb env) (hd :: rest) (execs [] env) [] env = (do
      match ← (execs sb env).attempt with
      | .ok .next => execs [] env
      | .ok f => pure f
      | .error e => do noteFrame e env; setFlight e none; handleBy e env (hd :: rest)) := fun hd => rfl
  rw [e1] at z ⊢
  rw [Sem.wp_bind', Sem.wp_attempt] at z ⊢
  refine Sem.wp_mono (model prog w) Γ _ (fun a _ _ z => by cases a <;> exact z) (fun e p2 s2 z => ?_) _ _ z
  have z1 : Sem.wp (model prog w) Γ (do noteFrame e env; setFlight e none; handleBy e env (.ExceptHandler (some t) none stuck pos :: rest)) (fun a _ s' => Q a s') (fun e _ s' => E e s') p2 s2 := z
  show Sem.wp (model prog w) Γ (do noteFrame e env; setFlight e none; handleBy e env (.ExceptHandler (some t) name body pos :: rest)) (fun a _ s' => Q a s') (fun e _ s' => E e s') p2 s2
  rw [Sem.wp_bind'] at z1 ⊢
  refine Sem.wp_mono (model prog w) Γ _ (fun _ p3 s3 z => ?_) (fun _ _ _ z => z) _ _ z1
  rw [Sem.wp_bind'] at z ⊢
  exact Sem.wp_mono (model prog w) Γ _ (fun _ p4 s4 z => skip_handler z) (fun _ _ _ z => z) _ _ z
theorem ps_skip {X : Cx} {sb : List Stmt} {t : Expr} {name : Option Str} {body : List Stmt} {pos pos' : Pos} {rest : List ExceptHandler} {tt : TS} (h : PS X (.Try sb (.ExceptHandler (some t) none stuck pos :: rest) [] [] pos') tt) :
    PS X (.Try sb (.ExceptHandler (some t) name body pos :: rest) [] [] pos') tt := ⟨fun pins s σ H D I q => skip_try (h.run pins s σ H D I q)⟩
end HmT

set_option Elab.async false
set_option maxRecDepth 100000
set_option maxHeartbeats 4000000
namespace Hm
open PySem PySem.Spec PyProof.Rows L2 HmS HmT
abbrev stWrd : Stmt := topSt 50 -- row _law_word
/-- Album.gaps at what is no set's number -/
def spGaB (C CS : Addr) : Sp := fun vs H _ E => ∃ (p b d : Addr) (n : Str) (cs : CtT) (sets : List SetT) (x : V) (t : Value), vs = [.ref p, x] ∧ AlbAt C H p b n d cs ∧ Book H b sets ∧ Plain H x t ∧ within x 0 ((sets.length : Int) - 1) = false ∧ E (.ref CS) none H
structure TxtNs (K : PySem.W.Frag) (mg : Str → Option Value) (CS : Addr) : Prop where
  x : PySem.W.excIn K CS [.type "ValueError", .type "Exception", .type "BaseException", .type "object"] "ValueError.__new__" = true
  g : mg "NoSet" = some (.ref CS)
  k : PySem.W.keepIn K (.ref CS) = true
  b : PySem.W.subIn K (.ref CS) (.type "BaseException") = some true
  t : PySem.W.typeIn K (.ref CS) = some (.type "type")
section
variable {P : Program} {w : World} {K : PySem.W.Frag} {mg : Str → Option Value} {base : Heap}
theorem ok_gaB {f C CS fSt fNu : Addr} {fd fdNu : FuncData} (F : Fun K "gaps" "Album.gaps" sGaA f fd) (T : TxtAlb K mg C) (TS : TxtNs K mg CS) (TU : TxtU mg fSt fNu) (kNu : PySem.W.keepIn K (.ref fNu) = true)
    (GNu : FnOk P w K mg base CX0 3 fNu fdNu ["book", "thing"] spNum) (bNu : Binds K fdNu ["book", "thing"] []) : FnOk P w K mg base (L2.CX P w) 4 f fd ["self", "place"] (spGaB C CS) := by
  refine F.okX sc_gaA (fun vs H Q E h => ?_) (fun cdv A outer s H vs Q E hr h => ?_)
  · obtain ⟨p, b, d, n, cs, sets, x, t, rfl, _⟩ := h
    rfl
  · obtain ⟨p, b, d, n, cs, sets, x, t, rfl, al, bk, px, hw, q⟩ := h
    obtain ⟨⟨dx, hp⟩, hd⟩ := id al
    refine ⟨_, pss_cons (ps_if (pt_not (pt_val (pe_call GNu hr (by rfl) TU.gNu kNu bNu .nil pass0 (pa_cons (pe_fld (pv 0) rfl) (pa_cons (pv 1) pa_nil)))))
      (pss_one (ps_raise rfl (takes_of rfl rfl rfl rfl) (pmk_own PySem.F.excBase_ValueError TS.x TS.g TS.k (raises_own TS.b TS.t) (by exact rfl)))) pss_nil) pss_never, ?_⟩
    refine ⟨_, rfl, p, C, dx, _, _, rfl, hp, T.cl, T.nB, albF_b b n d, _, rfl, b, sets, x, t, rfl, bk, px, _, rfl, ?_⟩
    rw [hw]
    exact iteT q
end
end Hm

set_option Elab.async false
set_option maxRecDepth 100000
set_option maxHeartbeats 4000000
namespace Hm
open PySem PySem.Spec PyProof.Rows L2 HmS HmT
structure TxtWord (K : PySem.W.Frag) (mg : Str → Option Value) (c1 c2 c3 c4 c5 c6 c7 c8 : Addr) : Prop where
  g1 : mg "Short" = some (.ref c1)
  g2 : mg "NoList" = some (.ref c2)
  g3 : mg "NoName" = some (.ref c3)
  g4 : mg "NoStamps" = some (.ref c4)
  g5 : mg "NoStamp" = some (.ref c5)
  g6 : mg "NoSets" = some (.ref c6)
  g7 : mg "NoSet" = some (.ref c7)
  g8 : mg "NoNumber" = some (.ref c8)
  e1 : PySem.W.exmOne K (.ref c7) (.ref c1) = some false
  e2 : PySem.W.exmOne K (.ref c7) (.ref c2) = some false
  e3 : PySem.W.exmOne K (.ref c7) (.ref c3) = some false
  e4 : PySem.W.exmOne K (.ref c7) (.ref c4) = some false
  e5 : PySem.W.exmOne K (.ref c7) (.ref c5) = some false
  e6 : PySem.W.exmOne K (.ref c7) (.ref c6) = some false
  e7 : PySem.W.exmOne K (.ref c7) (.ref c7) = some true
/-- which word comes out, where the call raises a NoSet or nothing -/
def TTw (CS : Addr) : (XK → Hp → VK → Prop) → Hp → VK → Prop := fun tl H Q => tl (fun cls _ H' => cls = .ref CS ∧ Q (.str "set") H') H (fun _ H' => Q (.str "none") H')
theorem sc_wrd : FnScope ["_law_call", "e"] ["_law_call"] (defScope stWrd) := ⟨rfl, rfl, rfl, by decide +kernel, rfl, by decide +kernel, by decide +kernel⟩
theorem word_gives {X : Cx} {g : Addr} {cdg : Value} {q : Str} {c1 c2 c3 c4 c5 c6 c7 c8 : Addr} (T : TxtWord X.K X.mg c1 c2 c3 c4 c5 c6 c7 c8) :
    LamX.GivesTo X ["_law_call", "e"] "_law_word" (defScope stWrd) g cdg (defBody stWrd) "_law_call" q (TTw c7) := by
  intro f c' s H Q tl act hc h
  refine ⟨_, pss_cons (ps_skip (ps_try_many (X := (cxOf C8.CX0 X.prog X.w X.K X.mg X.base ["_law_call", "e"] "_law_word" (defScope stWrd) g cdg X.A X.stack s H C8.E0).nox)
      (tb := fun W D σ H => ∃ Ech : XK, (∀ cls d σ' H', Ech cls d H' → W cls d σ' H') ∧ σ[0]? = some (some (.ref f)) ∧ H c' = some (LamX.CodeO c' q) ∧ tl Ech H (fun _ H1 => D.nx σ H1)) rfl rfl LamX.takes0 (fun W pn xe tk _ => ?_)
      (.cons (c := .ref c1) (ts := fun _ _ _ => tNever) ⟨rfl, by decide, .inl T.g1⟩ (fun _ _ _ _ _ _ _ => pss_never)
      (.cons (c := .ref c2) (ts := fun _ _ _ => tNever) ⟨rfl, by decide, .inl T.g2⟩ (fun _ _ _ _ _ _ _ => pss_never)
      (.cons (c := .ref c3) (ts := fun _ _ _ => tNever) ⟨rfl, by decide, .inl T.g3⟩ (fun _ _ _ _ _ _ _ => pss_never)
      (.cons (c := .ref c4) (ts := fun _ _ _ => tNever) ⟨rfl, by decide, .inl T.g4⟩ (fun _ _ _ _ _ _ _ => pss_never)
      (.cons (c := .ref c5) (ts := fun _ _ _ => tNever) ⟨rfl, by decide, .inl T.g5⟩ (fun _ _ _ _ _ _ _ => pss_never)
      (.cons (c := .ref c6) (ts := fun _ _ _ => tNever) ⟨rfl, by decide, .inl T.g6⟩ (fun _ _ _ _ _ _ _ => pss_never)
      (.cons (c := .ref c7) (ts := fun _ _ _ => tRet (tC (.str "set"))) ⟨rfl, by decide, .inl T.g7⟩ (fun _ _ _ _ _ _ _ => pss_one (ps_ret pe_str))
      (.cons (c := .ref c8) (ts := fun _ _ _ => tNever) ⟨rfl, by decide, .inl T.g8⟩ (fun _ _ _ _ _ _ _ => pss_never) .nil)))))))))) (pss_one (ps_ret pe_str)), ?_⟩
  · refine ⟨fun pins s' σ H' D I h' => ?_⟩
    obtain ⟨Ech, hW, h1, h2, h3⟩ := h'
    exact (pss_one (ps_expr (act W pn xe Ech _ _ tk hW))).run pins s' σ H' D I ⟨h1, h2, h3⟩
  · refine ⟨fun cls _ H' => cls = .ref c7 ∧ Q (.str "set") H', fun cls d σ' H' z => ?_, rfl, hc, h⟩
    obtain ⟨rfl, qc⟩ := z
    exact ⟨false, T.e1, (fun z => by cases z), fun _ => ⟨false, T.e2, (fun z => by cases z), fun _ => ⟨false, T.e3, (fun z => by cases z), fun _ => ⟨false, T.e4, (fun z => by cases z), fun _ =>
      ⟨false, T.e5, (fun z => by cases z), fun _ => ⟨false, T.e6, (fun z => by cases z), fun _ => ⟨true, T.e7, (fun _ _ _ => qc), (fun z => by cases z)⟩⟩⟩⟩⟩⟩⟩
end Hm

set_option Elab.async false
set_option maxRecDepth 100000
set_option maxHeartbeats 8000000
namespace Hm
open PySem PySem.Spec PyProof.Rows L2 HmS HmT
abbrev stLaw : Stmt := topSt 51 -- row law
/-- what the law's body asks of the top; the defs by their promises -/
structure LawT (P : Program) (w : World) (K : PySem.W.Frag) (mg : Str → Option Value) (base : Heap) (C CS c1 c2 c3 c4 c5 c6 c8 : Addr) (fC fP fD fL fPl fN fS fCn fA fG fDb fW fI fGa fDa fWh fAo fCo : Addr)
    (dC dP dD dL dPl dN dS dCn dA dG dDb dI dGa dDa dWh dAo dCo : FuncData) : Prop where
  range : mg "range" = none
  max : mg "max" = none
  min : mg "min" = none
  len : mg "len" = none
  al : TxtAlb K mg C
  mkI : Mk K C fI
  wd : TxtWord K mg c1 c2 c3 c4 c5 c6 CS c8
  gC : mg "_law_cell_at" = some (.ref fC)
  gP : mg "_law_pen" = some (.ref fP)
  gD : mg "_law_draw" = some (.ref fD)
  gL : mg "_law_list" = some (.ref fL)
  gPl : mg "_law_places" = some (.ref fPl)
  gN : mg "_law_name" = some (.ref fN)
  gS : mg "_law_stamps" = some (.ref fS)
  gCn : mg "_law_counts" = some (.ref fCn)
  gA : mg "_law_all" = some (.ref fA)
  gG : mg "_law_gaps" = some (.ref fG)
  gDb : mg "_law_doubles" = some (.ref fDb)
  gW : mg "_law_word" = some (.ref fW)
  kC : PySem.W.keepIn K (.ref fC) = true
  kP : PySem.W.keepIn K (.ref fP) = true
  kD : PySem.W.keepIn K (.ref fD) = true
  kL : PySem.W.keepIn K (.ref fL) = true
  kPl : PySem.W.keepIn K (.ref fPl) = true
  kN : PySem.W.keepIn K (.ref fN) = true
  kS : PySem.W.keepIn K (.ref fS) = true
  kCn : PySem.W.keepIn K (.ref fCn) = true
  kA : PySem.W.keepIn K (.ref fA) = true
  kG : PySem.W.keepIn K (.ref fG) = true
  kDb : PySem.W.keepIn K (.ref fDb) = true
  kW : PySem.W.keepIn K (.ref fW) = true
  mGa : Meth K C "gaps" fGa
  mDa : Meth K C "doubles" fDa
  mWh : Meth K C "whole_sets" fWh
  mAo : Meth K C "all_of" fAo
  mCo : Meth K C "count_of" fCo
  GC : FnOk P w K mg base CX0 1 fC dC ["_law_script", "_law_k"] (spCellAt K)
  GP : FnOk P w K mg base CX0 1 fP dP ["_law_cell"] spPenOf
  GD : FnOk P w K mg base CX0 1 fD dD ["_law_pen_here", "_law_bound"] spDrawn
  GL : FnOk P w K mg base CX0 2 fL dL ["_law_pen_here"] spListOf
  GPl : FnOk P w K mg base CX0 1 fPl dPl ["_law_sets"] spPlcs
  GN : FnOk P w K mg base CX0 2 fN dN ["_law_pen_here"] spNam
  GS : FnOk P w K mg base CX0 2 fS dS ["_law_pen_here", "_law_sets", "_law_most"] spStms
  GCn : FnOk P w K mg base CX0 1 fCn dCn ["_law_stamps_here"] spCnts
  GA : FnOk P w K mg base CX0 1 fA dA ["_law_counts_here"] spAll
  GG : FnOk P w K mg base CX0 2 fG dG ["_law_sets", "_law_counts_here", "_law_at"] spGap
  GDb : FnOk P w K mg base CX0 2 fDb dDb ["_law_counts_here"] spDbl
  GI : FnOk P w K mg base CX0 7 fI dI ["self", "book", "name", "stamps"] (spInit C)
  GGa : FnOk P w K mg base CX0 4 fGa dGa ["self", "place"] (spGaA C)
  GGb : FnOk P w K mg base (L2.CX P w) 4 fGa dGa ["self", "place"] (spGaB C CS)
  GDa : FnOk P w K mg base CX0 2 fDa dDa ["self"] (spDbA C)
  GWh : FnOk P w K mg base CX0 5 fWh dWh ["self"] (spWho C)
  GAo : FnOk P w K mg base CX0 1 fAo dAo ["self"] (spAof C)
  GCo : FnOk P w K mg base CX0 7 fCo dCo ["self", "stamp"] (spCof C)
  bC : Binds K dC ["_law_script", "_law_k"] []
  bP : Binds K dP ["_law_cell"] []
  bD : Binds K dD ["_law_pen_here", "_law_bound"] []
  bL : Binds K dL ["_law_pen_here"] []
  bPl : Binds K dPl ["_law_sets"] []
  bN : Binds K dN ["_law_pen_here"] []
  bS : Binds K dS ["_law_pen_here", "_law_sets", "_law_most"] []
  bCn : Binds K dCn ["_law_stamps_here"] []
  bA : Binds K dA ["_law_counts_here"] []
  bG : Binds K dG ["_law_sets", "_law_counts_here", "_law_at"] []
  bDb : Binds K dDb ["_law_counts_here"] []
  bI : Binds K dI ["self", "book", "name", "stamps"] []
  bGa : Binds K dGa ["self", "place"] []
  bDa : Binds K dDa ["self"] []
  bWh : Binds K dWh ["self"] []
  bAo : Binds K dAo ["self"] []
  bCo : Binds K dCo ["self", "stamp"] []
abbrev nLaw : List Str := ["_law_script", "_law_k", "_law_pen_here", "_law_sets", "_law_stamps_here", "_law_album", "_law_counts_here", "_law_whole", "_law_turn", "_law_rows", "_law_some", "_law_others", "_law_here", "_law_place", "_law_grade", "_law_bad", "_law_at"]
theorem sc_law : FnScope nLaw ["_law_script"] (defScope stLaw) := ⟨rfl, rfl, rfl, by decide +kernel, rfl, by decide +kernel, by decide +kernel⟩
end Hm

set_option Elab.async false
set_option maxRecDepth 100000
set_option maxHeartbeats 4000000
namespace Hm
open PySem PySem.Spec PyProof.Rows L2 HmS HmT
/-! ### heaps that keep all but the tables -/
abbrev ExtN := LamX.ExtN
theorem Same.extN {H H' : Hp} (s : Same H H') : ExtN H H' := LamX.ExtN.of s
theorem sql_extN {K : PySem.W.Frag} {H H' : Hp} {a : Addr} {xs : List V} (h : SqL K H a xs) (e : ExtN H H') : SqL K H' a xs :=
  h.elim (fun h => .inl (h.elim (fun h => .inl (e _ _ h (fun _ z => by cases z))) fun ⟨o, h⟩ => .inr ⟨o, e _ _ h (fun _ z => by cases z)⟩)) fun h => .inr h
theorem sqt_extN {K : PySem.W.Frag} {H H' : Hp} {a : Addr} {xs : List V} (h : SqT K H a xs) (e : ExtN H H') : SqT K H' a xs :=
  h.elim (fun h => .inl (h.elim (fun h => .inl (e _ _ h (fun _ z => by cases z))) fun ⟨o, h⟩ => .inr ⟨o, e _ _ h (fun _ z => by cases z)⟩)) fun h => .inr h
theorem sql_same {K : PySem.W.Frag} {H H' : Hp} {a : Addr} {xs : List V} (h : SqL K H a xs) (e : Same H H') : SqL K H' a xs := sql_extN h (Same.extN e)
/-- an album and the counts of its stamps, told by the law -/
structure TurnAt (C : Addr) (H : Hp) (p b d dc : Addr) (n : Str) (cs : CtT) (sets : List SetT) : Prop where
  al : AlbAt C H p b n d cs
  bk : Book H b sets
  hd : H dc = some (.dT (cs.map entC))
  ok : CtOk sets cs
  len : cs.length ≤ 400
theorem TurnAt.extN {C : Addr} {H H' : Hp} {p b d dc : Addr} {n : Str} {cs : CtT} {sets : List SetT} (e : ExtN H H') (t : TurnAt C H p b d dc n cs sets) : TurnAt C H' p b d dc n cs sets := by
  obtain ⟨⟨⟨dx, e1⟩, e2⟩, ⟨ok, as, e3, pr⟩, e4, h5, h6⟩ := t
  exact ⟨⟨⟨dx, e _ _ e1 (fun _ z => by cases z)⟩, e _ _ e2 (fun _ z => by cases z)⟩, ⟨ok, as, e _ _ e3 (fun _ z => by cases z), Paired.mp (fun a s q => e _ _ q (fun _ z => by cases z)) pr⟩, e _ _ e4 (fun _ z => by cases z), h5, h6⟩
theorem TurnAt.same {C : Addr} {H H' : Hp} {p b d dc : Addr} {n : Str} {cs : CtT} {sets : List SetT} (e : Same H H') (t : TurnAt C H p b d dc n cs sets) : TurnAt C H' p b d dc n cs sets := t.extN (Same.extN e)
theorem tabs_same {T : List (Addr × Str)} {H H' : Hp} (t : LamX.Tabs T H) (e : Same H H') : LamX.Tabs T H' := t.ext e
/-! ### what is told, as data -/
theorem dpall_map {K : PySem.W.Frag} {H : Hp} {α : Type} (f : α → V) (g : α → PyData) : ∀ (l : List α), (∀ x ∈ l, Dp K H (f x) (g x)) → DpAll K H (l.map f) (l.map g)
  | [], _ => .nil
  | x :: r, h => .cons (h x List.mem_cons_self) (dpall_map f g r fun y hy => h y (List.mem_cons_of_mem _ hy))
theorem dpall_paired {K : PySem.W.Frag} {H : Hp} {β : Type} {F : Addr → β → Prop} {g : β → PyData} (h : ∀ a c, F a c → Dp K H (.ref a) (g c)) : ∀ {as : List Addr} {cs : List β}, Paired F as cs → DpAll K H (as.map V.ref) (cs.map g)
  | _, _, .nil => .nil
  | _, _, .cons a t => .cons (h _ _ a) (dpall_paired h t)
def intsD (is : List Int) : PyData := .list (is.map PyData.int)
theorem dp_ints {K : PySem.W.Frag} {H : Hp} {l : Addr} {is : List Int} (h : H l = some (.lst (is.map V.int))) : Dp K H (.ref l) (intsD is) := .lst (SqL.of h) (dpall_map _ _ _ fun x _ => .int x)
def rowD (c : StT × Int) : PyData := .tuple [.tuple [.int c.1.1, .int c.1.2.1, .int c.1.2.2], .int c.2]
def rowsD (cs : CtT) : PyData := .list (cs.map rowD)
theorem dp_rows {K : PySem.W.Frag} {H : Hp} {l : Addr} {rs : List Addr} {cs : CtT} (h : H l = some (.lst (rs.map V.ref))) (pr : Paired (RowAt H) rs cs) : Dp K H (.ref l) (rowsD cs) :=
  .lst (SqL.of h) (dpall_paired (fun _ _ ⟨_, e, f⟩ => .tup (SqT.of e) (.cons (.tup (SqT.of f) (.cons (.int _) (.cons (.int _) (.cons (.int _) .nil)))) (.cons (.int _) .nil))) pr)
def IntsAt (H : Hp) (a : Addr) (is : List Int) : Prop := H a = some (.lst (is.map V.int))
def gapsD (iss : List (List Int)) : PyData := .list (iss.map intsD)
theorem dp_gaps {K : PySem.W.Frag} {H : Hp} {l : Addr} {ls : List Addr} {iss : List (List Int)} (h : H l = some (.lst (ls.map V.ref))) (pr : Paired (IntsAt H) ls iss) : Dp K H (.ref l) (gapsD iss) :=
  .lst (SqL.of h) (dpall_paired (fun _ _ e => dp_ints e) pr)
theorem lay_all {α : Type} (g : α → PyData) (hg : ∀ x, (g x).canLay0 = true) : ∀ l : List α, PyData.canLayAll0 (l.map g) = true
  | [] => rfl
  | x :: r => by
    show ((g x).canLay0 && PyData.canLayAll0 (r.map g)) = true
    rw [hg x, lay_all g hg r]
    rfl
theorem depth_all {α : Type} (g : α → PyData) {m : Nat} (hg : ∀ x, (g x).depth ≤ m) : ∀ l : List α, PyData.depthAll (l.map g) ≤ m
  | [] => by simp [PyData.depthAll]
  | x :: r => by
    have h1 := hg x
    have h2 := depth_all g hg r
    simp only [List.map_cons, PyData.depthAll]
    omega
theorem lay_ints (is : List Int) : (intsD is).canLay0 = true := by
  simp only [intsD, PyData.canLay0]
  exact lay_all _ (fun x => rfl) is
theorem depth_ints (is : List Int) : (intsD is).depth ≤ 1 := by
  simp only [intsD, PyData.depth]
  have := depth_all PyData.int (m := 0) (fun x => by simp [PyData.depth]) is
  omega
theorem lay_rows (cs : CtT) : (rowsD cs).canLay0 = true := by
  simp only [rowsD, PyData.canLay0]
  exact lay_all _ (fun x => by simp [rowD, PyData.canLay0, PyData.canLayAll0]) cs
theorem depth_rows (cs : CtT) : (rowsD cs).depth ≤ 3 := by
  simp only [rowsD, PyData.depth]
  have := depth_all rowD (m := 2) (fun x => by simp [rowD, PyData.depth, PyData.depthAll]) cs
  omega
theorem lay_gaps (iss : List (List Int)) : (gapsD iss).canLay0 = true := by
  simp only [gapsD, PyData.canLay0]
  exact lay_all _ lay_ints iss
theorem depth_gaps (iss : List (List Int)) : (gapsD iss).depth ≤ 2 := by
  simp only [gapsD, PyData.depth]
  have := depth_all intsD (m := 1) depth_ints iss
  omega
theorem shaped_of {d : PyData} {m : Nat} (h : d.canLay0 = true) (hd : d.depth ≤ m) (hm : m ≤ 64) : SeqAt.shaped d = true := by
  simp only [SeqAt.shaped, h, Bool.true_and, decide_eq_true_eq]
  omega
theorem eqv_self {d : PyData} (h : d.canLay0 = true) : (!PyData.eqv d d) = false := by rw [SeqAt.eqv_refl d h]; rfl
theorem eqv_nil (is : List Int) : PyData.eqv (intsD is) (.list []) = is.isEmpty := by
  cases is <;> simp [intsD, PyData.eqv, PyData.eqvAll]
theorem gapsM_len {sets : List SetT} {cs : CtT} {i : Nat} (ok : BookOk sets) : (gapsM sets cs i).length ≤ 6 := by
  unfold gapsM
  refine Nat.le_trans (List.length_filter_le _ _) ?_
  rw [List.length_map, List.length_range]
  unfold manyM
  cases h : sets[i]? with
  | none => simp
  | some st =>
    have := (ok.ok st (List.mem_of_getElem? h)).m1
    simp
    omega
theorem wholeM_len (sets : List SetT) (cs : CtT) : (wholeM sets cs).length ≤ sets.length := by
  unfold wholeM
  refine Nat.le_trans (List.length_filter_le _ _) ?_
  rw [List.length_map, List.length_range]
  exact Nat.le_refl _
/-- the gaps of all sets -/
def gapsAll (sets : List SetT) (cs : CtT) (k : Nat) : List (List Int) := (List.range k).map fun i => gapsM sets cs i
theorem gapsAll_succ (sets : List SetT) (cs : CtT) (k : Nat) : gapsAll sets cs (k + 1) = gapsAll sets cs k ++ [gapsM sets cs k] := by
  unfold gapsAll
  rw [List.range_succ, List.map_append]
  rfl
end Hm

set_option Elab.async false
set_option maxRecDepth 100000
set_option maxHeartbeats 20000000
namespace Hm
open PySem PySem.Spec PyProof.Rows L2 HmS HmT
abbrev tabT (PT f code : Addr) : List (Addr × Str) := [(PT, (envOfC "law" (defScope stLaw) 0 f (.ref code)).qual ++ "<lambda>")]
def spLaw (K : PySem.W.Frag) (PT : Addr) : Sp := fun vs H Q _ => ∃ (a : Addr) (ns : List Int), vs = [.ref a] ∧ SqL K H a (ns.map V.int) ∧ ns.length ≤ 63 ∧ H PT = some (.tbl #[]) ∧ ∀ H', Q (.bl true) H'
section
variable {P : Program} {w : World} {K : PySem.W.Frag} {mg : Str → Option Value} {base : Heap}
set_option linter.all false in
theorem ok_law {C CS c1 c2 c3 c4 c5 c6 c8 : Addr} {fC fP fD fL fPl fN fS fCn fA fG fDb fW fI fGa fDa fWh fAo fCo : Addr} {dC dP dD dL dPl dN dS dCn dA dG dDb dI dGa dDa dWh dAo dCo dW : FuncData}
    (L : LawT P w K mg base C CS c1 c2 c3 c4 c5 c6 c8 fC fP fD fL fPl fN fS fCn fA fG fDb fW fI fGa fDa fWh fAo fCo dC dP dD dL dPl dN dS dCn dA dG dDb dI dGa dDa dWh dAo dCo) (FW : Fun K "_law_word" "_law_word" stWrd fW dW)
    {f code PT : Addr} {dV kV doc pm ct oc : Value} {an od : Option Addr} {osl : Array (Option Value)} (lk : K.lookup f = some ⟨oc, od, .func (PySem.W.fnOf "law" "law" (defArgs stLaw) (defBody stLaw) (defScope stLaw) dV kV doc pm an (.ref code) ct), osl⟩) (hcd : PySem.W.codeIn K (.ref code) "law" = true)
    (TB : LamX.TabB base mg code PT) :
    FnOk P w K mg base CX0 9 f (PySem.W.fnOf "law" "law" (defArgs stLaw) (defBody stLaw) (defScope stLaw) dV kV doc pm an (.ref code) ct) ["_law_script"] (spLaw K PT) := by
  obtain ⟨ocW, odW, kVW, docW, pmW, anW, cdW, ctW, oslW, eW, lkW, hcW⟩ := FW.ex
  have bW := FW.binds (ps := ["_law_call"]) fun _ _ _ _ _ _ us hl => match us, hl with | [_], _ => rfl
  subst eW
  refine fn_of lk hcd sc_law (fun vs H Q E h => ?_) fun A outer s H vs Q E hr h => ?_
  · obtain ⟨a, ns, rfl, _⟩ := h
    rfl
  · obtain ⟨a, ns, rfl, hS, hlen, hPT, q⟩ := h
    have hu := hu_of hr
    have h1 : Room 1 _ := hr.mono (by decide)
    have h2 : Room 2 _ := hr.mono (by decide)
    have h4 : Room 4 _ := hr.mono (by decide)
    have h5 : Room 5 _ := hr.mono (by decide)
    have h6 : Room 6 _ := hr.mono (by decide)
    have h7 : Room 7 _ := hr.mono (by decide)
    have key : ∃ t, PSs (cxOf CX0 P w K mg base nLaw "law" (defScope stLaw) f (.ref code) A outer s H E).nox (defBody stLaw) t ∧ t { nx := fun _ H' => Q .non H', rt := Q } (L2.start nLaw [.ref a]) H := by
      refine ⟨_, pss_cons (ps_for PassesOwn.never rfl (pi_range1 (by rfl) L.range (pa_cons (pe_callB (call_max2 rfl) (by rfl) L.max boot_max (pa_cons pe_int (pa_cons (pe_callB (call_min2 rfl) (by rfl) L.min boot_min (pa_cons (pe_callB call_len_seq (by rfl) L.len boot_len (pa_cons (pv 0) pa_nil)) (pa_cons pe_int pa_nil))) pa_nil))) pa_nil)) (pg_name (i := 1) sc_law.nd rfl (Or.inl rfl))
        (pss_cons (ps_set (i := 2) sc_law.nd rfl (Or.inl rfl) (pe_call L.GP h1 (by rfl) L.gP L.kP L.bP .nil pass0 (pa_cons (pe_call L.GC h1 (by rfl) L.gC L.kC L.bC .nil pass0 (pa_cons (pv 0) (pa_cons (pv 1) pa_nil))) pa_nil)))
        (pss_cons (ps_set (i := 3) sc_law.nd rfl (Or.inr rfl) (pe_call L.GL h2 (by rfl) L.gL L.kL L.bL .nil pass0 (pa_cons (pv 2) pa_nil)))
        (pss_cons (ps_set (i := 4) sc_law.nd rfl (Or.inl rfl) (pe_call L.GS h2 (by rfl) L.gS L.kS L.bS .nil pass0 (pa_cons (pv 2) (pa_cons (pv 3) (pa_cons (pe_ix ix_list (pe_lst (pa_cons pe_int (pa_cons pe_int (pa_cons pe_int pa_nil)))) (pe_call L.GD h1 (by rfl) L.gD L.kD L.bD .nil pass0 (pa_cons (pv 2) (pa_cons pe_int pa_nil))) (fun _ _ => rfl)) pa_nil)))))
        (pss_cons (ps_asg (pe_tup (pa_cons (pe_make L.mkI L.GI (hr.mono (by decide)) (by rfl) L.al.mgC L.bI .nil pass0 (pa_cons (pv 3) (pa_cons (pe_call L.GN h2 (by rfl) L.gN L.kN L.bN .nil pass0 (pa_cons (pv 2) pa_nil)) (pa_cons (pv 4) pa_nil)))) (pa_cons (pe_call L.GCn h1 (by rfl) L.gCn L.kCn L.bCn .nil pass0 (pa_cons (pv 4) pa_nil)) pa_nil)))
            (pg_tup rfl (pgs_cons (pg_name (i := 5) sc_law.nd rfl (Or.inr rfl)) (pgs_cons (pg_name (i := 6) sc_law.nd rfl (Or.inr rfl)) pgs_nil))))
        (pss_cons (ps_setLc (i := 7) (own := [("_law_at", 16)]) (g := gName 16) (by rfl) sc_law.nd rfl rfl (sw_true rfl rfl rfl (by decide +kernel)) (pi_range1 (by rfl) L.range (pa_cons (pe_callB call_len_seq (by rfl) L.len boot_len (pa_cons (pv 3) pa_nil)) pa_nil))
            (blkOk_by (N := nLaw) (sc := defScope stLaw) (by decide +kernel)) (fun _ _ _ _ _ => pg_name (i := 16) sc_law.nd rfl (Or.inl rfl))
            (fun _ _ _ _ _ => pts_one (pt_cmpR (r := rEqD K) (op_eqD hr.units) (pe_call L.GG h2 (by rfl) L.gG L.kG L.bG .nil pass0 (pa_cons (pv 3) (pa_cons (pv 6) (pa_cons (pv 16) pa_nil)))) (pe_lst pa_nil) (nomark _))) (fun _ _ _ _ _ => pv 16))
        (pss_cons (ps_for PassesOwn.never rfl (pi_tup (pe_tup (pa_cons pe_int (pa_cons pe_int pa_nil)))) (pg_name (i := 8) sc_law.nd rfl (Or.inl rfl)) (pss_cons (ps_setLc (i := 9) (own := [("_law_at", 16)]) (g := gName 16) (tt := tYes) (by rfl) sc_law.nd rfl rfl (sw_true rfl rfl rfl (by decide +kernel)) (pi_range1 (by rfl) L.range (pa_cons (pe_callB call_len_seq (by rfl) L.len boot_len (pa_cons (pv 3) pa_nil)) pa_nil)) (blkOk_by (N := nLaw) (sc := defScope stLaw) (by decide +kernel)) (fun _ _ _ _ _ => pg_name (i := 16) sc_law.nd rfl (Or.inl rfl)) (fun _ _ _ _ _ => pts_nil)
              (fun _ _ _ _ _ => pe_meth (pv 5) L.al.cl L.mGa L.GGa h4 L.bGa .nil pass0 (pa_cons (pv 16) pa_nil)))
          (pss_cons (ps_par3 (i := 10) (j := 11) (l := 12) (by rfl) sc_law.nd rfl rfl rfl (by decide) (by decide) (by decide) rfl rfl rfl (pa_cons (pe_meth0 (pv 5) L.al.cl L.mDa L.GDa h2 L.bDa .nil pass0) (pa_cons (pe_meth0 (pv 5) L.al.cl L.mWh L.GWh h5 L.bWh .nil pass0) (pa_cons (pe_meth0 (pv 5) L.al.cl L.mAo L.GAo h1 L.bAo .nil pass0) pa_nil))) (by rfl))
          (pss_cons (ps_if (pt_cmpR (op_neD hr.units) (pv 9) (pe_lc (own := [("_law_at", 16)]) (g := gName 16) (tt := tYes) rfl sc_law.nd (pi_range1 (by rfl) L.range (pa_cons (pe_callB call_len_seq (by rfl) L.len boot_len (pa_cons (pv 3) pa_nil)) pa_nil)) (blkOk_by (N := nLaw) (sc := defScope stLaw) (by decide +kernel)) (fun _ _ _ _ _ => pg_name (i := 16) sc_law.nd rfl (Or.inl rfl)) (fun _ _ _ _ _ => pts_nil)
              (fun _ _ _ _ _ => pe_call L.GG h2 (by rfl) L.gG L.kG L.bG .nil pass0 (pa_cons (pv 3) (pa_cons (pv 6) (pa_cons (pv 16) pa_nil))))) (nomark _)) (pss_one (ps_ret pe_bl)) pss_nil)
          (pss_cons (ps_if (PW.pt (pw_or (pt_cmpR (op_neD hr.units) (pv 10) (pe_call L.GDb h2 (by rfl) L.gDb L.kDb L.bDb .nil pass0 (pa_cons (pv 6) pa_nil)) (nomark _)) (pw_or (pt_cmpR (op_neD hr.units) (pv 11) (pv 7) (nomark _))
              (pw_or1 (pt_cmpR (op_neD hr.units) (pv 12) (pe_call L.GA h1 (by rfl) L.gA L.kA L.bA .nil pass0 (pa_cons (pv 6) pa_nil)) (nomark _)))))) (pss_one (ps_ret pe_bl)) pss_nil)
          (pss_cons (ps_expr (pe_bm PySem.F.plainAttrs_list PySem.F.slot_list_append PySem.F.type_list_append mt_append (pe_ix (r := rIxL K) ix_list (pv 9) pe_int (fun _ _ => rfl)) (pa_cons pe_int pa_nil)))
          (pss_cons (ps_expr (pe_bm0 PySem.F.plainAttrs_list PySem.F.slot_list_clear PySem.F.type_list_clear mt_clear (pv 10)))
          (pss_cons (ps_expr (pe_bm PySem.F.plainAttrs_list PySem.F.slot_list_append PySem.F.type_list_append mt_append (pv 11) (pa_cons pe_int pa_nil)))
          (pss_one (ps_expr (pe_bm0 PySem.F.plainAttrs_list PySem.F.slot_list_clear PySem.F.type_list_clear mt_clear (pv 12))))))))))))
        (pss_cons (ps_for PassesOwn.never rfl (pi_list (pe_call L.GPl h1 (by rfl) L.gPl L.kPl L.bPl .nil pass0 (pa_cons (pv 3) pa_nil))) (pg_name (i := 13) sc_law.nd rfl (Or.inl rfl)) (pss_one (ps_for PassesOwn.never rfl (pi_tup (pe_tup (pa_cons pe_int (pa_cons pe_int pa_nil)))) (pg_name (i := 14) sc_law.nd rfl (Or.inl rfl))
            (pss_one (ps_if (pt_cmpR op_ne (pe_meth (pv 5) L.al.cl L.mCo L.GCo h7 L.bCo .nil pass0 (pa_cons (pe_op op_catT (pv 13) (pe_tup (pa_cons (pv 14) pa_nil))) pa_nil))
              (pe_dget2 hu (pv 6) (pe_op op_catT (pv 13) (pe_tup (pa_cons (pv 14) pa_nil))) pe_int ⟨rfl, rfl, rfl, rfl⟩) (nomark _)) (pss_one (ps_ret pe_bl)) pss_nil)))))
        (pss_one (ps_for PassesOwn.never rfl (pi_tup (pe_tup (pa_cons (pe_callB call_len_seq (by rfl) L.len boot_len (pa_cons (pv 3) pa_nil)) (pa_cons (pe_un un_neg pe_int) (pa_cons pe_bl (pa_cons pe_non (pa_cons pe_str (pa_cons (pe_tup (pa_cons pe_int pa_nil)) (pa_cons (pe_op op_pow pe_int pe_int) pa_nil))))))))) (pg_name (i := 15) sc_law.nd rfl (Or.inr rfl)) (pss_one (ps_if (pt_cmpR op_ne (LamX.pe_lamcall (T := tabT PT f code) (t := fun E => tMeth C "gaps" (spGaB C CS) [] E (tVar 5) (tCons (tVar 15) tNil)) (k := 4) (by rfl) L.gW L.kW lkW hcW bW sc_wrd rfl (Or.inl rfl) (word_gives L.wd)
              TB rfl (by exact List.mem_singleton.mpr rfl) (fun p hp _ => by rw [List.mem_singleton.mp hp]; rfl) h6 (LamX.lamS_by (sc := defScope stLaw) (by decide +kernel)) (by rfl) (fun _ _ _ _ _ => rfl)
              (fun A outer s H E f c' hrr => pe_meth (pv 5) L.al.cl L.mGa L.GGb hrr L.bGa .nil (passes_call (W := fun cls d _ H => E cls d H) (takes_of rfl rfl rfl rfl) fun _ _ _ _ h => h) (pa_cons (pv 15) pa_nil))) pe_str (nomark _)) (pss_one (ps_ret pe_bl)) pss_nil)))))))))))) (pss_one (ps_ret pe_bl)), ?_⟩
      have tb0 : LamX.Tabs (tabT PT f code) H := fun p hp => by
        rw [List.mem_singleton.mp hp]
        exact LamX.TabS.nil hPT
      refine ⟨_, rfl, a, _, rfl, .inl hS, _, _, rfl, _, _, rfl, _, rfl, by rw [List.length_map]; split <;> (try split) <;> omega, by rw [List.length_map]; split <;> (try split) <;> omega, ?_⟩
      refine for_range (lo := 0) (fun i σ H' => ∃ (v1 v2 v3 v4 v5 v6 v7 v8 v9 v10 v11 v12 v13 v14 v15 v16 : Option V), σ = [some (.ref a), v1, v2, v3, v4, v5, v6, v7, v8, v9, v10, v11, v12, v13, v14, v15, v16] ∧ SqL K H' a (ns.map V.int) ∧ LamX.Tabs (tabT PT f code) H')
        ⟨none, none, none, none, none, none, none, none, none, none, none, none, none, none, none, none, rfl, hS, tb0⟩ ?turn ?fin
      case fin =>
        rintro σ H' ⟨v1, v2, v3, v4, v5, v6, v7, v8, v9, v10, v11, v12, v13, v14, v15, v16, rfl, _, _⟩
        exact q H'
      case turn =>
      rintro i σ H0 hi ⟨v1, v2, v3, v4, v5, v6, v7, v8, v9, v10, v11, v12, v13, v14, v15, v16, rfl, hS0, tb⟩
      refine seqset ⟨_, rfl, _, rfl, a, ns, i, (by rw [Int.zero_add]; rfl), hS0, fun z => ⟨z, rfl, fun pn H1 npn pen1 but1 => ?_⟩⟩
      have s01 : Same H0 H1 := fun c o e => by rw [but1 c (ne_of_none e npn)]; exact e
      refine seqset ⟨_, rfl, pn, rfl, pen1, fun H2 b sets k2 pen2 bk2 => ?_⟩
      refine seqset ⟨_, rfl, _, rfl, by show 3 ≤ sizeLine; decide, fun l3 hl3 => ⟨_, rfl, pn, 3, rfl, by decide, by decide, pen_upd pen2 hl3, fun r H3 r0 r1 pen3 but3 => ?_⟩⟩
      obtain ⟨vm, hvm, atm⟩ := at_draw (xs := [V.int 3, V.int 12, V.int 30]) r0 r1
      obtain ⟨m, rfl, m0, m1⟩ : ∃ m : Int, vm = V.int m ∧ 0 ≤ m ∧ m ≤ 100 := by
        simp only [List.mem_cons, List.not_mem_nil, or_false] at hvm
        rcases hvm with rfl | rfl | rfl <;> exact ⟨_, rfl, by decide, by decide⟩
      have hl3' : H3 l3 = some (.lst [V.int 3, V.int 12, V.int 30]) := by rw [but3 l3 (pen_ne_none pen2 hl3)]; exact upd_same
      have k3 : Keep pn H2 H3 := (keep_upd hl3).trans but3.keep
      have bk3 : Book H3 b sets := bk2.keep k3 pen2
      refine ⟨l3, _, r, _, rfl, rfl, SqL.of hl3', atm, pn, b, m, sets, rfl, m0, m1, pen3, bk3, fun H4 t as ss k4 pen4 ht4 pr4 so4 lz4 => ?_⟩
      have bk4 : Book H4 b sets := bk3.keep k4 pen3
      refine ⟨_, rfl, _, rfl, pn, rfl, pen4, fun n H5 hn k5 pen5 => ⟨_, rfl, fun x dx hx hdx hxd => ?_⟩⟩
      have s5 : Same H5 (upd (upd H5 dx (.own x)) x (.ins C dx [])) := fun c o e => by rw [upd_ne (ne_of_none e hx), upd_ne (ne_of_none e hdx)]; exact e
      have bk5 := bk4.keep k5 pen4
      have ht5 := k5 _ _ (pen_ne pen4 ht4 fun _ z => by cases z) ht4
      have pr5 := st_keep k5 pen4 pr4
      refine ⟨x, dx, b, t, n, sets, as, ss, rfl, upd_same, bk5.same s5, hn, s5 _ _ ht5, st_same s5 pr5, so4, lz4, fun H6 d k6 nd6 al6 => ⟨rfl, ?_⟩⟩
      have s56 : Same H5 H6 := fun c o e => k6 c o (ne_of_none e hx) (s5 _ _ e)
      refine ⟨_, rfl, t, as, ss, rfl, s56 _ _ ht5, st_same s56 pr5, lz4, fun H7 dc s7 ndc hdc => ⟨by show 2 ≤ sizeLine; decide, fun tp htp => ?_⟩⟩
      refine ⟨tp, _, rfl, SqT.of upd_same, rfl, _, _, rfl, _, _, rfl, rfl, ?_⟩
      have s8 : Same H7 (upd H7 tp (.tup [.ref x, .ref dc])) := same_upd htp
      have ta : TurnAt C (upd H7 tp (.tup [.ref x, .ref dc])) x b d dc n (countsM ss) sets :=
        ⟨al6.same (s7.trans s8), bk5.same (s56.trans (s7.trans s8)), s8 _ _ hdc, CtOk.of so4, Nat.le_trans (countsM_len ss) lz4⟩
      have s08 : Same H0 (upd H7 tp (.tup [.ref x, .ref dc])) := fun c o e =>
        have hc : c ≠ pn := ne_of_none e npn
        s8 _ _ (s7 _ _ (s56 _ _ (k5 _ _ hc (k4 _ _ hc (k3 _ _ hc (k2 _ _ hc (s01 _ _ e)))))))
      generalize upd H7 tp (.tup [.ref x, .ref dc]) = H8 at s8 ta s08 ⊢
      generalize countsM ss = cs at ta
      have hS8 := sql_same hS0 s08
      have tb8 := tabs_same tb s08
      clear s8 hdc ndc s7 s56 al6 nd6 k6 pr5 ht5 bk5 s5 hxd hdx hx k5 pen5 bk4 pr4 ht4 pen4 k4 bk3 k3 hl3' pen3 but3 bk2 pen2 k2 pen1 but1 s01 s08 hl3 htp
      obtain ⟨okB, bs, hb, pb⟩ := id ta.bk
      have bl : bs.length = sets.length := Paired.length pb
      have b1 := okB.len1
      have b0 := okB.len0
      dsimp only
      refine seqset ?_
      refine ⟨_, rfl, b, _, rfl, .inr (SqT.of hb), ?_⟩
      rw [List.length_map, bl]
      refine ⟨_, rfl, by omega, by omega, fun lw hlw => lc_range (lo := 0) (n := sets.length)
        (fun k H' => Same H8 H' ∧ H' lw = some (.lst ((((List.range k).map fun (k : Nat) => (k : Int)).filter fun k => (gapsM sets cs k.toNat).isEmpty).map V.int))) ⟨same_upd hlw, upd_same⟩ (fun k H' hk pv => ?_) (fun H9 pv => ?_)⟩
      · obtain ⟨sk, hDk⟩ := pv
        have ln : ((((List.range k).map fun (k : Nat) => (k : Int)).filter fun k => (gapsM sets cs k.toNat).isEmpty).map V.int).length ≤ 4 := by
          have h1 := List.length_filter_le (fun k : Int => (gapsM sets cs k.toNat).isEmpty) ((List.range k).map fun (k : Nat) => (k : Int))
          rw [List.length_map, List.length_range] at h1
          rw [List.length_map]
          omega
        have es : ((List.range (k + 1)).map fun (k : Nat) => (k : Int)).filter (fun k => (gapsM sets cs k.toNat).isEmpty) = ((List.range k).map fun (k : Nat) => (k : Int)).filter (fun k => (gapsM sets cs k.toNat).isEmpty) ++ (if (gapsM sets cs k).isEmpty = true then [(k : Int)] else []) := by
          rw [List.range_succ, List.map_append, List.filter_append]
          congr 1
          rw [List.map_cons, List.map_nil, List.filter_cons, List.filter_nil, Int.toNat_natCast]
        have e0 : (0 : Int) + (k : Int) = (k : Int) := Int.zero_add _
        refine ⟨rfl, ?_⟩
        rw [e0]
        refine ⟨_, rfl, _, rfl, _, rfl, b, dc, k, sets, cs, rfl, ta.bk.same sk, hk, sk _ _ ta.hd, fun H4 l s4 nl hl => ⟨by decide, fun l2 hl2 => ⟨intsD (gapsM sets cs k), .list [], dp_ints ((same_upd hl2) _ _ hl), .lst (SqL.of upd_same) .nil, shaped_of (lay_ints _) (depth_ints _) (by decide), by decide, _, rfl, ?_⟩⟩⟩
        rw [eqv_nil]
        have s4' := s4.trans (same_upd (o := .lst []) hl2)
        have sH := sk.trans s4'
        have hD4 := s4' _ _ hDk
        refine ite2 (fun c => ?_) (fun c => ?_)
        · refine ⟨_, rfl, _, hD4, by rw [sizeLine_eq]; omega, fun x o e => ?_, ?_⟩
          · rw [upd_ne (ne_of_none e hlw)]
            exact sH _ _ e
          · rw [upd_same, es, if_pos c, List.map_append]
            rfl
        · refine ⟨sH, ?_⟩
          rw [es, if_neg c, List.append_nil]
          exact hD4
      obtain ⟨s9, hlw9⟩ := pv
      have ta9 := ta.same s9
      have hlw9 : H9 lw = some (.lst ((wholeM sets cs).map V.int)) := hlw9
      refine ⟨by show 2 ≤ sizeLine; decide, fun tt htt => ⟨tt, rfl, ⟨_, SqT.of upd_same⟩, ?_⟩⟩
      have s10 : Same H9 (upd H9 tt (.tup [.int 0, .int 1])) := same_upd htt
      have htt10 : (upd H9 tt (.tup [.int 0, .int 1])) tt = some (.tup [.int 0, .int 1]) := upd_same
      have ta10 := ta9.same s10
      have hlw10 := s10 _ _ hlw9
      have hS10 := sql_same hS8 (s9.trans s10)
      have tb10 := tabs_same tb8 (s9.trans s10)
      generalize upd H9 tt (.tup [.int 0, .int 1]) = H10 at s10 htt10 ta10 hlw10 hS10 tb10 ⊢
      clear s10 ta9 hlw9 s9 ta hS8 tb8 hb pb htt hlw
      refine for_tup (xs := [.int 0, .int 1]) (fun j σ G => ∃ w1 w2 w4 w8 w9 w10 w11 w12 w13 w14 w15 w16 : Option V, σ = [some (.ref a), w1, w2, some (.ref b), w4, some (.ref x), some (.ref dc), some (.ref lw), w8, w9, w10, w11, w12, w13, w14, w15, w16] ∧ Same H10 G)
        ⟨_, _, _, _, _, _, _, _, _, _, _, _, rfl, fun _ _ e => e⟩ (fun j σ G _ pv => by
          obtain ⟨_, _, _, _, _, _, _, _, _, _, _, _, _, sG⟩ := pv
          exact SqT.of (sG _ _ htt10)) ?body ?after
      case body =>
        rintro j y σ G hy ⟨w1, w2, w4, w8, w9, w10, w11, w12, w13, w14, w15, w16, rfl, sG⟩
        have tG := ta10.same sG
        obtain ⟨okG, bs, hb, pb⟩ := id tG.bk
        have bl : bs.length = sets.length := Paired.length pb
        obtain ⟨⟨dx, hx⟩, hd0⟩ := id tG.al
        have hno : ∀ {m : Str}, ¬ m = "_many" → ¬ m = "_name" → ¬ m = "_book" → (albF b n d).lookup m = none := fun h1 h2 h3 => albF_no b n d h1 h2 h3
        refine seqset ⟨_, rfl, b, _, rfl, .inr (SqT.of hb), ?_⟩
        rw [List.length_map, bl]
        refine ⟨_, rfl, by omega, by omega, fun lr hlr => lc_range (lo := 0) (n := sets.length)
          (fun k H' => Same G H' ∧ ∃ ls : List Addr, H' lr = some (.lst (ls.map V.ref)) ∧ Paired (fun a is => G a = none ∧ a ≠ lr ∧ H' a = some (.lst (is.map V.int))) ls (gapsAll sets cs k) ∧ ls.length = k) ⟨same_upd hlr, [], upd_same, .nil, rfl⟩ (fun k H' hk pv => ?_) (fun G1 pv => ?_)⟩
        · obtain ⟨sk, ls, hDk, pr, ll⟩ := pv
          have e0 : (0 : Int) + (k : Int) = (k : Int) := Int.zero_add _
          refine ⟨rfl, ?_⟩
          rw [e0]
          refine yesT ⟨_, rfl, x, dx, _, rfl, sk _ _ hx, hno (by decide +kernel) (by decide +kernel) (by decide +kernel), _, rfl, x, b, d, n, cs, sets, k, rfl, tG.al.same sk, tG.bk.same sk, hk, tG.ok.pos, fun H4 l s4 nl hl => ⟨_, s4 _ _ hDk, by rw [List.length_map, sizeLine_eq]; omega, fun c o e => ?_, ls ++ [l], by rw [upd_same, List.map_append]; rfl, ?_, by simp [ll]⟩⟩
          · rw [upd_ne (ne_of_none e hlr)]
            exact s4 _ _ (sk _ _ e)
          · have nlr : l ≠ lr := fun z => by
              rw [z, hDk] at nl
              cases nl
            rw [gapsAll_succ]
            refine Paired.snoc ⟨none_of sk nl, nlr, ?_⟩ (Paired.mp (fun a is h => ⟨h.1, h.2.1, ?_⟩) pr)
            · rw [upd_ne nlr]
              exact hl
            · rw [upd_ne h.2.1]
              exact s4 _ _ h.2.2
        obtain ⟨s1, ls, hlr1, prF, lsl⟩ := pv
        have pr1 : Paired (IntsAt G1) ls (gapsAll sets cs sets.length) := Paired.mp (fun _ _ h => h.2.2) prF
        refine ⟨_, rfl, x, dx, _, rfl, s1 _ _ hx, hno (by decide +kernel) (by decide +kernel) (by decide +kernel), x, b, d, n, cs, rfl, tG.al.same s1, tG.len, tG.ok.pos, fun c hc => ⟨(tG.ok.st c hc).g0, (tG.ok.st c hc).g1⟩, fun G2 l1 rs1 s2 nl1 hl1 pd1 => ?_⟩
        have s02 := s1.trans s2
        refine ⟨_, rfl, x, dx, _, rfl, s02 _ _ hx, hno (by decide +kernel) (by decide +kernel) (by decide +kernel), x, b, d, n, cs, sets, rfl, tG.al.same s02, tG.bk.same s02, tG.ok.pos, fun G3 l2 s3 nl2 hl2 => ?_⟩
        have s03 := s02.trans s3
        refine ⟨_, rfl, x, dx, _, rfl, s03 _ _ hx, hno (by decide +kernel) (by decide +kernel) (by decide +kernel), x, b, d, n, cs, rfl, tG.al.same s03, tG.len, fun G4 l3 rs3 s4 nl3 hl3 pd3 => ⟨_, _, _, rfl, ?_⟩⟩
        have s04 := s03.trans s4
        have s14 := s2.trans (s3.trans s4)
        -- the gaps are the same
        refine ⟨_, rfl, _, rfl, b, _, rfl, .inr (SqT.of (s04 _ _ hb)), ?_⟩
        rw [List.length_map, bl]
        refine ⟨_, rfl, by omega, by omega, fun lq hlq => lc_range (lo := 0) (n := sets.length)
          (fun k H' => Same G4 H' ∧ ∃ ls : List Addr, H' lq = some (.lst (ls.map V.ref)) ∧ Paired (fun a is => a ≠ lq ∧ H' a = some (.lst (is.map V.int))) ls (gapsAll sets cs k) ∧ ls.length = k) ⟨same_upd hlq, [], upd_same, .nil, rfl⟩ (fun k H' hk pv => ?_) (fun G5 pv => ?_)⟩
        · obtain ⟨sk, ls, hDk, pr, ll⟩ := pv
          have e0 : (0 : Int) + (k : Int) = (k : Int) := Int.zero_add _
          have sk0 := s04.trans sk
          refine ⟨rfl, ?_⟩
          rw [e0]
          refine yesT ⟨_, rfl, _, rfl, _, rfl, b, dc, k, sets, cs, rfl, tG.bk.same sk0, hk, sk0 _ _ tG.hd, fun H4 l s4 nl hl => ⟨_, s4 _ _ hDk, by rw [List.length_map, sizeLine_eq]; omega, fun c o e => ?_, ls ++ [l], by rw [upd_same, List.map_append]; rfl, ?_, by simp [ll]⟩⟩
          · rw [upd_ne (ne_of_none e hlq)]
            exact s4 _ _ (sk _ _ e)
          · have nlr : l ≠ lq := fun z => by
              rw [z, hDk] at nl
              cases nl
            rw [gapsAll_succ]
            refine Paired.snoc ⟨nlr, ?_⟩ (Paired.mp (fun a is h => ⟨h.1, ?_⟩) pr)
            · rw [upd_ne nlr]
              exact hl
            · rw [upd_ne h.1]
              exact s4 _ _ h.2
        obtain ⟨s5, lqs, hlq5, prq, _⟩ := pv
        refine ⟨gapsD (gapsAll sets cs sets.length), gapsD (gapsAll sets cs sets.length), dp_gaps (s5 _ _ (s14 _ _ hlr1)) (Paired.mp (fun _ _ h => s5 _ _ (s14 _ _ h)) pr1), dp_gaps hlq5 (Paired.mp (fun _ _ h => h.2) prq), shaped_of (lay_gaps _) (depth_gaps _) (by decide), shaped_of (lay_gaps _) (depth_gaps _) (by decide), _, rfl, ?_⟩
        rw [eqv_self (lay_gaps _)]
        refine iteF ?_
        -- doubles, whole sets, all
        have s05 := s04.trans s5
        have hl1' := s5 _ _ (s4 _ _ (s3 _ _ hl1))
        have hl2' := s5 _ _ (s4 _ _ hl2)
        have hl3' := s5 _ _ hl3
        have pd1' := rows_same ((s3.trans s4).trans s5) pd1
        have pd3' := rows_same s5 pd3
        refine ⟨_, rfl, _, rfl, dc, cs, rfl, s05 _ _ tG.hd, tG.len, tG.ok.pos, fun G6 l5 rs5 s6 nl5 hl5 pd5 => ⟨rowsD (dblsM cs), rowsD (dblsM cs), dp_rows (s6 _ _ hl1') (rows_same s6 pd1'), dp_rows hl5 pd5, shaped_of (lay_rows _) (depth_rows _) (by decide), shaped_of (lay_rows _) (depth_rows _) (by decide), _, rfl, ?_⟩⟩
        rw [eqv_self (lay_rows _)]
        refine iteF ⟨_, rfl, _, rfl, intsD (wholeM sets cs), intsD (wholeM sets cs), dp_ints (s6 _ _ hl2'), dp_ints (s6 _ _ (s05 _ _ (sG _ _ hlw10))), shaped_of (lay_ints _) (depth_ints _) (by decide), shaped_of (lay_ints _) (depth_ints _) (by decide), _, rfl, ?_⟩
        rw [eqv_self (lay_ints _)]
        have s06 := s05.trans s6
        refine iteF ⟨_, rfl, _, rfl, dc, cs, rfl, s06 _ _ tG.hd, tG.len, tG.ok.pos, fun G7 l7 rs7 s7 nl7 hl7 pd7 => ⟨rowsD (riseM cs), rowsD (riseM cs), dp_rows (s7 _ _ (s6 _ _ hl3')) (rows_same (s6.trans s7) pd3'), dp_rows hl7 pd7, shaped_of (lay_rows _) (depth_rows _) (by decide), shaped_of (lay_rows _) (depth_rows _) (by decide), _, rfl, ?_⟩⟩
        rw [eqv_self (lay_rows _)]
        refine iteF ?_
        have s07 := s06.trans s7
        have s67 := s6.trans s7
        -- the told lists are changed
        obtain ⟨a0, is0, lz0, g0, hf0⟩ : ∃ (a0 : Addr) (is0 : List Int), is0.length ≤ 6 ∧ ls[0]? = some a0 ∧ (G a0 = none ∧ a0 ≠ lr ∧ G1 a0 = some (.lst (is0.map V.int))) := by
          have hz : (gapsAll sets cs sets.length)[0]? = some (gapsM sets cs 0) := by
            unfold gapsAll
            rw [List.getElem?_map, List.getElem?_range b0]
            rfl
          obtain ⟨a0, h1, h2⟩ := Paired.gt prF hz
          exact ⟨a0, _, gapsM_len okB, h1, h2⟩
        have a07 := s67 _ _ (s5 _ _ (s14 _ _ hf0.2.2))
        have l17 := s67 _ _ hl1'
        have l27 := s67 _ _ hl2'
        have l37 := s67 _ _ hl3'
        have at0 : atI (ls.map V.ref) 0 = some (.ref a0) := atI_nat (j := 0) (by rw [List.getElem?_map, g0]; rfl)
        have n1 : l1 ≠ a0 := fun z => by
          rw [z, hf0.2.2] at nl1
          cases nl1
        have n2 : l2 ≠ a0 := fun z => by
          rw [z, s2 _ _ hf0.2.2] at nl2
          cases nl2
        have n3 : l3 ≠ a0 := fun z => by
          rw [z, s3 _ _ (s2 _ _ hf0.2.2)] at nl3
          cases nl3
        have n21 : l2 ≠ l1 := fun z => by
          rw [z, hl1] at nl2
          cases nl2
        have n31 : l3 ≠ l1 := fun z => by
          rw [z, s3 _ _ hl1] at nl3
          cases nl3
        have n32 : l3 ≠ l2 := fun z => by
          rw [z, hl2] at nl3
          cases nl3
        refine ⟨_, rfl, lr, _, 0, _, rfl, rfl, SqL.of (s67 _ _ (s5 _ _ (s14 _ _ hlr1))), at0, .inl ⟨rfl, _, SqL.of a07⟩, a0, _, _, rfl, rfl, a07, by rw [List.length_map]; exact small1000 (by omega), ?_⟩
        refine ⟨_, rfl, .inl ⟨rfl, _, SqL.of (by rw [upd_ne n1]; exact l17)⟩, l1, _, rfl, rfl, by rw [upd_ne n1]; exact l17, ?_⟩
        refine ⟨_, rfl, .inl ⟨rfl, _, SqL.of (by rw [upd_ne n21, upd_ne n2]; exact l27)⟩, l2, _, _, rfl, rfl, by rw [upd_ne n21, upd_ne n2]; exact l27, by rw [List.length_map]; exact small1000 (by have := wholeM_len sets cs; omega), ?_⟩
        refine ⟨_, rfl, .inl ⟨rfl, _, SqL.of (by rw [upd_ne n32, upd_ne n31, upd_ne n3]; exact l37)⟩, l3, _, rfl, rfl, by rw [upd_ne n32, upd_ne n31, upd_ne n3]; exact l37, ?_⟩
        refine ⟨_, _, _, _, _, _, _, _, _, _, _, _, rfl, fun c o e => ?_⟩
        have eG := sG _ _ e
        rw [upd_ne (ne_of_none eG (none_of s03 nl3)), upd_ne (ne_of_none eG (none_of s02 nl2)), upd_ne (ne_of_none eG (none_of s1 nl1)), upd_ne (ne_of_none eG hf0.1)]
        exact s07 _ _ eG
      case after =>
        rintro σ G ⟨w1, w2, w4, w8, w9, w10, w11, w12, w13, w14, w15, w16, rfl, sG⟩
        have tG := ta10.same sG
        have hSG := sql_same hS10 sG
        have tbG := tabs_same tb10 sG
        clear sG ta10 hlw10 hS10 tb10 htt10
        refine ⟨_, rfl, b, sets, rfl, tG.bk, fun G1 lp ps s1 nlp hlp pp => ⟨lp, rfl, ⟨_, SqL.of hlp⟩, ?_⟩⟩
        refine for_list (K := K) (xs := ps.map V.ref) (fun j σ G' => ∃ w1 w2 w4 w7 w8 w9 w10 w11 w12 w13 w14 w15 w16 : Option V, σ = [some (.ref a), w1, w2, some (.ref b), w4, some (.ref x), some (.ref dc), w7, w8, w9, w10, w11, w12, w13, w14, w15, w16] ∧ Same G1 G')
          ⟨_, _, _, _, _, _, _, _, _, _, _, _, _, rfl, fun _ _ e => e⟩ (fun j σ G' _ pv => by
            obtain ⟨_, _, _, _, _, _, _, _, _, _, _, _, _, _, sG⟩ := pv
            exact SqL.of (sG _ _ hlp)) ?body ?after
        case body =>
          rintro j y σ G2 hy ⟨w1, w2, w4, w7, w8, w9, w10, w11, w12, w13, w14, w15, w16, rfl, s2⟩
          rw [List.getElem?_map] at hy
          obtain ⟨ap, hap, rfl⟩ : ∃ ap, ps[j]? = some ap ∧ V.ref ap = y := by
            cases h : ps[j]? with
            | none =>
              rw [h] at hy
              cases hy
            | some ap =>
              rw [h] at hy
              exact ⟨ap, rfl, Option.some.inj hy⟩
          obtain ⟨pl, hpl, hat⟩ := Paired.gl pp hap
          have hplm := List.mem_of_getElem? hpl
          refine ⟨by show 2 ≤ sizeLine; decide, fun t2 ht2 => ⟨t2, rfl, ⟨_, SqT.of upd_same⟩, ?_⟩⟩
          have s3 : Same G2 (upd G2 t2 (.tup [.int 0, .int 1])) := same_upd ht2
          have ht3 : (upd G2 t2 (.tup [.int 0, .int 1])) t2 = some (.tup [.int 0, .int 1]) := upd_same
          generalize upd G2 t2 (.tup [.int 0, .int 1]) = G3 at s3 ht3 ⊢
          have s03 := s1.trans (s2.trans s3)
          refine for_tup (xs := [.int 0, .int 1]) (fun j σ G' => ∃ w1 w2 w4 w7 w8 w9 w10 w11 w12 w14 w15 w16 : Option V, σ = [some (.ref a), w1, w2, some (.ref b), w4, some (.ref x), some (.ref dc), w7, w8, w9, w10, w11, w12, some (.ref ap), w14, w15, w16] ∧ Same G3 G')
            ⟨_, _, _, _, _, _, _, _, _, _, _, _, rfl, fun _ _ e => e⟩ (fun j σ G' _ pv => by
              obtain ⟨_, _, _, _, _, _, _, _, _, _, _, _, _, sG⟩ := pv
              exact SqT.of (sG _ _ ht3)) ?inner ?next
          case next =>
            rintro σ G4 ⟨w1, w2, w4, w7, w8, w9, w10, w11, w12, w14, w15, w16, rfl, s4⟩
            exact ⟨_, _, _, _, _, _, _, _, _, _, _, _, _, rfl, s2.trans (s3.trans s4)⟩
          case inner =>
            rintro k g σ G4 hg ⟨w1, w2, w4, w7, w8, w9, w10, w11, w12, w14, w15, w16, rfl, s4⟩
            obtain ⟨g, rfl, gb0, gb1⟩ : ∃ i : Int, g = V.int i ∧ 0 ≤ i ∧ i ≤ 1 := by
              have := List.mem_of_getElem? hg
              simp only [List.mem_cons, List.not_mem_nil, or_false] at this
              rcases this with rfl | rfl <;> exact ⟨_, rfl, by decide, by decide⟩
            have s14 := s2.trans (s3.trans s4)
            have s04 := s1.trans s14
            have t4 := tG.same s04
            have hat4 := s14 _ _ hat
            obtain ⟨⟨dx, hx⟩, hd0⟩ := id t4.al
            refine ⟨_, rfl, x, dx, _, rfl, hx, albF_no b n d (by decide +kernel) (by decide +kernel) (by decide +kernel), _, rfl, _, rfl, by show 1 ≤ sizeLine; decide, fun q1 hq1 => ?_⟩
            have s5 : Same G4 (upd G4 q1 (.tup [.int g])) := same_upd hq1
            refine ⟨ap, q1, _, _, rfl, rfl, SqT.of (s5 _ _ hat4), SqT.of upd_same, (fun z => by cases z), by show 3 ≤ sizeLine; decide, ⟨fun z => (by cases z), fun _ q2 hq2 => ?_⟩⟩
            have s6 := s5.trans (same_upd (o := .tup ([V.int pl.1, V.int pl.2] ++ [V.int g])) hq2)
            have t6 := t4.same s6
            refine ⟨x, q2, b, d, n, cs, sets, (pl.1, pl.2, g), rfl, t6.al, t6.bk, upd_same, ⟨hplm, gb0, gb1⟩, fun G7 s7 => ?_⟩
            have s47 := s6.trans s7
            have t7 := t6.same s7
            refine ⟨_, rfl, dc, rfl, .inr ⟨_, .inl t7.hd⟩, _, rfl, _, rfl, by show 1 ≤ sizeLine; decide, fun q3 hq3 => ?_⟩
            have s8 : Same G7 (upd G7 q3 (.tup [.int g])) := same_upd hq3
            refine ⟨ap, q3, _, _, rfl, rfl, SqT.of (s8 _ _ (s47 _ _ hat4)), SqT.of upd_same, (fun z => by cases z), by show 3 ≤ sizeLine; decide, ⟨fun z => (by cases z), fun _ q4 hq4 => ?_⟩⟩
            have s9 := s8.trans (same_upd (o := .tup ([V.int pl.1, V.int pl.2] ++ [V.int g])) hq4)
            have g2 := DGet.t (k := keyS (pl.1, pl.2, g)) (s9 _ _ t7.hd) upd_same
            rw [valV_ent] at g2
            refine ⟨_, g2, ?_⟩
            rw [getD_ev]
            refine ⟨rfl, _, rfl, ite2 (fun c => absurd c (by simp)) (fun _ => ?_)⟩
            exact ⟨_, _, _, _, _, _, _, _, _, _, _, _, rfl, s4.trans (s47.trans s9)⟩
        case after =>
        rintro σ G2 ⟨w1, w2, w4, w7, w8, w9, w10, w11, w12, w13, w14, w15, w16, rfl, s2⟩
        have tG2 := tG.same (s1.trans s2)
        have hSG2 := sql_same hSG (s1.trans s2)
        have tbG2 := tabs_same tbG (s1.trans s2)
        obtain ⟨okG, bs, hb, pb⟩ := id tG2.bk
        have bl : bs.length = sets.length := Paired.length pb
        refine ⟨_, rfl, b, _, rfl, .inr (SqT.of hb), ?_⟩
        rw [List.length_map, bl]
        refine ⟨_, rfl, by show 1 ≤ sizeLine; decide, fun tq htq => ⟨_, _, rfl, rfl, ⟨by decide, by decide, by decide⟩, by show 7 ≤ sizeLine; decide, fun tb htb => ⟨tb, rfl, ⟨_, SqT.of upd_same⟩, ?_⟩⟩⟩
        have s3 := (same_upd (o := .tup [.int 0]) htq).trans (same_upd (o := .tup [.int (sets.length : Int), .int (-1), .bl true, .non, .str "0", .ref tq, .int ((10 : Int) ^ (39 : Int).toNat)]) htb)
        have htq3 : (upd (upd G2 tq (.tup [.int 0])) tb (.tup [.int (sets.length : Int), .int (-1), .bl true, .non, .str "0", .ref tq, .int ((10 : Int) ^ (39 : Int).toNat)])) tq = some (.tup [.int 0]) := (same_upd htb) _ _ upd_same
        have htb3 : (upd (upd G2 tq (.tup [.int 0])) tb (.tup [.int (sets.length : Int), .int (-1), .bl true, .non, .str "0", .ref tq, .int ((10 : Int) ^ (39 : Int).toNat)])) tb = some (.tup [.int (sets.length : Int), .int (-1), .bl true, .non, .str "0", .ref tq, .int ((10 : Int) ^ (39 : Int).toNat)]) := upd_same
        have tG3 := tG2.same s3
        have hSG3 := sql_same hSG2 s3
        have tbG3 := tabs_same tbG2 s3
        generalize (upd (upd G2 tq (.tup [.int 0])) tb (.tup [.int (sets.length : Int), .int (-1), .bl true, .non, .str "0", .ref tq, .int ((10 : Int) ^ (39 : Int).toNat)])) = G3 at s3 htq3 htb3 tG3 hSG3 tbG3 ⊢
        refine for_tup (xs := [.int (sets.length : Int), .int (-1), .bl true, .non, .str "0", .ref tq, .int ((10 : Int) ^ (39 : Int).toNat)]) (fun j σ G' => (∃ w1 w2 w3 w4 w6 w7 w8 w9 w10 w11 w12 w13 w14 w15 w16 : Option V, σ = [some (.ref a), w1, w2, w3, w4, some (.ref x), w6, w7, w8, w9, w10, w11, w12, w13, w14, w15, w16]) ∧ ExtN G3 G' ∧ LamX.Tabs (tabT PT f code) G')
          ⟨⟨_, _, _, _, _, _, _, _, _, _, _, _, _, _, _, rfl⟩, LamX.ExtN.refl _, tbG3⟩ (fun j σ G' _ pv => sqt_extN (SqT.of htb3) pv.2.1) ?badly ?last
        case last =>
          rintro σ G4 ⟨⟨w1, w2, w3, w4, w6, w7, w8, w9, w10, w11, w12, w13, w14, w15, w16, rfl⟩, e4, tb4⟩
          exact ⟨_, _, _, _, _, _, _, _, _, _, _, _, _, _, _, _, rfl, sql_extN hSG3 e4, tb4⟩
        case badly =>
        rintro k y σ G4 hy ⟨⟨w1, w2, w3, w4, w6, w7, w8, w9, w10, w11, w12, w13, w14, w15, w16, rfl⟩, e4, tb4⟩
        refine ⟨tb4, fun G5 e5 tb5 => ?_⟩
        have e35 := e4.trans e5
        have t5 := tG3.extN e35
        obtain ⟨⟨dx, hx⟩, hd0⟩ := id t5.al
        have htq5 := e35 _ _ htq3 fun _ z => by cases z
        obtain ⟨ty, hpy, hwy⟩ : ∃ ty, Plain G5 y ty ∧ within y 0 ((sets.length : Int) - 1) = false := by
          have := List.mem_of_getElem? hy
          simp only [List.mem_cons, List.not_mem_nil, or_false] at this
          rcases this with rfl | rfl | rfl | rfl | rfl | rfl | rfl
          · exact ⟨_, .int _, by simp [within]; omega⟩
          · exact ⟨_, .int _, by simp [within]⟩
          · exact ⟨_, .bl _, rfl⟩
          · exact ⟨_, .non, rfl⟩
          · exact ⟨_, .str _, rfl⟩
          · exact ⟨_, .tup htq5, rfl⟩
          · refine ⟨_, .int _, ?_⟩
            have : (1000 : Int) < (10 : Int) ^ (39 : Int).toNat := by decide
            simp only [within, Bool.and_eq_false_iff, decide_eq_false_iff_not]
            omega
        refine ⟨_, rfl, x, dx, _, rfl, hx, albF_no b n d (by decide +kernel) (by decide +kernel) (by decide +kernel), _, rfl, x, b, d, n, cs, sets, y, ty, rfl, t5.al, t5.bk, hpy, hwy, rfl, ?_⟩
        refine ⟨rfl, _, rfl, ite2 (fun c => absurd c (by simp)) (fun _ => ?_)⟩
        exact ⟨⟨_, _, _, _, _, _, _, _, _, _, _, _, _, _, _, rfl⟩, e35, tb5⟩
    obtain ⟨t, ht, hq⟩ := key
    exact ⟨t, ht.nox, hq⟩
end
end Hm

set_option Elab.async false
set_option maxRecDepth 100000
set_option maxHeartbeats 4000000
namespace Hm
open PySem PySem.Spec PyProof.Rows L2 HmS HmT
theorem all_mk {l : PySem.W.OpenLaw} {w : World} {K : PySem.W.Frag} {h : Heap} {mg : Str → Option Value} {fa : Addr} (X : K.In h) (G : h.Ns mainGlobals mg) (hfa : mg "law" = some (.ref fa))
    {C code PT TI c1 c2 c3 c4 c5 c6 c7 c8 : Addr} {tH tW tT : Tok} {nT : Nat} {odT : Option Addr} {ocT : Value} {slT : Array (Option Value)}
    {fW0 : Addr} {odW0 anW0 : Option Addr} {slW0 : Array (Option Value)} {ocW0 kVW0 dcW0 pmW0 ctW0 : Value} {cdW0 : Value}
    {fWi : Addr} {odWi anWi : Option Addr} {slWi : Array (Option Value)} {ocWi kVWi dcWi pmWi ctWi : Value} {cdWi : Value}
    {fLt : Addr} {odLt anLt : Option Addr} {slLt : Array (Option Value)} {ocLt kVLt dcLt pmLt ctLt : Value} {cdLt : Value}
    {fTu : Addr} {odTu anTu : Option Addr} {slTu : Array (Option Value)} {ocTu kVTu dcTu pmTu ctTu : Value} {cdTu : Value}
    {fRi : Addr} {odRi anRi : Option Addr} {slRi : Array (Option Value)} {ocRi kVRi dcRi pmRi ctRi : Value} {cdRi : Value}
    {fYe : Addr} {odYe anYe : Option Addr} {slYe : Array (Option Value)} {ocYe kVYe dcYe pmYe ctYe : Value} {cdYe : Value}
    {fSe : Addr} {odSe anSe : Option Addr} {slSe : Array (Option Value)} {ocSe kVSe dcSe pmSe ctSe : Value} {cdSe : Value}
    {fLs : Addr} {odLs anLs : Option Addr} {slLs : Array (Option Value)} {ocLs kVLs dcLs pmLs ctLs : Value} {cdLs : Value}
    {fNu : Addr} {odNu anNu : Option Addr} {slNu : Array (Option Value)} {ocNu kVNu dcNu pmNu ctNu : Value} {cdNu : Value}
    {fIp : Addr} {odIp anIp : Option Addr} {slIp : Array (Option Value)} {ocIp kVIp dcIp pmIp ctIp : Value} {cdIp : Value}
    {fSt : Addr} {odSt anSt : Option Addr} {slSt : Array (Option Value)} {ocSt kVSt dcSt pmSt ctSt : Value} {cdSt : Value}
    {fSs : Addr} {odSs anSs : Option Addr} {slSs : Array (Option Value)} {ocSs kVSs dcSs pmSs ctSs : Value} {cdSs : Value}
    {fCe : Addr} {odCe anCe : Option Addr} {slCe : Array (Option Value)} {ocCe kVCe dcCe pmCe ctCe : Value} {cdCe : Value}
    {fPe : Addr} {odPe anPe : Option Addr} {slPe : Array (Option Value)} {ocPe kVPe dcPe pmPe ctPe : Value} {cdPe : Value}
    {fDr : Addr} {odDr anDr : Option Addr} {slDr : Array (Option Value)} {ocDr kVDr dcDr pmDr ctDr : Value} {cdDr : Value}
    {fLi : Addr} {odLi anLi : Option Addr} {slLi : Array (Option Value)} {ocLi kVLi dcLi pmLi ctLi : Value} {cdLi : Value}
    {fPl : Addr} {odPl anPl : Option Addr} {slPl : Array (Option Value)} {ocPl kVPl dcPl pmPl ctPl : Value} {cdPl : Value}
    {fNa : Addr} {odNa anNa : Option Addr} {slNa : Array (Option Value)} {ocNa kVNa dcNa pmNa ctNa : Value} {cdNa : Value}
    {fSm : Addr} {odSm anSm : Option Addr} {slSm : Array (Option Value)} {ocSm kVSm dcSm pmSm ctSm : Value} {cdSm : Value}
    {fCn : Addr} {odCn anCn : Option Addr} {slCn : Array (Option Value)} {ocCn kVCn dcCn pmCn ctCn : Value} {cdCn : Value}
    {fAl : Addr} {odAl anAl : Option Addr} {slAl : Array (Option Value)} {ocAl kVAl dcAl pmAl ctAl : Value} {cdAl : Value}
    {fHa : Addr} {odHa anHa : Option Addr} {slHa : Array (Option Value)} {ocHa kVHa dcHa pmHa ctHa : Value} {cdHa : Value}
    {fGp : Addr} {odGp anGp : Option Addr} {slGp : Array (Option Value)} {ocGp kVGp dcGp pmGp ctGp : Value} {cdGp : Value}
    {fDb : Addr} {odDb anDb : Option Addr} {slDb : Array (Option Value)} {ocDb kVDb dcDb pmDb ctDb : Value} {cdDb : Value}
    {fWo : Addr} {odWo anWo : Option Addr} {slWo : Array (Option Value)} {ocWo kVWo dcWo pmWo ctWo : Value} {cdWo : Value}
    {fLa : Addr} {odLa anLa : Option Addr} {slLa : Array (Option Value)} {ocLa kVLa dcLa pmLa ctLa : Value}
    {fmI : Addr} {odmI anmI : Option Addr} {slmI : Array (Option Value)} {ocmI kVmI dcmI pmmI ctmI : Value} {cdmI : Value}
    {fmC : Addr} {odmC anmC : Option Addr} {slmC : Array (Option Value)} {ocmC kVmC dcmC pmmC ctmC : Value} {cdmC : Value}
    {fmO : Addr} {odmO anmO : Option Addr} {slmO : Array (Option Value)} {ocmO kVmO dcmO pmmO ctmO : Value} {cdmO : Value}
    {fmA : Addr} {odmA anmA : Option Addr} {slmA : Array (Option Value)} {ocmA kVmA dcmA pmmA ctmA : Value} {cdmA : Value}
    {fmG : Addr} {odmG anmG : Option Addr} {slmG : Array (Option Value)} {ocmG kVmG dcmG pmmG ctmG : Value} {cdmG : Value}
    {fmF : Addr} {odmF anmF : Option Addr} {slmF : Array (Option Value)} {ocmF kVmF dcmF pmmF ctmF : Value} {cdmF : Value}
    {fmD : Addr} {odmD anmD : Option Addr} {slmD : Array (Option Value)} {ocmD kVmD dcmD pmmD ctmD : Value} {cdmD : Value}
    {fmK : Addr} {odmK anmK : Option Addr} {slmK : Array (Option Value)} {ocmK kVmK dcmK pmmK ctmK : Value} {cdmK : Value}
    {fmW : Addr} {odmW anmW : Option Addr} {slmW : Array (Option Value)} {ocmW kVmW dcmW pmmW ctmW : Value} {cdmW : Value}
    (aAlb : PySem.W.nsIn K mainGlobals "Album" = some (some (.ref C)))
    (aW0 : PySem.W.nsIn K mainGlobals "is_whole" = some (some (.ref fW0)))
    (lW0 : K.lookup fW0 = some ⟨ocW0, odW0, .func (PySem.W.fnOf "is_whole" "is_whole" (defArgs stIsW) (defBody stIsW) (defScope stIsW) .none kVW0 dcW0 pmW0 anW0 cdW0 ctW0), slW0⟩)
    (cW0 : PySem.W.codeIn K cdW0 "is_whole" = true)
    (kW0 : PySem.W.keepIn K (.ref fW0) = true)
    (aWi : PySem.W.nsIn K mainGlobals "is_whole_within" = some (some (.ref fWi)))
    (lWi : K.lookup fWi = some ⟨ocWi, odWi, .func (PySem.W.fnOf "is_whole_within" "is_whole_within" (defArgs stWit) (defBody stWit) (defScope stWit) .none kVWi dcWi pmWi anWi cdWi ctWi), slWi⟩)
    (cWi : PySem.W.codeIn K cdWi "is_whole_within" = true)
    (kWi : PySem.W.keepIn K (.ref fWi) = true)
    (aLt : PySem.W.nsIn K mainGlobals "is_letters" = some (some (.ref fLt)))
    (lLt : K.lookup fLt = some ⟨ocLt, odLt, .func (PySem.W.fnOf "is_letters" "is_letters" (defArgs stLet) (defBody stLet) (defScope stLet) .none kVLt dcLt pmLt anLt cdLt ctLt), slLt⟩)
    (cLt : PySem.W.codeIn K cdLt "is_letters" = true)
    (kLt : PySem.W.keepIn K (.ref fLt) = true)
    (aTu : PySem.W.nsIn K mainGlobals "is_tuple" = some (some (.ref fTu)))
    (lTu : K.lookup fTu = some ⟨ocTu, odTu, .func (PySem.W.fnOf "is_tuple" "is_tuple" (defArgs stTup) (defBody stTup) (defScope stTup) .none kVTu dcTu pmTu anTu cdTu ctTu), slTu⟩)
    (cTu : PySem.W.codeIn K cdTu "is_tuple" = true)
    (kTu : PySem.W.keepIn K (.ref fTu) = true)
    (aRi : PySem.W.nsIn K mainGlobals "is_rising" = some (some (.ref fRi)))
    (lRi : K.lookup fRi = some ⟨ocRi, odRi, .func (PySem.W.fnOf "is_rising" "is_rising" (defArgs stRis) (defBody stRis) (defScope stRis) .none kVRi dcRi pmRi anRi cdRi ctRi), slRi⟩)
    (cRi : PySem.W.codeIn K cdRi "is_rising" = true)
    (kRi : PySem.W.keepIn K (.ref fRi) = true)
    (aYe : PySem.W.nsIn K mainGlobals "is_year" = some (some (.ref fYe)))
    (lYe : K.lookup fYe = some ⟨ocYe, odYe, .func (PySem.W.fnOf "is_year" "is_year" (defArgs stYea) (defBody stYea) (defScope stYea) .none kVYe dcYe pmYe anYe cdYe ctYe), slYe⟩)
    (cYe : PySem.W.codeIn K cdYe "is_year" = true)
    (kYe : PySem.W.keepIn K (.ref fYe) = true)
    (aSe : PySem.W.nsIn K mainGlobals "is_set" = some (some (.ref fSe)))
    (lSe : K.lookup fSe = some ⟨ocSe, odSe, .func (PySem.W.fnOf "is_set" "is_set" (defArgs stSet) (defBody stSet) (defScope stSet) .none kVSe dcSe pmSe anSe cdSe ctSe), slSe⟩)
    (cSe : PySem.W.codeIn K cdSe "is_set" = true)
    (kSe : PySem.W.keepIn K (.ref fSe) = true)
    (aLs : PySem.W.nsIn K mainGlobals "is_list" = some (some (.ref fLs)))
    (lLs : K.lookup fLs = some ⟨ocLs, odLs, .func (PySem.W.fnOf "is_list" "is_list" (defArgs stLis) (defBody stLis) (defScope stLis) .none kVLs dcLs pmLs anLs cdLs ctLs), slLs⟩)
    (cLs : PySem.W.codeIn K cdLs "is_list" = true)
    (kLs : PySem.W.keepIn K (.ref fLs) = true)
    (aNu : PySem.W.nsIn K mainGlobals "is_set_number" = some (some (.ref fNu)))
    (lNu : K.lookup fNu = some ⟨ocNu, odNu, .func (PySem.W.fnOf "is_set_number" "is_set_number" (defArgs stNum) (defBody stNum) (defScope stNum) .none kVNu dcNu pmNu anNu cdNu ctNu), slNu⟩)
    (cNu : PySem.W.codeIn K cdNu "is_set_number" = true)
    (kNu : PySem.W.keepIn K (.ref fNu) = true)
    (aIp : PySem.W.nsIn K mainGlobals "is_place" = some (some (.ref fIp)))
    (lIp : K.lookup fIp = some ⟨ocIp, odIp, .func (PySem.W.fnOf "is_place" "is_place" (defArgs stIpl) (defBody stIpl) (defScope stIpl) .none kVIp dcIp pmIp anIp cdIp ctIp), slIp⟩)
    (cIp : PySem.W.codeIn K cdIp "is_place" = true)
    (kIp : PySem.W.keepIn K (.ref fIp) = true)
    (aSt : PySem.W.nsIn K mainGlobals "is_stamp" = some (some (.ref fSt)))
    (lSt : K.lookup fSt = some ⟨ocSt, odSt, .func (PySem.W.fnOf "is_stamp" "is_stamp" (defArgs stStp) (defBody stStp) (defScope stStp) .none kVSt dcSt pmSt anSt cdSt ctSt), slSt⟩)
    (cSt : PySem.W.codeIn K cdSt "is_stamp" = true)
    (kSt : PySem.W.keepIn K (.ref fSt) = true)
    (aSs : PySem.W.nsIn K mainGlobals "is_stamps" = some (some (.ref fSs)))
    (lSs : K.lookup fSs = some ⟨ocSs, odSs, .func (PySem.W.fnOf "is_stamps" "is_stamps" (defArgs stSts) (defBody stSts) (defScope stSts) .none kVSs dcSs pmSs anSs cdSs ctSs), slSs⟩)
    (cSs : PySem.W.codeIn K cdSs "is_stamps" = true)
    (kSs : PySem.W.keepIn K (.ref fSs) = true)
    (aCe : PySem.W.nsIn K mainGlobals "_law_cell_at" = some (some (.ref fCe)))
    (lCe : K.lookup fCe = some ⟨ocCe, odCe, .func (PySem.W.fnOf "_law_cell_at" "_law_cell_at" (defArgs stCell) (defBody stCell) (defScope stCell) .none kVCe dcCe pmCe anCe cdCe ctCe), slCe⟩)
    (cCe : PySem.W.codeIn K cdCe "_law_cell_at" = true)
    (kCe : PySem.W.keepIn K (.ref fCe) = true)
    (aPe : PySem.W.nsIn K mainGlobals "_law_pen" = some (some (.ref fPe)))
    (lPe : K.lookup fPe = some ⟨ocPe, odPe, .func (PySem.W.fnOf "_law_pen" "_law_pen" (defArgs stPen) (defBody stPen) (defScope stPen) .none kVPe dcPe pmPe anPe cdPe ctPe), slPe⟩)
    (cPe : PySem.W.codeIn K cdPe "_law_pen" = true)
    (kPe : PySem.W.keepIn K (.ref fPe) = true)
    (aDr : PySem.W.nsIn K mainGlobals "_law_draw" = some (some (.ref fDr)))
    (lDr : K.lookup fDr = some ⟨ocDr, odDr, .func (PySem.W.fnOf "_law_draw" "_law_draw" (defArgs stDraw) (defBody stDraw) (defScope stDraw) .none kVDr dcDr pmDr anDr cdDr ctDr), slDr⟩)
    (cDr : PySem.W.codeIn K cdDr "_law_draw" = true)
    (kDr : PySem.W.keepIn K (.ref fDr) = true)
    (aLi : PySem.W.nsIn K mainGlobals "_law_list" = some (some (.ref fLi)))
    (lLi : K.lookup fLi = some ⟨ocLi, odLi, .func (PySem.W.fnOf "_law_list" "_law_list" (defArgs stList) (defBody stList) (defScope stList) .none kVLi dcLi pmLi anLi cdLi ctLi), slLi⟩)
    (cLi : PySem.W.codeIn K cdLi "_law_list" = true)
    (kLi : PySem.W.keepIn K (.ref fLi) = true)
    (aPl : PySem.W.nsIn K mainGlobals "_law_places" = some (some (.ref fPl)))
    (lPl : K.lookup fPl = some ⟨ocPl, odPl, .func (PySem.W.fnOf "_law_places" "_law_places" (defArgs stPlc) (defBody stPlc) (defScope stPlc) .none kVPl dcPl pmPl anPl cdPl ctPl), slPl⟩)
    (cPl : PySem.W.codeIn K cdPl "_law_places" = true)
    (kPl : PySem.W.keepIn K (.ref fPl) = true)
    (aNa : PySem.W.nsIn K mainGlobals "_law_name" = some (some (.ref fNa)))
    (lNa : K.lookup fNa = some ⟨ocNa, odNa, .func (PySem.W.fnOf "_law_name" "_law_name" (defArgs stNam) (defBody stNam) (defScope stNam) .none kVNa dcNa pmNa anNa cdNa ctNa), slNa⟩)
    (cNa : PySem.W.codeIn K cdNa "_law_name" = true)
    (kNa : PySem.W.keepIn K (.ref fNa) = true)
    (aSm : PySem.W.nsIn K mainGlobals "_law_stamps" = some (some (.ref fSm)))
    (lSm : K.lookup fSm = some ⟨ocSm, odSm, .func (PySem.W.fnOf "_law_stamps" "_law_stamps" (defArgs stStm) (defBody stStm) (defScope stStm) .none kVSm dcSm pmSm anSm cdSm ctSm), slSm⟩)
    (cSm : PySem.W.codeIn K cdSm "_law_stamps" = true)
    (kSm : PySem.W.keepIn K (.ref fSm) = true)
    (aCn : PySem.W.nsIn K mainGlobals "_law_counts" = some (some (.ref fCn)))
    (lCn : K.lookup fCn = some ⟨ocCn, odCn, .func (PySem.W.fnOf "_law_counts" "_law_counts" (defArgs stCnt) (defBody stCnt) (defScope stCnt) .none kVCn dcCn pmCn anCn cdCn ctCn), slCn⟩)
    (cCn : PySem.W.codeIn K cdCn "_law_counts" = true)
    (kCn : PySem.W.keepIn K (.ref fCn) = true)
    (aAl : PySem.W.nsIn K mainGlobals "_law_all" = some (some (.ref fAl)))
    (lAl : K.lookup fAl = some ⟨ocAl, odAl, .func (PySem.W.fnOf "_law_all" "_law_all" (defArgs stAll) (defBody stAll) (defScope stAll) .none kVAl dcAl pmAl anAl cdAl ctAl), slAl⟩)
    (cAl : PySem.W.codeIn K cdAl "_law_all" = true)
    (kAl : PySem.W.keepIn K (.ref fAl) = true)
    (aHa : PySem.W.nsIn K mainGlobals "_law_has" = some (some (.ref fHa)))
    (lHa : K.lookup fHa = some ⟨ocHa, odHa, .func (PySem.W.fnOf "_law_has" "_law_has" (defArgs stHas) (defBody stHas) (defScope stHas) .none kVHa dcHa pmHa anHa cdHa ctHa), slHa⟩)
    (cHa : PySem.W.codeIn K cdHa "_law_has" = true)
    (kHa : PySem.W.keepIn K (.ref fHa) = true)
    (aGp : PySem.W.nsIn K mainGlobals "_law_gaps" = some (some (.ref fGp)))
    (lGp : K.lookup fGp = some ⟨ocGp, odGp, .func (PySem.W.fnOf "_law_gaps" "_law_gaps" (defArgs stGap) (defBody stGap) (defScope stGap) .none kVGp dcGp pmGp anGp cdGp ctGp), slGp⟩)
    (cGp : PySem.W.codeIn K cdGp "_law_gaps" = true)
    (kGp : PySem.W.keepIn K (.ref fGp) = true)
    (aDb : PySem.W.nsIn K mainGlobals "_law_doubles" = some (some (.ref fDb)))
    (lDb : K.lookup fDb = some ⟨ocDb, odDb, .func (PySem.W.fnOf "_law_doubles" "_law_doubles" (defArgs stDbl) (defBody stDbl) (defScope stDbl) .none kVDb dcDb pmDb anDb cdDb ctDb), slDb⟩)
    (cDb : PySem.W.codeIn K cdDb "_law_doubles" = true)
    (kDb : PySem.W.keepIn K (.ref fDb) = true)
    (aWo : PySem.W.nsIn K mainGlobals "_law_word" = some (some (.ref fWo)))
    (lWo : K.lookup fWo = some ⟨ocWo, odWo, .func (PySem.W.fnOf "_law_word" "_law_word" (defArgs stWrd) (defBody stWrd) (defScope stWrd) .none kVWo dcWo pmWo anWo cdWo ctWo), slWo⟩)
    (cWo : PySem.W.codeIn K cdWo "_law_word" = true)
    (kWo : PySem.W.keepIn K (.ref fWo) = true)
    (aLa : PySem.W.nsIn K mainGlobals "law" = some (some (.ref fLa)))
    (lLa : K.lookup fLa = some ⟨ocLa, odLa, .func (PySem.W.fnOf "law" "law" (defArgs stLaw) (defBody stLaw) (defScope stLaw) .none kVLa dcLa pmLa anLa (.ref code) ctLa), slLa⟩)
    (cLa : PySem.W.codeIn K (.ref code) "law" = true)
    (kLa : PySem.W.keepIn K (.ref fLa) = true)
    (amI : PySem.W.findIn K (.ref C) "__init__" = some (some (.ref fmI)))
    (imI : PySem.W.isFn K (.ref fmI) = true)
    (lmI : K.lookup fmI = some ⟨ocmI, odmI, .func (PySem.W.fnOf "__init__" "Album.__init__" (defArgs sInit) (defBody sInit) (defScope sInit) (.ref TI) kVmI dcmI pmmI anmI cdmI ctmI), slmI⟩)
    (cmI : PySem.W.codeIn K cdmI "Album.__init__" = true)
    (kmI : PySem.W.keepIn K (.ref fmI) = true)
    (amC : PySem.W.findIn K (.ref C) "_check_stamp" = some (some (.ref fmC)))
    (imC : PySem.W.isFn K (.ref fmC) = true)
    (lmC : K.lookup fmC = some ⟨ocmC, odmC, .func (PySem.W.fnOf "_check_stamp" "Album._check_stamp" (defArgs sChk) (defBody sChk) (defScope sChk) .none kVmC dcmC pmmC anmC cdmC ctmC), slmC⟩)
    (cmC : PySem.W.codeIn K cdmC "Album._check_stamp" = true)
    (kmC : PySem.W.keepIn K (.ref fmC) = true)
    (amO : PySem.W.findIn K (.ref C) "count_of" = some (some (.ref fmO)))
    (imO : PySem.W.isFn K (.ref fmO) = true)
    (lmO : K.lookup fmO = some ⟨ocmO, odmO, .func (PySem.W.fnOf "count_of" "Album.count_of" (defArgs sCof) (defBody sCof) (defScope sCof) .none kVmO dcmO pmmO anmO cdmO ctmO), slmO⟩)
    (cmO : PySem.W.codeIn K cdmO "Album.count_of" = true)
    (kmO : PySem.W.keepIn K (.ref fmO) = true)
    (amA : PySem.W.findIn K (.ref C) "all_of" = some (some (.ref fmA)))
    (imA : PySem.W.isFn K (.ref fmA) = true)
    (lmA : K.lookup fmA = some ⟨ocmA, odmA, .func (PySem.W.fnOf "all_of" "Album.all_of" (defArgs sAof) (defBody sAof) (defScope sAof) .none kVmA dcmA pmmA anmA cdmA ctmA), slmA⟩)
    (cmA : PySem.W.codeIn K cdmA "Album.all_of" = true)
    (kmA : PySem.W.keepIn K (.ref fmA) = true)
    (amG : PySem.W.findIn K (.ref C) "gaps" = some (some (.ref fmG)))
    (imG : PySem.W.isFn K (.ref fmG) = true)
    (lmG : K.lookup fmG = some ⟨ocmG, odmG, .func (PySem.W.fnOf "gaps" "Album.gaps" (defArgs sGaA) (defBody sGaA) (defScope sGaA) .none kVmG dcmG pmmG anmG cdmG ctmG), slmG⟩)
    (cmG : PySem.W.codeIn K cdmG "Album.gaps" = true)
    (kmG : PySem.W.keepIn K (.ref fmG) = true)
    (amF : PySem.W.findIn K (.ref C) "_fills" = some (some (.ref fmF)))
    (imF : PySem.W.isFn K (.ref fmF) = true)
    (lmF : K.lookup fmF = some ⟨ocmF, odmF, .func (PySem.W.fnOf "_fills" "Album._fills" (defArgs sFil) (defBody sFil) (defScope sFil) .none kVmF dcmF pmmF anmF cdmF ctmF), slmF⟩)
    (cmF : PySem.W.codeIn K cdmF "Album._fills" = true)
    (kmF : PySem.W.keepIn K (.ref fmF) = true)
    (amD : PySem.W.findIn K (.ref C) "doubles" = some (some (.ref fmD)))
    (imD : PySem.W.isFn K (.ref fmD) = true)
    (lmD : K.lookup fmD = some ⟨ocmD, odmD, .func (PySem.W.fnOf "doubles" "Album.doubles" (defArgs sDbA) (defBody sDbA) (defScope sDbA) .none kVmD dcmD pmmD anmD cdmD ctmD), slmD⟩)
    (cmD : PySem.W.codeIn K cdmD "Album.doubles" = true)
    (kmD : PySem.W.keepIn K (.ref fmD) = true)
    (amK : PySem.W.findIn K (.ref C) "_keeps" = some (some (.ref fmK)))
    (imK : PySem.W.isFn K (.ref fmK) = true)
    (lmK : K.lookup fmK = some ⟨ocmK, odmK, .func (PySem.W.fnOf "_keeps" "Album._keeps" (defArgs sKee) (defBody sKee) (defScope sKee) .none kVmK dcmK pmmK anmK cdmK ctmK), slmK⟩)
    (cmK : PySem.W.codeIn K cdmK "Album._keeps" = true)
    (kmK : PySem.W.keepIn K (.ref fmK) = true)
    (amW : PySem.W.findIn K (.ref C) "whole_sets" = some (some (.ref fmW)))
    (imW : PySem.W.isFn K (.ref fmW) = true)
    (lmW : K.lookup fmW = some ⟨ocmW, odmW, .func (PySem.W.fnOf "whole_sets" "Album.whole_sets" (defArgs sWho) (defBody sWho) (defScope sWho) .none kVmW dcmW pmmW anmW cdmW ctmW), slmW⟩)
    (cmW : PySem.W.codeIn K cdmW "Album.whole_sets" = true)
    (kmW : PySem.W.keepIn K (.ref fmW) = true)
    (lTI : K.lookup TI = some ⟨ocT, odT, .seq #[.str Str.empty tT, .none] nT, slT⟩)
    (pg : PySem.W.plainGet K C Str.empty = true)
    (hdi : PySem.W.hasDictIn K C = true)
    (po : PySem.W.plainOver K C = true)
    (sa : PySem.W.findIn K (.ref C) "__setattr__" = some (some (.builtin "object.__setattr__")))
    (mk : PySem.W.makesIn K C = true)
    (kc : PySem.W.keepIn K (.ref C) = true)
    (nB : PySem.W.findIn K (.ref C) "_book" = some none)
    (nN : PySem.W.findIn K (.ref C) "_name" = some none)
    (nM : PySem.W.findIn K (.ref C) "_many" = some none)
    (hH : PySem.W.nsIn K mainGlobals "HINGED" = some (some (.int 0 tH)))
    (hW : PySem.W.nsIn K mainGlobals "WHOLE" = some (some (.int 1 tW)))
    (e1 : PySem.W.nsIn K mainGlobals "Short" = some (some (.ref c1)))
    (e2 : PySem.W.nsIn K mainGlobals "NoList" = some (some (.ref c2)))
    (e3 : PySem.W.nsIn K mainGlobals "NoName" = some (some (.ref c3)))
    (e4 : PySem.W.nsIn K mainGlobals "NoStamps" = some (some (.ref c4)))
    (e5 : PySem.W.nsIn K mainGlobals "NoStamp" = some (some (.ref c5)))
    (e6 : PySem.W.nsIn K mainGlobals "NoSets" = some (some (.ref c6)))
    (e7 : PySem.W.nsIn K mainGlobals "NoSet" = some (some (.ref c7)))
    (e8 : PySem.W.nsIn K mainGlobals "NoNumber" = some (some (.ref c8)))
    (xS : PySem.W.excIn K c7 [.type "ValueError", .type "Exception", .type "BaseException", .type "object"] "ValueError.__new__" = true)
    (kS : PySem.W.keepIn K (.ref c7) = true)
    (bS : PySem.W.subIn K (.ref c7) (.type "BaseException") = some true)
    (tS : PySem.W.typeIn K (.ref c7) = some (.type "type"))
    (m1 : PySem.W.exmOne K (.ref c7) (.ref c1) = some false)
    (m2 : PySem.W.exmOne K (.ref c7) (.ref c2) = some false)
    (m3 : PySem.W.exmOne K (.ref c7) (.ref c3) = some false)
    (m4 : PySem.W.exmOne K (.ref c7) (.ref c4) = some false)
    (m5 : PySem.W.exmOne K (.ref c7) (.ref c5) = some false)
    (m6 : PySem.W.exmOne K (.ref c7) (.ref c6) = some false)
    (m7 : PySem.W.exmOne K (.ref c7) (.ref c7) = some true)
    (hPT : h.get? PT = some { cls := .none, data := .fields #[] })
    (nPT : K.lookup PT = none)
    (cPT : PySem.W.codeHdIn K code PT = true)
    (z0 : PySem.W.nsIn K mainGlobals "len" = some none)
    (z1 : PySem.W.nsIn K mainGlobals "int" = some none)
    (z2 : PySem.W.nsIn K mainGlobals "range" = some none)
    (z3 : PySem.W.nsIn K mainGlobals "sorted" = some none)
    (z4 : PySem.W.nsIn K mainGlobals "tuple" = some none)
    (z5 : PySem.W.nsIn K mainGlobals "enumerate" = some none)
    (z6 : PySem.W.nsIn K mainGlobals "isinstance" = some none)
    (z7 : PySem.W.nsIn K mainGlobals "bool" = some none)
    (z8 : PySem.W.nsIn K mainGlobals "str" = some none)
    (z9 : PySem.W.nsIn K mainGlobals "all" = some none)
    (z10 : PySem.W.nsIn K mainGlobals "zip" = some none)
    (z11 : PySem.W.nsIn K mainGlobals "max" = some none)
    (z12 : PySem.W.nsIn K mainGlobals "min" = some none)
    : LamX.LawAtS l w K CX0 9 63 "_law_script" mg fa h := by
  have e := hfa.symm.trans (PySem.W.mg_of X G aLa)
  cases e
  have FW0 := fun_mk (st := stIsW) lW0 cW0 kW0
  have bW0 := FW0.binds (ps := ["thing"]) fun _ _ _ _ _ _ us hl => match us, hl with | [_], _ => rfl
  have FWi := fun_mk (st := stWit) lWi cWi kWi
  have bWi := FWi.binds (ps := ["thing", "least", "most"]) fun _ _ _ _ _ _ us hl => match us, hl with | [_, _, _], _ => rfl
  have FLt := fun_mk (st := stLet) lLt cLt kLt
  have bLt := FLt.binds (ps := ["thing", "fewest", "most"]) fun _ _ _ _ _ _ us hl => match us, hl with | [_, _, _], _ => rfl
  have FTu := fun_mk (st := stTup) lTu cTu kTu
  have bTu := FTu.binds (ps := ["thing", "fewest", "most"]) fun _ _ _ _ _ _ us hl => match us, hl with | [_, _, _], _ => rfl
  have FRi := fun_mk (st := stRis) lRi cRi kRi
  have bRi := FRi.binds (ps := ["things"]) fun _ _ _ _ _ _ us hl => match us, hl with | [_], _ => rfl
  have FYe := fun_mk (st := stYea) lYe cYe kYe
  have bYe := FYe.binds (ps := ["thing"]) fun _ _ _ _ _ _ us hl => match us, hl with | [_], _ => rfl
  have FSe := fun_mk (st := stSet) lSe cSe kSe
  have bSe := FSe.binds (ps := ["thing"]) fun _ _ _ _ _ _ us hl => match us, hl with | [_], _ => rfl
  have FLs := fun_mk (st := stLis) lLs cLs kLs
  have bLs := FLs.binds (ps := ["thing"]) fun _ _ _ _ _ _ us hl => match us, hl with | [_], _ => rfl
  have FNu := fun_mk (st := stNum) lNu cNu kNu
  have bNu := FNu.binds (ps := ["book", "thing"]) fun _ _ _ _ _ _ us hl => match us, hl with | [_, _], _ => rfl
  have FIp := fun_mk (st := stIpl) lIp cIp kIp
  have bIp := FIp.binds (ps := ["book", "thing"]) fun _ _ _ _ _ _ us hl => match us, hl with | [_, _], _ => rfl
  have FSt := fun_mk (st := stStp) lSt cSt kSt
  have bSt := FSt.binds (ps := ["book", "thing"]) fun _ _ _ _ _ _ us hl => match us, hl with | [_, _], _ => rfl
  have FSs := fun_mk (st := stSts) lSs cSs kSs
  have bSs := FSs.binds (ps := ["book", "thing"]) fun _ _ _ _ _ _ us hl => match us, hl with | [_, _], _ => rfl
  have FCe := fun_mk (st := stCell) lCe cCe kCe
  have bCe := FCe.binds (ps := ["_law_script", "_law_k"]) fun _ _ _ _ _ _ us hl => match us, hl with | [_, _], _ => rfl
  have FPe := fun_mk (st := stPen) lPe cPe kPe
  have bPe := FPe.binds (ps := ["_law_cell"]) fun _ _ _ _ _ _ us hl => match us, hl with | [_], _ => rfl
  have FDr := fun_mk (st := stDraw) lDr cDr kDr
  have bDr := FDr.binds (ps := ["_law_pen_here", "_law_bound"]) fun _ _ _ _ _ _ us hl => match us, hl with | [_, _], _ => rfl
  have FLi := fun_mk (st := stList) lLi cLi kLi
  have bLi := FLi.binds (ps := ["_law_pen_here"]) fun _ _ _ _ _ _ us hl => match us, hl with | [_], _ => rfl
  have FPl := fun_mk (st := stPlc) lPl cPl kPl
  have bPl := FPl.binds (ps := ["_law_sets"]) fun _ _ _ _ _ _ us hl => match us, hl with | [_], _ => rfl
  have FNa := fun_mk (st := stNam) lNa cNa kNa
  have bNa := FNa.binds (ps := ["_law_pen_here"]) fun _ _ _ _ _ _ us hl => match us, hl with | [_], _ => rfl
  have FSm := fun_mk (st := stStm) lSm cSm kSm
  have bSm := FSm.binds (ps := ["_law_pen_here", "_law_sets", "_law_most"]) fun _ _ _ _ _ _ us hl => match us, hl with | [_, _, _], _ => rfl
  have FCn := fun_mk (st := stCnt) lCn cCn kCn
  have bCn := FCn.binds (ps := ["_law_stamps_here"]) fun _ _ _ _ _ _ us hl => match us, hl with | [_], _ => rfl
  have FAl := fun_mk (st := stAll) lAl cAl kAl
  have bAl := FAl.binds (ps := ["_law_counts_here"]) fun _ _ _ _ _ _ us hl => match us, hl with | [_], _ => rfl
  have FHa := fun_mk (st := stHas) lHa cHa kHa
  have bHa := FHa.binds (ps := ["_law_counts_here", "_law_place"]) fun _ _ _ _ _ _ us hl => match us, hl with | [_, _], _ => rfl
  have FGp := fun_mk (st := stGap) lGp cGp kGp
  have bGp := FGp.binds (ps := ["_law_sets", "_law_counts_here", "_law_at"]) fun _ _ _ _ _ _ us hl => match us, hl with | [_, _, _], _ => rfl
  have FDb := fun_mk (st := stDbl) lDb cDb kDb
  have bDb := FDb.binds (ps := ["_law_counts_here"]) fun _ _ _ _ _ _ us hl => match us, hl with | [_], _ => rfl
  have FWo := fun_mk (st := stWrd) lWo cWo kWo
  have bWo := FWo.binds (ps := ["_law_call"]) fun _ _ _ _ _ _ us hl => match us, hl with | [_], _ => rfl
  have FmI : FInit K fmI _ := ⟨⟨_, _, _, _, _, _, _, _, _, _, rfl, lmI, cmI, .inr ⟨by simp, TI, _, [.str Str.empty tT, .none], nT, rfl, lTI, rfl, .cons ⟨_, rfl⟩ (.cons rfl .nil)⟩, .inl rfl⟩, kmI⟩
  obtain ⟨dsI, rdI, bmI⟩ := FmI.binds1 (ps := ["self", "book", "name", "stamps"]) 4 2 (by simp) rfl (fun _ _ _ _ _ _ _ us its l1 l2 => match us, its, l1, l2 with | [_, _, _, _], [_, _], _, _ => ⟨_, rfl, rfl⟩)
  have edI : dsI = [] := by cases rdI; rfl
  subst edI
  have MmI : Meth K C "__init__" fmI := ⟨amI, imI, kmI⟩
  have FmC := fun_mk (st := sChk) lmC cmC kmC
  have bmC := FmC.binds (ps := ["self", "stamp"]) fun _ _ _ _ _ _ us hl => match us, hl with | [_, _], _ => rfl
  have MmC : Meth K C "_check_stamp" fmC := ⟨amC, imC, kmC⟩
  have FmO := fun_mk (st := sCof) lmO cmO kmO
  have bmO := FmO.binds (ps := ["self", "stamp"]) fun _ _ _ _ _ _ us hl => match us, hl with | [_, _], _ => rfl
  have MmO : Meth K C "count_of" fmO := ⟨amO, imO, kmO⟩
  have FmA := fun_mk (st := sAof) lmA cmA kmA
  have bmA := FmA.binds (ps := ["self"]) fun _ _ _ _ _ _ us hl => match us, hl with | [_], _ => rfl
  have MmA : Meth K C "all_of" fmA := ⟨amA, imA, kmA⟩
  have FmG := fun_mk (st := sGaA) lmG cmG kmG
  have bmG := FmG.binds (ps := ["self", "place"]) fun _ _ _ _ _ _ us hl => match us, hl with | [_, _], _ => rfl
  have MmG : Meth K C "gaps" fmG := ⟨amG, imG, kmG⟩
  have FmF := fun_mk (st := sFil) lmF cmF kmF
  have bmF := FmF.binds (ps := ["self", "at", "number"]) fun _ _ _ _ _ _ us hl => match us, hl with | [_, _, _], _ => rfl
  have MmF : Meth K C "_fills" fmF := ⟨amF, imF, kmF⟩
  have FmD := fun_mk (st := sDbA) lmD cmD kmD
  have bmD := FmD.binds (ps := ["self"]) fun _ _ _ _ _ _ us hl => match us, hl with | [_], _ => rfl
  have MmD : Meth K C "doubles" fmD := ⟨amD, imD, kmD⟩
  have FmK := fun_mk (st := sKee) lmK cmK kmK
  have bmK := FmK.binds (ps := ["self", "stamp"]) fun _ _ _ _ _ _ us hl => match us, hl with | [_, _], _ => rfl
  have MmK : Meth K C "_keeps" fmK := ⟨amK, imK, kmK⟩
  have FmW := fun_mk (st := sWho) lmW cmW kmW
  have bmW := FmW.binds (ps := ["self"]) fun _ _ _ _ _ _ us hl => match us, hl with | [_], _ => rfl
  have MmW : Meth K C "whole_sets" fmW := ⟨amW, imW, kmW⟩
  have TK : TxtKind mg := ⟨(PySem.W.mg_none_of X G z6), (PySem.W.mg_none_of X G z1), (PySem.W.mg_none_of X G z7), (PySem.W.mg_none_of X G z8), (PySem.W.mg_none_of X G z4), (PySem.W.mg_none_of X G z0), (PySem.W.mg_none_of X G z9), (PySem.W.mg_none_of X G z10)⟩
  have TL : TxtLen mg := ⟨(PySem.W.mg_none_of X G z0), (PySem.W.mg_none_of X G z1)⟩
  have TLi : TxtList mg fDr := ⟨(PySem.W.mg_none_of X G z2), (PySem.W.mg_none_of X G z3), (PySem.W.mg_none_of X G z4), (PySem.W.mg_of X G aDr)⟩
  have TI' : TxtIt mg := ⟨(PySem.W.mg_none_of X G z2), (PySem.W.mg_none_of X G z5)⟩
  have TSm : TxtStm mg fDr fPl := ⟨(PySem.W.mg_none_of X G z2), (PySem.W.mg_none_of X G z0), (PySem.W.mg_none_of X G z4), (PySem.W.mg_of X G aDr), (PySem.W.mg_of X G aPl)⟩
  have TG : TxtGap mg fHa := ⟨(PySem.W.mg_none_of X G z2), (PySem.W.mg_of X G aHa)⟩
  have TD : TxtDbl mg fAl := ⟨(PySem.W.mg_of X G aAl)⟩
  have TB : TxtBook mg fWi fLt fRi fSe fTu fYe := ⟨TK, (PySem.W.mg_of X G aTu), (PySem.W.mg_of X G aYe), (PySem.W.mg_of X G aWi), (PySem.W.mg_of X G aLt), (PySem.W.mg_of X G aRi), (PySem.W.mg_of X G aSe)⟩
  have hHg : ∃ t, mg "HINGED" = some (.int 0 t) := ⟨_, (PySem.W.mg_of X G hH)⟩
  have hWh : ∃ t, mg "WHOLE" = some (.int 1 t) := ⟨_, (PySem.W.mg_of X G hW)⟩
  have TS : TxtStp mg fWi fNu fSt fTu fIp := ⟨TK, (PySem.W.mg_of X G aWi), (PySem.W.mg_of X G aNu), (PySem.W.mg_of X G aSt), (PySem.W.mg_of X G aTu), (PySem.W.mg_of X G aIp), hHg, hWh⟩
  have TA : TxtAlb K mg C := ⟨⟨pg, hdi, po, sa⟩, nB, nN, nM, (PySem.W.mg_of X G aAlb)⟩
  have TC : TxtCal mg fLs fLt fSs fSt fNu := ⟨(PySem.W.mg_of X G aLs), (PySem.W.mg_of X G aLt), (PySem.W.mg_of X G aSs), (PySem.W.mg_of X G aSt), (PySem.W.mg_of X G aNu)⟩
  have TU : TxtU mg fSt fNu := ⟨(PySem.W.mg_of X G aSt), (PySem.W.mg_of X G aNu), (PySem.W.mg_none_of X G z3), (PySem.W.mg_none_of X G z2), (PySem.W.mg_none_of X G z0), hHg, hWh⟩
  have TN : TxtNs K mg c7 := ⟨xS, (PySem.W.mg_of X G e7), kS, bS, tS⟩
  have TW : TxtWord K mg c1 c2 c3 c4 c5 c6 c7 c8 := ⟨(PySem.W.mg_of X G e1), (PySem.W.mg_of X G e2), (PySem.W.mg_of X G e3), (PySem.W.mg_of X G e4), (PySem.W.mg_of X G e5), (PySem.W.mg_of X G e6), (PySem.W.mg_of X G e7), (PySem.W.mg_of X G e8), m1, m2, m3, m4, m5, m6, m7⟩
  refine ⟨PySem.W.fnOf "law" "law" (defArgs stLaw) (defBody stLaw) (defScope stLaw) .none kVLa dcLa pmLa anLa (.ref code) ctLa, [(code, PT)], spLaw K PT, ?_, ?_, ?_, fun s v => .of_eq rfl, ?_, ?_⟩
  · intro p hp
    rw [List.mem_singleton.mp hp]
    exact hPT
  · intro p hp
    rw [List.mem_singleton.mp hp]
    exact nPT
  · intro p hp
    rw [List.mem_singleton.mp hp]
    exact PySem.W.codeHd_of_K X cPT
  · intro H a ns hl _ hT hS
    exact ⟨a, ns, rfl, hS, hl, hT (code, PT) (List.mem_singleton.mpr rfl), fun _ => rfl⟩
  intro base _ _ hTB
  have G0 := ok_isw (P := l.prog) (w := w) (base := base) (mg := mg) FW0 TK
  have GWi := ok_wit FWi (PySem.W.mg_of X G aW0) kW0 G0 bW0
  have GTu := ok_tup (P := l.prog) (w := w) (base := base) (mg := mg) FTu TK
  have GLt := ok_let (P := l.prog) (w := w) (base := base) (mg := mg) FLt TK
  have GRi := ok_ris (P := l.prog) (w := w) (base := base) (mg := mg) FRi TK
  have GNu := ok_num FNu (PySem.W.mg_of X G aWi) (PySem.W.mg_none_of X G z0) kWi GWi bWi
  have GYe := ok_yea FYe (PySem.W.mg_of X G aWi) kWi GWi bWi
  have GSe := ok_set FSe TB kWi kLt GWi bWi GLt bLt kTu GTu bTu kYe GYe bYe
  have GLs := ok_lis FLs TB kRi kSe kTu GTu bTu GSe bSe GRi bRi
  have GIp := ok_ipl FIp TS kWi kNu kTu GWi bWi GTu bTu GNu bNu
  have GSt := ok_stp FSt TS kWi kIp kTu GWi bWi GTu bTu GIp bIp
  have GSs := ok_sts FSs TS kSt GSt bSt
  have GI := ok_init FmI TA TC kLs kLt kSs GLs bLs GLt bLt GSs bSs
  have GCh := ok_chk FmC TA TU kSt GSt bSt
  have GCo := ok_cof FmO TA MmC GCh bmC
  have GAo := ok_aof (P := l.prog) (w := w) (base := base) (mg := mg) FmA TA (PySem.W.mg_none_of X G z3)
  have GFi := ok_fil (P := l.prog) (w := w) (base := base) (mg := mg) FmF TA TU
  have GGa := ok_gaA FmG TA TU MmF kNu GFi bmF GNu bNu
  have GKe := ok_kee (P := l.prog) (w := w) (base := base) (mg := mg) FmK TA TU
  have GDa := ok_dbA FmD TA MmA MmK GAo bmA GKe bmK
  have GWh := ok_who FmW TA TU MmG GGa bmG
  have GGb := ok_gaB FmG TA TN TU kNu GNu bNu
  have GCe := ok_cell (P := l.prog) (w := w) (base := base) (mg := mg) FCe TL
  have GPe := ok_pen (P := l.prog) (w := w) (base := base) (mg := mg) FPe TL
  have GDr := ok_draw (P := l.prog) (w := w) (base := base) (mg := mg) FDr
  have GLi := ok_list FLi TLi kDr GDr bDr
  have GPl := ok_plc (P := l.prog) (w := w) (base := base) (mg := mg) FPl TI'
  have GNa := ok_nam FNa (PySem.W.mg_of X G aDr) kDr GDr bDr
  have GSm := ok_stm FSm TSm kDr kPl GDr bDr GPl bPl
  have GCn := ok_cnt (P := l.prog) (w := w) (base := base) (mg := mg) FCn
  have GAl := ok_all (P := l.prog) (w := w) (base := base) (mg := mg) FAl (PySem.W.mg_none_of X G z3)
  have GHa := ok_has (P := l.prog) (w := w) (base := base) (mg := mg) FHa
  have GGp := ok_gap FGp TG kHa GHa bHa
  have GDb := ok_dbl FDb TD kAl GAl bAl
  exact ok_law ⟨(PySem.W.mg_none_of X G z2), (PySem.W.mg_none_of X G z11), (PySem.W.mg_none_of X G z12), (PySem.W.mg_none_of X G z0), TA, ⟨mk, amI, imI, kc⟩, TW, (PySem.W.mg_of X G aCe), (PySem.W.mg_of X G aPe), (PySem.W.mg_of X G aDr), (PySem.W.mg_of X G aLi), (PySem.W.mg_of X G aPl), (PySem.W.mg_of X G aNa), (PySem.W.mg_of X G aSm), (PySem.W.mg_of X G aCn), (PySem.W.mg_of X G aAl), (PySem.W.mg_of X G aGp), (PySem.W.mg_of X G aDb), (PySem.W.mg_of X G aWo), kCe, kPe, kDr, kLi, kPl, kNa, kSm, kCn, kAl, kGp, kDb, kWo, MmG, MmD, MmW, MmA, MmO, GCe, GPe, GDr, GLi, GPl, GNa, GSm, GCn, GAl, GGp, GDb, GI, GGa, GGb, GDa, GWh, GAo, GCo, bCe, bPe, bDr, bLi, bPl, bNa, bSm, bCn, bAl, bGp, bDb, bmI, bmG, bmD, bmW, bmA, bmO⟩ FWo lLa cLa (hTB (code, PT) (List.mem_singleton.mpr rfl))
theorem walkT {l : PySem.W.OpenLaw} {q : Program} {loose : List Str} {XP : (Str → Option Value) → Heap → Prop} {YP : World → Heap → Prop} {d : DefRec} {K : Params → PySem.W.Frag} (hn : l.most = some 63) (hdf : d.params.defaults = [])
    (hY : ∀ (w : World) (h : Heap), YP w h → (K w.params).In h)
    (F : ∀ (w : World) (mg : Str → Option Value) (fa : Addr) (h : Heap), YP w h → (K w.params).In h → h.Ns mainGlobals mg → mg d.name = some (.ref fa) → LamX.LawAtS l w (K w.params) CX0 9 63 "_law_script" mg fa h) :
    PySem.W.WalkO q loose XP YP l.row.toRowW d [] (fun f vs => PySem.call f vs) :=
  LamX.walk_ofTs (n := 63) (k := 9) (x := "_law_script") (CX := fun _ => CX0) hn (by decide) hdf ⟨rfl, by decide, by decide⟩ hY F fun _ _ _ _ _ z => z
end Hm

set_option Elab.async false
open PySem PySem.W PyProof.Rows
set_option maxRecDepth 100000 in
set_option maxHeartbeats 0 in
theorem PySem.Challenge.cw_hingemount_k04_gaps_and_doubles_holds : PySem.Challenge.rw_hingemount_k04_gaps_and_doubles.Holds := by
  w_on; o_law; k_head; (case hw => w_witness2)
  k_fill
  refine Hm.walkT (l := PySem.Challenge.rw_hingemount_k04_gaps_and_doubles) rfl rfl (fun w h Y => PySem.W.km_in_of Y) ?F
  case F =>
    intro w mg fa h Y KX G hmg
    refine' Hm.all_mk KX G hmg ?aAlb ?aW0 ?lW0 ?cW0 ?kW0 ?aWi ?lWi ?cWi ?kWi ?aLt ?lLt ?cLt ?kLt ?aTu ?lTu ?cTu ?kTu ?aRi ?lRi ?cRi ?kRi ?aYe ?lYe ?cYe ?kYe ?aSe ?lSe ?cSe ?kSe ?aLs ?lLs ?cLs ?kLs ?aNu ?lNu ?cNu ?kNu ?aIp ?lIp ?cIp ?kIp ?aSt ?lSt ?cSt ?kSt ?aSs ?lSs ?cSs ?kSs ?aCe ?lCe ?cCe ?kCe ?aPe ?lPe ?cPe ?kPe ?aDr ?lDr ?cDr ?kDr ?aLi ?lLi ?cLi ?kLi ?aPl ?lPl ?cPl ?kPl ?aNa ?lNa ?cNa ?kNa ?aSm ?lSm ?cSm ?kSm ?aCn ?lCn ?cCn ?kCn ?aAl ?lAl ?cAl ?kAl ?aHa ?lHa ?cHa ?kHa ?aGp ?lGp ?cGp ?kGp ?aDb ?lDb ?cDb ?kDb ?aWo ?lWo ?cWo ?kWo ?aLa ?lLa ?cLa ?kLa ?amI ?imI ?lmI ?cmI ?kmI ?amC ?imC ?lmC ?cmC ?kmC ?amO ?imO ?lmO ?cmO ?kmO ?amA ?imA ?lmA ?cmA ?kmA ?amG ?imG ?lmG ?cmG ?kmG ?amF ?imF ?lmF ?cmF ?kmF ?amD ?imD ?lmD ?cmD ?kmD ?amK ?imK ?lmK ?cmK ?kmK ?amW ?imW ?lmW ?cmW ?kmW ?lTI ?pg ?hdi ?po ?sa ?mk ?kc ?nB ?nN ?nM ?hH ?hW ?e1 ?e2 ?e3 ?e4 ?e5 ?e6 ?e7 ?e8 ?xS ?kS ?bS ?tS ?m1 ?m2 ?m3 ?m4 ?m5 ?m6 ?m7 ?hPT ?nPT ?cPT ?z0 ?z1 ?z2 ?z3 ?z4 ?z5 ?z6 ?z7 ?z8 ?z9 ?z10 ?z11 ?z12
    (case aAlb => k_is)
    (case aW0 => k_is)
    (case lW0 => k_is)
    (case cW0 => k_is)
    (case kW0 => k_is)
    (case aWi => k_is)
    (case lWi => k_is)
    (case cWi => k_is)
    (case kWi => k_is)
    (case aLt => k_is)
    (case lLt => k_is)
    (case cLt => k_is)
    (case kLt => k_is)
    (case aTu => k_is)
    (case lTu => k_is)
    (case cTu => k_is)
    (case kTu => k_is)
    (case aRi => k_is)
    (case lRi => k_is)
    (case cRi => k_is)
    (case kRi => k_is)
    (case aYe => k_is)
    (case lYe => k_is)
    (case cYe => k_is)
    (case kYe => k_is)
    (case aSe => k_is)
    (case lSe => k_is)
    (case cSe => k_is)
    (case kSe => k_is)
    (case aLs => k_is)
    (case lLs => k_is)
    (case cLs => k_is)
    (case kLs => k_is)
    (case aNu => k_is)
    (case lNu => k_is)
    (case cNu => k_is)
    (case kNu => k_is)
    (case aIp => k_is)
    (case lIp => k_is)
    (case cIp => k_is)
    (case kIp => k_is)
    (case aSt => k_is)
    (case lSt => k_is)
    (case cSt => k_is)
    (case kSt => k_is)
    (case aSs => k_is)
    (case lSs => k_is)
    (case cSs => k_is)
    (case kSs => k_is)
    (case aCe => k_is)
    (case lCe => k_is)
    (case cCe => k_is)
    (case kCe => k_is)
    (case aPe => k_is)
    (case lPe => k_is)
    (case cPe => k_is)
    (case kPe => k_is)
    (case aDr => k_is)
    (case lDr => k_is)
    (case cDr => k_is)
    (case kDr => k_is)
    (case aLi => k_is)
    (case lLi => k_is)
    (case cLi => k_is)
    (case kLi => k_is)
    (case aPl => k_is)
    (case lPl => k_is)
    (case cPl => k_is)
    (case kPl => k_is)
    (case aNa => k_is)
    (case lNa => k_is)
    (case cNa => k_is)
    (case kNa => k_is)
    (case aSm => k_is)
    (case lSm => k_is)
    (case cSm => k_is)
    (case kSm => k_is)
    (case aCn => k_is)
    (case lCn => k_is)
    (case cCn => k_is)
    (case kCn => k_is)
    (case aAl => k_is)
    (case lAl => k_is)
    (case cAl => k_is)
    (case kAl => k_is)
    (case aHa => k_is)
    (case lHa => k_is)
    (case cHa => k_is)
    (case kHa => k_is)
    (case aGp => k_is)
    (case lGp => k_is)
    (case cGp => k_is)
    (case kGp => k_is)
    (case aDb => k_is)
    (case lDb => k_is)
    (case cDb => k_is)
    (case kDb => k_is)
    (case aWo => k_is)
    (case lWo => k_is)
    (case cWo => k_is)
    (case kWo => k_is)
    (case aLa => k_is)
    (case lLa => k_is)
    (case cLa => k_is)
    (case kLa => k_is)
    (case amI => k_is)
    (case imI => k_is)
    (case lmI => k_is)
    (case cmI => k_is)
    (case kmI => k_is)
    (case amC => k_is)
    (case imC => k_is)
    (case lmC => k_is)
    (case cmC => k_is)
    (case kmC => k_is)
    (case amO => k_is)
    (case imO => k_is)
    (case lmO => k_is)
    (case cmO => k_is)
    (case kmO => k_is)
    (case amA => k_is)
    (case imA => k_is)
    (case lmA => k_is)
    (case cmA => k_is)
    (case kmA => k_is)
    (case amG => k_is)
    (case imG => k_is)
    (case lmG => k_is)
    (case cmG => k_is)
    (case kmG => k_is)
    (case amF => k_is)
    (case imF => k_is)
    (case lmF => k_is)
    (case cmF => k_is)
    (case kmF => k_is)
    (case amD => k_is)
    (case imD => k_is)
    (case lmD => k_is)
    (case cmD => k_is)
    (case kmD => k_is)
    (case amK => k_is)
    (case imK => k_is)
    (case lmK => k_is)
    (case cmK => k_is)
    (case kmK => k_is)
    (case amW => k_is)
    (case imW => k_is)
    (case lmW => k_is)
    (case cmW => k_is)
    (case kmW => k_is)
    (case lTI => k_is)
    (case pg => k_is)
    (case hdi => k_is)
    (case po => k_is)
    (case sa => k_is)
    (case mk => k_is)
    (case kc => k_is)
    (case nB => k_is)
    (case nN => k_is)
    (case nM => k_is)
    (case hH => k_is)
    (case hW => k_is)
    (case e1 => k_is)
    (case e2 => k_is)
    (case e3 => k_is)
    (case e4 => k_is)
    (case e5 => k_is)
    (case e6 => k_is)
    (case e7 => k_is)
    (case e8 => k_is)
    (case xS => kernel_rfl)
    (case kS => k_is)
    (case bS => k_is)
    (case tS => k_is)
    (case m1 => kernel_rfl)
    (case m2 => kernel_rfl)
    (case m3 => kernel_rfl)
    (case m4 => kernel_rfl)
    (case m5 => kernel_rfl)
    (case m6 => kernel_rfl)
    (case m7 => kernel_rfl)
    (case hPT => exact PySem.W.km_tabs_of Y _ (List.mem_singleton.mpr rfl))
    (case nPT => kernel_rfl)
    (case cPT => kernel_rfl)
    (case z0 => k_is)
    (case z1 => k_is)
    (case z2 => k_is)
    (case z3 => k_is)
    (case z4 => k_is)
    (case z5 => k_is)
    (case z6 => k_is)
    (case z7 => k_is)
    (case z8 => k_is)
    (case z9 => k_is)
    (case z10 => k_is)
    (case z11 => k_is)
    (case z12 => k_is)

