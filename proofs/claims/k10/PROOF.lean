import PyProof.Rows.All
import Wide.All
import OpenK.AllK
import Wide.FinOn
import HandS.ForMost
import HandS.Conv
import HandS.DictTup
import HandS.TupLen
import HandS.Walk
import KE.SortData
import KE.DataCmp
import KE.GoesMore
import KE.GoesEnum
import HandS.IsInst
import HandS.Flow
import HandS.Defaults
import HandS.Zip
import HandS.TupAny
import HandS.Style
import HandS.OwnEq
import HandS.DictEq
import HandS.SlotsOwn
import PyProof.InstNe
import PyProof.DictMoreH
import HandS.TryOnly
import PySem.Challenge.RW_hingemount_k10_whole_nothing_is_lost
set_option Elab.async false
set_option maxRecDepth 100000
set_option maxHeartbeats 4000000
namespace HmS
open PySem PySem.Spec PyProof.Rows L2
/-! ### keys as data -/
def kD : Key → PyData
  | .inl i => .int i
  | .inr x => .str x
def keyD (k : List Key) : PyData := .tuple (k.map kD)
section
variable {X : Cx} {pins : List (Addr × Obj)} {σ : L2.St} {H : Hp} {s : Shared}
theorem key_atoms : ∀ {k : List Key} {us : List Value}, Vals (k.map kV) us → ReadsAll s.heap us (k.map kD) []
  | [], _, .nil => .nil
  | x :: k, _, .cons (b := u) r t => by
    have ih := key_atoms (k := k) t
    cases x with
    | inl i =>
      obtain ⟨tk, rfl⟩ := r
      exact ReadsAll.cons (Reads.int i tk) ih
    | inr z =>
      obtain ⟨tk, rfl⟩ := r
      exact ReadsAll.cons (Reads.str z tk) ih
theorem key_reads (I : Inv X pins σ H s) {b : Addr} {k : List Key} (e : H b = some (.tup (k.map kV))) : Reads s.heap (.ref b) (keyD k) [] := by
  obtain ⟨_, its, rv, o, ho, hc, n, hd⟩ := (show ObjOk X.prog X.w H s.heap b (.tup (k.map kV)) from I.hok b _ e)
  exact Reads.tuple ho hc hd (by simpa using key_atoms rv)
theorem each_of {α β : Type} {R : α → β → Prop} (f : β → α) : ∀ (zs : List β), (∀ z ∈ zs, R (f z) z) → PySem.W.EachIs R (zs.map f) zs
  | [], _ => .nil
  | z :: zs, h => .cons (h z List.mem_cons_self) (each_of f zs fun y hy => h y (List.mem_cons_of_mem _ hy))
theorem each_eq {α β : Type} {f : β → α} : ∀ {as : List α} {zs : List β}, PySem.W.EachIs (fun v z => v = f z) as zs → as = zs.map f
  | _, _, .nil => rfl
  | _, _, .cons h t => by rw [List.map_cons, ← each_eq t, h]
/-- sorted(d), d a dict with tuple keys: the key tuples, rising -/
def rSortDT : List V → Hp → VK → Prop := fun xs H Q => ∃ (a : Addr) (kvs : List (List Key × V)), xs = [.ref a] ∧ Rd H a (.dT kvs) ∧ kvs.length ≤ 1000 ∧ PySem.W.AllAlike (kvs.map fun p => keyD p.1) ∧ (∀ p ∈ kvs, p.1 ≠ []) ∧
  ∀ (p : Addr) (bs : List Addr), H p = none → IsKeys H kvs bs → (kvs.map (·.1)).Nodup →
    Q (.ref p) (upd H p (.lst (((bs.zip kvs).mergeSort (PySem.W.dataLe false fun z => keyD z.2.1)).map fun z => V.ref z.1)))
theorem keyD_depth (k : List Key) : (keyD k).depth ≤ 1 := by
  have h : ∀ k : List Key, PyData.depthAll (k.map kD) = 0 := by
    intro k
    induction k with
    | nil => simp [PyData.depthAll]
    | cons x k ih =>
      cases x with
      | inl i => simp [kD, PyData.depthAll, PyData.depth, ih]
      | inr z => simp [kD, PyData.depthAll, PyData.depth, ih]
  unfold keyD
  rw [PyData.depth, h]
  exact Nat.le_refl _
theorem cr_sortDT (hc : X.calm = true) (hu : X.A.units + 64 < cLine) : CallR X (.builtin "sorted") rSortDT := by
  intro pins s σ H xs us Q I r h
  obtain ⟨d, kvs, rfl, hd, hz, hal, hne, q⟩ := h
  obtain ⟨u, rfl, rx⟩ := r.one
  cases rx
  obtain ⟨z, hs, ks, pr, o, es, ep, ho, hx, hdt, he, hn⟩ := (show ObjOk X.prog X.w H s.heap d (.dT kvs) from hd.ok I.hok)
  have l1 : es.size = ks.length := size_of_entries he
  have l2 : kvs.length = ks.length := Paired.length pr
  have hsl := sizeLine_eq
  refine Calls.call_function_entry PyProof.Rows.kind_sorted PyProof.Rows.plain_sorted PyProof.Rows.entry_sorted (PyProof.Rows.args_sorted1 _) ?_
  unfold Builtin.«sorted»
  refine wpAny_bind (m := checkCount "sorted" 1 1 _) (wpAny_pure ?_)
  refine wpAny_bind (PySem.W.kdu_collect (A := X.A.in1) (kdl_raw hs hx hdt) (I.ok.hd hc) ho (by omega) fun h' tk acc kp it => ?_)
  have ea : acc.toList = (ks.map fun x => x.2.1).map Value.ref := by
    have hl : acc.toList.length = ks.length := by
      rw [Array.length_toList, it.1]
      exact l1
    apply List.ext_getElem?
    intro j
    rw [List.getElem?_map, List.getElem?_map]
    cases hj : acc.toList[j]? with
    | none =>
      have h1 := List.getElem?_eq_none_iff.mp hj
      rw [List.getElem?_eq_none (by omega)]
      rfl
    | some v =>
      obtain ⟨en, hen, hv⟩ := it.2 j v (by rw [← Array.getElem?_toList]; exact hj)
      have qe := entry_at he j
      rw [hen] at qe
      cases hb : ks[j]? with
      | none =>
        rw [hb] at qe
        exact nomatch (show some en = none from qe)
      | some b =>
        rw [hb] at qe
        have e2 : en = entryOfKey (tupleKind (mixKind X.prog X.w)) b := Option.some.inj qe
        rw [hv, e2]
        rfl
  generalize hbs : ks.map (fun x => x.2.1) = bs at ea
  have hik : IsKeys H kvs bs := by
    rw [← hbs]
    exact isKeys_of pr
  have lb : bs.length = kvs.length := by rw [← hbs, List.length_map, l2]
  have nk : (kvs.map (·.1)).Nodup := by
    have e : ∀ {kvs : List (List Key × V)} {ks : List (List Key × Addr × Value)}, Paired (fun (p : List Key × V) (q : List Key × Addr × Value) => p.1 = q.1 ∧ H q.2.1 = some (.tup (p.1.map kV)) ∧ RelV p.2 q.2.2) kvs ks → kvs.map (·.1) = ks.map (·.1) := by
      intro kvs ks r
      induction r with
      | nil => rfl
      | cons h t ih => rw [List.map_cons, List.map_cons, ih, h.1]
    rw [e pr]
    exact hn
  have hz2 : ((bs.zip kvs).map fun z => Value.ref z.1) = acc.toList := by
    rw [ea, show (fun z : Addr × List Key × V => Value.ref z.1) = Value.ref ∘ Prod.fst from rfl, ← List.map_map, List.map_fst_zip (by omega)]
  have I1 : Inv X pins σ H { s with heap := h', toks := tk } := I.kept kp
  have lz : (bs.zip kvs).length = kvs.length := by rw [List.length_zip]; omega
  refine wpAny_bind (wpAny_newList ?_ (by rw [← hz2, List.length_map, lz]; omega))
  have hoL : (h'.push (seqObj "list" acc.toList.toArray 0)).get? h'.objs.size = some (seqObj "list" acc.toList.toArray 0) := Heap.get?_push_size _ rfl
  show wpAny (model X.prog X.w) X.A.in1 _ _ _ { s with heap := h'.push (seqObj "list" acc.toList.toArray 0), toks := tk }
  have inz : ∀ z ∈ bs.zip kvs, H z.1 = some (.tup (z.2.1.map kV)) := by
    have e : ∀ {kvs : List (List Key × V)} {bs : List Addr}, IsKeys H kvs bs → ∀ z ∈ bs.zip kvs, H z.1 = some (.tup (z.2.1.map kV)) := by
      intro kvs bs r
      unfold IsKeys at r
      induction r with
      | nil => intro z hz; simp at hz
      | cons h t ih =>
        intro z hz
        rw [List.zip_cons_cons] at hz
        rcases List.mem_cons.mp hz with rfl | hz
        · exact h
        · exact ih z hz
    exact e hik
  have inz2 : ∀ z ∈ bs.zip kvs, z.2 ∈ kvs := fun z hz => (List.of_mem_zip hz).2
  rw [← hz2]
  rw [← hz2] at hoL
  refine wpAny_bind (wpAny_holding (PySem.W.list_sort_data (bs := bs.zip kvs) (enc := fun z => keyD z.2.1) (R := fun v z => v = Value.ref z.1) (s := { s with heap := h'.push (seqObj "list" ((bs.zip kvs).map fun z => Value.ref z.1).toArray 0), toks := tk }) hoL
    (each_of _ _ fun _ _ => rfl) (each_of _ _ fun z hz => ⟨[], PyProof.Rows.Reads.keeps (fun b o e => Heap.get?_push_of_some _ e) (key_reads I1 (inz z hz)), by simp⟩) ?_ ?_ (by rw [lz]; omega) (fun z _ => ?_) fun out ol eo => ?_))
  · intro x hx y hy
    obtain ⟨z1, m1, rfl⟩ := List.mem_map.mp hx
    obtain ⟨z2, m2, rfl⟩ := List.mem_map.mp hy
    exact hal _ (List.mem_map.mpr ⟨z1.2, inz2 _ m1, rfl⟩) _ (List.mem_map.mpr ⟨z2.2, inz2 _ m2, rfl⟩)
  · refine .inl fun x hx => ?_
    obtain ⟨z, m, rfl⟩ := List.mem_map.mp hx
    have nz := hne _ (inz2 _ m)
    cases e : z.2.1 with
    | nil => exact absurd e nz
    | cons k r => exact ⟨kD k, r.map kD, by simp [keyD]⟩
  · have := keyD_depth z.2.1
    show X.A.units + 1 + 1 + (keyD z.2.1).depth < cLine
    omega
  · have eout := each_eq (f := fun z : Addr × List Key × V => Value.ref z.1) eo
    obtain ⟨e', he'⟩ := PyProof.Rows.sortedHeap_at (vs := (bs.zip kvs).map fun z => Value.ref z.1) (out := out.toArray) hoL
    have hperm := List.mergeSort_perm (bs.zip kvs) (PySem.W.dataLe false fun z => keyD z.2.1)
    have hlen : (((bs.zip kvs).mergeSort (PySem.W.dataLe false fun z => keyD z.2.1)).map fun z => V.ref z.1).length ≤ sizeLine := by
      rw [List.length_map, hperm.length_eq, lz]
      omega
    have rv : Vals (((bs.zip kvs).mergeSort (PySem.W.dataLe false fun z => keyD z.2.1)).map fun z => V.ref z.1) out := by
      rw [eout]
      have e : ∀ l : List (Addr × List Key × V), Vals (l.map fun z => V.ref z.1) (l.map fun z => Value.ref z.1) := by
        intro l
        induction l with
        | nil => exact .nil
        | cons z l ih => exact .cons rfl ih
      exact e _
    refine wpAny_pure ⟨_, rfl, .ref h'.objs.size, upd H h'.objs.size (.lst (((bs.zip kvs).mergeSort (PySem.W.dataLe false fun z => keyD z.2.1)).map fun z => V.ref z.1)), I1.laid (t' := tk) (fun b u e => ?_) (Nat.le_refl _)
      (show ObjOk X.prog X.w _ _ _ (.lst _) from ⟨hlen, out, e', rv, by simpa using he'⟩), rfl, q _ bs (I1.hok.fresh (Nat.le_refl _)) hik nk⟩
    have hb : b < h'.objs.size := Heap.lt_size e
    rw [PyProof.Rows.sortedHeap_old (Nat.ne_of_lt hb) (by rw [size_push']; exact Nat.lt_succ_of_lt hb)]
    exact Heap.get?_push_of_some _ e
/-- sorted(d.items()), d a dict with tuple keys and ints: the pairs, rising -/
def encC (c : List Key × Int) : PyData := .tuple [keyD c.1, .int c.2]
def sortC (cs : List (List Key × Int)) : List (List Key × Int) := cs.mergeSort (PySem.W.dataLe false encC)
def rSortIC : List V → Hp → VK → Prop := fun xs H Q => ∃ (v a : Addr) (cs : List (List Key × Int)), xs = [.ref v] ∧ H v = some (DX.itemsO v a) ∧ H a = some (.dT (cs.map fun c => (c.1, V.int c.2))) ∧ cs.length ≤ 1000 ∧
  PySem.W.AllAlike (cs.map encC) ∧ (∀ c ∈ cs, c.1 ≠ []) ∧ ∀ (l : Addr) (H' : Hp) (as : List Addr), Same H H' → H l = none → (cs.map (·.1)).Nodup → H' l = some (.lst (as.map V.ref)) →
    Paired (fun b (c : List Key × Int) => ∃ q, H' b = some (.tup [.ref q, .int c.2]) ∧ H' q = some (.tup (c.1.map kV))) as (sortC cs) → Q (.ref l) H'
theorem encC_depth (c : List Key × Int) : (encC c).depth ≤ 2 := by
  have h := keyD_depth c.1
  unfold encC
  simp only [PyData.depth, PyData.depthAll]
  omega
theorem paired_map {α β γ : Type} {F : γ → β → Prop} (f : α → γ) (g : α → β) : ∀ (zs : List α), (∀ z ∈ zs, F (f z) (g z)) → Paired F (zs.map f) (zs.map g)
  | [], _ => .nil
  | z :: zs, h => .cons (h z List.mem_cons_self) (paired_map f g zs fun y hy => h y (List.mem_cons_of_mem _ hy))
theorem cr_sortIC (hc : X.calm = true) (hu : X.A.units + 64 < cLine) : CallR X (.builtin "sorted") rSortIC := by
  intro pins s σ H xs us Q I r h
  obtain ⟨v, a, cs, rfl, hv, ha, hz, hal, hne, q⟩ := h
  obtain rfl := Vals.ref1 r
  have hsl := sizeLine_eq
  have view : s.heap.IsItemsView v a := (show ObjOk X.prog X.w H s.heap v (DX.itemsO v a) from I.hok v _ hv).1
  obtain ⟨_, hd, ks, rel, o, es, ep, ho, hx, hdat, hes, _, hn⟩ := dt_of I.hok ha
  have l1 : cs.length = ks.length := by
    have e := Paired.length rel
    rw [List.length_map] at e
    exact e
  have l2 : es.size = ks.length := size_of_entries hes
  have nk : (cs.map (·.1)).Nodup := by
    have e : ∀ {cs : List (List Key × Int)} {ks : List (List Key × Addr × Value)}, Paired (fun (p : List Key × V) (q : List Key × Addr × Value) => p.1 = q.1 ∧ H q.2.1 = some (.tup (p.1.map kV)) ∧ RelV p.2 q.2.2) (cs.map fun c => (c.1, V.int c.2)) ks → cs.map (·.1) = ks.map (·.1) := by
      intro cs
      induction cs with
      | nil => intro ks r; cases r; rfl
      | cons c cs ih =>
        intro ks r
        cases r with
        | cons h t => rw [List.map_cons, List.map_cons, ih t, h.1]
    rw [e rel]
    exact hn
  refine DT.sortedI (es := es) (ep := ep) (I.ok.hd hc) view ⟨o, ho, hx, hdat⟩ (by omega) fun h' tk as hk hlt hl hG => ?_
  have la : as.length = cs.length := by omega
  have nd : as.Nodup := List.Pairwise.imp (fun h => Nat.ne_of_lt h) hG.rise
  -- the new pairs, with what they hold
  let bs : List (Addr × Addr × (List Key × Int)) := as.zip ((ks.map fun x => x.2.1).zip cs)
  have lz : ((ks.map fun x => x.2.1).zip cs).length = cs.length := by rw [List.length_zip, List.length_map]; omega
  have lb : bs.length = cs.length := by
    show (as.zip _).length = _
    rw [List.length_zip]
    omega
  have bsA : bs.map (·.1) = as := List.map_fst_zip (by omega)
  have bsC : bs.map (·.2.2) = cs := by
    have e : bs.map (·.2.2) = (bs.map (·.2)).map (·.2) := by rw [List.map_map]; rfl
    rw [e, show bs.map (·.2) = (ks.map fun x => x.2.1).zip cs from List.map_snd_zip (by omega), List.map_snd_zip (by rw [List.length_map]; omega)]
  have I1 : Inv X pins σ H { s with heap := h', toks := tk } := I.kept hk
  have facts : ∀ z ∈ bs, H z.2.1 = some (.tup (z.2.2.1.map kV)) ∧ ∃ t, h'.get? z.1 = some { cls := .type "tuple", data := .seq #[Value.ref z.2.1, Value.int z.2.2.2 t] } := by
    intro z hzm
    obtain ⟨j, hj⟩ := List.mem_iff_getElem?.mp hzm
    obtain ⟨j1, j2⟩ := List.getElem?_zip_eq_some.mp hj
    obtain ⟨j3, j4⟩ := List.getElem?_zip_eq_some.mp j2
    obtain ⟨en, he, hg⟩ := hG.pairs j z.1 j1
    rw [entry_at hes j] at he
    rw [List.getElem?_map] at j3
    cases hxj : ks[j]? with
    | none =>
      rw [hxj] at j3
      cases j3
    | some x =>
      rw [hxj] at he j3
      have een : entryOfKey (tupleKind (mixKind X.prog X.w)) x = en := Option.some.inj he
      have ex : x.2.1 = z.2.1 := Option.some.inj j3
      obtain ⟨e0, he0, _, r2, r3⟩ := DX.pget rel hxj
      rw [List.getElem?_map, j4] at he0
      have ee : (z.2.2.1, V.int z.2.2.2) = e0 := Option.some.inj he0
      rw [← ee] at r2 r3
      obtain ⟨t, r3'⟩ := r3
      refine ⟨by rw [← ex]; exact r2, t, ?_⟩
      rw [hg, ← een, ← ex, ← r3']
      rfl
  have hob : (h'.push (seqObj "list" (as.map Value.ref).toArray 0)).get? h'.objs.size = some (seqObj "list" (as.map Value.ref).toArray 0) := Heap.get?_push_size _ rfl
  have eAs : as.map Value.ref = bs.map fun z => Value.ref z.1 := by rw [← bsA, List.map_map]; rfl
  show wpAny (model X.prog X.w) X.A.in1 (call (.builtin "list.sort") [.ref h'.objs.size]) _ _ { s with heap := h'.push (seqObj "list" (as.map Value.ref).toArray 0), toks := tk }
  rw [eAs] at hob ⊢
  have kb : ∀ b o, h'.get? b = some o → (h'.push (seqObj "list" (bs.map fun z => Value.ref z.1).toArray 0)).get? b = some o := fun b o e => Heap.get?_push_of_some _ e
  refine PySem.W.list_sort_data (bs := bs) (enc := fun z => encC z.2.2) (R := fun v z => v = Value.ref z.1) (s := { s with heap := h'.push (seqObj "list" (bs.map fun z => Value.ref z.1).toArray 0), toks := tk }) hob
    (each_of _ _ fun _ _ => rfl) (each_of _ _ fun z hzm => ?_) ?_ (.inl fun x hx => ?_) (by omega) (fun z _ => ?_) fun out ol eo => ?_
  · obtain ⟨f1, t, f2⟩ := facts z hzm
    refine ⟨[], PyProof.Rows.Reads.keeps kb (Reads.tuple (as := []) f2 rfl rfl ?_), by simp⟩
    exact ReadsAll.cons (as := []) (bs := []) (key_reads I1 f1) (ReadsAll.cons (as := []) (bs := []) (Reads.int _ t) ReadsAll.nil)
  · intro x hx y hy
    have e : bs.map (fun z => encC z.2.2) = cs.map encC := by rw [← bsC, List.map_map]; rfl
    rw [e] at hx hy
    exact hal x hx y hy
  · obtain ⟨z, _, rfl⟩ := List.mem_map.mp hx
    exact ⟨_, _, rfl⟩
  · have := encC_depth z.2.2
    show X.A.units + 1 + 1 + (encC z.2.2).depth < cLine
    omega
  · have eout := each_eq (f := fun z : Addr × Addr × (List Key × Int) => Value.ref z.1) eo
    obtain ⟨e', he'⟩ := PyProof.Rows.sortedHeap_at (vs := bs.map fun z => Value.ref z.1) (out := out.toArray) hob
    generalize hzs : bs.mergeSort (PySem.W.dataLe false fun z => encC z.2.2) = zs at eout
    have hperm : zs.Perm bs := by rw [← hzs]; exact List.mergeSort_perm _ _
    have srt : zs.map (·.2.2) = sortC cs := by
      rw [← hzs, PySem.W.sort_maps (r := PySem.W.dataLe false fun z : Addr × Addr × (List Key × Int) => encC z.2.2) (s := PySem.W.dataLe false encC) (fun z : Addr × Addr × (List Key × Int) => z.2.2) (fun a _ b _ => rfl), bsC]
      rfl
    have hlen : ((zs.map (·.1)).map V.ref).length ≤ sizeLine := by
      rw [List.length_map, List.length_map, hperm.length_eq]
      omega
    have ne0 : ∀ b o, h'.get? b = some o → b ≠ h'.objs.size := fun b o e => Nat.ne_of_lt (Heap.lt_size e)
    have kF : ∀ b o, h'.get? b = some o → (sortedHeap (h'.push (seqObj "list" (bs.map fun z => Value.ref z.1).toArray 0)) h'.objs.size (bs.map fun z => Value.ref z.1) out.toArray).get? b = some o := fun b o e => by
      rw [PyProof.Rows.sortedHeap_old (ne0 b o e) (by rw [size_push']; exact Nat.lt_succ_of_lt (Heap.lt_size e))]
      exact kb b o e
    have rv : Vals ((zs.map (·.1)).map V.ref) out := by
      rw [eout]
      have e : ∀ l : List (Addr × Addr × (List Key × Int)), Vals ((l.map (·.1)).map V.ref) (l.map fun z => Value.ref z.1) := by
        intro l
        induction l with
        | nil => exact .nil
        | cons z l ih => exact .cons rfl ih
      exact e _
    have J1 : Inv X pins σ H { s with heap := sortedHeap (h'.push (seqObj "list" (bs.map fun z => Value.ref z.1).toArray 0)) h'.objs.size (bs.map fun z => Value.ref z.1) out.toArray, toks := tk } := I1.kept (t' := tk) kF
    have hn0 : H h'.objs.size = none := I1.hok.fresh (Nat.le_refl _)
    have J2 : Inv X pins σ (upd H h'.objs.size (.lst ((zs.map (·.1)).map V.ref))) { s with heap := sortedHeap (h'.push (seqObj "list" (bs.map fun z => Value.ref z.1).toArray 0)) h'.objs.size (bs.map fun z => Value.ref z.1) out.toArray, toks := tk } :=
      J1.take (t' := tk) (fun b ob _ e => e) (I.fpOk (Nat.le_of_lt hlt) hn0) ⟨hlen, out, e', rv, by simpa using he'⟩
    obtain ⟨H2, J3, g, qt⟩ := DX.takeT (P := fun b vs => ∃ z ∈ bs, z.1 = b ∧ vs = [V.ref z.2.1, V.int z.2.2.2]) I as _ J2 nd fun b hb => by
      rw [← bsA] at hb
      obtain ⟨z, hzm, rfl⟩ := List.mem_map.mp hb
      obtain ⟨f1, t, f2⟩ := facts z hzm
      have hbl : s.heap.objs.size ≤ z.1 := Nat.le_of_lt (hG.above z.1 (by rw [← bsA]; exact List.mem_map.mpr ⟨z, hzm, rfl⟩))
      refine ⟨hbl, ?_, _, ⟨z, hzm, rfl, rfl⟩, fun H3 => ⟨(by show 2 ≤ sizeLine; decide), [Value.ref z.2.1, Value.int z.2.2.2 t], .cons rfl (.cons ⟨t, rfl⟩ .nil), ⟨_, kF _ _ f2, rfl, 0, rfl⟩⟩⟩
      rw [upd_ne (ne0 _ _ f2)]
      exact I.hok.fresh hbl
    have gr : Same H H2 := fun b o e => g b o (by rw [upd_ne (ne_of_none e hn0)]; exact e)
    refine ⟨.ref h'.objs.size, H2, J3, rfl, q h'.objs.size H2 (zs.map (·.1)) gr hn0 nk (g _ _ upd_same) ?_⟩
    rw [← srt]
    refine paired_map (F := fun b (c : List Key × Int) => ∃ q, H2 b = some (.tup [.ref q, .int c.2]) ∧ H2 q = some (.tup (c.1.map kV))) (fun z : Addr × Addr × (List Key × Int) => z.1) (fun z => z.2.2) zs fun z hzm => ?_
    have hzb := hperm.mem_iff.mp hzm
    obtain ⟨vs, ⟨z2, hz2, e1, e2⟩, hH⟩ := qt z.1 (by rw [← bsA]; exact List.mem_map.mpr ⟨z, hzb, rfl⟩)
    have ez : z2 = z := by
      obtain ⟨i, hi⟩ := List.mem_iff_getElem?.mp hz2
      obtain ⟨j, hj⟩ := List.mem_iff_getElem?.mp hzb
      have i1 : as[i]? = some z.1 := by rw [← bsA, List.getElem?_map, hi, ← e1]; rfl
      have j1 : as[j]? = some z.1 := by rw [← bsA, List.getElem?_map, hj]; rfl
      have eij : i = j := (List.getElem?_inj (List.getElem?_eq_some_iff.mp i1).1 nd).mp (i1.trans j1.symm)
      rw [eij, hj] at hi
      exact (Option.some.inj hi).symm
    rw [ez] at e2
    rw [e2] at hH
    exact ⟨z.2.1, hH, gr _ _ (facts z hzb).1⟩
end
end HmS

set_option Elab.async false
set_option maxRecDepth 100000
set_option maxHeartbeats 4000000
namespace HmS
open PySem PySem.Spec PyProof.Rows L2
open AutoSeq1 (wpAny_loadPart')
/-! ### enumerate(t), t a tuple -/
abbrev tupIt (l : Addr) : Obj := { cls := .type "tuple_iterator", data := .fields #[.ref l, .int 0 0] }
abbrev enumOf (it : Addr) : Obj := { cls := .type "enumerate", data := .fields #[.none, .bool false, .ref it, rawInt 0, .none, .none] }
theorem meets_enumT (l : Addr) (items : Array Value) : Meets (Builtin.«enumerate.__new__» ⟨[.type "enumerate", .ref l], []⟩)
    (fun _ R s => s.heap.IsTuple l items ∧ R (.ok (.ret (.ref (s.heap.push (tupIt l)).objs.size))) { s with heap := (s.heap.push (tupIt l)).push (enumOf s.heap.objs.size) }) :=
  .of_wp fun prog w A R s h => by
    obtain ⟨hp, g, d, tk, os⟩ := s
    obtain ⟨h1, h⟩ := h
    have sub := sub_enumerate
    have q1 : ∀ {A' : Around} {E : Value → Shared → Prop} {Q : Value → Shared → Prop}, Q (.ref hp.objs.size) ⟨hp.push (tupIt l), g, d, tk, os⟩ → wpAny (model prog w) A' (pyIter (.ref l)) Q E ⟨hp, g, d, tk, os⟩ :=
      fun q => (begins_tuple l items).iter prog w _ _ ⟨hp, g, d, tk, os⟩ _ h1 q
    wp_walk using q1
    refine wpAny_stack_any fun st => wpAny_pure ?_
    split
    · rename_i c _ _ _ _ _
      cases (c == Value.type "enumerate") <;> (wp_walk using q1; exact ⟨_, rfl, h⟩)
    · wp_walk using q1
      exact ⟨_, rfl, h⟩
theorem call_enumT {prog : Program} {w : World} {A : Around} {E : Value → Shared → Prop} {s : Shared} {l : Addr} {items : Array Value} {Q : Value → Shared → Prop} (hL : s.heap.IsTuple l items)
    (h : ∀ h', IsEnum h' (s.heap.objs.size + 1) s.heap.objs.size 0 .none → h'.IsTupleIter s.heap.objs.size l 0 → (∀ b o, s.heap.get? b = some o → h'.get? b = some o) → Q (.ref (s.heap.objs.size + 1)) { s with heap := h' }) :
    wpAny (model prog w) A (call (.type "enumerate") [.ref l]) Q E s := by
  refine callType_new F.called_enumerate (by decide) (F.typeCall_enumerate_1 _) (F.newCall_enumerate_1 _) (fun obj => F.args_object_init_2 obj _) F.entry_enumerate_new (meets_enumT l items) ⟨hL, ?_⟩
  have hz : (s.heap.push (tupIt l)).objs.size = s.heap.objs.size + 1 := Heap.size_push ..
  show _ ∧ _
  rw [hz]
  have he : ((s.heap.push (tupIt l)).push (enumOf s.heap.objs.size)).get? (s.heap.objs.size + 1) = some (enumOf s.heap.objs.size) := by
    rw [← hz]
    exact Heap.get?_push_size _ rfl
  exact ⟨⟨_, he, rfl⟩, h _ he ⟨_, Heap.get?_push_of_some _ (Heap.get?_push_size _ rfl), rfl, rfl⟩ fun b o x => Heap.get?_push_of_some _ (Heap.get?_push_of_some _ x)⟩
/-- the tuple at a, each item in a new pair with its place -/
def IteT (K : PySem.W.Frag) (a : Addr) : It :=
  ⟨fun i H => ∃ (xs : List V) (x : V), SqT K H a xs ∧ xs[i]? = some x, fun i H v H' => ∃ T x, v = .ref T ∧ H T = none ∧ H' = upd H T (.tup [.int (i : Nat), x]) ∧ ∀ xs, SqT K H a xs → xs[i]? = some x,
    fun i H => ∃ xs : List V, SqT K H a xs ∧ xs.length ≤ i⟩
theorem tup_ne {h : Heap} {a b : Addr} {items : Array Value} {o : Obj} {T : String} (p : h.IsTuple a items) (e : h.get? b = some o) (c : o.cls = .type T) (n : T ≠ "tuple") : a ≠ b := by
  rintro rfl
  obtain ⟨o', e', c', _⟩ := p
  rw [e] at e'
  cases e'
  rw [c] at c'
  injection c' with z
  exact n z
theorem turn_enumT {P : Program} {w : World} {K : PySem.W.Frag} {elts : List Expr} {kk : Nat} {tpos : Pos} (a e it : Addr) :
    Turn P w K (.Tuple elts kk tpos) (IteT K a) [e, it] e (fun i h => (∃ old, IsEnum h e it ((i : Nat) : Int) old) ∧ h.IsTupleIter it a i ∧ e ≠ it) where
  mem := by simp
  obj := fun i h st b hb => by
    obtain ⟨⟨old, he⟩, ⟨o, ho, hc, hd⟩, _⟩ := st
    rcases (show b = e ∨ b = it by simpa using hb) with z | z
    · rw [z]
      exact ⟨_, he, fun v q => nomatch q⟩
    · rw [z]
      exact ⟨o, ho, fun v q => by rw [hd] at q; cases q⟩
  keep := fun i h h' st k => by
    obtain ⟨⟨old, he⟩, hi, hne⟩ := st
    exact ⟨⟨old, k e (by simp) _ he⟩, hi.at fun o q => k it (by simp) o q, hne⟩
  item := by
    intro X hP hw hK hc i pins s σ H E I hf st hg
    subst hP hw hK
    obtain ⟨⟨old, he⟩, hit, hne⟩ := st
    obtain ⟨xs, x, hq, hx⟩ := hg
    obtain ⟨its, rv, p, hz⟩ := I.tuple hq
    have p' : s.heap.IsTuple a its.toArray := p
    obtain ⟨u, hu, ru⟩ := rv.get hx
    have nit : a ≠ it := by
      obtain ⟨o, ho, ch, _⟩ := id hit
      exact tup_ne p' ho ch (by decide)
    have nea : a ≠ e := tup_ne p' he rfl (by decide)
    have hel : e < s.heap.objs.size := Heap.lt_size he
    have hil : it < s.heap.objs.size := by
      obtain ⟨_, q, _⟩ := id hit
      exact Heap.lt_size q
    have hlt : i < its.toArray.size := by
      have := (List.getElem?_eq_some_iff.mp hu).1
      simpa using this
    refine wpAny_pyNext_enum_itemD (Draws.tuple (A := X.A.in1) (show X.A.in1.handled = none from I.ok.hd hc) it a nit its.toArray) he ⟨hit, p'⟩ hlt hne (by simp [hne, Ne.symm nea]) fun v h' tk hv ho hst hT hsz hk => ?_
    have evu : v = u := by
      have e1 : its[i]? = some v := by simpa using hv
      rw [hu] at e1
      exact (Option.some.inj e1).symm
    subst evu
    refine ⟨_, rfl, wpAny_letOwnedTupleGo_enum (s := { s with heap := h', toks := tk + 1 }) ho fun h2 he2 sb => ?_⟩
    have hT2 : h2.get? s.heap.objs.size = some { cls := .type "tuple", data := .seq #[.int i tk, v] } := (sb.2 _ (Nat.ne_of_gt hel)).trans hT
    have new : ObjOk X.prog X.w (upd H s.heap.objs.size (.tup [.int (i : Nat), x])) h2 s.heap.objs.size (.tup [.int (i : Nat), x]) :=
      ⟨by show 2 ≤ sizeLine; decide, [.int i tk, v], .cons ⟨_, rfl⟩ (.cons ru .nil), ⟨_, hT2, rfl, _, rfl⟩⟩
    have I1 : Inv X pins σ (upd H s.heap.objs.size (.tup [.int (i : Nat), x])) { s with heap := h2, toks := tk + 1 } :=
      I.turnedNew (ch := [e, it]) (fun b ob hb q => (sb.2 b (fun z => hb (by simp [z]))).trans (hk b ob (fun z => hb (by simp [z])) (fun z => hb (by simp [z])) q)) hf (Nat.le_refl _) new
    refine ⟨.ref s.heap.objs.size, _, I1, rfl, ⟨_, x, rfl, I.hok.fresh (Nat.le_refl _), rfl, fun ys hy => by rw [I.tuple_inj hy hq]; exact hx⟩, ⟨⟨v, ?_⟩, hst.1.at fun o q => (sb.2 it (Ne.symm hne)).trans q, hne⟩, fun b hb => ?_⟩
    · have e1 : ((i + 1 : Nat) : Int) = (i : Int) + 1 := by omega
      rw [e1]
      exact he2
    · have hb' : b < s.heap.objs.size := by
        rcases (show b = e ∨ b = it by simpa using hb) with z | z
        · rw [z]
          exact hel
        · rw [z]
          exact hil
      rw [upd_ne (Nat.ne_of_lt hb')]
      exact (hf b hb).1
  done := by
    intro X hP hw hK hc i pins s σ H E I hf st hg
    subst hP hw hK
    obtain ⟨⟨old, he⟩, hit, hne⟩ := st
    obtain ⟨xs, hq, hx⟩ := hg
    obtain ⟨its, rv, p, hz⟩ := I.tuple hq
    have p' : s.heap.IsTuple a its.toArray := p
    have nit : a ≠ it := by
      obtain ⟨o, ho, ch, _⟩ := id hit
      exact tup_ne p' ho ch (by decide)
    obtain ⟨f0, f1, f2, f3, f4, f5⟩ := hf it (by simp)
    have hl := rv.length
    have hdone : Draws X.prog X.w X.A.in1 it [it, a] i (fun _ _ => False) (fun j h => j = i ∧ h.IsTupleIter it a i ∧ h.IsTuple a its.toArray) := {
      live := fun _ _ st => let ⟨o, ho, _⟩ := st.2.1; ⟨o, ho⟩
      frame := fun _ _ _ st hk => ⟨st.1, st.2.1.at fun o e => hk it (by simp) o e, st.2.2.at fun o e => hk a (by simp) o e⟩
      item := fun j s Q E hj st _ => absurd hj (by rw [st.1]; exact Nat.lt_irrefl _)
      done := fun s Q E st hE => wpAny_nextOf_tuple_end (show X.A.in1.handled = none from I.ok.hd hc) st.2.1 st.2.2 (by simp; omega) hE }
    exact wpAny_pyNext_enum_endD hdone he ⟨rfl, hit, p'⟩ fun h' eb => ⟨rfl, I.turned (t' := s.toks) (fun b o hb q => eb b o hb q) f0 f1 f3 f4 f5⟩
  self := fun A i s Q E st h => let ⟨⟨_, he⟩, _⟩ := st; wpAny_pyIter_enum he h
def iEnumT (K : PySem.W.Frag) (ta : TA) : TI := fun σ H R => ta σ H fun vs H1 => ∃ a xs, vs = [.ref a] ∧ SqT K H1 a xs ∧ R (IteT K a) H1
theorem pi_enumT {X : Cx} {e : Expr} {ta : TA} {p pos tpos : Pos} {elts : List Expr} {kk : Nat} (hg : Gl X "enumerate") (hm : X.mg "enumerate" = none) (ha : PA X [e] ta) (hs : starEach [e] X.env = [(false, eval e X.env)] := by rfl) :
    PI X (.Tuple elts kk tpos) (.Call (.Name "enumerate" p) [e] [] pos) (iEnumT X.K ta) := by
  refine ⟨fun pins s σ H R I h => ?_⟩
  refine Call_ (ld_blt I hg hm boot_enumerate (PyProof.Rows.callWith_type1 (thn (ha.run pos pins s σ H _ I h) fun us s1 hq1 => ?_) hs rfl))
  obtain ⟨vs, H1, I1, r1, a, xs, rfl, hq, q⟩ := hq1
  cases r1 with
  | cons r rr =>
    cases rr
    cases r
    obtain ⟨its, rv, p', hz⟩ := I1.tuple hq
    refine call_enumT (show s1.heap.IsTuple a its.toArray from p') fun h' he hit hk => wpAny_pyIter_enum he ?_
    have I2 : Inv X pins σ H1 { s1 with heap := h' } := I1.kept (t' := s1.toks) hk
    refine ⟨s1.heap.objs.size + 1, [s1.heap.objs.size + 1, s1.heap.objs.size], _, _, H1, rfl, I2, turn_enumT a (s1.heap.objs.size + 1) s1.heap.objs.size, ⟨⟨.none, he⟩, hit, Nat.succ_ne_self _⟩, fun b hb => ?_, q⟩
    have hle : s1.heap.objs.size ≤ b := by
      rcases (show b = s1.heap.objs.size + 1 ∨ b = s1.heap.objs.size by simpa using hb) with z | z
      · rw [z]
        exact Nat.le_add_right _ _
      · rw [z]
        exact Nat.le_refl _
    exact I1.fpOk hle (I1.hok.fresh hle)
theorem walk_enumT {K : PySem.W.Frag} {a : Addr} {xs : List V} : Walk (IteT K a) xs.length (fun H => SqT K H a xs) (YPair (fun i => some (.int (i : Nat))) (fun i => xs[i]?)) where
  goes := fun i H hi h => ⟨xs, xs[i], h, by simp [hi]⟩
  stops := fun H h => ⟨xs, h, Nat.le_refl _⟩
  yields := fun i H x H' hi h y => by
    obtain ⟨T, z, e1, e2, e3, e4⟩ := y
    exact ⟨T, _, z, e1, e2, e3, rfl, e4 xs h⟩
end HmS

set_option Elab.async false
set_option maxRecDepth 100000
set_option maxHeartbeats 4000000
namespace Hm
open PySem L2
def topSt (i : Nat) : Stmt := PySem.Challenge.pw_hingemount_k10_whole_nothing_is_lost.main.body.getD i (.Pass ⟨0, 0, 0, 0⟩)
abbrev stCell : Stmt := topSt 44 -- row _law_cell_at
abbrev stPen : Stmt := topSt 45 -- row _law_pen
abbrev stDraw : Stmt := topSt 46 -- row _law_draw

/-! a pen: a list of four ints, the last one below its modulus -/
def PenAt (H : Hp) (p : Addr) : Prop := ∃ a b c d : Int, H p = some (.lst [.int a, .int b, .int c, .int d]) ∧ 0 ≤ d ∧ d < 1000000007
/-- all but p as it was -/
def But (p : Addr) (H H' : Hp) : Prop := ∀ b, b ≠ p → H' b = H b
def spCellAt (K : PySem.W.Frag) : Sp := fun vs H Q _ => ∃ (l : Addr) (ns : List Int) (j : Nat),
  vs = [.ref l, .int (j : Int)] ∧ SqL K H l (ns.map V.int) ∧ ∀ z : Int, Q (.int z) H
def spPenOf : Sp := fun vs H Q _ => ∃ z : Int, vs = [.int z] ∧ ∀ p H', H p = none → PenAt H' p → But p H H' → Q (.ref p) H'
def spDrawn : Sp := fun vs H Q _ => ∃ (p : Addr) (n : Int), vs = [.ref p, .int n] ∧ 0 < n ∧ n < 1073741824 ∧ PenAt H p ∧
  ∀ (r : Int) H', 0 ≤ r → r < n → PenAt H' p → But p H H' → Q (.int r) H'
structure TxtLen (mg : Str → Option Value) : Prop where
  len : mg "len" = none
  int : mg "int" = none
section
variable {P : Program} {w : World} {K : PySem.W.Frag} {mg : Str → Option Value} {base : Heap}
theorem sc_cell : FnScope ["_law_script", "_law_k"] ["_law_script", "_law_k"] (defScope stCell) :=
  ⟨rfl, rfl, rfl, by decide +kernel, rfl, by decide +kernel, by decide +kernel⟩
theorem ok_cell {f : Addr} {fd : FuncData} (F : Fun K "_law_cell_at" "_law_cell_at" stCell f fd) (T : TxtLen mg) :
    FnOk P w K mg base CX0 1 f fd ["_law_script", "_law_k"] (spCellAt K) := by
  refine F.ok sc_cell (fun vs H Q E h => ?_) (fun cdv A outer s H vs Q E hr h => ?_)
  · obtain ⟨l, ns, j, rfl, _⟩ := h
    rfl
  · obtain ⟨l, ns, j, rfl, hS, q⟩ := h
    refine ⟨_, pss_cons (ps_if (pt_cmpR op_lt (pv 1) (pe_callB call_len_seq (by rfl) T.len PySem.boot_len (pa_cons (pv 0) pa_nil)) (nomark _))
      (pss_one (ps_ret (pe_ix ix_list (pv 0) (pv 1) (fun _ _ => rfl)))) pss_nil) (pss_one (ps_ret pe_int)), ?_⟩
    refine ⟨_, rfl, _, rfl, l, _, rfl, .inl hS, _, _, rfl, rfl, _, rfl, ?_⟩
    refine ite2 (fun c => ?_) (fun c => q 0)
    have c' := of_decide_eq_true c
    rw [List.length_map] at c'
    have hj : j < ns.length := by omega
    refine ⟨_, rfl, _, rfl, l, _, _, .int ns[j], rfl, rfl, hS, ?_, q _⟩
    exact atI_nat (by rw [List.getElem?_map, List.getElem?_eq_getElem hj]; rfl)
theorem sc_pen : FnScope ["_law_cell"] ["_law_cell"] (defScope stPen) := ⟨rfl, rfl, rfl, by decide +kernel, rfl, by decide +kernel, by decide +kernel⟩
theorem ok_pen {f : Addr} {fd : FuncData} (F : Fun K "_law_pen" "_law_pen" stPen f fd) (T : TxtLen mg) :
    FnOk P w K mg base CX0 1 f fd ["_law_cell"] spPenOf := by
  refine F.ok sc_pen (fun vs H Q E h => ?_) (fun cdv A outer s H vs Q E hr h => ?_)
  · obtain ⟨z, rfl, _⟩ := h
    rfl
  · obtain ⟨z, rfl, q⟩ := h
    refine ⟨_, pss_one (ps_ret (pe_lst (pa_cons (pv 0) (pa_cons (pe_callTy call_int1 (by rfl) T.int (by decide +kernel)
        (pa_cons (pe_cmpR op_ge (pv 0) (pe_op op_pow pe_int pe_int) (nomark _)) pa_nil))
      (pa_cons pe_int (pa_cons (pe_op op_mod (pv 0) pe_int) pa_nil)))))), ?_⟩
    refine ⟨_, rfl, _, rfl, _, _, rfl, rfl, ⟨by decide, by decide, by decide⟩, _, _, rfl, rfl, .inr ⟨_, rfl, ?_⟩⟩
    refine ⟨_, rfl, _, _, rfl, rfl, (by show (0 : Int) < 1000000007; decide), (by show 4 ≤ sizeLine; decide), fun p hp => ?_⟩
    exact q p _ hp ⟨_, _, _, _, upd_same, Int.emod_nonneg _ (by decide), Int.emod_lt_of_pos _ (by decide)⟩ (fun b hb => upd_ne hb)
end
end Hm
namespace Hm
open PySem L2
section
variable {P : Program} {w : World} {K : PySem.W.Frag} {mg : Str → Option Value} {base : Heap}
theorem sc_draw : FnScope ["_law_pen_here", "_law_bound", "_law_found", "_law_stir"] ["_law_pen_here", "_law_bound"] (defScope stDraw) :=
  ⟨rfl, rfl, rfl, by decide +kernel, rfl, by decide +kernel, by decide +kernel⟩
theorem ok_draw {f : Addr} {fd : FuncData} (F : Fun K "_law_draw" "_law_draw" stDraw f fd) :
    FnOk P w K mg base CX0 1 f fd ["_law_pen_here", "_law_bound"] spDrawn := by
  refine F.ok sc_draw (fun vs H Q E h => ?_) (fun cdv A outer s H vs Q E hr h => ?_)
  · obtain ⟨p, n, rfl, _⟩ := h
    rfl
  · obtain ⟨p, n, rfl, n0, n1, ⟨a, b, c, d, hp, d0, d1⟩, q⟩ := h
    refine ⟨_, pss_cons (ps_if (PW.pt (pw_and (pt_cmpR op_eq (pe_ix ix_list (pv 0) pe_int (fun _ _ => rfl)) pe_int (nomark _))
          (pw_and1 (pt_cmpR op_gt (pe_ix ix_list (pv 0) pe_int (fun _ _ => rfl)) pe_int (nomark _)))))
        (pss_cons (ps_set (i := 2) sc_draw.nd rfl (Or.inl rfl) (pe_op op_mod (pe_ix ix_list (pv 0) pe_int (fun _ _ => rfl)) (pv 1)))
        (pss_cons (ps_asg (pe_op op_fdiv (pe_ix ix_list (pv 0) pe_int (fun _ _ => rfl)) (pv 1)) (pg_sub (pv 0) pe_int set_list))
        (pss_one (ps_ret (pv 2))))) pss_nil)
      (pss_cons (ps_asg (pe_op op_add (pe_ix ix_list (pv 0) pe_int (fun _ _ => rfl)) pe_int) (pg_sub (pv 0) pe_int set_list))
      (pss_cons (ps_set (i := 3) sc_draw.nd rfl (Or.inl rfl)
          (pe_op op_mod (pe_op op_mul (pe_op op_add (pe_ix ix_list (pv 0) pe_int (fun _ _ => rfl)) pe_int) (pe_op op_add pe_int (pe_op op_mul pe_int (pe_ix ix_list (pv 0) pe_int (fun _ _ => rfl))))) pe_int))
      (pss_cons (ps_set (i := 3) sc_draw.nd rfl (Or.inl rfl)
          (pe_op op_mod (pe_op op_add (pe_op op_add (pe_op op_mul (pv 3) (pv 3)) (pe_op op_mul pe_int (pe_ix ix_list (pv 0) pe_int (fun _ _ => rfl)))) pe_int) pe_int))
      (pss_one (ps_ret (pe_op op_mod (pe_op op_fdiv (pe_op op_mod (pe_op op_mul (pv 3) pe_int) pe_int) pe_int) (pv 1))))))), ?_⟩
    have back : ∀ r : Int, 0 ≤ r % n ∧ r % n < n := fun r => ⟨Int.emod_nonneg _ (by omega), Int.emod_lt_of_pos _ n0⟩
    have g0 : ∀ {x y z u : V}, atI [x, y, z, u] 0 = some x := rfl
    -- the test; both ways of it
    refine ⟨_, rfl, p, _, _, _, rfl, rfl, SqL.of hp, rfl, rfl, _, rfl, ?_⟩
    refine (fun slow => ite2 (fun _ => ⟨_, rfl, p, _, _, _, rfl, rfl, SqL.of hp, rfl, _, _, rfl, rfl, _, rfl, ite2 (fun _ => ?fast) (fun _ => slow)⟩) (fun _ => slow)) ?slow
    case fast =>
      refine ⟨_, rfl, p, _, _, _, rfl, rfl, SqL.of hp, rfl, _, rfl, _, _, rfl, rfl, n0, ?_⟩
      refine ⟨_, rfl, p, _, _, _, rfl, rfl, SqL.of hp, rfl, _, rfl, _, _, rfl, rfl, ⟨n0, n1⟩, _, rfl, p, _, _, _, rfl, rfl, hp, rfl, _, rfl, ?_⟩
      exact q _ _ (back _).1 (back _).2 ⟨_, b, c, d, upd_same, d0, d1⟩ (fun b hb => upd_ne hb)
    case slow =>
      refine ⟨_, rfl, p, _, _, _, rfl, rfl, SqL.of hp, rfl, _, _, rfl, rfl, _, rfl, p, _, _, _, rfl, rfl, hp, rfl, ?_⟩
      refine ⟨_, rfl, p, _, _, _, rfl, rfl, SqL.of upd_same, rfl, _, _, rfl, rfl, _, rfl, p, _, _, _, rfl, rfl, SqL.of upd_same, rfl, _, _, rfl, rfl, .inl ⟨by decide, by decide⟩, _, _, rfl, rfl, _, _, rfl, rfl, .inl ⟨by omega, by omega⟩, _, _, rfl, rfl, (by show (0 : Int) < 2147483647; decide), ?_⟩
      generalize hx : ((d + 17) * (69621 + 2 * (c + 1))) % 2147483647 = x
      have x0 : 0 ≤ x := by rw [← hx]; exact Int.emod_nonneg _ (by decide)
      have x1 : x < 2147483647 := by rw [← hx]; exact Int.emod_lt_of_pos _ (by decide)
      refine ⟨_, rfl, _, rfl, _, _, rfl, rfl, .inl ⟨by omega, by omega⟩, _, rfl, p, _, _, _, rfl, rfl, SqL.of upd_same, rfl, _, _, rfl, rfl, .inl ⟨by decide, by decide⟩, _, _, rfl, rfl, _, _, rfl, rfl, _, _, rfl, rfl, (by show (0 : Int) < 2147483629; decide), ?_⟩
      generalize hy : (x * x + 40503 * (c + 1) + 5) % 2147483629 = y
      have y0 : 0 ≤ y := by rw [← hy]; exact Int.emod_nonneg _ (by decide)
      have y1 : y < 2147483629 := by rw [← hy]; exact Int.emod_lt_of_pos _ (by decide)
      refine ⟨_, rfl, _, _, rfl, rfl, .inl ⟨by omega, by omega⟩, _, _, rfl, rfl, (by show (0 : Int) < 2147483647; decide), _, _, rfl, rfl, ⟨by decide, by decide⟩, _, rfl, _, _, rfl, rfl, n0, ?_⟩
      exact q _ _ (back _).1 (back _).2 ⟨a, b, c + 1, d, upd_same, d0, d1⟩ (fun b hb => upd_ne hb)
end
end Hm

set_option Elab.async false
set_option maxRecDepth 100000
set_option maxHeartbeats 4000000
namespace Hm
open PySem PySem.Spec PyProof.Rows L2 HmS
abbrev stList : Stmt := topSt 47 -- row _law_list
theorem seqset {te : TE} {i : Nat} {u : TS} {D : Ends} {σ : L2.St} {H : Hp} (h : te σ H fun x H1 => u D (σ.set i (some x)) H1) : tSeq (tAsg te (gName i)) u D σ H := h
theorem retset {te : TE} {D : Ends} {σ : L2.St} {H : Hp} (h : te σ H D.rt) : tRet te D σ H := h
theorem same_upd {H : Hp} {l : Addr} {o : HO} (h : H l = none) : Same H (upd H l o) := fun b u e => by rw [upd_ne (ne_of_none e h)]; exact e
theorem yesT {σ : L2.St} {H : Hp} {A B : Hp → Prop} (h : A H) : tYes σ H fun b H1 => if b = true then A H1 else B H1 := (if_pos rfl : (if true = true then A H else B H) = A H).mpr h
/-! ### a list of sets, as data and in the heap -/
abbrev SetT := Str × Int × Int
abbrev setLt (s t : SetT) : Prop := s.1.cps.toList < t.1.cps.toList ∨ (s.1 = t.1 ∧ s.2.1 < t.2.1)
def landsL : List Str := ["a", "b", "ab", "abcdefgh"]
structure SetOk (s : SetT) : Prop where
  land : s.1 ∈ landsL
  y0 : 1840 ≤ s.2.1
  y1 : s.2.1 ≤ 2100
  m0 : 1 ≤ s.2.2
  m1 : s.2.2 ≤ 6
structure BookOk (sets : List SetT) : Prop where
  len0 : 1 ≤ sets.length
  len1 : sets.length ≤ 4
  ok : ∀ s ∈ sets, SetOk s
  rise : sets.Pairwise setLt
def SetAt (H : Hp) (a : Addr) (s : SetT) : Prop := H a = some (.tup [.str s.1, .int s.2.1, .int s.2.2])
def Book (H : Hp) (b : Addr) (sets : List SetT) : Prop := BookOk sets ∧ ∃ as : List Addr, H b = some (.tup (as.map V.ref)) ∧ Paired (SetAt H) as sets
/-- what was tracked stays, but at p -/
def Keep (p : Addr) (H H' : Hp) : Prop := ∀ c o, c ≠ p → H c = some o → H' c = some o
theorem Keep.refl {p : Addr} {H : Hp} : Keep p H H := fun _ _ _ e => e
theorem Keep.trans {p : Addr} {H H1 H2 : Hp} (a : Keep p H H1) (b : Keep p H1 H2) : Keep p H H2 := fun c o h e => b c o h (a c o h e)
theorem But.keep {p : Addr} {H H' : Hp} (b : But p H H') : Keep p H H' := fun c o h e => by rw [b c h]; exact e
theorem Same.keep {p : Addr} {H H' : Hp} (s : Same H H') : Keep p H H' := fun c o _ e => s c o e
theorem keep_upd {p a : Addr} {H : Hp} {o : HO} (h : H a = none) : Keep p H (upd H a o) := fun c u _ e => by rw [upd_ne (ne_of_none e h)]; exact e
theorem pen_upd {p a : Addr} {H : Hp} {o : HO} (x : PenAt H p) (h : H a = none) : PenAt (upd H a o) p := by
  obtain ⟨x1, x2, x3, x4, e, r⟩ := x
  exact ⟨x1, x2, x3, x4, by rw [upd_ne (ne_of_none e h)]; exact e, r⟩
theorem pen_ne {p a : Addr} {H : Hp} {o : HO} (x : PenAt H p) (h : H a = some o) (d : ∀ xs, o ≠ .lst xs) : a ≠ p := by
  obtain ⟨x1, x2, x3, x4, e, r⟩ := x
  intro z
  rw [z, e] at h
  exact d _ (Option.some.inj h).symm
theorem pen_ne_none {p a : Addr} {H : Hp} (x : PenAt H p) (h : H a = none) : a ≠ p := by
  obtain ⟨x1, x2, x3, x4, e, r⟩ := x
  intro z
  rw [z, e] at h
  cases h
theorem at_draw {α : Type} {xs : List α} {r : Int} (h0 : 0 ≤ r) (h1 : r < xs.length) : ∃ v, v ∈ xs ∧ atI xs r = some v := by
  have hj : r.toNat < xs.length := by omega
  refine ⟨xs[r.toNat], List.getElem_mem hj, ?_⟩
  have e : ((r.toNat : Nat) : Int) = r := Int.toNat_of_nonneg h0
  have z := atI_nat (List.getElem?_eq_getElem hj)
  rw [e] at z
  exact z
theorem Paired.mp {α β : Type} {F G : α → β → Prop} (h : ∀ a b, F a b → G a b) : ∀ {l : List α} {m : List β}, Paired F l m → Paired G l m
  | _, _, .nil => .nil
  | _, _, .cons a t => .cons (h _ _ a) (Paired.mp h t)
theorem Book.keep {p b : Addr} {H H' : Hp} {sets : List SetT} (k : Keep p H H') (pen : PenAt H p) (x : Book H b sets) : Book H' b sets := by
  obtain ⟨ok, as, e, pr⟩ := x
  exact ⟨ok, as, k _ _ (pen_ne pen e fun _ z => by cases z) e, Paired.mp (fun a s q => k _ _ (pen_ne pen q fun _ z => by cases z) q) pr⟩
theorem Book.same {b : Addr} {H H' : Hp} {sets : List SetT} (k : Same H H') (x : Book H b sets) : Book H' b sets := by
  obtain ⟨ok, as, e, pr⟩ := x
  exact ⟨ok, as, k _ _ e, Paired.mp (fun a s q => k _ _ q) pr⟩
/-! ### the dict of lands and years -/
def entS (s : SetT) : List Key × V := ([Sum.inr s.1, Sum.inl s.2.1], .int s.2.2)
theorem put_ent (ps : List SetT) (l : Str) (y m : Int) : ∃ ps' : List SetT, putK (ps.map entS) [Sum.inr l, Sum.inl y] (.int m) = ps'.map entS ∧ ps'.length ≤ ps.length + 1 ∧ 0 < ps'.length ∧ ∀ s ∈ ps', s ∈ ps ∨ s = (l, y, m) := by
  unfold putK
  by_cases a : ((ps.map entS).any fun kv => decide (kv.1 = [Sum.inr l, Sum.inl y])) = true
  · rw [if_pos a]
    refine ⟨ps.map fun s => if s.1 = l ∧ s.2.1 = y then (l, y, m) else s, ?_, by simp, ?_, fun s hs => ?_⟩
    · rw [List.map_map, List.map_map]
      refine List.map_congr_left fun s _ => ?_
      show (if (entS s).1 = [Sum.inr l, Sum.inl y] then ((entS s).1, V.int m) else entS s) = entS (if s.1 = l ∧ s.2.1 = y then (l, y, m) else s)
      by_cases c : s.1 = l ∧ s.2.1 = y
      · rw [if_pos c, if_pos (by simp [entS, c.1, c.2])]
        simp [entS, c.1, c.2]
      · rw [if_neg c, if_neg (fun z => c (by simpa [entS] using z))]
    · rw [List.length_map]
      cases ps with
      | nil => simp at a
      | cons _ _ => simp
    · obtain ⟨t, ht, rfl⟩ := List.mem_map.mp hs
      by_cases c : t.1 = l ∧ t.2.1 = y
      · rw [if_pos c]
        exact .inr rfl
      · rw [if_neg c]
        exact .inl ht
  · rw [if_neg a]
    refine ⟨ps ++ [(l, y, m)], by rw [List.map_append]; rfl, by simp, by simp, fun s hs => ?_⟩
    rcases List.mem_append.mp hs with h | h
    · exact .inl h
    · exact .inr (List.mem_singleton.mp h)
theorem draw_run {σ : L2.St} {H : Hp} {Q : VK} {p : Addr} {n : Int} (h0 : σ[0]? = some (some (.ref p))) (pen : PenAt H p) (n0 : 0 < n) (n1 : n < 1073741824) (q : ∀ (r : Int) H', 0 ≤ r → r < n → PenAt H' p → But p H H' → Q (.int r) H') :
    tCall spDrawn [] E0 (tCons (tVar 0) (tCons (tC (.int n)) tNil)) σ H Q := ⟨_, h0, p, n, rfl, n0, n1, pen, q⟩
theorem valV_mem {κ : Type} [DecidableEq κ] : ∀ {kvs : List (κ × V)} {k : κ} {v : V}, (kvs.map (·.1)).Nodup → (k, v) ∈ kvs → valV kvs k = some v
  | [], _, _, _, h => by simp at h
  | (k0, v0) :: r, k, v, nd, h => by
    rw [List.map_cons, List.nodup_cons] at nd
    rcases List.mem_cons.mp h with e | h
    · cases e
      exact valV_pos rfl
    · have ne : ¬ k0 = k := fun e => nd.1 (by rw [e]; exact List.mem_map.mpr ⟨_, h, rfl⟩)
      rw [valV_neg ne]
      exact valV_mem nd.2 h
theorem dl_set (s t : SetT) : PySem.W.dataLt (keyD (entS s).1) (keyD (entS t).1) = decide (setLt s t) := by
  show PySem.W.dataLt (.tuple [.str s.1, .int s.2.1]) (.tuple [.str t.1, .int t.2.1]) = _
  rw [PySem.W.dataLt_pair (by simp [PySem.W.alike]) (by simp [PySem.W.alike])]
  by_cases e : s.1 = t.1
  · have e1 : PyData.eqv (.str s.1) (.str t.1) = true := by rw [e]; simp [PyData.eqv]
    rw [if_pos e1]
    by_cases e2 : s.2.1 = t.2.1
    · rw [if_pos (by rw [e2]; simp [PyData.eqv])]
      refine (decide_eq_false ?_).symm
      rintro (z | z)
      · rw [e] at z
        exact absurd z (List.lt_irrefl _)
      · omega
    · rw [if_neg (by simpa [PyData.eqv] using e2), PySem.W.dataLt_int]
      refine decide_eq_decide.mpr ⟨fun z => .inr ⟨e, z⟩, fun z => ?_⟩
      rcases z with z | z
      · rw [e] at z
        exact absurd z (List.lt_irrefl _)
      · exact z.2
  · rw [if_neg (by simpa [PyData.eqv] using e), PySem.W.dataLt_str]
    refine decide_eq_decide.mpr ⟨fun z => .inl z, fun z => ?_⟩
    rcases z with z | z
    · exact z
    · exact absurd z.1 e
theorem set_tri {s t : SetT} (n : ¬ setLt t s) (d : (entS s).1 ≠ (entS t).1) : setLt s t := by
  by_cases e : s.1 = t.1
  · right
    refine ⟨e, ?_⟩
    have h1 : ¬ t.2.1 < s.2.1 := fun z => n (.inr ⟨e.symm, z⟩)
    have h2 : s.2.1 ≠ t.2.1 := fun z => d (by simp [entS, e, z])
    omega
  · left
    have h1 : ¬ t.1.cps.toList < s.1.cps.toList := fun z => n (.inl z)
    exact Std.lt_of_le_of_ne h1 fun z => e (PySem.W.str_of_cps z)
/-- the pairs of a key tuple's address and its set, rising -/
def sortS (bs : List Addr) (ps : List SetT) : List (Addr × SetT) := (bs.zip ps).mergeSort (PySem.W.dataLe false fun z => keyD (entS z.2).1)
theorem sortS_refs (bs : List Addr) (ps : List SetT) : (((bs.zip (ps.map entS)).mergeSort (PySem.W.dataLe false fun z => keyD z.2.1)).map fun z => V.ref z.1) = (sortS bs ps).map fun z => V.ref z.1 := by
  have e : bs.zip (ps.map entS) = (bs.zip ps).map fun z => (z.1, entS z.2) := by
    rw [List.zip_map_right]
    rfl
  unfold sortS
  rw [e, ← PySem.W.sort_maps (r := PySem.W.dataLe false fun z : Addr × SetT => keyD (entS z.2).1) (fun z : Addr × SetT => (z.1, entS z.2)) (fun a _ b _ => rfl), List.map_map]
  rfl
theorem sortS_perm (bs : List Addr) (ps : List SetT) : (sortS bs ps).Perm (bs.zip ps) := List.mergeSort_perm _ _
theorem sortS_sets {bs : List Addr} {ps : List SetT} (hl : bs.length = ps.length) : ((sortS bs ps).map (·.2)).Perm ps := by
  have e := (sortS_perm bs ps).map (·.2)
  rw [List.map_snd_zip (by omega)] at e
  exact e
theorem sortS_rise {bs : List Addr} {ps : List SetT} (hl : bs.length = ps.length) (nd : (ps.map fun s => (entS s).1).Nodup) : ((sortS bs ps).map (·.2)).Pairwise setLt := by
  have h1 : (sortS bs ps).Pairwise (fun a b => PySem.W.dataLe false (fun z : Addr × SetT => keyD (entS z.2).1) a b = true) := PySem.W.sort_pairwise (PySem.W.sortLe_total _ _ _) _
  have h2 : (((sortS bs ps).map (·.2)).map fun s => (entS s).1).Nodup := ((sortS_sets hl).map _).nodup_iff.mpr nd
  rw [List.Nodup, List.pairwise_map, List.pairwise_map] at h2
  rw [List.pairwise_map]
  refine (h1.and h2).imp fun {a b} h => ?_
  have h3 : (!PySem.W.dataLt (keyD (entS b.2).1) (keyD (entS a.2).1)) = true := h.1
  rw [dl_set] at h3
  refine set_tri (fun z => ?_) h.2
  rw [decide_eq_true z] at h3
  cases h3
theorem isKeys_zip {H : Hp} : ∀ {ps : List SetT} {bs : List Addr}, IsKeys H (ps.map entS) bs → bs.length = ps.length ∧ ∀ z ∈ bs.zip ps, H z.1 = some (.tup [.str z.2.1, .int z.2.2.1])
  | [], bs, h => by
    unfold IsKeys at h
    cases h
    exact ⟨rfl, fun z hz => by simp at hz⟩
  | s :: ps, bs, h => by
    unfold IsKeys at h
    cases h with
    | cons h1 h2 =>
      obtain ⟨l, q⟩ := isKeys_zip (ps := ps) h2
      refine ⟨by simp [l], fun z hz => ?_⟩
      rw [List.zip_cons_cons] at hz
      rcases List.mem_cons.mp hz with rfl | hz
      · exact h1
      · exact q z hz
theorem Paired.snoc {α β : Type} {F : α → β → Prop} {a : α} {b : β} (h : F a b) : ∀ {l : List α} {m : List β}, Paired F l m → Paired F (l ++ [a]) (m ++ [b])
  | _, _, .nil => .cons h .nil
  | _, _, .cons x t => .cons x (Paired.snoc h t)
def spListOf : Sp := fun vs H Q _ => ∃ p : Addr, vs = [.ref p] ∧ PenAt H p ∧ ∀ (H' : Hp) (b : Addr) (sets : List SetT), Keep p H H' → PenAt H' p → Book H' b sets → Q (.ref b) H'
structure TxtList (mg : Str → Option Value) (fD : Addr) : Prop where
  range : mg "range" = none
  sorted : mg "sorted" = none
  tuple : mg "tuple" = none
  gD : mg "_law_draw" = some (.ref fD)
section
variable {P : Program} {w : World} {K : PySem.W.Frag} {mg : Str → Option Value} {base : Heap}
abbrev nList : List Str := ["_law_pen_here", "_law_found", "_law_k", "_law_land", "_law_year"]
theorem sc_list : FnScope nList ["_law_pen_here"] (defScope stList) := ⟨rfl, rfl, rfl, by decide +kernel, rfl, by decide +kernel, by decide +kernel⟩
theorem ok_list {f fD : Addr} {fd fdD : FuncData} (F : Fun K "_law_list" "_law_list" stList f fd) (T : TxtList mg fD) (kD : PySem.W.keepIn K (.ref fD) = true)
    (GD : FnOk P w K mg base CX0 1 fD fdD ["_law_pen_here", "_law_bound"] spDrawn) (bD : Binds K fdD ["_law_pen_here", "_law_bound"] []) :
    FnOk P w K mg base CX0 2 f fd ["_law_pen_here"] spListOf := by
  refine F.ok sc_list (fun vs H Q E h => ?_) (fun cdv A outer s H vs Q E hr h => ?_)
  · obtain ⟨p, rfl, _⟩ := h
    rfl
  · obtain ⟨p, rfl, pen, q⟩ := h
    have hu := hu_of hr
    refine ⟨_, pss_cons (ps_set (i := 1) sc_list.nd rfl (Or.inr rfl) pe_dnewT)
      (pss_cons (ps_for PassesOwn.never rfl (pi_range1 (by rfl) T.range (pa_cons (pe_op op_add pe_int (pe_call GD hr (by rfl) T.gD kD bD .nil pass0 (pa_cons (pv 0) (pa_cons pe_int pa_nil)))) pa_nil)) (pg_name (i := 2) sc_list.nd rfl (Or.inl rfl))
        (pss_cons (ps_set (i := 3) sc_list.nd rfl (Or.inl rfl) (pe_ix ix_list (pe_lst (pa_cons pe_str (pa_cons pe_str (pa_cons pe_str (pa_cons pe_str pa_nil))))) (pe_call GD hr (by rfl) T.gD kD bD .nil pass0 (pa_cons (pv 0) (pa_cons pe_int pa_nil))) (fun _ _ => rfl)))
        (pss_cons (ps_set (i := 4) sc_list.nd rfl (Or.inl rfl) (pe_ix ix_list (pe_lst (pa_cons pe_int (pa_cons pe_int (pa_cons pe_int (pa_cons (pe_op op_add pe_int (pe_call GD hr (by rfl) T.gD kD bD .nil pass0 (pa_cons (pv 0) (pa_cons pe_int pa_nil)))) pa_nil)))))
            (pe_call GD hr (by rfl) T.gD kD bD .nil pass0 (pa_cons (pv 0) (pa_cons pe_int pa_nil))) (fun _ _ => rfl)))
        (pss_one (ps_dput hu (pv 1) (pe_tup (pa_cons (pv 3) (pa_cons (pv 4) pa_nil))) (pe_op op_add pe_int (pe_call GD hr (by rfl) T.gD kD bD .nil pass0 (pa_cons (pv 0) (pa_cons (pe_ix ix_list (pe_lst (pa_cons pe_int (pa_cons pe_int pa_nil)))
            (pe_call GD hr (by rfl) T.gD kD bD .nil pass0 (pa_cons (pv 0) (pa_cons pe_int pa_nil))) (fun _ _ => rfl)) pa_nil)))) rfl)))))
      (pss_one (ps_ret (pe_callTy call_tuple_of (by rfl) T.tuple (by decide +kernel) (pa_cons (pe_lc (own := [("_law_land", 3), ("_law_year", 4)]) (g := gTup K 2 (gCons (gName 3) (gCons (gName 4) gNil))) (tt := tYes) rfl sc_list.nd
          (pi_list (pe_callB (cr_sortDT rfl hr.units) (by rfl) T.sorted (by decide +kernel) (pa_cons (pv 1) pa_nil)))
          (blkOk_by (N := nList) (sc := defScope stList) (by decide +kernel)) (fun _ _ _ _ _ => by exact pg_tup rfl (pgs_cons (pg_name (i := 3) sc_list.nd rfl (Or.inl rfl)) (pgs_cons (pg_name (i := 4) sc_list.nd rfl (Or.inl rfl)) pgs_nil)))
          (fun _ _ _ _ _ => pts_nil) (fun _ _ _ _ _ => pe_tup (pa_cons (pv 3) (pa_cons (pv 4) (pa_cons (pe_dget hu (pv 1) (pe_tup (pa_cons (pv 3) (pa_cons (pv 4) pa_nil))) (fun _ _ => rfl)) pa_nil))))) pa_nil))))), ?_⟩
    refine seqset (fun d hd => ?_)
    have pen0 := pen_upd (o := .dT []) pen hd
    have dp : d ≠ p := pen_ne_none pen hd
    have keep : ∀ {H1 H2 : Hp} {o : HO}, H1 d = some o → But p H1 H2 → H2 d = some o := fun e b => by rw [b d dp]; exact e
    refine draw_run rfl pen0 (by decide) (by decide) fun r0 H1 a0 a1 pen1 but1 => ⟨_, _, rfl, rfl, _, rfl, by omega, by omega, ?_⟩
    have k1 : Keep p H H1 := (keep_upd hd).trans but1.keep
    refine for_range (lo := 0) (fun i σ H' => ∃ (ps : List SetT) (v2 v3 v4 : Option V), σ = [some (.ref p), some (.ref d), v2, v3, v4] ∧ Keep p H H' ∧ PenAt H' p ∧ H' d = some (.dT (ps.map entS)) ∧ ps.length ≤ i ∧ (0 < i → 0 < ps.length) ∧ ∀ s ∈ ps, SetOk s)
      ⟨[], none, none, none, rfl, k1, pen1, keep upd_same but1, Nat.le_refl _, fun z => absurd z (Nat.lt_irrefl _), fun s hs => by simp at hs⟩ ?_ ?_
    · rintro i σ H2 hi ⟨ps, v2, v3, v4, rfl, k2, pen2, hd2, hl2, hp2, ok2⟩
      refine seqset ⟨by decide, fun l hl => draw_run rfl (pen_upd pen2 hl) (by decide) (by decide) fun r H3 b0 b1 pen3 but3 => ?_⟩
      obtain ⟨vl, hvl, atl⟩ := at_draw (xs := [V.str "a", V.str "b", V.str "ab", V.str "abcdefgh"]) b0 b1
      obtain ⟨zl, rfl, hzl⟩ : ∃ z, vl = V.str z ∧ z ∈ landsL := by
        simp only [List.mem_cons, List.not_mem_nil, or_false] at hvl
        rcases hvl with rfl | rfl | rfl | rfl <;> exact ⟨_, rfl, by decide +kernel⟩
      refine ⟨l, _, r, _, rfl, rfl, SqL.of (by rw [but3 l (pen_ne_none pen2 hl)]; exact upd_same), atl, ?_⟩
      have k3 : Keep p H H3 := (k2.trans (keep_upd hl)).trans but3.keep
      have hd3 := keep (by rw [upd_ne (ne_of_none hd2 hl)]; exact hd2) but3
      refine seqset (draw_run rfl pen3 (by decide) (by decide) fun ry H4 c0 c1 pen4 but4 => ⟨_, _, rfl, rfl, by show 4 ≤ sizeLine; decide, fun l2 hl2 => draw_run rfl (pen_upd pen4 hl2) (by decide) (by decide) fun r2 H5 d0 d1 pen5 but5 => ?_⟩)
      obtain ⟨vy, hvy, aty⟩ := at_draw (xs := [V.int 1840, V.int 1900, V.int 2100, V.int (1840 + ry)]) d0 d1
      obtain ⟨zy, rfl, hzy⟩ : ∃ z, vy = V.int z ∧ 1840 ≤ z ∧ z ≤ 2100 := by
        simp only [List.mem_cons, List.not_mem_nil, or_false] at hvy
        rcases hvy with rfl | rfl | rfl | rfl <;> exact ⟨_, rfl, by omega, by omega⟩
      refine ⟨l2, _, r2, _, rfl, rfl, SqL.of (by rw [but5 l2 (pen_ne_none pen4 hl2)]; exact upd_same), aty, ?_⟩
      have k5 : Keep p H H5 := ((k3.trans but4.keep).trans (keep_upd hl2)).trans but5.keep
      have hd4 := keep hd3 but4
      have hd5 := keep (by rw [upd_ne (ne_of_none hd4 hl2)]; exact hd4) but5
      refine ⟨_, rfl, by decide, fun l3 hl3 => draw_run rfl (pen_upd pen5 hl3) (by decide) (by decide) fun r3 H6 e0 e1 pen6 but6 => ?_⟩
      obtain ⟨vm, hvm, atm⟩ := at_draw (xs := [V.int 2, V.int 6]) e0 e1
      obtain ⟨zm, rfl, hzm⟩ : ∃ z, vm = V.int z ∧ 0 < z ∧ z ≤ 6 := by
        simp only [List.mem_cons, List.not_mem_nil, or_false] at hvm
        rcases hvm with rfl | rfl <;> exact ⟨_, rfl, by omega, by omega⟩
      refine ⟨l3, _, r3, _, rfl, rfl, SqL.of (by rw [but6 l3 (pen_ne_none pen5 hl3)]; exact upd_same), atm, p, zm, rfl, hzm.1, by omega, pen6, fun m H7 m0 m1 pen7 but7 => ⟨_, _, rfl, rfl, _, rfl, _, rfl, _, rfl, by show 2 ≤ sizeLine; decide, fun t ht => ?_⟩⟩
      have k7 : Keep p H H7 := ((k5.trans (keep_upd hl3)).trans but6.keep).trans but7.keep
      have hd6 := keep (by rw [upd_ne (ne_of_none hd5 hl3)]; exact hd5) but6
      have hd7 := keep hd6 but7
      have hd8 : (upd H7 t (.tup [.str zl, .int zy])) d = some (.dT (ps.map entS)) := by rw [upd_ne (ne_of_none hd7 ht)]; exact hd7
      obtain ⟨ps', e', l', n', o'⟩ := put_ent ps zl zy (1 + m)
      refine ⟨d, _, rfl, DPut.t (k := [Sum.inr zl, Sum.inl zy]) hd8 upd_same (by rw [List.length_map]; exact small1000 (by omega)), ps', _, _, _, rfl, ?_, ?_, ?_, by omega, fun _ => n', fun s hs => ?_⟩
      · intro c o hc e
        have e7 := k7 c o hc e
        rw [upd_ne (ne_of_none e hd), upd_ne (ne_of_none e7 ht)]
        exact e7
      · have z := pen_upd (o := .tup [.str zl, .int zy]) pen7 ht
        obtain ⟨x1, x2, x3, x4, e, rr⟩ := z
        exact ⟨x1, x2, x3, x4, by rw [upd_ne (Ne.symm dp)]; exact e, rr⟩
      · rw [upd_same, e']
      · rcases o' s hs with h | rfl
        · exact ok2 s h
        · exact ⟨hzl, hzy.1, hzy.2, by show 1 ≤ 1 + m; omega, by show 1 + m ≤ 6; omega⟩
    · rintro σ H2 ⟨ps, v2, v3, v4, rfl, k2, pen2, hd2, hl2, hp2, ok2⟩
      have hlen : 1 ≤ ps.length ∧ ps.length ≤ 4 := by
        refine ⟨hp2 (by omega), ?_⟩
        omega
      refine ⟨_, rfl, d, ps.map entS, rfl, Rd.of hd2, by rw [List.length_map]; omega, ?_, ?_, fun l bs hl hik nk => ?_⟩
      · intro x hx y hy
        obtain ⟨z1, m1, rfl⟩ := List.mem_map.mp hx
        obtain ⟨z2, m2, rfl⟩ := List.mem_map.mp hy
        obtain ⟨s1, _, rfl⟩ := List.mem_map.mp m1
        obtain ⟨s2, _, rfl⟩ := List.mem_map.mp m2
        simp [keyD, entS, HmS.kD, PySem.W.alike, PySem.W.alikeAll]
      · intro x hx
        obtain ⟨s1, _, rfl⟩ := List.mem_map.mp hx
        simp [entS]
      rw [sortS_refs]
      obtain ⟨lb, hz⟩ := isKeys_zip hik
      have nd : (ps.map fun s => (entS s).1).Nodup := by
        rw [List.map_map] at nk
        exact nk
      have hzl : (sortS bs ps).length = ps.length := by
        rw [(sortS_perm bs ps).length_eq, List.length_zip]
        omega
      have dl : l ≠ d := fun z => by
        rw [z, hd2] at hl
        cases hl
      refine ⟨l, rfl, ⟨_, SqL.of upd_same⟩, fun D hD => lc_list (K := K) (xs := (sortS bs ps).map fun z => V.ref z.1)
        (fun i H' => Same (upd H2 l (.lst ((sortS bs ps).map fun z => V.ref z.1))) H' ∧ ∃ as : List Addr, H' D = some (.lst (as.map V.ref)) ∧ Paired (SetAt H') as (((sortS bs ps).take i).map (·.2)))
        ⟨same_upd hD, [], upd_same, .nil⟩ (fun i H' _ pv => SqL.of (pv.1 _ _ upd_same)) (fun i x H' hx pv => ?_) (fun H' pv => ?_)⟩
      · obtain ⟨sm, as, hDl, pr⟩ := pv
        rw [List.getElem?_map] at hx
        cases hi : (sortS bs ps)[i]? with
        | none =>
          rw [hi] at hx
          cases hx
        | some z =>
          rw [hi] at hx
          cases hx
          have hm := (sortS_perm bs ps).mem_iff.mp (List.mem_of_getElem? hi)
          have hm2 : z.2 ∈ ps := (List.of_mem_zip hm).2
          have s0 : Same H2 H' := (same_upd hl).trans sm
          have lk : valV (ps.map entS) [Sum.inr z.2.1, Sum.inl z.2.2.1] = some (.int z.2.2.2) := by
            refine valV_mem nk (List.mem_map.mpr ⟨z.2, hm2, rfl⟩)
          refine ⟨z.1, _, rfl, SqT.of (s0 _ _ (hz z hm)), rfl, _, _, rfl, _, _, rfl, rfl, rfl, yesT ?_⟩
          have lAs : as.length ≤ 1000 := by
            rw [Paired.length pr, List.length_map, List.length_take]
            omega
          refine ⟨_, rfl, _, rfl, _, rfl, _, rfl, _, rfl, by show 2 ≤ sizeLine; decide, fun t ht => ⟨d, .int z.2.2.2, rfl, ?_, by show 3 ≤ sizeLine; decide, fun t2 ht2 => ?_⟩⟩
          · rw [← lk]
            exact DGet.t (k := [Sum.inr z.2.1, Sum.inl z.2.2.1]) ((same_upd ht) _ _ (s0 _ _ hd2)) upd_same
          · have s2 : Same H' (upd (upd H' t (.tup [.str z.2.1, .int z.2.2.1])) t2 (.tup [.str z.2.1, .int z.2.2.1, .int z.2.2.2])) := (same_upd ht).trans (same_upd ht2)
            have nD : ∀ {b : Addr} {o : HO}, (upd H2 l (.lst ((sortS bs ps).map fun z => V.ref z.1))) b = some o → b ≠ D := fun e => ne_of_none e hD
            have nT : ∀ {b : Addr} {xs : List V} {G : Hp}, G D = some (.lst (as.map V.ref)) → G b = some (.tup xs) → b ≠ D := fun e1 e2 z => by
              rw [z, e1] at e2
              cases e2
            refine ⟨_, s2 _ _ hDl, by rw [List.length_map]; exact small1000 lAs, ?_, as ++ [t2], by rw [upd_same, List.map_append]; rfl, ?_⟩
            · intro b o e
              rw [upd_ne (nD e)]
              exact s2 _ _ (sm _ _ e)
            · have e2 : (sortS bs ps).take (i + 1) = (sortS bs ps).take i ++ [z] := by rw [List.take_add_one, hi]; rfl
              rw [e2, List.map_append]
              refine Paired.snoc ?_ (Paired.mp (fun a s q => ?_) pr)
              · show upd _ D _ t2 = _
                rw [upd_ne (nT (s2 _ _ hDl) upd_same)]
                exact upd_same
              · show upd _ D _ a = _
                rw [upd_ne (nT hDl q)]
                exact s2 _ _ q
      · obtain ⟨sm, as, hDl, pr⟩ := pv
        rw [List.length_map, List.take_length] at pr
        have s0 : Same H2 H' := (same_upd hl).trans sm
        refine ⟨D, _, rfl, .inl ⟨SqL.of hDl, fun t ht => q _ t ((sortS bs ps).map (·.2)) (k2.trans (Same.keep (s0.trans (same_upd ht)))) ?_ ⟨⟨?_, ?_, ?_, sortS_rise lb nd⟩, as, upd_same, ?_⟩⟩⟩
        · obtain ⟨x1, x2, x3, x4, e, rr⟩ := pen2
          exact ⟨x1, x2, x3, x4, (same_upd ht) _ _ (s0 _ _ e), rr⟩
        · rw [List.length_map, hzl]
          exact hlen.1
        · rw [List.length_map, hzl]
          exact hlen.2
        · intro s hs
          exact ok2 s ((sortS_sets lb).mem_iff.mp hs)
        · exact Paired.mp (fun a s q => (same_upd ht) _ _ q) pr
end
end Hm

set_option Elab.async false
set_option maxRecDepth 100000
set_option maxHeartbeats 4000000
namespace Hm
open PySem PySem.Spec PyProof.Rows L2 HmS
abbrev stPlc : Stmt := topSt 48 -- row _law_places
abbrev stName : Stmt := topSt 49 -- row _law_name
abbrev PlT := Int × Int
def PlAt (H : Hp) (a : Addr) (p : PlT) : Prop := H a = some (.tup [.int p.1, .int p.2])
def rowP (i : Nat) (s : SetT) : List PlT := (List.range s.2.2.toNat).map fun (k : Nat) => (((i : Int), (k : Int)) : PlT)
def placesM : Nat → List SetT → List PlT
  | _, [] => []
  | i, s :: r => rowP i s ++ placesM (i + 1) r
theorem placesM_snoc (s : SetT) : ∀ (l : List SetT) (i : Nat), placesM i (l ++ [s]) = placesM i l ++ rowP (i + l.length) s
  | [], i => by simp [placesM]
  | t :: l, i => by
    show rowP i t ++ placesM (i + 1) (l ++ [s]) = (rowP i t ++ placesM (i + 1) l) ++ rowP (i + (l.length + 1)) s
    rw [placesM_snoc s l (i + 1), List.append_assoc, show i + 1 + l.length = i + (l.length + 1) by omega]
theorem placesM_len : ∀ (l : List SetT) (i : Nat), (∀ s ∈ l, SetOk s) → (placesM i l).length ≤ 6 * l.length ∧ l.length ≤ (placesM i l).length
  | [], i, _ => by simp [placesM]
  | t :: l, i, h => by
    obtain ⟨h1, h2⟩ := placesM_len l (i + 1) fun s hs => h s (List.mem_cons_of_mem _ hs)
    have o := h t List.mem_cons_self
    have e : (rowP i t).length = t.2.2.toNat := by simp [rowP]
    show (rowP i t ++ placesM (i + 1) l).length ≤ 6 * (l.length + 1) ∧ l.length + 1 ≤ (rowP i t ++ placesM (i + 1) l).length
    rw [List.length_append, e]
    have := o.m0
    have := o.m1
    omega
theorem Paired.app {α β : Type} {F : α → β → Prop} {l2 : List α} {m2 : List β} (h : Paired F l2 m2) : ∀ {l : List α} {m : List β}, Paired F l m → Paired F (l ++ l2) (m ++ m2)
  | _, _, .nil => h
  | _, _, .cons x t => .cons x (Paired.app h t)
theorem Paired.gt {α β : Type} {F : α → β → Prop} : ∀ {l : List α} {m : List β} {i : Nat} {b : β}, Paired F l m → m[i]? = some b → ∃ a, l[i]? = some a ∧ F a b
  | _, _, i, b, .nil, h => by simp at h
  | _, _, 0, b, .cons x _, h => by
    cases h
    exact ⟨_, rfl, x⟩
  | _, _, i + 1, b, .cons _ t, h => by
    obtain ⟨a, e, f⟩ := Paired.gt (i := i) t (by simpa using h)
    exact ⟨a, by simpa using e, f⟩
theorem Paired.gl {α β : Type} {F : α → β → Prop} : ∀ {l : List α} {m : List β} {i : Nat} {a : α}, Paired F l m → l[i]? = some a → ∃ b, m[i]? = some b ∧ F a b
  | _, _, i, b, .nil, h => by simp at h
  | _, _, 0, b, .cons x _, h => by
    cases h
    exact ⟨_, rfl, x⟩
  | _, _, i + 1, b, .cons _ t, h => by
    obtain ⟨a, e, f⟩ := Paired.gl (i := i) t (by simpa using h)
    exact ⟨a, by simpa using e, f⟩
theorem same_tup {H H' : Hp} (s : Same H H') {as : List Addr} {ps : List PlT} (p : Paired (PlAt H) as ps) : Paired (PlAt H') as ps := Paired.mp (fun _ _ q => s _ _ q) p
theorem none_of {H H' : Hp} {p : Addr} (s : Same H H') (h : H' p = none) : H p = none := by
  cases e : H p with
  | none => rfl
  | some o => rw [s _ _ e] at h; cases h
def spPlcs : Sp := fun vs H Q _ => ∃ (b : Addr) (sets : List SetT), vs = [.ref b] ∧ Book H b sets ∧ ∀ (H' : Hp) (l : Addr) (as : List Addr), Same H H' → H l = none → H' l = some (.lst (as.map V.ref)) → Paired (PlAt H') as (placesM 0 sets) → Q (.ref l) H'
structure TxtIt (mg : Str → Option Value) : Prop where
  range : mg "range" = none
  enum : mg "enumerate" = none
section
variable {P : Program} {w : World} {K : PySem.W.Frag} {mg : Str → Option Value} {base : Heap}
abbrev nPlc : List Str := ["_law_sets", "_law_found", "_law_at", "_law_land", "_law_year", "_law_many", "_law_number"]
theorem sc_plc : FnScope nPlc ["_law_sets"] (defScope stPlc) := ⟨rfl, rfl, rfl, by decide +kernel, rfl, by decide +kernel, by decide +kernel⟩
theorem ok_plc {f : Addr} {fd : FuncData} (F : Fun K "_law_places" "_law_places" stPlc f fd) (T : TxtIt mg) : FnOk P w K mg base CX0 1 f fd ["_law_sets"] spPlcs := by
  refine F.ok sc_plc (fun vs H Q E h => ?_) (fun cdv A outer s H vs Q E hr h => ?_)
  · obtain ⟨b, sets, rfl, _⟩ := h
    rfl
  · obtain ⟨b, sets, rfl, bk, q⟩ := h
    obtain ⟨ok, bs, hb, pb⟩ := id bk
    refine ⟨_, pss_cons (ps_set (i := 1) sc_plc.nd rfl (Or.inl rfl) (pe_lst pa_nil))
      (pss_cons (ps_for PassesOwn.never rfl (pi_enumT (by rfl) T.enum (pa_cons (pv 0) pa_nil))
          (pg_tup rfl (pgs_cons (pg_name (i := 2) sc_plc.nd rfl (Or.inr rfl)) (pgs_cons (pg_tup rfl (pgs_cons (pg_name (i := 3) sc_plc.nd rfl (Or.inl rfl)) (pgs_cons (pg_name (i := 4) sc_plc.nd rfl (Or.inl rfl)) (pgs_cons (pg_name (i := 5) sc_plc.nd rfl (Or.inl rfl)) pgs_nil)))) pgs_nil)))
        (pss_one (ps_set (i := 1) sc_plc.nd rfl (Or.inl rfl) (pe_op op_cat (pv 1) (pe_lc (own := [("_law_number", 6)]) (g := gName 6) (tt := tYes) rfl sc_plc.nd (pi_range1 (by rfl) T.range (pa_cons (pv 5) pa_nil))
          (blkOk_by (N := nPlc) (sc := defScope stPlc) (by decide +kernel)) (fun _ _ _ _ _ => pg_name (i := 6) sc_plc.nd rfl (Or.inl rfl)) (fun _ _ _ _ _ => pts_nil) (fun _ _ _ _ _ => pe_tup (pa_cons (pv 2) (pa_cons (pv 6) pa_nil))))))))
      (pss_one (ps_ret (pv 1)))), ?_⟩
    refine seqset ⟨by decide, fun l0 hl0 => ?_⟩
    have s0 : Same H (upd H l0 (.lst [])) := same_upd hl0
    refine ⟨_, rfl, b, _, rfl, SqT.of (s0 _ _ hb), for_it (walk_enumT (K := K) (a := b) (xs := bs.map V.ref))
      (fun i σ H' => ∃ (l : Addr) (as : List Addr) (v2 v3 v4 v5 : Option V), σ = [some (.ref b), some (.ref l), v2, v3, v4, v5, none] ∧ Same H H' ∧ H l = none ∧ H' l = some (.lst (as.map V.ref)) ∧ Paired (PlAt H') as (placesM 0 (sets.take i)))
      ⟨l0, [], none, none, none, none, rfl, s0, hl0, upd_same, .nil⟩ (fun i σ H' _ ⟨_, _, _, _, _, _, _, sm, _⟩ => SqT.of (sm _ _ hb)) ?_ ?_⟩
    · rintro i x σ H1 H2 hi ⟨l, as, v2, v3, v4, v5, rfl, sm, nl, hl, pr⟩ ⟨tt, x1, y, rfl, htt, rfl, ex, ey⟩
      cases ex
      have ey : (bs.map V.ref)[i]? = some y := ey
      rw [List.getElem?_map] at ey
      cases hbi : bs[i]? with
      | none =>
        rw [hbi] at ey
        cases ey
      | some bi =>
        rw [hbi] at ey
        cases ey
        obtain ⟨st, hst, hat⟩ := Paired.gl pb hbi
        have okS := ok.ok st (List.mem_of_getElem? hst)
        have s2 := same_upd (o := .tup [.int (i : Nat), .ref bi]) htt
        refine ⟨tt, _, rfl, SqT.of upd_same, rfl, _, _, rfl, _, _, rfl, ⟨bi, _, rfl, SqT.of (s2 _ _ (sm _ _ hat)), rfl, _, _, rfl, _, _, rfl, _, _, rfl, rfl, ?_⟩⟩
        refine ⟨rfl, _, rfl, _, rfl, st.2.2, rfl, by have := okS.m0; omega, by have := okS.m1; omega, fun D hD => lc_range (lo := 0) (n := st.2.2.toNat)
          (fun k H' => Same (upd H1 tt (.tup [.int (i : Nat), .ref bi])) H' ∧ ∃ cs : List Addr, H' D = some (.lst (cs.map V.ref)) ∧ Paired (PlAt H') cs ((List.range k).map fun (k : Nat) => (((i : Int), (k : Int)) : PlT))) ⟨same_upd hD, [], upd_same, .nil⟩ (fun k H' hk pv => ?_) (fun H' pv => ?_)⟩
        · obtain ⟨sk, cs, hDc, pc⟩ := pv
          have lcs : cs.length ≤ 6 := by
            rw [Paired.length pc, List.length_map, List.length_range]
            have := okS.m1
            have := okS.m0
            omega
          refine ⟨rfl, yesT ⟨_, rfl, _, rfl, by show 2 ≤ sizeLine; decide, fun t ht => ⟨cs.map V.ref, (same_upd ht) _ _ hDc, by rw [List.length_map]; exact small1000 (by omega), fun c o e => ?_, cs ++ [t], by rw [upd_same, List.map_append]; rfl, ?_⟩⟩⟩
          · rw [upd_ne (ne_of_none e hD)]
            exact (same_upd ht) _ _ (sk _ _ e)
          · rw [List.range_succ, List.map_append]
            have nT : ∀ {c : Addr} {xs : List V}, H' c = some (.tup xs) → c ≠ D := fun e z => by
              rw [z, hDc] at e
              cases e
            have tD : t ≠ D := fun z => by
              rw [z, hDc] at ht
              cases ht
            refine Paired.snoc ?_ (Paired.mp (fun a s q => ?_) pc)
            · show upd _ D _ t = _
              rw [upd_ne tD, upd_same, Int.zero_add]
            · show upd _ D _ a = _
              rw [upd_ne (nT q)]
              exact (same_upd ht) _ _ q
        · obtain ⟨sk, cs, hDc, pc⟩ := pv
          have s3 : Same H1 H' := s2.trans sk
          have lcs : cs.length ≤ 6 := by
            rw [Paired.length pc, List.length_map, List.length_range]
            have := okS.m1
            have := okS.m0
            omega
          have las : as.length ≤ 24 := by
            have h1 := (placesM_len (sets.take i) 0 fun s hs => ok.ok s (List.mem_of_mem_take hs)).1
            have h2 : (sets.take i).length ≤ 4 := Nat.le_trans (List.length_take_le' _ _) ok.len1
            rw [Paired.length pr]
            omega
          refine ⟨l, D, _, _, rfl, rfl, s3 _ _ hl, hDc, ?_, fun p hp => ⟨p, as ++ cs, _, _, _, _, rfl, (sm.trans s3).trans (same_upd hp), none_of (sm.trans s3) hp, by rw [upd_same, List.map_append], ?_⟩⟩
          · rw [List.length_map, List.length_map, sizeLine_eq]
            omega
          · have e2 : sets.take (i + 1) = sets.take i ++ [st] := by rw [List.take_add_one, hst]; rfl
            have e3 : (sets.take i).length = i := by
              have := (List.getElem?_eq_some_iff.mp hst).1
              rw [List.length_take]
              omega
            rw [e2, placesM_snoc, e3, Nat.zero_add]
            exact Paired.app (same_tup (same_upd hp) pc) (same_tup (s3.trans (same_upd hp)) pr)
    · rintro σ H1 ⟨l, as, v2, v3, v4, v5, rfl, sm, nl, hl, pr⟩
      rw [List.length_map, Paired.length pb, List.take_length] at pr
      exact ⟨_, rfl, q H1 l as sm nl hl pr⟩
end
end Hm

set_option Elab.async false
set_option maxRecDepth 100000
set_option maxHeartbeats 4000000
namespace Hm
open PySem PySem.Spec PyProof.Rows L2 HmS
abbrev stStm : Stmt := topSt 50 -- row _law_stamps
theorem asgset {te : TE} {i : Nat} {D : Ends} {σ : L2.St} {H : Hp} (h : te σ H fun x H1 => D.nx (σ.set i (some x)) H1) : tAsg te (gName i) D σ H := h
abbrev StT := Int × Int × Int
def StAt (H : Hp) (a : Addr) (s : StT) : Prop := H a = some (.tup [.int s.1, .int s.2.1, .int s.2.2])
structure StOk (sets : List SetT) (s : StT) : Prop where
  pl : (s.1, s.2.1) ∈ placesM 0 sets
  g0 : 0 ≤ s.2.2
  g1 : s.2.2 ≤ 1
theorem st_keep {p : Addr} {H H' : Hp} (k : Keep p H H') (pen : PenAt H p) {as : List Addr} {ss : List StT} (x : Paired (StAt H) as ss) : Paired (StAt H') as ss :=
  Paired.mp (fun a s q => k _ _ (pen_ne pen q fun _ z => by cases z) q) x
theorem pl_keep {p : Addr} {H H' : Hp} (k : Keep p H H') (pen : PenAt H p) {as : List Addr} {ss : List PlT} (x : Paired (PlAt H) as ss) : Paired (PlAt H') as ss :=
  Paired.mp (fun a s q => k _ _ (pen_ne pen q fun _ z => by cases z) q) x
theorem st_same {H H' : Hp} (k : Same H H') {as : List Addr} {ss : List StT} (x : Paired (StAt H) as ss) : Paired (StAt H') as ss := Paired.mp (fun a s q => k _ _ q) x
theorem paired_rep {H : Hp} {t : Addr} {s : StT} (h : StAt H t s) : ∀ n, Paired (StAt H) (List.replicate n t) (List.replicate n s)
  | 0 => .nil
  | n + 1 => .cons h (paired_rep h n)
def spStms : Sp := fun vs H Q _ => ∃ (p b : Addr) (m : Int) (sets : List SetT), vs = [.ref p, .ref b, .int m] ∧ 0 ≤ m ∧ m ≤ 100 ∧ PenAt H p ∧ Book H b sets ∧
  ∀ (H' : Hp) (t : Addr) (as : List Addr) (ss : List StT), Keep p H H' → PenAt H' p → H' t = some (.tup (as.map V.ref)) → Paired (StAt H') as ss → (∀ s ∈ ss, StOk sets s) → ss.length ≤ 400 → Q (.ref t) H'
structure TxtStm (mg : Str → Option Value) (fD fP : Addr) : Prop where
  range : mg "range" = none
  len : mg "len" = none
  tuple : mg "tuple" = none
  gD : mg "_law_draw" = some (.ref fD)
  gP : mg "_law_places" = some (.ref fP)
section
variable {P : Program} {w : World} {K : PySem.W.Frag} {mg : Str → Option Value} {base : Heap}
abbrev nStm : List Str := ["_law_pen_here", "_law_sets", "_law_most", "_law_places_here", "_law_found", "_law_k", "_law_place"]
theorem sc_stm : FnScope nStm ["_law_pen_here", "_law_sets", "_law_most"] (defScope stStm) := ⟨rfl, rfl, rfl, by decide +kernel, rfl, by decide +kernel, by decide +kernel⟩
theorem ok_stm {f fD fP : Addr} {fd fdD fdP : FuncData} (F : Fun K "_law_stamps" "_law_stamps" stStm f fd) (T : TxtStm mg fD fP) (kD : PySem.W.keepIn K (.ref fD) = true) (kP : PySem.W.keepIn K (.ref fP) = true)
    (GD : FnOk P w K mg base CX0 1 fD fdD ["_law_pen_here", "_law_bound"] spDrawn) (bD : Binds K fdD ["_law_pen_here", "_law_bound"] [])
    (GP : FnOk P w K mg base CX0 1 fP fdP ["_law_sets"] spPlcs) (bP : Binds K fdP ["_law_sets"] []) :
    FnOk P w K mg base CX0 2 f fd ["_law_pen_here", "_law_sets", "_law_most"] spStms := by
  refine F.ok sc_stm (fun vs H Q E h => ?_) (fun cdv A outer s H vs Q E hr h => ?_)
  · obtain ⟨p, b, m, sets, rfl, _⟩ := h
    rfl
  · obtain ⟨p, b, m, sets, rfl, m0, m1, pen, bk, q⟩ := h
    refine ⟨_, pss_cons (ps_par (i := 3) (j := 4) (by rfl) sc_stm.nd rfl rfl (by decide) rfl rfl (pa_cons (pe_call GP hr (by rfl) T.gP kP bP .nil pass0 (pa_cons (pv 1) pa_nil)) (pa_cons (pe_lst pa_nil) pa_nil)) (by rfl))
      (pss_cons (ps_for PassesOwn.never rfl (pi_range1 (by rfl) T.range (pa_cons (pe_call GD hr (by rfl) T.gD kD bD .nil pass0 (pa_cons (pv 0) (pa_cons (pe_op op_add (pv 2) pe_int) pa_nil))) pa_nil)) (pg_name (i := 5) sc_stm.nd rfl (Or.inl rfl))
        (pss_cons (ps_set (i := 6) sc_stm.nd rfl (Or.inl rfl) (pe_ix ix_list (pv 3) (pe_call GD hr (by rfl) T.gD kD bD .nil pass0 (pa_cons (pv 0) (pa_cons (pe_callB call_len_seq (by rfl) T.len PySem.boot_len (pa_cons (pv 3) pa_nil)) pa_nil))) (fun _ _ => rfl)))
        (pss_one (ps_set (i := 4) sc_stm.nd rfl (Or.inl rfl) (pe_op op_cat (pv 4) (pe_op op_rep (pe_lst (pa_cons (pe_op op_catT (pv 6) (pe_tup (pa_cons (pe_call GD hr (by rfl) T.gD kD bD .nil pass0 (pa_cons (pv 0) (pa_cons pe_int pa_nil))) pa_nil))) pa_nil))
            (pe_ix ix_list (pe_lst (pa_cons pe_int (pa_cons pe_int (pa_cons pe_int (pa_cons pe_int pa_nil))))) (pe_call GD hr (by rfl) T.gD kD bD .nil pass0 (pa_cons (pv 0) (pa_cons pe_int pa_nil))) (fun _ _ => rfl))))))))
      (pss_one (ps_ret (pe_callTy call_tuple_of (by rfl) T.tuple (by decide +kernel) (pa_cons (pv 4) pa_nil))))), ?_⟩
    refine ⟨_, rfl, b, sets, rfl, bk, fun H1 lp ps s1 nlp hlp1 pp1 => ⟨by decide, fun lf hlf => ⟨_, _, rfl, ?_⟩⟩⟩
    have okB := bk.1
    have sA : Same H1 (upd H1 lf (.lst [])) := same_upd hlf
    have lpp : lp ≠ p := pen_ne_none pen nlp
    have pen1 : PenAt (upd H1 lf (.lst [])) p := by
      obtain ⟨x1, x2, x3, x4, e, rr⟩ := pen
      exact ⟨x1, x2, x3, x4, sA _ _ (s1 _ _ e), rr⟩
    have lfp : lf ≠ p := pen_ne_none pen (none_of s1 hlf)
    have plen : 1 ≤ (placesM 0 sets).length ∧ (placesM 0 sets).length ≤ 24 := by
      have := placesM_len sets 0 okB.ok
      have := okB.len0
      have := okB.len1
      omega
    have psl : ps.length = (placesM 0 sets).length := Paired.length pp1
    refine ⟨_, rfl, _, rfl, m, 1, rfl, rfl, p, m + 1, rfl, by omega, by omega, pen1, fun r0 H2 a0 a1 pen2 but2 => ⟨_, rfl, by omega, by omega, ?_⟩⟩
    have kA : Keep p H H2 := (Same.keep (s1.trans sA)).trans but2.keep
    have k12 : Keep p H1 H2 := (Same.keep sA).trans but2.keep
    refine for_range (lo := 0) (fun i σ H' => ∃ (lf : Addr) (as : List Addr) (ss : List StT) (v5 v6 : Option V), σ = [some (.ref p), some (.ref b), some (.int m), some (.ref lp), some (.ref lf), v5, v6] ∧ Keep p H H' ∧ PenAt H' p ∧
        H' lp = some (.lst (ps.map V.ref)) ∧ Paired (PlAt H') ps (placesM 0 sets) ∧ H' lf = some (.lst (as.map V.ref)) ∧ Paired (StAt H') as ss ∧ (∀ s ∈ ss, StOk sets s) ∧ ss.length ≤ 4 * i ∧ lf ≠ p)
      ⟨lf, [], [], none, none, rfl, kA, pen2, k12 _ _ lpp hlp1, pl_keep but2.keep pen1 (same_tup sA pp1), by rw [but2 lf lfp]; exact upd_same, .nil, fun s hs => by simp at hs, Nat.zero_le _, lfp⟩ ?_ ?_
    · rintro i σ H3 hi ⟨lf, as, ss, v5, v6, rfl, k3, pen3, hlp3, pp3, hlf3, st3, ok3, len3, lfp3⟩
      refine seqset ⟨_, rfl, _, rfl, _, rfl, lp, _, rfl, .inl (SqL.of hlp3), p, _, rfl, ?_, ?_, pen3, fun r H4 b0 b1 pen4 but4 => ?_⟩
      · rw [List.length_map]; omega
      · rw [List.length_map]; omega
      rw [List.length_map] at b1
      have hj : r.toNat < ps.length := by omega
      have er : ((r.toNat : Nat) : Int) = r := Int.toNat_of_nonneg b0
      have at4 : atI (ps.map V.ref) r = some (.ref ps[r.toNat]) := by
        have z := atI_nat (xs := ps.map V.ref) (j := r.toNat) (v := .ref ps[r.toNat]) (by rw [List.getElem?_map, List.getElem?_eq_getElem hj]; rfl)
        rw [er] at z
        exact z
      obtain ⟨pl, hpl, hat⟩ := Paired.gl pp3 (List.getElem?_eq_getElem hj)
      have keepL : ∀ {c : Addr} {o : HO} {G G' : Hp}, c ≠ p → G c = some o → But p G G' → G' c = some o := fun d e bt => by rw [bt _ d]; exact e
      have nP : ps[r.toNat] ≠ p := pen_ne pen3 hat fun _ z => by cases z
      have at4' := keepL nP hat but4
      refine ⟨lp, _, r, _, rfl, rfl, SqL.of (keepL lpp hlp3 but4), at4, asgset ⟨_, rfl, _, rfl, draw_run rfl pen4 (by decide) (by decide) fun g H5 g0 g1 pen5 but5 => ⟨by show 1 ≤ sizeLine; decide, fun t1 ht1 => ?_⟩⟩⟩
      have at5 := keepL nP at4' but5
      refine ⟨_, t1, _, _, rfl, rfl, SqT.of ((same_upd ht1) _ _ at5), SqT.of upd_same, by simp, by show 3 ≤ sizeLine; decide, ⟨?_, ?_⟩⟩
      · intro z
        cases z
      intro _ t2 ht2
      refine ⟨by show 1 ≤ sizeLine; decide, fun l1 hl1 => ⟨by show 4 ≤ sizeLine; decide, fun l2 hl2 => ?_⟩⟩
      refine draw_run rfl (pen_upd (pen_upd (pen_upd (pen_upd pen5 ht1) ht2) hl1) hl2) (by decide) (by decide) fun d H6 d0 d1 pen6 but6 => ?_
      have penT1 := pen_upd (o := .tup [.int g]) pen5 ht1
      have penT2 := pen_upd (o := .tup ([.int pl.1, .int pl.2] ++ [.int g])) penT1 ht2
      have penL1 := pen_upd (o := .lst [.ref t2]) penT2 hl1
      have e2 := keepL (pen_ne_none penL1 hl2) upd_same but6
      have e1 := keepL (pen_ne_none penT2 hl1) ((same_upd hl2) _ _ upd_same) but6
      have et := keepL (pen_ne_none penT1 ht2) ((same_upd hl2) _ _ ((same_upd hl1) _ _ upd_same)) but6
      have k36 : Keep p H3 H6 := ((but4.keep.trans but5.keep).trans (Same.keep ((((same_upd ht1).trans (same_upd ht2)).trans (same_upd hl1)).trans (same_upd hl2)))).trans but6.keep
      obtain ⟨z, hz, atz⟩ := at_draw (xs := [V.int 1, V.int 1, V.int 2, V.int 4]) d0 d1
      obtain ⟨k, rfl, hk0, hk1⟩ : ∃ k, z = V.int k ∧ 1 ≤ k ∧ k ≤ 4 := by
        simp only [List.mem_cons, List.not_mem_nil, or_false] at hz
        rcases hz with rfl | rfl | rfl | rfl <;> exact ⟨_, rfl, by omega, by omega⟩
      have hk : k.toNat ≤ 4 := by omega
      have ef : (List.replicate k.toNat [V.ref t2]).flatten = (List.replicate k.toNat t2).map V.ref := by
        rw [List.flatten_replicate_singleton, List.map_replicate]
      have las : as.length ≤ 400 := by
        rw [Paired.length st3]
        omega
      refine ⟨l2, _, d, _, rfl, rfl, SqL.of e2, atz, l1, k, _, rfl, rfl, e1, by omega, by omega, by rw [sizeLine_eq]; simp; omega, fun rp hrp => ?_⟩
      have eLf := k36 _ _ lfp3 hlf3
      refine ⟨lf, rp, _, _, rfl, rfl, (same_upd hrp) _ _ eLf, upd_same, by rw [sizeLine_eq, ef, List.length_map, List.length_map, List.length_replicate]; omega, fun q2 hq2 => ?_⟩
      have s6 : Same H6 (upd (upd H6 rp (.lst (List.replicate k.toNat [V.ref t2]).flatten)) q2 (.lst (as.map V.ref ++ (List.replicate k.toNat [V.ref t2]).flatten))) := (same_upd hrp).trans (same_upd hq2)
      have et2 : StAt H6 t2 (pl.1, pl.2, g) := et
      refine ⟨q2, as ++ List.replicate k.toNat t2, ss ++ List.replicate k.toNat (pl.1, pl.2, g), _, _, rfl, k3.trans (k36.trans (Same.keep s6)), pen_upd (pen_upd pen6 hrp) hq2, s6 _ _ (k36 _ _ lpp hlp3), ?_, by rw [upd_same, ef, List.map_append], ?_, ?_, ?_, pen_ne_none (pen_upd pen6 hrp) hq2⟩
      · exact same_tup s6 (pl_keep k36 pen3 pp3)
      · exact Paired.app (st_same s6 (paired_rep et2 _)) (st_same s6 (st_keep k36 pen3 st3))
      · intro s hs
        rcases List.mem_append.mp hs with h | h
        · exact ok3 s h
        · obtain rfl := (List.mem_replicate.mp h).2
          exact ⟨List.mem_of_getElem? hpl, g0, by show g ≤ 1; omega⟩
      · rw [List.length_append, List.length_replicate]
        omega
    · rintro σ H3 ⟨lf, as, ss, v5, v6, rfl, k3, pen3, hlp3, pp3, hlf3, st3, ok3, len3, lfp3⟩
      refine ⟨_, rfl, lf, _, rfl, .inl ⟨SqL.of hlf3, fun t ht => q _ t as ss (k3.trans (keep_upd ht)) (pen_upd pen3 ht) upd_same (st_same (same_upd ht) st3) ok3 (by omega)⟩⟩
end
end Hm

set_option Elab.async false
set_option maxRecDepth 100000
set_option maxHeartbeats 4000000
namespace Hm
open PySem PySem.Spec PyProof.Rows L2 HmS
abbrev stCnt : Stmt := topSt 51 -- row _law_counts
/-! ### counts: what a dict of stamps holds -/
abbrev CtT := List (StT × Int)
def keyS (s : StT) : List Key := [.inl s.1, .inl s.2.1, .inl s.2.2]
theorem keyS_inj {s t : StT} (h : keyS s = keyS t) : s = t := by
  simp only [keyS, List.cons.injEq, Sum.inl.injEq, and_true] at h
  exact Prod.ext h.1 (Prod.ext h.2.1 h.2.2)
def entC (c : StT × Int) : List Key × V := (keyS c.1, .int c.2)
def getC : CtT → StT → Option Int
  | [], _ => none
  | (t, n) :: r, s => if t = s then some n else getC r s
theorem valV_ent : ∀ (cs : CtT) (s : StT), valV (cs.map entC) (keyS s) = (getC cs s).map V.int
  | [], _ => rfl
  | (t, n) :: r, s => by
    rw [List.map_cons, getC]
    by_cases c : t = s
    · rw [if_pos c]
      exact valV_pos (by rw [c]; rfl)
    · rw [if_neg c]
      rw [show entC (t, n) = (keyS t, V.int n) from rfl, valV_neg (fun z => c (keyS_inj z))]
      exact valV_ent r s
def putC (cs : CtT) (s : StT) (m : Int) : CtT := if cs.any (fun c => decide (c.1 = s)) then cs.map (fun c => if c.1 = s then (c.1, m) else c) else cs ++ [(s, m)]
theorem put_entC (cs : CtT) (s : StT) (m : Int) : putK (cs.map entC) (keyS s) (.int m) = (putC cs s m).map entC := by
  have ea : ((cs.map entC).any fun kv => decide (kv.1 = keyS s)) = cs.any fun c => decide (c.1 = s) := by
    rw [List.any_map]
    congr 1
    funext c
    show decide (keyS c.1 = keyS s) = decide (c.1 = s)
    exact decide_eq_decide.mpr ⟨keyS_inj, fun z => by rw [z]⟩
  unfold putK putC
  rw [ea]
  by_cases a : (cs.any fun c => decide (c.1 = s)) = true
  · rw [if_pos a, if_pos a, List.map_map, List.map_map]
    refine List.map_congr_left fun c _ => ?_
    show (if (entC c).1 = keyS s then ((entC c).1, V.int m) else entC c) = entC (if c.1 = s then (c.1, m) else c)
    by_cases e : c.1 = s
    · rw [if_pos e, if_pos (by show keyS c.1 = keyS s; rw [e])]
      rfl
    · rw [if_neg e, if_neg (show ¬ (entC c).1 = keyS s from fun z => e (keyS_inj z))]
  · rw [if_neg a, if_neg a, List.map_append]
    rfl
def bump (cs : CtT) (s : StT) : CtT := putC cs s ((getC cs s).getD 0 + 1)
def countsM (ss : List StT) : CtT := ss.foldl bump []
theorem putC_len (cs : CtT) (s : StT) (m : Int) : (putC cs s m).length ≤ cs.length + 1 := by
  unfold putC
  split <;> simp
theorem foldl_len : ∀ (ss : List StT) (cs : CtT), (ss.foldl bump cs).length ≤ cs.length + ss.length
  | [], cs => by simp
  | s :: r, cs => by
    have h := foldl_len r (bump cs s)
    have h2 := putC_len cs s ((getC cs s).getD 0 + 1)
    rw [List.foldl_cons, List.length_cons]
    have e : (bump cs s).length ≤ cs.length + 1 := h2
    omega
theorem countsM_len (ss : List StT) : (countsM ss).length ≤ ss.length := by
  have := foldl_len ss []
  simpa [countsM] using this
theorem getC_mem : ∀ {cs : CtT} {s : StT} {n : Int}, getC cs s = some n → (s, n) ∈ cs
  | (t, k) :: r, s, n, h => by
    unfold getC at h
    by_cases c : t = s
    · rw [if_pos c] at h
      cases h
      rw [c]
      exact List.mem_cons_self
    · rw [if_neg c] at h
      exact List.mem_cons_of_mem _ (getC_mem h)
theorem getC_none : ∀ {cs : CtT} {s : StT}, getC cs s = none → ∀ c ∈ cs, c.1 ≠ s
  | [], s, h, c, hc => by simp at hc
  | (t, k) :: r, s, h, c, hc => by
    unfold getC at h
    by_cases e : t = s
    · rw [if_pos e] at h
      cases h
    · rw [if_neg e] at h
      rcases List.mem_cons.mp hc with rfl | hc
      · exact e
      · exact getC_none h c hc
theorem getC_of : ∀ {cs : CtT} {s : StT} {n : Int}, (cs.map (·.1)).Nodup → (s, n) ∈ cs → getC cs s = some n
  | (t, k) :: r, s, n, nd, h => by
    rw [List.map_cons, List.nodup_cons] at nd
    unfold getC
    rcases List.mem_cons.mp h with e | h
    · cases e
      rw [if_pos rfl]
    · have ne : ¬ t = s := fun e => nd.1 (by rw [e]; exact List.mem_map.mpr ⟨_, h, rfl⟩)
      rw [if_neg ne]
      exact getC_of nd.2 h
/-- a count of good stamps, each there -/
structure CtOk (sets : List SetT) (cs : CtT) : Prop where
  nd : (cs.map (·.1)).Nodup
  pos : ∀ c ∈ cs, 1 ≤ c.2
  st : ∀ c ∈ cs, StOk sets c.1
theorem CtOk.bump {sets : List SetT} {cs : CtT} (h : CtOk sets cs) {s : StT} (hs : StOk sets s) : CtOk sets (bump cs s) := by
  have g0 : 0 ≤ (getC cs s).getD 0 := by
    cases e : getC cs s with
    | none => exact Int.le_refl _
    | some n =>
      have := h.pos _ (getC_mem e)
      show 0 ≤ n
      have h2 : 1 ≤ n := this
      omega
  unfold Hm.bump putC
  by_cases a : (cs.any fun c => decide (c.1 = s)) = true
  · rw [if_pos a]
    have e1 : (cs.map (fun c => if c.1 = s then (c.1, (getC cs s).getD 0 + 1) else c)).map (·.1) = cs.map (·.1) := by
      rw [List.map_map]
      refine List.map_congr_left fun c _ => ?_
      show (if c.1 = s then (c.1, (getC cs s).getD 0 + 1) else c).1 = c.1
      split <;> rfl
    refine ⟨by rw [e1]; exact h.nd, fun c hc => ?_, fun c hc => ?_⟩
    · obtain ⟨d, hd, rfl⟩ := List.mem_map.mp hc
      by_cases e : d.1 = s
      · rw [if_pos e]
        show 1 ≤ (getC cs s).getD 0 + 1
        omega
      · rw [if_neg e]
        exact h.pos d hd
    · obtain ⟨d, hd, rfl⟩ := List.mem_map.mp hc
      by_cases e : d.1 = s
      · rw [if_pos e]
        exact h.st d hd
      · rw [if_neg e]
        exact h.st d hd
  · rw [if_neg a]
    have no : s ∉ cs.map (·.1) := by
      intro z
      obtain ⟨d, hd, e⟩ := List.mem_map.mp z
      exact a (List.any_eq_true.mpr ⟨d, hd, decide_eq_true e⟩)
    refine ⟨?_, fun c hc => ?_, fun c hc => ?_⟩
    · rw [List.map_append, List.nodup_append]
      refine ⟨h.nd, by simp, fun x hx y hy => ?_⟩
      have ey : y = s := by simpa using hy
      rw [ey]
      exact fun z => no (by rw [← z]; exact hx)
    · rcases List.mem_append.mp hc with hc | hc
      · exact h.pos c hc
      · rw [List.mem_singleton.mp hc]
        show 1 ≤ (getC cs s).getD 0 + 1
        omega
    · rcases List.mem_append.mp hc with hc | hc
      · exact h.st c hc
      · rw [List.mem_singleton.mp hc]
        exact hs
theorem countsM_ok {sets : List SetT} : ∀ (ss : List StT) (cs : CtT), CtOk sets cs → (∀ s ∈ ss, StOk sets s) → CtOk sets (ss.foldl bump cs)
  | [], cs, h, _ => h
  | s :: r, cs, h, o => by
    rw [List.foldl_cons]
    exact countsM_ok r _ (h.bump (o s List.mem_cons_self)) fun t ht => o t (List.mem_cons_of_mem _ ht)
theorem CtOk.of {sets : List SetT} {ss : List StT} (o : ∀ s ∈ ss, StOk sets s) : CtOk sets (countsM ss) :=
  countsM_ok ss [] ⟨by simp, fun c hc => by simp at hc, fun c hc => by simp at hc⟩ o
theorem countsM_snoc (ss : List StT) (s : StT) : countsM (ss ++ [s]) = bump (countsM ss) s := by simp [countsM, List.foldl_append]
def spCnts : Sp := fun vs H Q _ => ∃ (t : Addr) (as : List Addr) (ss : List StT), vs = [.ref t] ∧ H t = some (.tup (as.map V.ref)) ∧ Paired (StAt H) as ss ∧ ss.length ≤ 400 ∧
  ∀ (H' : Hp) (d : Addr), Same H H' → H d = none → H' d = some (.dT ((countsM ss).map entC)) → Q (.ref d) H'
section
variable {P : Program} {w : World} {K : PySem.W.Frag} {mg : Str → Option Value} {base : Heap}
abbrev nCnt : List Str := ["_law_stamps_here", "_law_found", "_law_stamp"]
theorem sc_cnt : FnScope nCnt ["_law_stamps_here"] (defScope stCnt) := ⟨rfl, rfl, rfl, by decide +kernel, rfl, by decide +kernel, by decide +kernel⟩
theorem ok_cnt {f : Addr} {fd : FuncData} (F : Fun K "_law_counts" "_law_counts" stCnt f fd) : FnOk P w K mg base CX0 1 f fd ["_law_stamps_here"] spCnts := by
  refine F.ok sc_cnt (fun vs H Q E h => ?_) (fun cdv A outer s H vs Q E hr h => ?_)
  · obtain ⟨t, as, ss, rfl, _⟩ := h
    rfl
  · obtain ⟨t, as, ss, rfl, ht, pr, hz, q⟩ := h
    have hu := hu_of hr
    refine ⟨_, pss_cons (ps_set (i := 1) sc_cnt.nd rfl (Or.inl rfl) pe_dnewT)
      (pss_cons (ps_for PassesOwn.never rfl (pi_tup (pv 0)) (pg_name (i := 2) sc_cnt.nd rfl (Or.inl rfl))
        (pss_one (ps_dput hu (pv 1) (pv 2) (pe_op op_add (pe_dget2 hu (pv 1) (pv 2) pe_int ⟨rfl, rfl, rfl, rfl⟩) pe_int) rfl)))
      (pss_one (ps_ret (pv 1)))), ?_⟩
    refine seqset (fun d hd => ?_)
    have s0 : Same H (upd H d (.dT [])) := same_upd hd
    refine ⟨_, rfl, t, rfl, ⟨_, SqT.of (s0 _ _ ht)⟩, for_tup (xs := as.map V.ref) (fun i σ H' => ∃ v2, σ = [some (.ref t), some (.ref d), v2] ∧ Same H H' ∧ H' d = some (.dT ((countsM (ss.take i)).map entC)))
      ⟨none, rfl, s0, upd_same⟩ (fun i σ H' _ ⟨_, _, sm, _⟩ => SqT.of (sm _ _ ht)) ?_ ?_⟩
    · rintro i x σ H1 hx ⟨v2, rfl, sm, hdi⟩
      rw [List.getElem?_map] at hx
      cases hbi : as[i]? with
      | none =>
        rw [hbi] at hx
        cases hx
      | some a =>
        rw [hbi] at hx
        cases hx
        obtain ⟨st, hst, hat⟩ := Paired.gl pr hbi
        have hi : i < ss.length := (List.getElem?_eq_some_iff.mp hst).1
        have at1 := sm _ _ hat
        have il : (countsM (ss.take i)).length ≤ 400 := by
          have := countsM_len (ss.take i)
          rw [List.length_take] at this
          omega
        have gt : DGet H1 d (.ref a) (valV ((countsM (ss.take i)).map entC) (keyS st)) := DGet.t hdi at1
        rw [valV_ent] at gt
        refine ⟨_, rfl, d, rfl, .inr ⟨_, .inl hdi⟩, _, rfl, _, gt, ?_⟩
        have ev : ((getC (countsM (ss.take i)) st).map V.int).getD (.int 0) = .int ((getC (countsM (ss.take i)) st).getD 0) := by
          cases getC (countsM (ss.take i)) st <;> rfl
        rw [ev]
        refine ⟨_, _, rfl, rfl, _, rfl, _, rfl, d, _, rfl, DPut.t (k := keyS st) hdi at1 (by rw [List.length_map]; exact small1000 (by omega)), _, rfl, ?_, ?_⟩
        · intro b o e
          have hb : b ≠ d := ne_of_none e hd
          rw [upd_ne hb]
          exact sm _ _ e
        · rw [upd_same, put_entC]
          have e2 : ss.take (i + 1) = ss.take i ++ [st] := by rw [List.take_add_one, hst]; rfl
          rw [e2, countsM_snoc]
          rfl
    · rintro σ H1 ⟨v2, rfl, sm, hdi⟩
      rw [List.length_map, Paired.length pr, List.take_length] at hdi
      exact ⟨_, rfl, q H1 d sm hd hdi⟩
end
end Hm

set_option Elab.async false
set_option maxRecDepth 100000
set_option maxHeartbeats 4000000
namespace Hm
open PySem PySem.Spec PyProof.Rows L2 HmS
abbrev stHas : Stmt := topSt 53 -- row _law_has
abbrev stGap : Stmt := topSt 54 -- row _law_gaps
/-! ### rising by stamps -/
def rowI (s : StT) : List Int := [s.1, s.2.1, s.2.2]
theorem rowI_inj {s t : StT} (h : rowI s = rowI t) : s = t := by
  simp only [rowI, List.cons.injEq, and_true] at h
  exact Prod.ext h.1 (Prod.ext h.2.1 h.2.2)
theorem dl_st (s t : StT) : PySem.W.dataLt (keyD (keyS s)) (keyD (keyS t)) = decide (rowI s < rowI t) := by
  show PySem.W.dataLt (.tuple ((rowI s).map PyData.int)) (.tuple ((rowI t).map PyData.int)) = _
  rw [PySem.W.dataLt_tuple]
  exact PySem.W.dataLt_ints (rowI s) (rowI t)
def riseM (cs : CtT) : CtT := cs.mergeSort (PySem.W.dataLe false fun c => keyD (keyS c.1))
def stLt (a b : StT × Int) : Prop := rowI a.1 < rowI b.1
theorem riseM_perm (cs : CtT) : (riseM cs).Perm cs := List.mergeSort_perm _ _
theorem riseM_rise {cs : CtT} (nd : (cs.map (·.1)).Nodup) : (riseM cs).Pairwise stLt := by
  have h1 : (riseM cs).Pairwise (fun a b => PySem.W.dataLe false (fun c : StT × Int => keyD (keyS c.1)) a b = true) := PySem.W.sort_pairwise (PySem.W.sortLe_total _ _ _) _
  have h2 : ((riseM cs).map (·.1)).Nodup := ((riseM_perm cs).map _).nodup_iff.mpr nd
  rw [List.Nodup, List.pairwise_map] at h2
  refine (h1.and h2).imp fun {a b} h => ?_
  have h3 : (!PySem.W.dataLt (keyD (keyS b.1)) (keyD (keyS a.1))) = true := h.1
  rw [dl_st] at h3
  have h4 : ¬ rowI b.1 < rowI a.1 := fun z => by rw [decide_eq_true z] at h3; cases h3
  exact Std.lt_of_le_of_ne h4 fun z => h.2 (rowI_inj z)
theorem stLt_irr {a : StT × Int} : ¬ stLt a a := List.lt_irrefl _
theorem stLt_asym {a b : StT × Int} (h : stLt a b) (h' : stLt b a) : False := List.lt_irrefl _ (List.lt_trans h h')
def kcC (c : StT × Int) : List Key × Int := (keyS c.1, c.2)
theorem kcC_inj {a b : StT × Int} (h : kcC a = kcC b) : a = b := by
  have h1 := congrArg Prod.fst h
  have h2 := congrArg Prod.snd h
  exact Prod.ext (keyS_inj h1) h2
theorem al_st (s t : StT) : PySem.W.alike (keyD (keyS s)) (keyD (keyS t)) = true := by simp [keyD, keyS, HmS.kD, PySem.W.alike, PySem.W.alikeAll]
theorem eqv_st {s t : StT} (h : s ≠ t) : PyData.eqv (keyD (keyS s)) (keyD (keyS t)) = false := by
  cases e : PyData.eqv (keyD (keyS s)) (keyD (keyS t)) with
  | false => rfl
  | true =>
    refine absurd ?_ h
    simp [keyD, keyS, HmS.kD, PyData.eqv, PyData.eqvAll] at e
    exact Prod.ext e.1 (Prod.ext e.2.1 e.2.2)
theorem sortC_rise {cs : CtT} (nd : (cs.map (·.1)).Nodup) : sortC (cs.map kcC) = (riseM cs).map kcC := by
  have e : sortC (cs.map kcC) = (cs.mergeSort (PySem.W.dataLe false fun c => encC (kcC c))).map kcC := by
    unfold sortC
    exact (PySem.W.sort_maps (r := PySem.W.dataLe false fun c : StT × Int => encC (kcC c)) kcC (fun a _ b _ => rfl)).symm
  rw [e]
  congr 1
  have hp : (cs.mergeSort (PySem.W.dataLe false fun c => encC (kcC c))).Perm cs := List.mergeSort_perm _ _
  refine List.Perm.eq_of_pairwise (le := stLt) (fun a b _ _ h h' => (stLt_asym h h').elim) ?_ (riseM_rise nd) (hp.trans (riseM_perm cs).symm)
  have h1 : (cs.mergeSort (PySem.W.dataLe false fun c => encC (kcC c))).Pairwise (fun a b => PySem.W.dataLe false (fun c : StT × Int => encC (kcC c)) a b = true) := PySem.W.sort_pairwise (PySem.W.sortLe_total _ _ _) _
  have h2 : ((cs.mergeSort (PySem.W.dataLe false fun c => encC (kcC c))).map (·.1)).Nodup := (hp.map _).nodup_iff.mpr nd
  rw [List.Nodup, List.pairwise_map] at h2
  refine (h1.and h2).imp fun {a b} h => ?_
  have h3 : (!PySem.W.dataLt (encC (kcC b)) (encC (kcC a))) = true := h.1
  have h5 : PySem.W.dataLt (encC (kcC b)) (encC (kcC a)) = decide (rowI b.1 < rowI a.1) := by
    show PySem.W.dataLt (.tuple [keyD (keyS b.1), .int b.2]) (.tuple [keyD (keyS a.1), .int a.2]) = _
    rw [PySem.W.dataLt_pair (al_st _ _) (by simp [PySem.W.alike]), eqv_st (Ne.symm h.2), if_neg Bool.false_ne_true, dl_st]
  rw [h5] at h3
  have h4 : ¬ rowI b.1 < rowI a.1 := fun z => by rw [decide_eq_true z] at h3; cases h3
  exact Std.lt_of_le_of_ne h4 fun z => h.2 (rowI_inj z)
/-! ### has, gaps -/
def cntM (cs : CtT) (s : StT) : Int := (getC cs s).getD 0
def hasM (cs : CtT) (p : PlT) : Bool := decide (cntM cs (p.1, p.2, 0) + cntM cs (p.1, p.2, 1) > 0)
def manyM (sets : List SetT) (i : Nat) : Nat := ((sets[i]?).map fun s => s.2.2.toNat).getD 0
def gapsM (sets : List SetT) (cs : CtT) (i : Nat) : List Int := ((List.range (manyM sets i)).map fun (k : Nat) => (k : Int)).filter fun k => !hasM cs ((i : Int), k)
theorem getD_ev (cs : CtT) (s : StT) : ((getC cs s).map V.int).getD (.int 0) = .int (cntM cs s) := by
  unfold cntM
  cases getC cs s <;> rfl
def spHas : Sp := fun vs H Q _ => ∃ (d p : Addr) (cs : CtT) (pl : PlT), vs = [.ref d, .ref p] ∧ H d = some (.dT (cs.map entC)) ∧ PlAt H p pl ∧ ∀ (H' : Hp), Same H H' → Q (.bl (hasM cs pl)) H'
def spGap : Sp := fun vs H Q _ => ∃ (b d : Addr) (i : Nat) (sets : List SetT) (cs : CtT), vs = [.ref b, .ref d, .int (i : Int)] ∧ Book H b sets ∧ i < sets.length ∧ H d = some (.dT (cs.map entC)) ∧
  ∀ (H' : Hp) (l : Addr), Same H H' → H l = none → H' l = some (.lst ((gapsM sets cs i).map V.int)) → Q (.ref l) H'
structure TxtGap (mg : Str → Option Value) (fH : Addr) : Prop where
  range : mg "range" = none
  gH : mg "_law_has" = some (.ref fH)
section
variable {P : Program} {w : World} {K : PySem.W.Frag} {mg : Str → Option Value} {base : Heap}
abbrev nHas : List Str := ["_law_counts_here", "_law_place"]
theorem sc_has : FnScope nHas ["_law_counts_here", "_law_place"] (defScope stHas) := ⟨rfl, rfl, rfl, by decide +kernel, rfl, by decide +kernel, by decide +kernel⟩
theorem ok_has {f : Addr} {fd : FuncData} (F : Fun K "_law_has" "_law_has" stHas f fd) : FnOk P w K mg base CX0 1 f fd ["_law_counts_here", "_law_place"] spHas := by
  refine F.ok sc_has (fun vs H Q E h => ?_) (fun cdv A outer s H vs Q E hr h => ?_)
  · obtain ⟨d, p, cs, pl, rfl, _⟩ := h
    rfl
  · obtain ⟨d, p, cs, pl, rfl, hd, hp, q⟩ := h
    have hu := hu_of hr
    refine ⟨_, pss_one (ps_ret (pe_cmpR op_gt (pe_op op_add (pe_dget2 hu (pv 0) (pe_op op_catT (pv 1) (pe_tup (pa_cons pe_int pa_nil))) pe_int ⟨rfl, rfl, rfl, rfl⟩)
      (pe_dget2 hu (pv 0) (pe_op op_catT (pv 1) (pe_tup (pa_cons pe_int pa_nil))) pe_int ⟨rfl, rfl, rfl, rfl⟩)) pe_int (nomark _))), ?_⟩
    refine ⟨_, rfl, d, rfl, .inr ⟨_, .inl hd⟩, _, rfl, by show 1 ≤ sizeLine; decide, fun t1 h1 => ⟨_, t1, _, _, rfl, rfl, SqT.of ((same_upd h1) _ _ hp), SqT.of upd_same, by simp, by show 3 ≤ sizeLine; decide, ⟨fun z => (by cases z), fun _ t2 h2 => ?_⟩⟩⟩
    have s2 : Same H _ := (same_upd (o := .tup [V.int 0]) h1).trans (same_upd (o := .tup ([V.int pl.1, V.int pl.2] ++ [V.int 0])) h2)
    have g1 := DGet.t (k := keyS (pl.1, pl.2, 0)) (s2 _ _ hd) upd_same
    rw [valV_ent] at g1
    refine ⟨_, g1, ?_⟩
    rw [getD_ev]
    refine ⟨_, rfl, d, rfl, .inr ⟨_, .inl (s2 _ _ hd)⟩, _, rfl, by show 1 ≤ sizeLine; decide, fun t3 h3 => ⟨_, t3, _, _, rfl, rfl, SqT.of ((same_upd h3) _ _ (s2 _ _ hp)), SqT.of upd_same, by simp, by show 3 ≤ sizeLine; decide, ⟨fun z => (by cases z), fun _ t4 h4 => ?_⟩⟩⟩
    have s4 : Same H _ := (s2.trans (same_upd (o := .tup [V.int 1]) h3)).trans (same_upd (o := .tup ([V.int pl.1, V.int pl.2] ++ [V.int 1])) h4)
    have g2 := DGet.t (k := keyS (pl.1, pl.2, 1)) (s4 _ _ hd) upd_same
    rw [valV_ent] at g2
    refine ⟨_, g2, ?_⟩
    rw [getD_ev]
    exact ⟨_, _, rfl, rfl, _, _, rfl, rfl, q _ s4⟩
abbrev nGap : List Str := ["_law_sets", "_law_counts_here", "_law_at", "_law_number"]
theorem sc_gap : FnScope nGap ["_law_sets", "_law_counts_here", "_law_at"] (defScope stGap) := ⟨rfl, rfl, rfl, by decide +kernel, rfl, by decide +kernel, by decide +kernel⟩
theorem ok_gap {f fH : Addr} {fd fdH : FuncData} (F : Fun K "_law_gaps" "_law_gaps" stGap f fd) (T : TxtGap mg fH) (kH : PySem.W.keepIn K (.ref fH) = true)
    (GH : FnOk P w K mg base CX0 1 fH fdH ["_law_counts_here", "_law_place"] spHas) (bH : Binds K fdH ["_law_counts_here", "_law_place"] []) :
    FnOk P w K mg base CX0 2 f fd ["_law_sets", "_law_counts_here", "_law_at"] spGap := by
  refine F.ok sc_gap (fun vs H Q E h => ?_) (fun cdv A outer s H vs Q E hr h => ?_)
  · obtain ⟨b, d, i, sets, cs, rfl, _⟩ := h
    rfl
  · obtain ⟨b, d, i, sets, cs, rfl, bk, hi, hd, q⟩ := h
    obtain ⟨ok, bs, hb, pb⟩ := id bk
    refine ⟨_, pss_one (ps_ret (pe_lc (own := [("_law_number", 3)]) (g := gName 3) rfl sc_gap.nd (pi_range1 (by rfl) T.range (pa_cons (pe_ix (r := rIxT K) ix_tup (pe_ix (r := rIxT K) ix_tup (pv 0) (pv 2) (fun _ _ => rfl)) pe_int (fun _ _ => rfl)) pa_nil))
      (blkOk_by (N := nGap) (sc := defScope stGap) (by decide +kernel)) (fun _ _ _ _ _ => pg_name (i := 3) sc_gap.nd rfl (Or.inl rfl))
      (fun _ _ _ _ _ => pts_one (pt_not (pt_val (pe_call GH hr (by rfl) T.gH kH bH .nil pass0 (pa_cons (pv 1) (pa_cons (pe_tup (pa_cons (pv 2) (pa_cons (pv 3) pa_nil))) pa_nil)))))) (fun _ _ _ _ _ => pv 3))), ?_⟩
    obtain ⟨st, hst⟩ : ∃ st, sets[i]? = some st := ⟨_, List.getElem?_eq_getElem hi⟩
    obtain ⟨a, ha, hat⟩ := Paired.gt pb hst
    have okS := ok.ok st (List.mem_of_getElem? hst)
    have em : manyM sets i = st.2.2.toNat := by simp [manyM, hst]
    refine ⟨_, rfl, _, rfl, b, _, _, .ref a, rfl, rfl, SqT.of hb, atI_nat (by rw [List.getElem?_map, ha]; rfl), a, _, _, .int st.2.2, rfl, rfl, SqT.of hat, rfl, ?_⟩
    refine ⟨st.2.2, rfl, by have := okS.m0; omega, by have := okS.m1; omega, fun D hD => lc_range (lo := 0) (n := st.2.2.toNat)
      (fun k H' => Same H H' ∧ H' D = some (.lst ((((List.range k).map fun (k : Nat) => (k : Int)).filter fun k => !hasM cs ((i : Int), k)).map V.int))) ⟨same_upd hD, upd_same⟩ (fun k H' hk pv => ?_) (fun H' pv => ?_)⟩
    · obtain ⟨sk, hDk⟩ := pv
      have ln : ((((List.range k).map fun (k : Nat) => (k : Int)).filter fun k => !hasM cs ((i : Int), k)).map V.int).length ≤ 6 := by
        have h1 := List.length_filter_le (fun k => !hasM cs ((i : Int), k)) ((List.range k).map fun (k : Nat) => (k : Int))
        rw [List.length_map, List.length_range] at h1
        have h2 := okS.m0
        have h3 := okS.m1
        rw [List.length_map]
        omega
      have es : ((List.range (k + 1)).map fun (k : Nat) => (k : Int)).filter (fun k => !hasM cs ((i : Int), k)) = ((List.range k).map fun (k : Nat) => (k : Int)).filter (fun k => !hasM cs ((i : Int), k)) ++ (if (!hasM cs ((i : Int), (k : Int))) = true then [(k : Int)] else []) := by
        rw [List.range_succ, List.map_append, List.filter_append]
        congr 1
        rw [List.map_cons, List.map_nil, List.filter_cons, List.filter_nil]
      refine ⟨rfl, _, rfl, _, rfl, _, rfl, by show 2 ≤ sizeLine; decide, fun t ht => ⟨d, t, cs, ((i : Int), 0 + (k : Int)), rfl, (same_upd ht) _ _ (sk _ _ hd), upd_same, fun H4 s4 => ⟨_, rfl, ?_⟩⟩⟩
      have sH : Same H H4 := (sk.trans (same_upd ht)).trans s4
      have hD4 : H4 D = some _ := s4 _ _ ((same_upd ht) _ _ hDk)
      rw [Int.zero_add]
      refine ite2 (fun c => ?_) (fun c => ?_)
      · refine ⟨_, rfl, _, hD4, by rw [sizeLine_eq]; omega, fun x o e => ?_, ?_⟩
        · rw [upd_ne (ne_of_none e hD)]
          exact sH _ _ e
        · rw [upd_same, es, if_pos c, List.map_append]
          rfl
      · refine ⟨sH, ?_⟩
        rw [es, if_neg c, List.append_nil]
        exact hD4
    · obtain ⟨sk, hDk⟩ := pv
      exact q H' D sk hD (by rw [hDk]; unfold gapsM; rw [em])
end
end Hm

set_option Elab.async false
set_option maxRecDepth 100000
set_option maxHeartbeats 4000000
namespace Hm
open PySem PySem.Spec PyProof.Rows L2 HmS
abbrev stAll : Stmt := topSt 52 -- row _law_all
abbrev stDbl : Stmt := topSt 55 -- row _law_doubles
abbrev stNam : Stmt := topSt 49 -- row _law_name
/-! ### rows: a stamp and how many -/
def RowAt (H : Hp) (a : Addr) (c : StT × Int) : Prop := ∃ t, H a = some (.tup [.ref t, .int c.2]) ∧ StAt H t c.1
theorem RowAt.same {H H' : Hp} (s : Same H H') {a : Addr} {c : StT × Int} (h : RowAt H a c) : RowAt H' a c := by
  obtain ⟨t, e, f⟩ := h
  exact ⟨t, s _ _ e, s _ _ f⟩
theorem rows_same {H H' : Hp} (s : Same H H') {as : List Addr} {cs : CtT} (p : Paired (RowAt H) as cs) : Paired (RowAt H') as cs := Paired.mp (fun _ _ q => q.same s) p
theorem isKeys_zipC {H : Hp} : ∀ {cs : CtT} {bs : List Addr}, IsKeys H (cs.map entC) bs → bs.length = cs.length ∧ ∀ z ∈ bs.zip cs, StAt H z.1 z.2.1
  | [], bs, h => by
    unfold IsKeys at h
    cases h
    exact ⟨rfl, fun z hz => by simp at hz⟩
  | s :: ps, bs, h => by
    unfold IsKeys at h
    cases h with
    | cons h1 h2 =>
      obtain ⟨l, q⟩ := isKeys_zipC (cs := ps) h2
      refine ⟨by simp [l], fun z hz => ?_⟩
      rw [List.zip_cons_cons] at hz
      rcases List.mem_cons.mp hz with rfl | hz
      · exact h1
      · exact q z hz
def sortZ (bs : List Addr) (cs : CtT) : List (Addr × (StT × Int)) := (bs.zip cs).mergeSort (PySem.W.dataLe false fun z => keyD (keyS z.2.1))
theorem sortZ_refs (bs : List Addr) (cs : CtT) : (((bs.zip (cs.map entC)).mergeSort (PySem.W.dataLe false fun z => keyD z.2.1)).map fun z => V.ref z.1) = (sortZ bs cs).map fun z => V.ref z.1 := by
  have e : bs.zip (cs.map entC) = (bs.zip cs).map fun z => (z.1, entC z.2) := by
    rw [List.zip_map_right]
    rfl
  unfold sortZ
  rw [e, ← PySem.W.sort_maps (r := PySem.W.dataLe false fun z : Addr × (StT × Int) => keyD (keyS z.2.1)) (fun z : Addr × (StT × Int) => (z.1, entC z.2)) (fun a _ b _ => rfl), List.map_map]
  rfl
theorem sortZ_perm (bs : List Addr) (cs : CtT) : (sortZ bs cs).Perm (bs.zip cs) := List.mergeSort_perm _ _
theorem sortZ_rise {bs : List Addr} {cs : CtT} (h : bs.length = cs.length) : (sortZ bs cs).map (·.2) = riseM cs := by
  unfold sortZ riseM
  rw [PySem.W.sort_maps (r := PySem.W.dataLe false fun z : Addr × (StT × Int) => keyD (keyS z.2.1)) (s := PySem.W.dataLe false fun c : StT × Int => keyD (keyS c.1)) (fun z : Addr × (StT × Int) => z.2) (fun a _ b _ => rfl), List.map_snd_zip (by omega)]
theorem alike_keys (cs : CtT) : PySem.W.AllAlike ((cs.map entC).map fun p => keyD p.1) := by
  intro x hx y hy
  obtain ⟨z1, m1, rfl⟩ := List.mem_map.mp hx
  obtain ⟨z2, m2, rfl⟩ := List.mem_map.mp hy
  obtain ⟨s1, _, rfl⟩ := List.mem_map.mp m1
  obtain ⟨s2, _, rfl⟩ := List.mem_map.mp m2
  exact al_st s1.1 s2.1
theorem ne_keys (cs : CtT) : ∀ p ∈ cs.map entC, p.1 ≠ [] := by
  intro x hx
  obtain ⟨s1, _, rfl⟩ := List.mem_map.mp hx
  simp [entC, keyS]
def spAll : Sp := fun vs H Q _ => ∃ (d : Addr) (cs : CtT), vs = [.ref d] ∧ H d = some (.dT (cs.map entC)) ∧ cs.length ≤ 400 ∧ (∀ c ∈ cs, 1 ≤ c.2) ∧
  ∀ (H' : Hp) (l : Addr) (rs : List Addr), Same H H' → H l = none → H' l = some (.lst (rs.map V.ref)) → Paired (RowAt H') rs (riseM cs) → Q (.ref l) H'
def keptM (cs : CtT) (s : StT) : Int := if s.2.2 = 0 ∧ cntM cs (s.1, s.2.1, 1) > 0 then 0 else 1
def dblM (cs : CtT) (c : StT × Int) : CtT := if c.2 > keptM cs c.1 then [(c.1, c.2 - keptM cs c.1)] else []
def dblsM (cs : CtT) : CtT := (riseM cs).flatMap (dblM cs)
def spDbl : Sp := fun vs H Q _ => ∃ (d : Addr) (cs : CtT), vs = [.ref d] ∧ H d = some (.dT (cs.map entC)) ∧ cs.length ≤ 400 ∧ (∀ c ∈ cs, 1 ≤ c.2) ∧
  ∀ (H' : Hp) (l : Addr) (rs : List Addr), Same H H' → H l = none → H' l = some (.lst (rs.map V.ref)) → Paired (RowAt H') rs (dblsM cs) → Q (.ref l) H'
def namesL : List Str := ["", "a", "z", "ann", "bobbobbo"]
def spNam : Sp := fun vs H Q _ => ∃ p : Addr, vs = [.ref p] ∧ PenAt H p ∧ ∀ (n : Str) (H' : Hp), n ∈ namesL → Keep p H H' → PenAt H' p → Q (.str n) H'
section
variable {P : Program} {w : World} {K : PySem.W.Frag} {mg : Str → Option Value} {base : Heap}
theorem sc_nam : FnScope ["_law_pen_here"] ["_law_pen_here"] (defScope stNam) := ⟨rfl, rfl, rfl, by decide +kernel, rfl, by decide +kernel, by decide +kernel⟩
theorem ok_nam {f fD : Addr} {fd fdD : FuncData} (F : Fun K "_law_name" "_law_name" stNam f fd) (gD : mg "_law_draw" = some (.ref fD)) (kD : PySem.W.keepIn K (.ref fD) = true)
    (GD : FnOk P w K mg base CX0 1 fD fdD ["_law_pen_here", "_law_bound"] spDrawn) (bD : Binds K fdD ["_law_pen_here", "_law_bound"] []) :
    FnOk P w K mg base CX0 2 f fd ["_law_pen_here"] spNam := by
  refine F.ok sc_nam (fun vs H Q E h => ?_) (fun cdv A outer s H vs Q E hr h => ?_)
  · obtain ⟨p, rfl, _⟩ := h
    rfl
  · obtain ⟨p, rfl, pen, q⟩ := h
    refine ⟨_, pss_one (ps_ret (pe_ix ix_list (pe_lst (pa_cons pe_str (pa_cons pe_str (pa_cons pe_str (pa_cons pe_str (pa_cons pe_str pa_nil)))))) (pe_call GD hr (by rfl) gD kD bD .nil pass0 (pa_cons (pv 0) (pa_cons pe_int pa_nil))) (fun _ _ => rfl))), ?_⟩
    refine ⟨by show 5 ≤ sizeLine; decide, fun l hl => draw_run rfl (pen_upd pen hl) (by decide) (by decide) fun r H3 b0 b1 pen3 but3 => ?_⟩
    obtain ⟨v, hv, atv⟩ := at_draw (xs := [V.str "", V.str "a", V.str "z", V.str "ann", V.str "bobbobbo"]) b0 b1
    obtain ⟨z, rfl, hz⟩ : ∃ z, v = V.str z ∧ z ∈ namesL := by
      simp only [List.mem_cons, List.not_mem_nil, or_false] at hv
      rcases hv with rfl | rfl | rfl | rfl | rfl <;> exact ⟨_, rfl, by simp [namesL]⟩
    exact ⟨l, _, r, _, rfl, rfl, SqL.of (by rw [but3 l (pen_ne_none pen hl)]; exact upd_same), atv, q z H3 hz ((keep_upd hl).trans but3.keep) pen3⟩
abbrev nAll : List Str := ["_law_counts_here", "_law_stamp"]
theorem sc_all : FnScope nAll ["_law_counts_here"] (defScope stAll) := ⟨rfl, rfl, rfl, by decide +kernel, rfl, by decide +kernel, by decide +kernel⟩
theorem ok_all {f : Addr} {fd : FuncData} (F : Fun K "_law_all" "_law_all" stAll f fd) (hS : mg "sorted" = none) : FnOk P w K mg base CX0 1 f fd ["_law_counts_here"] spAll := by
  refine F.ok sc_all (fun vs H Q E h => ?_) (fun cdv A outer s H vs Q E hr h => ?_)
  · obtain ⟨d, cs, rfl, _⟩ := h
    rfl
  · obtain ⟨d, cs, rfl, hd, hz, hp, q⟩ := h
    have hu := hu_of hr
    refine ⟨_, pss_one (ps_ret (pe_lc (own := [("_law_stamp", 1)]) (g := gName 1) rfl sc_all.nd
        (pi_list (pe_callB (cr_sortDT rfl hr.units) (by rfl) hS (by decide +kernel) (pa_cons (pv 0) pa_nil)))
        (blkOk_by (N := nAll) (sc := defScope stAll) (by decide +kernel)) (fun _ _ _ _ _ => pg_name (i := 1) sc_all.nd rfl (Or.inl rfl))
        (fun _ _ _ _ _ => pts_one (pt_cmpR op_gt (pe_dget hu (pv 0) (pv 1) (fun _ _ => rfl)) pe_int (nomark _)))
        (fun _ _ _ _ _ => pe_tup (pa_cons (pv 1) (pa_cons (pe_dget hu (pv 0) (pv 1) (fun _ _ => rfl)) pa_nil))))), ?_⟩
    refine ⟨_, rfl, d, cs.map entC, rfl, Rd.of hd, by rw [List.length_map]; omega, alike_keys cs, ne_keys cs, fun l bs hl hik nk => ?_⟩
    rw [sortZ_refs]
    obtain ⟨lb, hzz⟩ := isKeys_zipC hik
    have nd : (cs.map (·.1)).Nodup := by
      rw [List.map_map] at nk
      have e : (cs.map (Prod.fst ∘ entC)) = (cs.map (·.1)).map keyS := by rw [List.map_map]; rfl
      rw [e] at nk
      rw [List.Nodup, List.pairwise_map] at nk
      exact nk.imp fun h z => h (by rw [z])
    have lz : (sortZ bs cs).length = cs.length := by
      rw [(sortZ_perm bs cs).length_eq, List.length_zip]
      omega
    refine ⟨l, rfl, ⟨_, SqL.of upd_same⟩, fun D hD => lc_list (K := K) (xs := (sortZ bs cs).map fun z => V.ref z.1)
        (fun i H' => Same (upd H l (.lst ((sortZ bs cs).map fun z => V.ref z.1))) H' ∧ ∃ rs : List Addr, H' D = some (.lst (rs.map V.ref)) ∧ Paired (RowAt H') rs (((sortZ bs cs).take i).map (·.2)))
        ⟨same_upd hD, [], upd_same, .nil⟩ (fun i H' _ pv => SqL.of (pv.1 _ _ upd_same)) (fun i x H' hx pv => ?_) (fun H' pv => ?_)⟩
    · obtain ⟨sm, rs, hDl, pr⟩ := pv
      rw [List.getElem?_map] at hx
      cases hi : (sortZ bs cs)[i]? with
      | none =>
        rw [hi] at hx
        cases hx
      | some z =>
        rw [hi] at hx
        cases hx
        have hm := (sortZ_perm bs cs).mem_iff.mp (List.mem_of_getElem? hi)
        have hm2 : z.2 ∈ cs := (List.of_mem_zip hm).2
        have s0 : Same H H' := (same_upd hl).trans sm
        have gz : getC cs z.2.1 = some z.2.2 := getC_of nd hm2
        have ez := s0 _ _ (hzz z hm)
        have gt : ∀ {G : Hp}, Same H' G → DGet G d (.ref z.1) (some (.int z.2.2)) := fun {G} sg => by
          have g1 : DGet G d (.ref z.1) (valV (cs.map entC) (keyS z.2.1)) := DGet.t (sg _ _ (s0 _ _ hd)) (sg _ _ ez)
          rw [valV_ent, gz] at g1
          exact g1
        have pz : 1 ≤ z.2.2 := hp _ hm2
        have lrs : rs.length ≤ 400 := by
          rw [Paired.length pr, List.length_map, List.length_take]
          omega
        refine ⟨rfl, _, rfl, _, rfl, d, _, rfl, gt (fun _ _ e => e), _, _, rfl, rfl, _, rfl, ?_⟩
        refine ite2 (fun _ => ?_) (fun c => absurd (decide_eq_true (by show z.2.2 > 0; omega)) c)
        refine ⟨_, rfl, _, rfl, _, rfl, d, _, rfl, gt (fun _ _ e => e), by show 2 ≤ sizeLine; decide, fun t ht => ?_⟩
        have nD : ∀ {b : Addr} {o : HO}, (upd H l (.lst ((sortZ bs cs).map fun z => V.ref z.1))) b = some o → b ≠ D := fun e => ne_of_none e hD
        refine ⟨_, (same_upd ht) _ _ hDl, by rw [List.length_map]; exact small1000 (by omega), fun b o e => ?_, rs ++ [t], by rw [upd_same, List.map_append]; rfl, ?_⟩
        · rw [upd_ne (nD e)]
          exact (same_upd ht) _ _ (sm _ _ e)
        · have e2 : (sortZ bs cs).take (i + 1) = (sortZ bs cs).take i ++ [z] := by rw [List.take_add_one, hi]; rfl
          rw [e2, List.map_append]
          have nT : ∀ {c : Addr} {xs : List V} {G : Hp}, G D = some (.lst (rs.map V.ref)) → G c = some (.tup xs) → c ≠ D := fun e1 e2 y => by
            rw [y, e1] at e2
            cases e2
          have hD2 := (same_upd (o := .tup [.ref z.1, .int z.2.2]) ht) _ _ hDl
          refine Paired.snoc ?_ (Paired.mp (fun a c h => ?_) pr)
          · refine ⟨z.1, ?_, ?_⟩
            · rw [upd_ne (nT hD2 upd_same)]
              exact upd_same
            · show upd _ D _ z.1 = _
              rw [upd_ne (nT hDl ez)]
              exact (same_upd ht) _ _ ez
          · obtain ⟨u, h1, h2⟩ := h
            refine ⟨u, ?_, ?_⟩
            · rw [upd_ne (nT hDl h1)]
              exact (same_upd ht) _ _ h1
            · show upd _ D _ u = _
              rw [upd_ne (nT hDl h2)]
              exact (same_upd ht) _ _ h2
    · obtain ⟨sm, rs, hDl, pr⟩ := pv
      rw [List.length_map, List.take_length, sortZ_rise lb] at pr
      exact q H' D rs ((same_upd hl).trans sm) (none_of (same_upd hl) hD) hDl pr
end
end Hm

set_option Elab.async false
set_option maxRecDepth 100000
set_option maxHeartbeats 4000000
namespace Hm
open PySem PySem.Spec PyProof.Rows L2 HmS
theorem seqJ {t u : TS} {D : Ends} {σ : L2.St} {H : Hp} (R : L2.St → Hp → Prop) (hJ : ∀ σ' G, R σ' G → u D σ' G) (h : (∀ σ' G, R σ' G → u D σ' G) → t { D with nx := fun σ' G => u D σ' G } σ H) : tSeq t u D σ H := h hJ
theorem RowAt.keep {l : Addr} {xs : List V} {H H' : Hp} (k : Keep l H H') (hl : H l = some (.lst xs)) {a : Addr} {c : StT × Int} (h : RowAt H a c) : RowAt H' a c := by
  have n : ∀ {b : Addr} {ys : List V}, H b = some (.tup ys) → b ≠ l := fun e z => by
    rw [z, hl] at e
    cases e
  obtain ⟨t, e, f⟩ := h
  exact ⟨t, k _ _ (n e) e, k _ _ (n f) f⟩
theorem keep_new {l : Addr} {H H' : Hp} (k : Keep l H H') (hl : H l = none) : Same H H' := fun b o e => k b o (ne_of_none e hl) e
theorem dblM_len (cs : CtT) (c : StT × Int) : (dblM cs c).length ≤ 1 := by
  unfold dblM
  split <;> simp
structure TxtDbl (mg : Str → Option Value) (fA : Addr) : Prop where
  gA : mg "_law_all" = some (.ref fA)
section
variable {P : Program} {w : World} {K : PySem.W.Frag} {mg : Str → Option Value} {base : Heap}
abbrev nDbl : List Str := ["_law_counts_here", "_law_found", "_law_stamp", "_law_many", "_law_kept"]
theorem sc_dbl : FnScope nDbl ["_law_counts_here"] (defScope stDbl) := ⟨rfl, rfl, rfl, by decide +kernel, rfl, by decide +kernel, by decide +kernel⟩
theorem ok_dbl {f fA : Addr} {fd fdA : FuncData} (F : Fun K "_law_doubles" "_law_doubles" stDbl f fd) (T : TxtDbl mg fA) (kA : PySem.W.keepIn K (.ref fA) = true)
    (GA : FnOk P w K mg base CX0 1 fA fdA ["_law_counts_here"] spAll) (bA : Binds K fdA ["_law_counts_here"] []) : FnOk P w K mg base CX0 2 f fd ["_law_counts_here"] spDbl := by
  refine F.ok sc_dbl (fun vs H Q E h => ?_) (fun cdv A outer s H vs Q E hr h => ?_)
  · obtain ⟨d, cs, rfl, _⟩ := h
    rfl
  · obtain ⟨d, cs, rfl, hd, hz, hp, q⟩ := h
    have hu := hu_of hr
    refine ⟨_, pss_cons (ps_set (i := 1) sc_dbl.nd rfl (Or.inl rfl) (pe_lst pa_nil))
      (pss_cons (ps_for PassesOwn.never rfl (pi_list (pe_call GA hr (by rfl) T.gA kA bA .nil pass0 (pa_cons (pv 0) pa_nil)))
          (pg_tup rfl (pgs_cons (pg_name (i := 2) sc_dbl.nd rfl (Or.inl rfl)) (pgs_cons (pg_name (i := 3) sc_dbl.nd rfl (Or.inl rfl)) pgs_nil)))
        (pss_cons (ps_set (i := 4) sc_dbl.nd rfl (Or.inl rfl) pe_int)
        (pss_cons (ps_if (PW.pt (pw_and (pt_cmpR op_eq (pe_ix (r := rIxT K) ix_tup (pv 2) pe_int (fun _ _ => rfl)) pe_int (nomark _))
              (pw_and1 (pt_cmpR op_gt (pe_dget2 hu (pv 0) (pe_op op_catT (pe_slice sl_tup (pv 2) po_none (po_some pe_int)) (pe_tup (pa_cons pe_int pa_nil))) pe_int ⟨rfl, rfl, rfl, rfl⟩) pe_int (nomark _)))))
            (pss_one (ps_set (i := 4) sc_dbl.nd rfl (Or.inl rfl) pe_int)) pss_nil)
        (pss_one (ps_if (pt_cmpR op_gt (pv 3) (pv 4) (nomark _))
            (pss_one (ps_expr (pe_bm PySem.F.plainAttrs_list PySem.F.slot_list_append PySem.F.type_list_append mt_append (pv 1) (pa_cons (pe_tup (pa_cons (pv 2) (pa_cons (pe_op op_sub (pv 3) (pv 4)) pa_nil))) pa_nil)))) pss_nil)))))
      (pss_one (ps_ret (pv 1)))), ?_⟩
    refine seqset ⟨by decide, fun lf hlf => ⟨_, rfl, d, cs, rfl, (same_upd hlf) _ _ hd, hz, hp, fun H1 l rs s1 nl hl pr => ⟨l, rfl, ⟨_, SqL.of hl⟩, ?_⟩⟩⟩
    have hlf1 : H1 lf = some (.lst []) := s1 _ _ upd_same
    have llf : l ≠ lf := fun z => by
      rw [z, upd_same] at nl
      cases nl
    have hd1 : H1 d = some (.dT (cs.map entC)) := s1 _ _ ((same_upd hlf) _ _ hd)
    have dlf : d ≠ lf := fun z => by
      rw [z, hlf1] at hd1
      cases hd1
    have rl : (riseM cs).length = cs.length := (riseM_perm cs).length_eq
    refine for_list (K := K) (xs := rs.map V.ref) (fun i σ H' => ∃ (v2 v3 v4 : Option V) (qs : List Addr), σ = [some (.ref d), some (.ref lf), v2, v3, v4] ∧ Keep lf H1 H' ∧ H' lf = some (.lst (qs.map V.ref)) ∧ Paired (RowAt H') qs (((riseM cs).take i).flatMap (dblM cs)) ∧ qs.length ≤ i)
      ⟨none, none, none, [], rfl, Keep.refl, hlf1, .nil, Nat.zero_le _⟩ (fun i σ H' _ ⟨_, _, _, _, _, k, _⟩ => SqL.of (k _ _ llf hl)) ?_ ?_
    · rintro i x σ H2 hx ⟨v2, v3, v4, qs, rfl, k2, hlf2, pq, lq⟩
      rw [List.getElem?_map] at hx
      cases hbi : rs[i]? with
      | none =>
        rw [hbi] at hx
        cases hx
      | some r =>
        rw [hbi] at hx
        cases hx
        obtain ⟨c, hc, rat⟩ := Paired.gl pr hbi
        have hi : i < cs.length := by
          have := (List.getElem?_eq_some_iff.mp hc).1
          omega
        obtain ⟨t, e1, e2⟩ := rat.keep k2 hlf1
        refine ⟨r, _, rfl, SqT.of e1, rfl, _, _, rfl, _, _, rfl, rfl, seqset ?_⟩
        refine seqJ (fun σ' G => ∃ k : Int, σ' = [some (.ref d), some (.ref lf), some (.ref t), some (.int c.2), some (.int k)] ∧ Same H2 G ∧ k = keptM cs c.1) ?_ (fun J => ?_)
        · rintro σ' G ⟨k, rfl, sG, ek⟩
          have hlfG : G lf = some (.lst (qs.map V.ref)) := sG _ _ hlf2
          have et : (riseM cs).take (i + 1) = (riseM cs).take i ++ [c] := by rw [List.take_add_one, hc]; rfl
          have kG : Keep lf H1 G := k2.trans (Same.keep sG)
          refine ⟨_, rfl, _, rfl, _, _, rfl, rfl, _, rfl, ite2 (fun gt => ?_) (fun ng => ?_)⟩
          · have gt' : c.2 > k := of_decide_eq_true gt
            refine ⟨_, rfl, .inl ⟨rfl, _, SqL.of hlfG⟩, _, rfl, _, rfl, _, rfl, _, _, rfl, rfl, by show 2 ≤ sizeLine; decide, fun t2 ht2 => ⟨lf, _, _, rfl, rfl, (same_upd ht2) _ _ hlfG, by rw [List.length_map]; exact small1000 (by omega), ?_⟩⟩
            have t2lf : t2 ≠ lf := fun z => by
              rw [z, hlfG] at ht2
              cases ht2
            refine ⟨_, _, _, qs ++ [t2], rfl, fun b o hb e => ?_, by rw [upd_same, List.map_append]; rfl, ?_, by rw [List.length_append]; simp; omega⟩
            · rw [upd_ne hb]
              exact (same_upd ht2) _ _ (kG _ _ hb e)
            · rw [et, List.flatMap_append]
              have ed : [c].flatMap (dblM cs) = [(c.1, c.2 - k)] := by
                rw [List.flatMap_cons, List.flatMap_nil, List.append_nil]
                unfold dblM
                rw [← ek, if_pos gt']
              rw [ed]
              have kk : Keep lf G (upd (upd G t2 (.tup [.ref t, .int (c.2 - k)])) lf (.lst (qs.map V.ref ++ [.ref t2]))) := fun b o hb e => by
                rw [upd_ne hb]
                exact (same_upd ht2) _ _ e
              have e2G : StAt G t c.1 := sG _ _ e2
              have tlf : t ≠ lf := fun z => by
                have e3 : G t = some (.tup _) := e2G
                rw [z, hlfG] at e3
                cases e3
              refine Paired.snoc ⟨t, ?_, kk _ _ tlf e2G⟩ (Paired.mp (fun a b h => (h.same sG).keep kk hlfG) pq)
              rw [upd_ne t2lf]
              exact upd_same
          · have ng' : ¬ c.2 > k := fun z => ng (decide_eq_true z)
            refine ⟨_, _, _, qs, rfl, kG, hlfG, ?_, by omega⟩
            rw [et, List.flatMap_append]
            have ed : [c].flatMap (dblM cs) = [] := by
              rw [List.flatMap_cons, List.flatMap_nil, List.append_nil]
              unfold dblM
              rw [← ek, if_neg ng']
            rw [ed, List.append_nil]
            exact rows_same sG pq
        · have hd2 : H2 d = some (.dT (cs.map entC)) := k2 _ _ dlf hd1
          refine ⟨_, rfl, t, _, _, _, rfl, rfl, SqT.of e2, rfl, rfl, _, rfl, ite2 (fun g0 => ?_) (fun g1 => ?_)⟩
          · have g0' : c.1.2.2 = 0 := by simpa using g0
            refine ⟨_, rfl, d, rfl, .inr ⟨_, .inl hd2⟩, _, rfl, 2, rfl, t, _, rfl, SqT.of e2, (fun z => absurd z.2 (by show ¬ HT.sIx 3 3 (some 2) = 3; decide)), fun p1 hp1 => ⟨by show 1 ≤ sizeLine; decide, fun t1 ht1 => ?_⟩⟩
            refine ⟨p1, t1, _, _, rfl, rfl, SqT.of ((same_upd ht1) _ _ upd_same), SqT.of upd_same, (fun z => by cases z), by show 3 ≤ sizeLine; decide, ⟨fun z => (by cases z), fun _ t3 ht3 => ?_⟩⟩
            have sT : Same H2 _ := ((same_upd (o := .tup [V.int c.1.1, V.int c.1.2.1]) hp1).trans (same_upd (o := .tup [V.int 1]) ht1)).trans (same_upd (o := .tup ([V.int c.1.1, V.int c.1.2.1] ++ [V.int 1])) ht3)
            have g2 := DGet.t (k := keyS (c.1.1, c.1.2.1, 1)) (sT _ _ hd2) upd_same
            rw [valV_ent] at g2
            refine ⟨_, g2, ?_⟩
            rw [getD_ev]
            refine ⟨_, _, rfl, rfl, _, rfl, ite2 (fun h => ?_) (fun h => ?_)⟩
            · have h' : cntM cs (c.1.1, c.1.2.1, 1) > 0 := of_decide_eq_true h
              exact J _ _ ⟨0, rfl, sT, by unfold keptM; rw [if_pos ⟨g0', h'⟩]⟩
            · have h' : ¬ cntM cs (c.1.1, c.1.2.1, 1) > 0 := fun z => h (decide_eq_true z)
              exact J _ _ ⟨1, rfl, sT, by unfold keptM; rw [if_neg (fun z => h' z.2)]⟩
          · have g1' : ¬ c.1.2.2 = 0 := by simpa using g1
            exact J _ _ ⟨1, rfl, fun _ _ e => e, by unfold keptM; rw [if_neg (fun z => g1' z.1)]⟩
    · rintro σ H2 ⟨v2, v3, v4, qs, rfl, k2, hlf2, pq, lq⟩
      rw [List.length_map, Paired.length pr, List.take_length] at pq
      exact ⟨_, rfl, q H2 lf qs (keep_new (Keep.trans (Same.keep ((same_upd hlf).trans s1)) k2) hlf) hlf hlf2 pq⟩
end
end Hm

set_option Elab.async false
set_option maxRecDepth 100000
set_option maxHeartbeats 4000000
namespace Hm
open PySem PySem.Spec PyProof.Rows L2 HmS
abbrev stIsW : Stmt := topSt 19 -- row is_whole
abbrev stWit : Stmt := topSt 21 -- row is_whole_within
abbrev stLet : Stmt := topSt 22 -- row is_letters
abbrev stTup : Stmt := topSt 23 -- row is_tuple
abbrev stRis : Stmt := topSt 24 -- row is_rising
/-- a plain thing: a number, a truth, nothing, a text, a tuple -/
inductive Plain (H : Hp) : V → Value → Prop where
  | int (i : Int) : Plain H (.int i) (.type "int")
  | bl (b : Bool) : Plain H (.bl b) (.type "bool")
  | non : Plain H .non (.type "NoneType")
  | str (z : Str) : Plain H (.str z) (.type "str")
  | tup {a : Addr} {xs : List V} (e : H a = some (.tup xs)) : Plain H (.ref a) (.type "tuple")
theorem Plain.ty {K : PySem.W.Frag} {H : Hp} {x : V} {t : Value} (p : Plain H x t) : TyX K H x t := by
  cases p with
  | int i => exact .base (.int i)
  | bl b => exact .base (.bl b)
  | non => exact .base .non
  | str z => exact .base (.str z)
  | tup e => exact .base (.tup e)
def isWv : V → Bool
  | .int _ => true
  | _ => false
def isSv : V → Bool
  | .str _ => true
  | _ => false
def isTv : V → Bool
  | .ref _ => true
  | _ => false
def isBv : V → Bool
  | .bl _ => true
  | _ => false
theorem Plain.kI {K : PySem.W.Frag} {H : Hp} {x : V} {t : Value} (p : Plain H x t) : PySem.W.kitOne K t (.type "int") = some (isWv x || isBv x) := by
  cases p <;> first | exact kit_ty (show kitB _ _ = some true by decide +kernel) | exact kit_ty (show kitB _ _ = some false by decide +kernel)
theorem Plain.kB {K : PySem.W.Frag} {H : Hp} {x : V} {t : Value} (p : Plain H x t) : PySem.W.kitOne K t (.type "bool") = some (isBv x) := by
  cases p <;> first | exact kit_ty (show kitB _ _ = some true by decide +kernel) | exact kit_ty (show kitB _ _ = some false by decide +kernel)
theorem Plain.kS {K : PySem.W.Frag} {H : Hp} {x : V} {t : Value} (p : Plain H x t) : PySem.W.kitOne K t (.type "str") = some (isSv x) := by
  cases p <;> first | exact kit_ty (show kitB _ _ = some true by decide +kernel) | exact kit_ty (show kitB _ _ = some false by decide +kernel)
theorem Plain.kT {K : PySem.W.Frag} {H : Hp} {x : V} {t : Value} (p : Plain H x t) : PySem.W.kitOne K t (.type "tuple") = some (isTv x) := by
  cases p <;> first | exact kit_ty (show kitB _ _ = some true by decide +kernel) | exact kit_ty (show kitB _ _ = some false by decide +kernel)
def spIsW : Sp := fun vs H Q _ => ∃ (x : V) (t : Value), vs = [x] ∧ Plain H x t ∧ Q (.bl (isWv x)) H
def within (x : V) (a b : Int) : Bool :=
  match x with
  | .int i => decide (a ≤ i) && decide (i ≤ b)
  | _ => false
def spWit : Sp := fun vs H Q _ => ∃ (x : V) (t : Value) (a b : Int), vs = [x, .int a, .int b] ∧ Plain H x t ∧ Q (.bl (within x a b)) H
/-- whether a plain thing is a tuple of so many parts -/
def tupB (H : Hp) (x : V) (a b : Int) : Bool :=
  match x with
  | .ref p => match H p with
    | some (.tup xs) => decide (a ≤ xs.length) && decide ((xs.length : Int) ≤ b)
    | _ => false
  | _ => false
theorem tupB_of {H : Hp} {p : Addr} {xs : List V} (e : H p = some (.tup xs)) (a b : Int) : tupB H (.ref p) a b = (decide (a ≤ xs.length) && decide ((xs.length : Int) ≤ b)) := by simp [tupB, e]
def spTupN : Sp := fun vs H Q _ => ∃ (x : V) (t : Value) (a b : Int), vs = [x, .int a, .int b] ∧ Plain H x t ∧ Q (.bl (tupB H x a b)) H
structure TxtKind (mg : Str → Option Value) : Prop where
  isi : mg "isinstance" = none
  int : mg "int" = none
  bool : mg "bool" = none
  str : mg "str" = none
  tuple : mg "tuple" = none
  len : mg "len" = none
  all : mg "all" = none
  zip : mg "zip" = none
section
variable {P : Program} {w : World} {K : PySem.W.Frag} {mg : Str → Option Value} {base : Heap}
theorem sc_isw : FnScope ["thing"] ["thing"] (defScope stIsW) := ⟨rfl, rfl, rfl, by decide +kernel, rfl, by decide +kernel, by decide +kernel⟩
theorem ok_isw {f : Addr} {fd : FuncData} (F : Fun K "is_whole" "is_whole" stIsW f fd) (T : TxtKind mg) : FnOk P w K mg base CX0 1 f fd ["thing"] spIsW := by
  refine F.ok sc_isw (fun vs H Q E h => ?_) (fun cdv A outer s H vs Q E hr h => ?_)
  · obtain ⟨x, t, rfl, _⟩ := h
    rfl
  · obtain ⟨x, t, rfl, p, q⟩ := h
    refine ⟨_, pss_one (ps_ret (pe_and (pe_callB call_isi (by rfl) T.isi boot_isinstance (pa_cons (pv 0) (pa_cons (pe_bltn (v := .ty "int") (by rfl) T.int (by decide +kernel) rfl) pa_nil)))
      (pe_one (pe_not (pe_callB call_isi (by rfl) T.isi boot_isinstance (pa_cons (pv 0) (pa_cons (pe_bltn (v := .ty "bool") (by rfl) T.bool (by decide +kernel) rfl) pa_nil))))))), ?_⟩
    refine ⟨_, rfl, x, _, t, _, _, rfl, .ty "int", p.ty, p.kI, _, rfl, ?_⟩
    cases p with
    | int i => exact iteT ⟨_, rfl, _, _, _, _, _, rfl, .ty "bool", (Plain.int (H := H) i).ty, (Plain.int (H := H) i).kB, _, rfl, q⟩
    | bl b => exact iteT ⟨_, rfl, _, _, _, _, _, rfl, .ty "bool", (Plain.bl (H := H) b).ty, (Plain.bl (H := H) b).kB, _, rfl, q⟩
    | non => exact iteF q
    | str z => exact iteF q
    | tup e => exact iteF q
theorem sc_wit : FnScope ["thing", "least", "most"] ["thing", "least", "most"] (defScope stWit) := ⟨rfl, rfl, rfl, by decide +kernel, rfl, by decide +kernel, by decide +kernel⟩
theorem ok_wit {f fW : Addr} {fd fdW : FuncData} (F : Fun K "is_whole_within" "is_whole_within" stWit f fd) (gW : mg "is_whole" = some (.ref fW)) (kW : PySem.W.keepIn K (.ref fW) = true)
    (GW : FnOk P w K mg base CX0 1 fW fdW ["thing"] spIsW) (bW : Binds K fdW ["thing"] []) : FnOk P w K mg base CX0 2 f fd ["thing", "least", "most"] spWit := by
  refine F.ok sc_wit (fun vs H Q E h => ?_) (fun cdv A outer s H vs Q E hr h => ?_)
  · obtain ⟨x, t, a, b, rfl, _⟩ := h
    rfl
  · obtain ⟨x, t, a, b, rfl, p, q⟩ := h
    refine ⟨_, pss_one (ps_ret (pe_and (pe_call GW hr (by rfl) gW kW bW .nil pass0 (pa_cons (pv 0) pa_nil)) (pe_one (pe_chain op_le op_le (pv 1) (pv 0) (pv 2))))), ?_⟩
    refine ⟨_, rfl, x, t, rfl, p, _, rfl, ?_⟩
    cases p with
    | int i =>
      refine iteT ⟨_, rfl, _, rfl, _, _, rfl, rfl, _, rfl, ?_⟩
      by_cases c : a ≤ i
      · rw [decide_eq_true c]
        refine iteT ⟨_, rfl, _, _, rfl, rfl, ?_⟩
        have e : within (.int i) a b = decide (i ≤ b) := by simp [within, c]
        rw [e] at q
        exact q
      · rw [decide_eq_false c]
        refine iteF ?_
        have e : within (.int i) a b = false := by simp [within, c]
        rw [e] at q
        exact q
    | bl b => exact iteF q
    | non => exact iteF q
    | str z => exact iteF q
    | tup e => exact iteF q
theorem sc_tup : FnScope ["thing", "fewest", "most"] ["thing", "fewest", "most"] (defScope stTup) := ⟨rfl, rfl, rfl, by decide +kernel, rfl, by decide +kernel, by decide +kernel⟩
theorem ok_tup {f : Addr} {fd : FuncData} (F : Fun K "is_tuple" "is_tuple" stTup f fd) (T : TxtKind mg) : FnOk P w K mg base CX0 1 f fd ["thing", "fewest", "most"] spTupN := by
  refine F.ok sc_tup (fun vs H Q E h => ?_) (fun cdv A outer s H vs Q E hr h => ?_)
  · obtain ⟨x, t, a, b, rfl, _⟩ := h
    rfl
  · obtain ⟨x, t, a, b, rfl, p, q⟩ := h
    refine ⟨_, pss_one (ps_ret (pe_and (pe_callB call_isi (by rfl) T.isi boot_isinstance (pa_cons (pv 0) (pa_cons (pe_bltn (v := .ty "tuple") (by rfl) T.tuple (by decide +kernel) rfl) pa_nil)))
      (pe_one (pe_chain op_le op_le (pv 1) (pe_callB call_len_seq (by rfl) T.len PySem.boot_len (pa_cons (pv 0) pa_nil)) (pv 2))))), ?_⟩
    refine ⟨_, rfl, x, _, t, _, _, rfl, .ty "tuple", p.ty, p.kT, _, rfl, ?_⟩
    cases p with
    | int i => exact iteF q
    | bl b => exact iteF q
    | non => exact iteF q
    | str z => exact iteF q
    | @tup pa xs e =>
      rw [tupB_of e] at q
      refine iteT ⟨_, rfl, _, rfl, _, _, rfl, .inr (SqT.of e), _, _, rfl, rfl, _, rfl, ?_⟩
      by_cases c : a ≤ (xs.length : Int)
      · rw [decide_eq_true c]
        rw [decide_eq_true c, Bool.true_and] at q
        exact iteT ⟨_, rfl, _, _, rfl, rfl, q⟩
      · rw [decide_eq_false c]
        rw [decide_eq_false c, Bool.false_and] at q
        exact iteF q
end
end Hm

set_option Elab.async false
set_option maxRecDepth 100000
set_option maxHeartbeats 4000000
namespace Hm
open PySem PySem.Spec PyProof.Rows L2 HmS
def rLtD (K : PySem.W.Frag) : R2 := fun x y H Q => ∃ d e, Dp K H x d ∧ Dp K H y e ∧ PySem.W.alike d e = true ∧ d ≠ .none ∧ d.depth ≤ 60 ∧ Q (.bl (PySem.W.dataLt d e)) H
theorem op_ltD {X : Cx} (hu : X.A.units + 64 < cLine) : OpR X (compareOp .Lt) (rLtD X.K) := by
  intro pins s σ H x y v u Q I rx ry h
  obtain ⟨d, e, hd, he, al, nn, dp, q⟩ := h
  obtain ⟨as, r1⟩ := Dp.reads I d x v hd rx
  obtain ⟨bs, r2⟩ := Dp.reads I e y u he ry
  exact PySem.W.lt_data r1 r2 al nn (by omega) ⟨.bl _, H, I, rfl, q⟩
def signOk (c : Nat) : Bool := !decide ([c] < [97]) && !decide ([122] < [c])
def lettersV (x : V) (a b : Int) : Bool :=
  match x with
  | .str z => decide (a ≤ z.length) && decide ((z.length : Int) ≤ b) && (z.cps.toList.map signOk).all id
  | _ => false
def spLet : Sp := fun vs H Q _ => ∃ (x : V) (t : Value) (a b : Int), vs = [x, .int a, .int b] ∧ Plain H x t ∧ (∀ z, x = .str z → z.length ≤ 1000) ∧ ∀ H', Same H H' → Q (.bl (lettersV x a b)) H'
def KyAt (H : Hp) (a : Addr) (s : SetT) : Prop := H a = some (.tup [.str s.1, .int s.2.1])
def riseK (ss : List SetT) : Bool := ((ss.zip ss.tail).map fun p => decide (setLt p.1 p.2)).all id
def spRis : Sp := fun vs H Q _ => ∃ (l : Addr) (as : List Addr) (ss : List SetT), vs = [.ref l] ∧ H l = some (.lst (as.map V.ref)) ∧ Paired (KyAt H) as ss ∧ ss.length ≤ 1000 ∧ ∀ H', Same H H' → Q (.bl (riseK ss)) H'
section
variable {P : Program} {w : World} {K : PySem.W.Frag} {mg : Str → Option Value} {base : Heap}
abbrev nLet : List Str := ["thing", "fewest", "most", "sign"]
theorem sc_let : FnScope nLet ["thing", "fewest", "most"] (defScope stLet) := ⟨rfl, rfl, rfl, by decide +kernel, rfl, by decide +kernel, by decide +kernel⟩
theorem ok_let {f : Addr} {fd : FuncData} (F : Fun K "is_letters" "is_letters" stLet f fd) (T : TxtKind mg) : FnOk P w K mg base CX0 1 f fd ["thing", "fewest", "most"] spLet := by
  refine F.ok sc_let (fun vs H Q E h => ?_) (fun cdv A outer s H vs Q E hr h => ?_)
  · obtain ⟨x, t, a, b, rfl, _⟩ := h
    rfl
  · obtain ⟨x, t, a, b, rfl, p, lz, q⟩ := h
    refine ⟨_, pss_cons (ps_if (PW.pt (pw_or (pt_not (pt_val (pe_callB call_isi (by rfl) T.isi boot_isinstance (pa_cons (pv 0) (pa_cons (pe_bltn (v := .ty "str") (by rfl) T.str (by decide +kernel) rfl) pa_nil)))))
        (pw_or1 (pt_not (pt_chain op_le op_le (pv 1) (pe_callB call_len (by rfl) T.len PySem.boot_len (pa_cons (pv 0) pa_nil)) (pv 2)))))) (pss_one (ps_ret pe_bl)) pss_nil)
      (pss_one (ps_ret (pe_callB (cr_all rfl) (by rfl) T.all (by decide +kernel) (pa_cons (pe_lc (own := [("sign", 3)]) (g := gName 3) (tt := tYes) rfl sc_let.nd (pi_str (pv 0))
        (blkOk_by (N := nLet) (sc := defScope stLet) (by decide +kernel)) (fun _ _ _ _ _ => pg_name (i := 3) sc_let.nd rfl (Or.inl rfl)) (fun _ _ _ _ _ => pts_nil)
        (fun _ _ _ _ _ => pe_chain op_le_str op_le_str pe_str (pv 3) pe_str)) pa_nil)))), ?_⟩
    refine ⟨_, rfl, x, _, t, _, _, rfl, .ty "str", p.ty, p.kS, _, rfl, ?_⟩
    cases p with
    | int i => exact iteT (iteT (q H fun _ _ e => e))
    | bl b => exact iteT (iteT (q H fun _ _ e => e))
    | non => exact iteT (iteT (q H fun _ _ e => e))
    | tup e => exact iteT (iteT (q H fun _ _ e => e))
    | str z =>
      have hz := lz z rfl
      refine iteF ⟨_, rfl, _, rfl, _, z.length, rfl, ⟨by rw [sizeLine_eq]; omega, rfl⟩, _, _, rfl, rfl, _, rfl, ?_⟩
      have fin : a ≤ z.length → (z.length : Int) ≤ b → lettersV (.str z) a b = (z.cps.toList.map signOk).all id := fun h1 h2 => by simp [lettersV, h1, h2]
      by_cases c1 : a ≤ (z.length : Int)
      · rw [decide_eq_true c1]
        refine iteT ⟨_, rfl, _, _, rfl, rfl, _, rfl, ?_⟩
        by_cases c2 : (z.length : Int) ≤ b
        · rw [decide_eq_true c2]
          refine iteF ⟨_, rfl, z, rfl, fun D hD => lc_it walk_str (fun i H' => Same H H' ∧ H' D = some (.lst (((z.cps.toList.take i).map signOk).map V.bl))) ⟨same_upd hD, upd_same⟩ (fun _ _ _ _ => True.intro) (fun i x H1 H2 hi pv y => ?_) (fun H' pv => ?_)⟩
          · obtain ⟨sm, hDi⟩ := pv
            obtain ⟨rfl, ch, hc, rfl⟩ := y
            have hc2 : z.cps.toList[i]? = some ch := by rw [Array.getElem?_toList]; exact hc
            have et : z.cps.toList.take (i + 1) = z.cps.toList.take i ++ [ch] := by rw [List.take_add_one, hc2]; rfl
            have hi2 : i < z.length := hi
            have ll : (((z.cps.toList.take i).map signOk).map V.bl).length < sizeLine := by
              have := List.length_take (i := i) (l := z.cps.toList)
              rw [List.length_map, List.length_map, sizeLine_eq]
              omega
            have step : ∀ {b : Bool}, b = signOk ch → Same H (upd H2 D (.lst (((z.cps.toList.take i).map signOk).map V.bl ++ [.bl b]))) ∧ upd H2 D (.lst (((z.cps.toList.take i).map signOk).map V.bl ++ [.bl b])) D = some (.lst (((z.cps.toList.take (i + 1)).map signOk).map V.bl)) := by
              intro b eb
              refine ⟨fun c o e => ?_, ?_⟩
              · rw [upd_ne (ne_of_none e hD)]
                exact sm _ _ e
              · rw [upd_same, et, List.map_append, List.map_append, eb]
                rfl
            refine ⟨rfl, yesT ⟨_, rfl, _, _, rfl, rfl, _, rfl, ?_⟩⟩
            by_cases g1 : [ch] < [97]
            · have e1 : (!decide (([ch] : List Nat) < [97])) = false := by rw [decide_eq_true g1]; rfl
              show if (!decide (([ch] : List Nat) < [97])) = true then _ else _
              rw [e1]
              exact iteF ⟨_, hDi, ll, step (by unfold signOk; rw [e1]; rfl)⟩
            · have e1 : (!decide (([ch] : List Nat) < [97])) = true := by rw [decide_eq_false g1]; rfl
              show if (!decide (([ch] : List Nat) < [97])) = true then _ else _
              rw [e1]
              refine iteT ⟨_, _, rfl, rfl, _, hDi, ll, step ?_⟩
              unfold signOk
              rw [e1, Bool.true_and]
              rfl
          · obtain ⟨sm, hDi⟩ := pv
            have el : z.cps.toList.take z.cps.size = z.cps.toList := List.take_of_length_le (by simp)
            rw [el] at hDi
            refine ⟨D, _, rfl, SqL.of hDi, ?_⟩
            rw [← fin c1 c2]
            exact q H' sm
        · rw [decide_eq_false c2]
          refine iteT ?_
          have e : lettersV (.str z) a b = false := by simp [lettersV, c2]
          rw [← e]
          exact q H fun _ _ e => e
      · rw [decide_eq_false c1]
        refine iteF ⟨_, rfl, ?_⟩
        refine iteT ?_
        have e : lettersV (.str z) a b = false := by simp [lettersV, c1]
        rw [← e]
        exact q H fun _ _ e => e
abbrev nRis : List Str := ["things", "ahead", "behind"]
theorem sc_ris : FnScope nRis ["things"] (defScope stRis) := ⟨rfl, rfl, rfl, by decide +kernel, rfl, by decide +kernel, by decide +kernel⟩
theorem ok_ris {f : Addr} {fd : FuncData} (F : Fun K "is_rising" "is_rising" stRis f fd) (T : TxtKind mg) : FnOk P w K mg base CX0 1 f fd ["things"] spRis := by
  refine F.ok sc_ris (fun vs H Q E h => ?_) (fun cdv A outer s H vs Q E hr h => ?_)
  · obtain ⟨l, as, ss, rfl, _⟩ := h
    rfl
  · obtain ⟨l, as, ss, rfl, hl, pr, hz, q⟩ := h
    refine ⟨_, pss_one (ps_ret (pe_callB (cr_all rfl) (by rfl) T.all (by decide +kernel) (pa_cons (pe_lc (own := [("ahead", 1), ("behind", 2)]) (g := gTup K 2 (gCons (gName 1) (gCons (gName 2) gNil))) (tt := tYes) rfl sc_ris.nd
        (pi_zip (by rfl) T.zip (pa_cons (pv 0) (pa_cons (pe_slice sl_list (pv 0) (po_some pe_int) po_none) pa_nil)))
        (blkOk_by (N := nRis) (sc := defScope stRis) (by decide +kernel)) (fun _ _ _ _ _ => by exact pg_tup rfl (pgs_cons (pg_name (i := 1) sc_ris.nd rfl (Or.inl rfl)) (pgs_cons (pg_name (i := 2) sc_ris.nd rfl (Or.inl rfl)) pgs_nil))) (fun _ _ _ _ _ => pts_nil)
        (fun _ _ _ _ _ => pe_cmpR (r := rLtD K) (op_ltD hr.units) (pv 1) (pv 2) (nomark _))) pa_nil))), ?_⟩
    refine ⟨_, rfl, _, rfl, 1, rfl, l, _, rfl, SqL.of hl, fun l2 hl2 => ⟨l, l2, _, _, rfl, SqL.of ((same_upd hl2) _ _ hl), SqL.of upd_same, fun D hD => ?_⟩⟩
    have ec : cutV (as.map V.ref) (some 1) none = as.tail.map V.ref := by
      unfold cutV
      cases as with
      | nil => rfl
      | cons a r =>
        have e1 : HT.sIx ((a :: r).map V.ref).length 0 (some ((1 : Nat) : Int)) = 1 := by
          rw [HT.sIx_nat, List.length_map, List.length_cons]
          omega
        show (((a :: r).map V.ref).drop (HT.sIx ((a :: r).map V.ref).length 0 (some ((1 : Nat) : Int)))).take (((a :: r).map V.ref).length - HT.sIx ((a :: r).map V.ref).length 0 (some ((1 : Nat) : Int))) = _
        rw [e1, List.map_cons, List.drop_succ_cons, List.drop_zero, List.tail_cons]
        exact List.take_of_length_le (by simp)
    rw [ec] at hD ⊢
    have el : as.length = ss.length := Paired.length pr
    have hn : (ss.zip ss.tail).length = min (as.map V.ref).length (as.tail.map V.ref).length := by
      rw [List.length_zip, List.length_map, List.length_map, List.length_tail, List.length_tail, el]
    have prt : Paired (KyAt H) as.tail ss.tail := by
      cases pr with
      | nil => exact .nil
      | cons _ t => exact t
    refine lc_it (walk_zip (K := K) (a := l) (b := l2) (xs := as.map V.ref) (ys := as.tail.map V.ref) hn)
      (fun i H' => Same (upd H l2 (.lst (as.tail.map V.ref))) H' ∧ H' D = some (.lst ((((ss.zip ss.tail).take i).map fun p => decide (setLt p.1 p.2)).map V.bl))) ⟨same_upd hD, upd_same⟩
      (fun i H' _ pv => ⟨SqL.of (pv.1 _ _ ((same_upd hl2) _ _ hl)), SqL.of (pv.1 _ _ upd_same)⟩) (fun i x H1 H2 hi pv y => ?_) (fun H' pv => ?_)
    · obtain ⟨sm, hDi⟩ := pv
      obtain ⟨T1, x1, y1, rfl, hT1, rfl, ex, ey⟩ := y
      have ex : (as.map V.ref)[i]? = some x1 := ex
      have ey : (as.tail.map V.ref)[i]? = some y1 := ey
      rw [List.getElem?_map] at ex ey
      cases h1 : as[i]? with
      | none =>
        rw [h1] at ex
        cases ex
      | some a1 =>
        rw [h1] at ex
        cases ex
        cases h2 : as.tail[i]? with
        | none =>
          rw [h2] at ey
          cases ey
        | some a2 =>
          rw [h2] at ey
          cases ey
          obtain ⟨s1, g1, k1⟩ := Paired.gl pr h1
          obtain ⟨s2, g2, k2⟩ := Paired.gl prt h2
          have gz : (ss.zip ss.tail)[i]? = some (s1, s2) := List.getElem?_zip_eq_some.mpr ⟨g1, g2⟩
          have et : (ss.zip ss.tail).take (i + 1) = (ss.zip ss.tail).take i ++ [(s1, s2)] := by rw [List.take_add_one, gz]; rfl
          have sT : Same H (upd H1 T1 (.tup [.ref a1, .ref a2])) := ((same_upd hl2).trans sm).trans (same_upd hT1)
          have dp : ∀ {a : Addr} {s : SetT}, KyAt H a s → Dp K (upd H1 T1 (.tup [.ref a1, .ref a2])) (.ref a) (keyD (entS s).1) := fun {a s} h =>
            .tup (SqT.of (sT _ _ h)) (.cons (.str _) (.cons (.int _) .nil))
          refine ⟨T1, _, rfl, SqT.of upd_same, rfl, _, _, rfl, _, _, rfl, rfl, rfl, yesT ⟨_, rfl, _, rfl, keyD (entS s1).1, keyD (entS s2).1, dp k1, dp k2, ?_, ?_, ?_, _, (same_upd hT1) _ _ hDi, ?_, ?_, ?_⟩⟩
          · simp [keyD, entS, HmS.kD, PySem.W.alike, PySem.W.alikeAll]
          · intro z
            cases z
          · have := keyD_depth (entS s1).1
            omega
          · have := List.length_take (i := i) (l := ss.zip ss.tail)
            have h3 : (ss.zip ss.tail).length ≤ ss.length := by rw [List.length_zip]; omega
            rw [List.length_map, List.length_map, sizeLine_eq]
            omega
          · intro c o e
            rw [upd_ne (ne_of_none e hD)]
            exact (same_upd hT1) _ _ (sm _ _ e)
          · rw [upd_same, et, List.map_append, List.map_append, dl_set]
            rfl
    · obtain ⟨sm, hDi⟩ := pv
      rw [List.take_length] at hDi
      exact ⟨D, _, rfl, SqL.of hDi, q H' ((same_upd hl2).trans sm)⟩
end
end Hm

set_option Elab.async false
set_option maxRecDepth 100000
set_option maxHeartbeats 4000000
namespace Hm
open PySem PySem.Spec PyProof.Rows L2 HmS
abbrev stYea : Stmt := topSt 29 -- row is_year
abbrev stSet : Stmt := topSt 30 -- row is_set
abbrev stLis : Stmt := topSt 31 -- row is_list
abbrev stNum : Stmt := topSt 32 -- row is_set_number
theorem placesM_mem : ∀ {sets : List SetT} {i : Nat} {p : PlT}, p ∈ placesM i sets ↔ ∃ (k : Nat) (st : SetT), sets[k]? = some st ∧ p.1 = ((i + k : Nat) : Int) ∧ ∃ n : Nat, n < st.2.2.toNat ∧ p.2 = (n : Int)
  | [], i, p => by simp [placesM]
  | s :: r, i, p => by
    show p ∈ rowP i s ++ placesM (i + 1) r ↔ _
    rw [List.mem_append, placesM_mem (sets := r)]
    constructor
    · rintro (h | ⟨k, st, h1, h2, h3⟩)
      · obtain ⟨n, hn, rfl⟩ := List.mem_map.mp h
        exact ⟨0, s, rfl, rfl, n, List.mem_range.mp hn, rfl⟩
      · exact ⟨k + 1, st, by simpa using h1, by rw [h2, show i + 1 + k = i + (k + 1) by omega], h3⟩
    · rintro ⟨k, st, h1, h2, n, h3, h4⟩
      cases k with
      | zero =>
        cases (show some s = some st from by simpa using h1)
        exact .inl (List.mem_map.mpr ⟨n, List.mem_range.mpr h3, Prod.ext h2.symm h4.symm⟩)
      | succ k => exact .inr ⟨k, st, by simpa using h1, by rw [h2, show i + (k + 1) = i + 1 + k by omega], n, h3, h4⟩
theorem lands_ok : ∀ z ∈ landsL, z.length ≤ 8 ∧ 1 ≤ z.length ∧ lettersV (.str z) 1 8 = true := by
  intro z hz
  simp only [landsL, List.mem_cons, List.not_mem_nil, or_false] at hz
  rcases hz with rfl | rfl | rfl | rfl <;> exact ⟨by decide, by decide, by decide +kernel⟩
theorem names_ok : ∀ z ∈ namesL, z.length ≤ 8 ∧ lettersV (.str z) 0 8 = true := by
  intro z hz
  simp only [namesL, List.mem_cons, List.not_mem_nil, or_false] at hz
  rcases hz with rfl | rfl | rfl | rfl | rfl <;> exact ⟨by decide, by decide +kernel⟩
def spSetIs : Sp := fun vs H Q _ => ∃ (a : Addr) (s : SetT), vs = [.ref a] ∧ SetAt H a s ∧ SetOk s ∧ ∀ H', Same H H' → Q (.bl true) H'
def spLisIs : Sp := fun vs H Q _ => ∃ (b : Addr) (sets : List SetT), vs = [.ref b] ∧ Book H b sets ∧ ∀ H', Same H H' → Q (.bl true) H'
def spYea : Sp := fun vs H Q _ => ∃ (x : V) (t : Value), vs = [x] ∧ Plain H x t ∧ Q (.bl (within x 1840 2100)) H
def spNum : Sp := fun vs H Q _ => ∃ (b : Addr) (sets : List SetT) (x : V) (t : Value), vs = [.ref b, x] ∧ Book H b sets ∧ Plain H x t ∧ Q (.bl (within x 0 ((sets.length : Int) - 1))) H
theorem rise_zip : ∀ {ss : List SetT}, ss.Pairwise setLt → ∀ p ∈ ss.zip ss.tail, setLt p.1 p.2
  | [], _, p, hp => by simp at hp
  | [_], _, p, hp => by simp at hp
  | s :: s2 :: r2, h, p, hp => by
    rw [List.tail_cons, List.zip_cons_cons] at hp
    rw [List.pairwise_cons] at h
    rcases List.mem_cons.mp hp with rfl | hp
    · exact h.1 s2 List.mem_cons_self
    · exact rise_zip h.2 p hp
theorem riseK_ok {ss : List SetT} (h : ss.Pairwise setLt) : riseK ss = true := by
  unfold riseK
  rw [List.all_eq_true]
  intro b hb
  obtain ⟨p, hp, rfl⟩ := List.mem_map.mp hb
  exact decide_eq_true (rise_zip h p hp)
structure TxtBook (mg : Str → Option Value) (fW fL fR fS fT fY : Addr) : Prop where
  k : TxtKind mg
  gT : mg "is_tuple" = some (.ref fT)
  gY : mg "is_year" = some (.ref fY)
  gW : mg "is_whole_within" = some (.ref fW)
  gL : mg "is_letters" = some (.ref fL)
  gR : mg "is_rising" = some (.ref fR)
  gS : mg "is_set" = some (.ref fS)
section
variable {P : Program} {w : World} {K : PySem.W.Frag} {mg : Str → Option Value} {base : Heap}
theorem sc_num : FnScope ["book", "thing"] ["book", "thing"] (defScope stNum) := ⟨rfl, rfl, rfl, by decide +kernel, rfl, by decide +kernel, by decide +kernel⟩
theorem ok_num {f fW : Addr} {fd fdW : FuncData} (F : Fun K "is_set_number" "is_set_number" stNum f fd) (gW : mg "is_whole_within" = some (.ref fW)) (hl : mg "len" = none) (kW : PySem.W.keepIn K (.ref fW) = true)
    (GW : FnOk P w K mg base CX0 2 fW fdW ["thing", "least", "most"] spWit) (bW : Binds K fdW ["thing", "least", "most"] []) : FnOk P w K mg base CX0 3 f fd ["book", "thing"] spNum := by
  refine F.ok sc_num (fun vs H Q E h => ?_) (fun cdv A outer s H vs Q E hr h => ?_)
  · obtain ⟨b, sets, x, t, rfl, _⟩ := h
    rfl
  · obtain ⟨b, sets, x, t, rfl, bk, p, q⟩ := h
    obtain ⟨ok, bs, hb, pb⟩ := id bk
    refine ⟨_, pss_one (ps_ret (pe_call GW hr (by rfl) gW kW bW .nil pass0 (pa_cons (pv 1) (pa_cons pe_int (pa_cons (pe_op op_sub (pe_callB call_len_seq (by rfl) hl PySem.boot_len (pa_cons (pv 0) pa_nil)) pe_int) pa_nil))))), ?_⟩
    refine ⟨_, rfl, _, rfl, b, _, rfl, .inr (SqT.of hb), _, _, rfl, rfl, x, t, _, _, rfl, p, ?_⟩
    rw [List.length_map, Paired.length pb]
    exact q
theorem sc_yea : FnScope ["thing"] ["thing"] (defScope stYea) := ⟨rfl, rfl, rfl, by decide +kernel, rfl, by decide +kernel, by decide +kernel⟩
theorem ok_yea {f fW : Addr} {fd fdW : FuncData} (F : Fun K "is_year" "is_year" stYea f fd) (gW : mg "is_whole_within" = some (.ref fW)) (kW : PySem.W.keepIn K (.ref fW) = true)
    (GW : FnOk P w K mg base CX0 2 fW fdW ["thing", "least", "most"] spWit) (bW : Binds K fdW ["thing", "least", "most"] []) : FnOk P w K mg base CX0 3 f fd ["thing"] spYea := by
  refine F.ok sc_yea (fun vs H Q E h => ?_) (fun cdv A outer s H vs Q E hr h => ?_)
  · obtain ⟨x, t, rfl, _⟩ := h
    rfl
  · obtain ⟨x, t, rfl, p, q⟩ := h
    refine ⟨_, pss_one (ps_ret (pe_call GW hr (by rfl) gW kW bW .nil pass0 (pa_cons (pv 0) (pa_cons pe_int (pa_cons pe_int pa_nil))))), ?_⟩
    exact ⟨_, rfl, x, t, 1840, 2100, rfl, p, q⟩
abbrev nSet : List Str := ["thing", "land", "year", "many"]
theorem sc_set : FnScope nSet ["thing"] (defScope stSet) := ⟨rfl, rfl, rfl, by decide +kernel, rfl, by decide +kernel, by decide +kernel⟩
theorem ok_set {f fW fL fR fS fT fY : Addr} {fd fdW fdL fdT fdY : FuncData} (F : Fun K "is_set" "is_set" stSet f fd) (T : TxtBook mg fW fL fR fS fT fY) (kW : PySem.W.keepIn K (.ref fW) = true) (kL : PySem.W.keepIn K (.ref fL) = true)
    (GW : FnOk P w K mg base CX0 2 fW fdW ["thing", "least", "most"] spWit) (bW : Binds K fdW ["thing", "least", "most"] [])
    (GL : FnOk P w K mg base CX0 1 fL fdL ["thing", "fewest", "most"] spLet) (bL : Binds K fdL ["thing", "fewest", "most"] [])
    (kT : PySem.W.keepIn K (.ref fT) = true) (GT : FnOk P w K mg base CX0 1 fT fdT ["thing", "fewest", "most"] spTupN) (bT : Binds K fdT ["thing", "fewest", "most"] [])
    (kY : PySem.W.keepIn K (.ref fY) = true) (GY : FnOk P w K mg base CX0 3 fY fdY ["thing"] spYea) (bY : Binds K fdY ["thing"] []) : FnOk P w K mg base CX0 4 f fd ["thing"] spSetIs := by
  refine F.ok sc_set (fun vs H Q E h => ?_) (fun cdv A outer s H vs Q E hr h => ?_)
  · obtain ⟨a, st, rfl, _⟩ := h
    rfl
  · obtain ⟨a, st, rfl, ha, ok, q⟩ := h
    refine ⟨_, pss_cons (ps_if (pt_not (pt_val (pe_call GT (hr.mono (by decide)) (by rfl) T.gT kT bT .nil pass0 (pa_cons (pv 0) (pa_cons pe_int (pa_cons pe_int pa_nil)))))) (pss_one (ps_ret pe_bl)) pss_nil)
      (pss_cons (ps_asg (pv 0) (pg_tup rfl (pgs_cons (pg_name (i := 1) sc_set.nd rfl (Or.inl rfl)) (pgs_cons (pg_name (i := 2) sc_set.nd rfl (Or.inl rfl)) (pgs_cons (pg_name (i := 3) sc_set.nd rfl (Or.inl rfl)) pgs_nil)))))
      (pss_one (ps_ret (pe_and (pe_call GL (hr.mono (by decide)) (by rfl) T.gL kL bL .nil pass0 (pa_cons (pv 1) (pa_cons pe_int (pa_cons pe_int pa_nil))))
        (pe_and (pe_call GY hr (by rfl) T.gY kY bY .nil pass0 (pa_cons (pv 2) pa_nil)) (pe_one (pe_call GW (hr.mono (by decide)) (by rfl) T.gW kW bW .nil pass0 (pa_cons (pv 3) (pa_cons pe_int (pa_cons pe_int pa_nil)))))))))), ?_⟩
    have pa : Plain H (.ref a) (.type "tuple") := .tup ha
    refine ⟨_, rfl, .ref a, _, 3, 3, rfl, pa, _, rfl, ?_⟩
    rw [tupB_of ha]
    refine iteF ?_
    refine ⟨_, rfl, a, _, rfl, SqT.of ha, rfl, _, _, rfl, _, _, rfl, _, _, rfl, rfl, ?_⟩
    have ol := lands_ok st.1 ok.land
    have y0 := ok.y0
    have y1 := ok.y1
    have m0 := ok.m0
    have m1 := ok.m1
    refine ⟨_, rfl, .str st.1, _, 1, 8, rfl, .str _, (fun z e => by cases e; omega), fun H1 s1 => ⟨_, rfl, ?_⟩⟩
    rw [ol.2.2]
    refine iteT ⟨_, rfl, .int st.2.1, _, rfl, .int _, _, rfl, ?_⟩
    have e1 : within (.int st.2.1) 1840 2100 = true := by simp [within, y0, y1]
    rw [e1]
    refine iteT ⟨_, rfl, .int st.2.2, _, 1, 6, rfl, .int _, ?_⟩
    have e2 : within (.int st.2.2) 1 6 = true := by simp [within, m0, m1]
    rw [e2]
    exact q H1 s1
abbrev nLis : List Str := ["thing", "part"]
theorem sc_lis : FnScope nLis ["thing"] (defScope stLis) := ⟨rfl, rfl, rfl, by decide +kernel, rfl, by decide +kernel, by decide +kernel⟩
theorem ok_lis {f fW fL fR fS fT fY : Addr} {fd fdR fdS fdT : FuncData} (F : Fun K "is_list" "is_list" stLis f fd) (T : TxtBook mg fW fL fR fS fT fY) (kR : PySem.W.keepIn K (.ref fR) = true) (kS : PySem.W.keepIn K (.ref fS) = true)
    (kT : PySem.W.keepIn K (.ref fT) = true) (GT : FnOk P w K mg base CX0 1 fT fdT ["thing", "fewest", "most"] spTupN) (bT : Binds K fdT ["thing", "fewest", "most"] [])
    (GS : FnOk P w K mg base CX0 4 fS fdS ["thing"] spSetIs) (bS : Binds K fdS ["thing"] [])
    (GR : FnOk P w K mg base CX0 1 fR fdR ["things"] spRis) (bR : Binds K fdR ["things"] []) : FnOk P w K mg base CX0 5 f fd ["thing"] spLisIs := by
  refine F.ok sc_lis (fun vs H Q E h => ?_) (fun cdv A outer s H vs Q E hr h => ?_)
  · obtain ⟨b, sets, rfl, _⟩ := h
    rfl
  · obtain ⟨b, sets, rfl, bk, q⟩ := h
    obtain ⟨ok, bs, hb, pb⟩ := id bk
    refine ⟨_, pss_cons (ps_if (PW.pt (pw_or (pt_not (pt_val (pe_call GT (hr.mono (by decide)) (by rfl) T.gT kT bT .nil pass0 (pa_cons (pv 0) (pa_cons pe_int (pa_cons pe_int pa_nil))))))
        (pw_or1 (pt_not (pt_val (pe_callB (cr_all rfl) (by rfl) T.k.all (by decide +kernel) (pa_cons (pe_lc (own := [("part", 1)]) (g := gName 1) (tt := tYes) rfl sc_lis.nd (pi_tup (pv 0))
          (blkOk_by (N := nLis) (sc := defScope stLis) (by decide +kernel)) (fun _ _ _ _ _ => pg_name (i := 1) sc_lis.nd rfl (Or.inl rfl)) (fun _ _ _ _ _ => pts_nil)
          (fun _ _ _ _ _ => pe_call GS hr (by rfl) T.gS kS bS .nil pass0 (pa_cons (pv 1) pa_nil))) pa_nil))))))) (pss_one (ps_ret pe_bl)) pss_nil)
      (pss_one (ps_ret (pe_call GR (hr.mono (by decide)) (by rfl) T.gR kR bR .nil pass0 (pa_cons (pe_lc (own := [("part", 1)]) (g := gName 1) (tt := tYes) rfl sc_lis.nd (pi_tup (pv 0))
          (blkOk_by (N := nLis) (sc := defScope stLis) (by decide +kernel)) (fun _ _ _ _ _ => pg_name (i := 1) sc_lis.nd rfl (Or.inl rfl)) (fun _ _ _ _ _ => pts_nil)
          (fun _ _ _ _ _ => pe_slice (r := rSlT K) sl_tup (pv 1) po_none (po_some pe_int))) pa_nil)))), ?_⟩
    have pa : Plain H (.ref b) (.type "tuple") := .tup hb
    have bl : bs.length = sets.length := Paired.length pb
    have l0 := ok.len0
    have l1 := ok.len1
    refine ⟨_, rfl, .ref b, _, 1, 4, rfl, pa, _, rfl, ?_⟩
    rw [tupB_of hb, List.length_map, bl, decide_eq_true (show (1 : Int) ≤ sets.length by omega), decide_eq_true (show (sets.length : Int) ≤ 4 by omega)]
    refine iteF ⟨_, rfl, b, rfl, ⟨_, SqT.of hb⟩, fun D hD => lc_tup (K := K) (xs := bs.map V.ref) (fun i H' => Same H H' ∧ H' D = some (.lst ((List.replicate i true).map V.bl)))
      ⟨same_upd hD, upd_same⟩ (fun i H' _ pv => SqT.of (pv.1 _ _ hb)) (fun i x H1 hx pv => ?_) (fun H1 pv => ?_)⟩
    · obtain ⟨sm, hDi⟩ := pv
      rw [List.getElem?_map] at hx
      cases h1 : bs[i]? with
      | none =>
        rw [h1] at hx
        cases hx
      | some a1 =>
        rw [h1] at hx
        cases hx
        obtain ⟨s1, g1, k1⟩ := Paired.gl pb h1
        have hi := (List.getElem?_eq_some_iff.mp g1).1
        refine ⟨rfl, yesT ⟨_, rfl, a1, s1, rfl, sm _ _ k1, ok.ok _ (List.mem_of_getElem? g1), fun H2 s2 => ⟨_, s2 _ _ hDi, by rw [List.length_map, List.length_replicate]; exact small1000 (by omega), fun c o e => ?_, ?_⟩⟩⟩
        · rw [upd_ne (ne_of_none e hD)]
          exact s2 _ _ (sm _ _ e)
        · rw [upd_same, List.replicate_succ', List.map_append]
          rfl
    · obtain ⟨sm, hDi⟩ := pv
      have ea : (List.replicate (bs.map V.ref).length true).all id = true := by rw [List.all_replicate]; simp
      refine ⟨D, _, rfl, SqL.of hDi, _, rfl, ?_⟩
      rw [ea]
      refine iteF ⟨_, rfl, b, rfl, ⟨_, SqT.of (sm _ _ hb)⟩, fun D2 hD2 => lc_tup (K := K) (xs := bs.map V.ref) (fun i H' => Same H1 H' ∧ ∃ cs : List Addr, H' D2 = some (.lst (cs.map V.ref)) ∧ Paired (KyAt H') cs (sets.take i))
        ⟨same_upd hD2, [], upd_same, .nil⟩ (fun i H' _ pv => SqT.of (pv.1 _ _ (sm _ _ hb))) (fun i x H2 hx pv => ?_) (fun H2 pv => ?_)⟩
      · obtain ⟨sm2, cs, hDc, pc⟩ := pv
        rw [List.getElem?_map] at hx
        cases h1 : bs[i]? with
        | none =>
          rw [h1] at hx
          cases hx
        | some a1 =>
          rw [h1] at hx
          cases hx
          obtain ⟨s1, g1, k1⟩ := Paired.gl pb h1
          have hi := (List.getElem?_eq_some_iff.mp g1).1
          have lc : cs.length ≤ 4 := by
            rw [Paired.length pc, List.length_take]
            omega
          refine ⟨rfl, yesT ⟨_, rfl, 2, rfl, a1, _, rfl, SqT.of (sm2 _ _ (sm _ _ k1)), (fun z => absurd z.2 (by show ¬ HT.sIx 3 3 (some 2) = 3; decide)), fun p hp => ⟨_, (same_upd hp) _ _ hDc, by rw [List.length_map]; exact small1000 (by omega), fun c o e => ?_, cs ++ [p], by rw [upd_same, List.map_append]; rfl, ?_⟩⟩⟩
          · rw [upd_ne (ne_of_none e hD2)]
            exact (same_upd hp) _ _ (sm2 _ _ e)
          · have et : sets.take (i + 1) = sets.take i ++ [s1] := by rw [List.take_add_one, g1]; rfl
            rw [et]
            have pD : p ≠ D2 := fun z => by
              rw [z, hDc] at hp
              cases hp
            refine Paired.snoc ?_ (Paired.mp (fun a s h => ?_) pc)
            · show upd _ D2 _ p = _
              rw [upd_ne pD]
              exact upd_same
            · have nD : a ≠ D2 := fun z => by
                have h' : H2 a = some (.tup _) := h
                rw [z, hDc] at h'
                cases h'
              show upd _ D2 _ a = _
              rw [upd_ne nD]
              exact (same_upd hp) _ _ h
      · obtain ⟨sm2, cs, hDc, pc⟩ := pv
        rw [List.length_map, bl, List.take_length] at pc
        refine ⟨D2, cs, sets, rfl, hDc, pc, by omega, fun H3 s3 => ?_⟩
        rw [riseK_ok ok.rise]
        exact q H3 ((sm.trans sm2).trans s3)
end
end Hm

set_option Elab.async false
set_option maxRecDepth 100000
set_option maxHeartbeats 4000000
namespace Hm
open PySem PySem.Spec PyProof.Rows L2 HmS
abbrev stIpl : Stmt := topSt 33 -- row is_place
abbrev stStp : Stmt := topSt 34 -- row is_stamp
abbrev stSts : Stmt := topSt 37 -- row is_stamps
def spStp : Sp := fun vs H Q _ => ∃ (b a : Addr) (sets : List SetT) (s : StT), vs = [.ref b, .ref a] ∧ Book H b sets ∧ StAt H a s ∧ StOk sets s ∧ ∀ H', Same H H' → Q (.bl true) H'
def spIpl : Sp := fun vs H Q _ => ∃ (b a : Addr) (sets : List SetT) (p : PlT), vs = [.ref b, .ref a] ∧ Book H b sets ∧ H a = some (.tup [.int p.1, .int p.2]) ∧ p ∈ placesM 0 sets ∧ Q (.bl true) H
def spSts : Sp := fun vs H Q _ => ∃ (b t : Addr) (sets : List SetT) (as : List Addr) (ss : List StT), vs = [.ref b, .ref t] ∧ Book H b sets ∧ H t = some (.tup (as.map V.ref)) ∧ Paired (StAt H) as ss ∧ (∀ s ∈ ss, StOk sets s) ∧ ss.length ≤ 400 ∧
  ∀ H', Same H H' → Q (.bl true) H'
structure TxtStp (mg : Str → Option Value) (fW fN fS fT fP : Addr) : Prop where
  k : TxtKind mg
  gW : mg "is_whole_within" = some (.ref fW)
  gN : mg "is_set_number" = some (.ref fN)
  gS : mg "is_stamp" = some (.ref fS)
  gT : mg "is_tuple" = some (.ref fT)
  gP : mg "is_place" = some (.ref fP)
  hinged : ∃ t, mg "HINGED" = some (.int 0 t)
  whole : ∃ t, mg "WHOLE" = some (.int 1 t)
section
variable {P : Program} {w : World} {K : PySem.W.Frag} {mg : Str → Option Value} {base : Heap}
abbrev nIpl : List Str := ["book", "thing", "at", "number"]
theorem sc_ipl : FnScope nIpl ["book", "thing"] (defScope stIpl) := ⟨rfl, rfl, rfl, by decide +kernel, rfl, by decide +kernel, by decide +kernel⟩
theorem ok_ipl {f fW fN fS fT fP : Addr} {fd fdW fdN fdT : FuncData} (F : Fun K "is_place" "is_place" stIpl f fd) (T : TxtStp mg fW fN fS fT fP) (kW : PySem.W.keepIn K (.ref fW) = true) (kN : PySem.W.keepIn K (.ref fN) = true) (kT : PySem.W.keepIn K (.ref fT) = true)
    (GW : FnOk P w K mg base CX0 2 fW fdW ["thing", "least", "most"] spWit) (bW : Binds K fdW ["thing", "least", "most"] [])
    (GT : FnOk P w K mg base CX0 1 fT fdT ["thing", "fewest", "most"] spTupN) (bT : Binds K fdT ["thing", "fewest", "most"] [])
    (GN : FnOk P w K mg base CX0 3 fN fdN ["book", "thing"] spNum) (bN : Binds K fdN ["book", "thing"] []) : FnOk P w K mg base CX0 4 f fd ["book", "thing"] spIpl := by
  refine F.ok sc_ipl (fun vs H Q E h => ?_) (fun cdv A outer s H vs Q E hr h => ?_)
  · obtain ⟨b, a, sets, st, rfl, _⟩ := h
    rfl
  · obtain ⟨b, a, sets, pl, rfl, bk, ha, hpl, q⟩ := h
    obtain ⟨ok, bs, hb, pb⟩ := id bk
    refine ⟨_, pss_cons (ps_if (pt_not (pt_val (pe_call GT (hr.mono (by decide)) (by rfl) T.gT kT bT .nil pass0 (pa_cons (pv 1) (pa_cons pe_int (pa_cons pe_int pa_nil)))))) (pss_one (ps_ret pe_bl)) pss_nil)
      (pss_cons (ps_asg (pv 1) (pg_tup rfl (pgs_cons (pg_name (i := 2) sc_ipl.nd rfl (Or.inl rfl)) (pgs_cons (pg_name (i := 3) sc_ipl.nd rfl (Or.inl rfl)) pgs_nil))))
      (pss_one (ps_ret (pe_and (pe_call GN hr (by rfl) T.gN kN bN .nil pass0 (pa_cons (pv 0) (pa_cons (pv 2) pa_nil)))
        (pe_one (pe_call GW (hr.mono (by decide)) (by rfl) T.gW kW bW .nil pass0 (pa_cons (pv 3) (pa_cons pe_int (pa_cons (pe_op op_sub (pe_ix (r := rIxT K) ix_tup (pe_ix (r := rIxT K) ix_tup (pv 0) (pv 2) (fun _ _ => rfl)) pe_int (fun _ _ => rfl)) pe_int) pa_nil))))))))), ?_⟩
    have pa : Plain H (.ref a) (.type "tuple") := .tup ha
    refine ⟨_, rfl, .ref a, _, 2, 2, rfl, pa, _, rfl, ?_⟩
    rw [tupB_of ha]
    refine iteF ?_
    refine ⟨_, rfl, a, _, rfl, SqT.of ha, rfl, _, _, rfl, _, _, rfl, rfl, ?_⟩
    obtain ⟨k, sx, hk, e1, n, hn, e2⟩ := placesM_mem.mp hpl
    rw [Nat.zero_add] at e1
    have hk2 := (List.getElem?_eq_some_iff.mp hk).1
    have okS := ok.ok sx (List.mem_of_getElem? hk)
    have m0 := okS.m0
    have w1 : within (.int pl.1) 0 ((sets.length : Int) - 1) = true := by
      simp only [within, Bool.and_eq_true, decide_eq_true_eq]
      omega
    refine ⟨_, rfl, _, rfl, b, sets, .int pl.1, _, rfl, bk, .int _, _, rfl, ?_⟩
    rw [w1]
    obtain ⟨ax, hax, kx⟩ := Paired.gt pb hk
    have at1 : atI (bs.map V.ref) pl.1 = some (.ref ax) := by
      rw [e1]
      exact atI_nat (by rw [List.getElem?_map, hax]; rfl)
    refine iteT ⟨_, rfl, _, rfl, _, rfl, b, _, _, _, rfl, rfl, SqT.of hb, at1, ax, _, _, .int sx.2.2, rfl, rfl, SqT.of kx, rfl, _, _, rfl, rfl, .int pl.2, _, 0, sx.2.2 - 1, rfl, .int _, ?_⟩
    have w2 : within (.int pl.2) 0 (sx.2.2 - 1) = true := by
      simp only [within, Bool.and_eq_true, decide_eq_true_eq]
      omega
    rw [w2]
    exact q
theorem sc_stp : FnScope ["book", "thing"] ["book", "thing"] (defScope stStp) := ⟨rfl, rfl, rfl, by decide +kernel, rfl, by decide +kernel, by decide +kernel⟩
theorem ok_stp {f fW fN fS fT fP : Addr} {fd fdW fdT fdP : FuncData} (F : Fun K "is_stamp" "is_stamp" stStp f fd) (T : TxtStp mg fW fN fS fT fP) (kW : PySem.W.keepIn K (.ref fW) = true) (kP : PySem.W.keepIn K (.ref fP) = true) (kT : PySem.W.keepIn K (.ref fT) = true)
    (GW : FnOk P w K mg base CX0 2 fW fdW ["thing", "least", "most"] spWit) (bW : Binds K fdW ["thing", "least", "most"] [])
    (GT : FnOk P w K mg base CX0 1 fT fdT ["thing", "fewest", "most"] spTupN) (bT : Binds K fdT ["thing", "fewest", "most"] [])
    (GP : FnOk P w K mg base CX0 4 fP fdP ["book", "thing"] spIpl) (bP : Binds K fdP ["book", "thing"] []) : FnOk P w K mg base CX0 5 f fd ["book", "thing"] spStp := by
  refine F.ok sc_stp (fun vs H Q E h => ?_) (fun cdv A outer s H vs Q E hr h => ?_)
  · obtain ⟨b, a, sets, st, rfl, _⟩ := h
    rfl
  · obtain ⟨b, a, sets, st, rfl, bk, ha, so, q⟩ := h
    obtain ⟨t0, hH⟩ := T.hinged
    obtain ⟨t1, hW⟩ := T.whole
    refine ⟨_, pss_cons (ps_if (pt_not (pt_val (pe_call GT (hr.mono (by decide)) (by rfl) T.gT kT bT .nil pass0 (pa_cons (pv 1) (pa_cons pe_int (pa_cons pe_int pa_nil)))))) (pss_one (ps_ret pe_bl)) pss_nil)
      (pss_one (ps_ret (pe_and (pe_call GP hr (by rfl) T.gP kP bP .nil pass0 (pa_cons (pv 0) (pa_cons (pe_slice (r := rSlT K) sl_tup (pv 1) po_none (po_some pe_int)) pa_nil)))
        (pe_one (pe_call GW (hr.mono (by decide)) (by rfl) T.gW kW bW .nil pass0 (pa_cons (pe_ix (r := rIxT K) ix_tup (pv 1) pe_int (fun _ _ => rfl)) (pa_cons (pe_glob (v := .int 0) (by rfl) hH ⟨_, rfl⟩) (pa_cons (pe_glob (v := .int 1) (by rfl) hW ⟨_, rfl⟩) pa_nil)))))))), ?_⟩
    have pa : Plain H (.ref a) (.type "tuple") := .tup ha
    refine ⟨_, rfl, .ref a, _, 3, 3, rfl, pa, _, rfl, ?_⟩
    rw [tupB_of ha]
    refine iteF ?_
    refine ⟨_, rfl, _, rfl, 2, rfl, a, _, rfl, SqT.of ha, (fun z => absurd z.2 (by show ¬ HT.sIx 3 3 (some 2) = 3; decide)), fun t ht => ?_⟩
    have s1 : Same H (upd H t (.tup [V.int st.1, V.int st.2.1])) := same_upd ht
    refine ⟨b, t, sets, (st.1, st.2.1), rfl, bk.same s1, upd_same, so.pl, _, rfl, ?_⟩
    have w3 : within (.int st.2.2) 0 1 = true := by
      have := so.g0
      have := so.g1
      simp only [within, Bool.and_eq_true, decide_eq_true_eq]
      omega
    refine iteT ⟨_, rfl, a, _, _, .int st.2.2, rfl, rfl, SqT.of (s1 _ _ ha), rfl, .int st.2.2, _, 0, 1, rfl, .int _, ?_⟩
    rw [w3]
    exact q _ s1
abbrev nSts : List Str := ["book", "thing", "part"]
theorem sc_sts : FnScope nSts ["book", "thing"] (defScope stSts) := ⟨rfl, rfl, rfl, by decide +kernel, rfl, by decide +kernel, by decide +kernel⟩
theorem ok_sts {f fW fN fS fT fP : Addr} {fd fdS : FuncData} (F : Fun K "is_stamps" "is_stamps" stSts f fd) (T : TxtStp mg fW fN fS fT fP) (kS : PySem.W.keepIn K (.ref fS) = true)
    (GS : FnOk P w K mg base CX0 5 fS fdS ["book", "thing"] spStp) (bS : Binds K fdS ["book", "thing"] []) : FnOk P w K mg base CX0 6 f fd ["book", "thing"] spSts := by
  refine F.ok sc_sts (fun vs H Q E h => ?_) (fun cdv A outer s H vs Q E hr h => ?_)
  · obtain ⟨b, t, sets, as, ss, rfl, _⟩ := h
    rfl
  · obtain ⟨b, t, sets, as, ss, rfl, bk, ht, pr, so, hz, q⟩ := h
    refine ⟨_, pss_one (ps_ret (pe_and (pe_callB call_isi (by rfl) T.k.isi boot_isinstance (pa_cons (pv 1) (pa_cons (pe_bltn (v := .ty "tuple") (by rfl) T.k.tuple (by decide +kernel) rfl) pa_nil)))
      (pe_one (pe_callB (cr_all rfl) (by rfl) T.k.all (by decide +kernel) (pa_cons (pe_lc (own := [("part", 2)]) (g := gName 2) (tt := tYes) rfl sc_sts.nd (pi_tup (pv 1))
          (blkOk_by (N := nSts) (sc := defScope stSts) (by decide +kernel)) (fun _ _ _ _ _ => pg_name (i := 2) sc_sts.nd rfl (Or.inl rfl)) (fun _ _ _ _ _ => pts_nil)
          (fun _ _ _ _ _ => pe_call GS hr (by rfl) T.gS kS bS .nil pass0 (pa_cons (pv 0) (pa_cons (pv 2) pa_nil)))) pa_nil))))), ?_⟩
    have pa : Plain H (.ref t) (.type "tuple") := .tup ht
    have bl : as.length = ss.length := Paired.length pr
    refine ⟨_, rfl, _, _, _, _, _, rfl, .ty "tuple", pa.ty, pa.kT, _, rfl, iteT ⟨_, rfl, t, rfl, ⟨_, SqT.of ht⟩, fun D hD => lc_tup (K := K) (xs := as.map V.ref) (fun i H' => Same H H' ∧ H' D = some (.lst ((List.replicate i true).map V.bl)))
      ⟨same_upd hD, upd_same⟩ (fun i H' _ pv => SqT.of (pv.1 _ _ ht)) (fun i x H1 hx pv => ?_) (fun H1 pv => ?_)⟩⟩
    · obtain ⟨sm, hDi⟩ := pv
      rw [List.getElem?_map] at hx
      cases h1 : as[i]? with
      | none =>
        rw [h1] at hx
        cases hx
      | some a1 =>
        rw [h1] at hx
        cases hx
        obtain ⟨s1, g1, k1⟩ := Paired.gl pr h1
        have hi := (List.getElem?_eq_some_iff.mp g1).1
        refine ⟨rfl, yesT ⟨_, rfl, _, rfl, b, a1, sets, s1, rfl, bk.same sm, sm _ _ k1, so _ (List.mem_of_getElem? g1), fun H2 s2 => ⟨_, s2 _ _ hDi, by rw [List.length_map, List.length_replicate]; exact small1000 (by omega), fun c o e => ?_, ?_⟩⟩⟩
        · rw [upd_ne (ne_of_none e hD)]
          exact s2 _ _ (sm _ _ e)
        · rw [upd_same, List.replicate_succ', List.map_append]
          rfl
    · obtain ⟨sm, hDi⟩ := pv
      have ea : (List.replicate (as.map V.ref).length true).all id = true := by rw [List.all_replicate]; simp
      refine ⟨D, _, rfl, SqL.of hDi, ?_⟩
      rw [ea]
      exact q H1 sm
end
end Hm

set_option Elab.async false
set_option maxRecDepth 100000
set_option maxHeartbeats 4000000
namespace Hm
open PySem PySem.Spec PyProof.Rows L2 HmS
abbrev stAlb : Stmt := topSt 38 -- row Album
abbrev sInit : Stmt := inClass stAlb 0 -- meth Album __init__
abbrev sChk : Stmt := inClass stAlb 4 -- meth Album _check_stamp
abbrev sCof : Stmt := inClass stAlb 7 -- meth Album count_of
abbrev sAof : Stmt := inClass stAlb 8 -- meth Album all_of
abbrev sGaA : Stmt := inClass stAlb 9 -- meth Album gaps
abbrev sFil : Stmt := inClass stAlb 10 -- meth Album _fills
abbrev sDbA : Stmt := inClass stAlb 11 -- meth Album doubles
abbrev sKee : Stmt := inClass stAlb 12 -- meth Album _keeps
abbrev sWho : Stmt := inClass stAlb 13 -- meth Album whole_sets
/-- a suite that isn't reached -/
def tNever : TS := fun _ _ _ => False
theorem pss_never {X : Cx} {b : List Stmt} : PSs X b tNever := ⟨fun _ _ _ _ _ _ h => h.elim⟩
/-! ### an album in the heap -/
theorem nbn : ¬ (("_book" : Str) = "_name") := by decide +kernel
theorem nbm : ¬ (("_book" : Str) = "_many") := by decide +kernel
theorem nnm : ¬ (("_name" : Str) = "_many") := by decide +kernel
def albF (b : Addr) (n : Str) (d : Addr) : List (Str × V) := putF "_many" (.ref d) (putF "_name" (.str n) (putF "_book" (.ref b) []))
theorem albF_eq (b : Addr) (n : Str) (d : Addr) : albF b n d = ([("_book", V.ref b), ("_name", V.str n), ("_many", V.ref d)] : List (Str × V)) := by
  unfold albF
  show putF "_many" (.ref d) (if ("_book" : Str) = "_name" then _ else (("_book" : Str), V.ref b) :: putF "_name" (V.str n) []) = _
  rw [if_neg nbn]
  show (if ("_book" : Str) = "_many" then _ else (("_book" : Str), V.ref b) :: (if ("_name" : Str) = "_many" then _ else (("_name" : Str), V.str n) :: putF "_many" (V.ref d) [])) = _
  rw [if_neg nbm, if_neg nnm]
  rfl
theorem albF_m (b : Addr) (n : Str) (d : Addr) : (albF b n d).lookup ("_many" : Str) = some (.ref d) := by
  unfold albF
  rw [lookup_putF, if_pos rfl]
theorem albF_n (b : Addr) (n : Str) (d : Addr) : (albF b n d).lookup ("_name" : Str) = some (.str n) := by
  unfold albF
  rw [lookup_putF, if_neg nnm, lookup_putF, if_pos rfl]
theorem albF_b (b : Addr) (n : Str) (d : Addr) : (albF b n d).lookup ("_book" : Str) = some (.ref b) := by
  unfold albF
  rw [lookup_putF, if_neg nbm, lookup_putF, if_neg nbn, lookup_putF, if_pos rfl]
theorem albF_no (b : Addr) (n : Str) (d : Addr) {m : Str} (h1 : ¬ m = "_many") (h2 : ¬ m = "_name") (h3 : ¬ m = "_book") : (albF b n d).lookup m = none := by
  unfold albF
  rw [lookup_putF, if_neg h1, lookup_putF, if_neg h2, lookup_putF, if_neg h3]
  rfl
/-- an album at p: the list at b, the name n, the counts cs at d -/
structure AlbAt (C : Addr) (H : Hp) (p b : Addr) (n : Str) (d : Addr) (cs : CtT) : Prop where
  ob : ∃ dx, H p = some (.ins C dx (albF b n d))
  dc : H d = some (.dT (cs.map entC))
theorem AlbAt.same {C : Addr} {H H' : Hp} {p b d : Addr} {n : Str} {cs : CtT} (s : Same H H') (h : AlbAt C H p b n d cs) : AlbAt C H' p b n d cs := by
  obtain ⟨⟨dx, e⟩, f⟩ := h
  exact ⟨⟨dx, s _ _ e⟩, s _ _ f⟩
theorem alb2 (b : Addr) (n : Str) : (putF "_name" (V.str n) (putF "_book" (V.ref b) [])).length < 1000 := by
  show (if ("_book" : Str) = "_name" then [(("_book" : Str), V.str n)] else (("_book" : Str), V.ref b) :: putF "_name" (V.str n) []).length < 1000
  rw [if_neg nbn]
  show 2 < 1000
  decide
theorem orT_tup {K : PySem.W.Frag} {σ : L2.St} {H : Hp} {Q : VK} {i : Nat} {t : Addr} {as : List Addr} (ht : σ[i]? = some (some (.ref t))) (hT : H t = some (.tup (as.map V.ref))) (q : ∀ t' G, Same H G → G t' = some (.tup (as.map V.ref)) → Q (.ref t') G) :
    tOrT K (tVar i) (tTup tNil) σ H Q := by
  cases as with
  | nil => exact ⟨_, ht, false, .inr (.inl ⟨_, SqT.of hT, rfl⟩), iteF ⟨by show 0 ≤ sizeLine; decide, fun t0 h0 => q t0 _ (same_upd h0) upd_same⟩⟩
  | cons a r => exact ⟨_, ht, true, .inr (.inl ⟨_, SqT.of hT, rfl⟩), iteT (q t H (fun _ _ e => e) hT)⟩
structure TxtAlb (K : PySem.W.Frag) (mg : Str → Option Value) (C : Addr) : Prop where
  cl : Cls K C
  nB : NoAttr K C "_book"
  nN : NoAttr K C "_name"
  nM : NoAttr K C "_many"
  mgC : mg "Album" = some (.ref C)
structure TxtCal (mg : Str → Option Value) (fLs fLt fSs fSt fNu : Addr) : Prop where
  gLs : mg "is_list" = some (.ref fLs)
  gLt : mg "is_letters" = some (.ref fLt)
  gSs : mg "is_stamps" = some (.ref fSs)
  gSt : mg "is_stamp" = some (.ref fSt)
  gNu : mg "is_set_number" = some (.ref fNu)
/-- a def with defaults that lets nothing out -/
theorem FunD.ok0 {P : Program} {w : World} {K : PySem.W.Frag} {mg : Str → Option Value} {base : Heap} {x qual : Str} {params : Arguments} {body : List Stmt} {scope : Scope} {dvs : List V} {kws : List (Str × V)} {f : Addr} {fd : FuncData} {N ps : List Str} {k : Nat} {sp : Sp} (F : FunD K x qual params body scope dvs kws f fd) (S : FnScope N ps scope) (len : ∀ vs H Q E, sp vs H Q E → vs.length = ps.length)
    (hbody : ∀ (cdv : Value) (A : Around) (outer : List Env) (s : Shared) (H : Hp) (vs : List V) (Q : VK) (E : XK), Room k (A.deeper (envOfC qual scope s.heap.objs.size f cdv)) → sp vs H Q E →
      ∃ t, PSs (cxOf CX0 P w K mg base N qual scope f cdv A outer s H E).nox body t ∧ t { nx := fun _ H' => Q .non H', rt := Q } (L2.start N vs) H) : FnOk P w K mg base CX0 (k + 1) f fd ps sp :=
  FunD.ok F S len fun cdv A outer s H vs Q E hr hsp => by
    obtain ⟨t, h, q⟩ := hbody cdv A outer s H vs Q E hr hsp
    exact ⟨t, h.nox, q⟩
abbrev FInit (K : PySem.W.Frag) (f : Addr) (fd : FuncData) : Prop := FunD K "__init__" "Album.__init__" (defArgs sInit) (defBody sInit) (defScope sInit) [.str "", .non] [] f fd
def NameOk (n : Str) : Prop := n.length ≤ 8 ∧ lettersV (.str n) 0 8 = true
def spInit (C : Addr) : Sp := fun vs H Q _ => ∃ (p dx b t : Addr) (n : Str) (sets : List SetT) (as : List Addr) (ss : List StT), vs = [.ref p, .ref b, .str n, .ref t] ∧ H p = some (.ins C dx []) ∧ Book H b sets ∧ NameOk n ∧
  H t = some (.tup (as.map V.ref)) ∧ Paired (StAt H) as ss ∧ (∀ s ∈ ss, StOk sets s) ∧ ss.length ≤ 400 ∧
  ∀ (H' : Hp) (d : Addr), Keep p H H' → H d = none → AlbAt C H' p b n d (countsM ss) → Q .non H'
def spIni0 (C : Addr) : Sp := fun vs H Q _ => ∃ (p dx b : Addr) (n : Str) (sets : List SetT), vs = [.ref p, .ref b, .str n, .non] ∧ H p = some (.ins C dx []) ∧ Book H b sets ∧ NameOk n ∧
  ∀ (H' : Hp) (d : Addr), Keep p H H' → H d = none → AlbAt C H' p b n d [] → Q .non H'
section
variable {P : Program} {w : World} {K : PySem.W.Frag} {mg : Str → Option Value} {base : Heap}
abbrev nInit : List Str := ["self", "book", "name", "stamps", "stamp"]
theorem sc_init : FnScope nInit ["self", "book", "name", "stamps"] (defScope sInit) := ⟨rfl, rfl, rfl, by decide +kernel, rfl, by decide +kernel, by decide +kernel⟩
theorem ok_init {f C fLs fLt fSs fSt fNu : Addr} {fd fdLs fdLt fdSs : FuncData} (F : FInit K f fd) (T : TxtAlb K mg C) (TC : TxtCal mg fLs fLt fSs fSt fNu)
    (kLs : PySem.W.keepIn K (.ref fLs) = true) (kLt : PySem.W.keepIn K (.ref fLt) = true) (kSs : PySem.W.keepIn K (.ref fSs) = true)
    (GLs : FnOk P w K mg base CX0 5 fLs fdLs ["thing"] spLisIs) (bLs : Binds K fdLs ["thing"] [])
    (GLt : FnOk P w K mg base CX0 1 fLt fdLt ["thing", "fewest", "most"] spLet) (bLt : Binds K fdLt ["thing", "fewest", "most"] [])
    (GSs : FnOk P w K mg base CX0 6 fSs fdSs ["book", "thing"] spSts) (bSs : Binds K fdSs ["book", "thing"] []) :
    FnOk P w K mg base CX0 7 f fd ["self", "book", "name", "stamps"] (spInit C) := by
  refine FunD.ok0 F sc_init (fun vs H Q E h => ?_) (fun cdv A outer s H vs Q E hr h => ?_)
  · obtain ⟨p, dx, b, t, n, sets, as, ss, rfl, _⟩ := h
    rfl
  · obtain ⟨p, dx, b, t, n, sets, as, ss, rfl, hp, bk, hn, ht, pr, so, hz, q⟩ := h
    have hu := hu_of hr
    refine ⟨_, pss_cons (ps_if (pt_not (pt_val (pe_call GLs (hr.mono (by decide)) (by rfl) TC.gLs kLs bLs .nil pass0 (pa_cons (pv 1) pa_nil)))) pss_never pss_nil)
      (pss_cons (ps_if (pt_not (pt_val (pe_call GLt (hr.mono (by decide)) (by rfl) TC.gLt kLt bLt .nil pass0 (pa_cons (pv 2) (pa_cons pe_int (pa_cons pe_int pa_nil)))))) pss_never pss_nil)
      (pss_cons (ps_if (PW.pt (pw_and (pt_cmpR op_notN (pv 3) pe_non (nomark _)) (pw_and1 (pt_not (pt_val (pe_call GSs hr (by rfl) TC.gSs kSs bSs .nil pass0 (pa_cons (pv 1) (pa_cons (pv 3) pa_nil)))))))) pss_never pss_nil)
      (pss_cons (ps_fld (pv 0) (pv 1) rfl) (pss_cons (ps_fld (pv 0) (pv 2) rfl) (pss_cons (ps_fld (pv 0) pe_dnewT rfl)
      (pss_one (ps_for PassesOwn.never rfl (pi_tup (pe_orT (pv 3) (pe_one (pe_tup pa_nil)))) (pg_name (i := 4) sc_init.nd rfl (Or.inl rfl))
        (pss_one (ps_dput hu (pe_fld (pv 0) rfl) (pv 4) (pe_op op_add (pe_dget2 hu (pe_fld (pv 0) rfl) (pv 4) pe_int ⟨rfl, rfl, rfl, rfl⟩) pe_int) rfl))))))))), ?_⟩
    have no := hn
    refine ⟨_, rfl, b, sets, rfl, bk, fun H1 s1 => ⟨_, rfl, iteF ?_⟩⟩
    refine ⟨_, rfl, .str n, _, 0, 8, rfl, .str _, (fun z e => by cases e; have := hn.1; omega), fun H2 s2 => ⟨_, rfl, ?_⟩⟩
    rw [no.2]
    have s12 := s1.trans s2
    refine iteF ⟨_, rfl, rfl, _, rfl, ?_⟩
    have en : (!decide (V.ref t = V.non)) = true := by simp
    rw [en]
    refine iteT ⟨_, rfl, _, rfl, b, t, sets, as, ss, rfl, bk.same s12, s12 _ _ ht, st_same s12 pr, so, hz, fun H3 s3 => ⟨_, rfl, iteF ?_⟩⟩
    have s13 := s12.trans s3
    have hp3 := s13 _ _ hp
    have ht3 := s13 _ _ ht
    have pr3 := st_same s13 pr
    have tp : t ≠ p := fun z => by
      rw [z, hp] at ht
      cases ht
    refine ⟨_, rfl, _, rfl, p, C, dx, [], rfl, hp3, T.cl, T.nB, (by show 0 < 1000; decide), _, rfl, _, rfl, p, C, dx, _, rfl, upd_same, T.cl, T.nN, (by show 1 < 1000; decide), fun d hd => ?_⟩
    have hd3 : H3 d = none := by
      have hdp : d ≠ p := fun z => by
        rw [z, upd_same] at hd
        cases hd
      rw [upd_ne hdp, upd_ne hdp] at hd
      exact hd
    have dp : d ≠ p := fun z => by
      rw [z, hp3] at hd3
      cases hd3
    refine ⟨_, rfl, p, C, dx, _, rfl, (by rw [upd_ne (Ne.symm dp)]; exact upd_same), T.cl, T.nM, alb2 b n, ?_⟩
    have k3 : ∀ c o, c ≠ p → H3 c = some o → (upd (upd (upd (upd H3 p (.ins C dx (putF "_book" (.ref b) []))) p (.ins C dx (putF "_name" (.str n) (putF "_book" (.ref b) [])))) d (.dT [])) p (.ins C dx (albF b n d))) c = some o := fun c o hc e => by
      rw [upd_ne hc, upd_ne (ne_of_none e hd3), upd_ne hc, upd_ne hc]
      exact e
    refine orT_tup rfl (k3 _ _ tp ht3) fun t' G sG hT => ⟨t', rfl, ⟨_, SqT.of hT⟩, ?_⟩
    have hpG : G p = some (.ins C dx (albF b n d)) := sG _ _ upd_same
    have hdG : G d = some (.dT []) := sG _ _ (by rw [upd_ne dp]; exact upd_same)
    have prG : Paired (StAt G) as ss := Paired.mp (fun a s h => sG _ _ (k3 _ _ (fun z => by
      have h' : H3 a = some (.tup _) := h
      rw [z, hp3] at h'
      cases h') h)) pr3
    have tuD : ∀ {c : Addr} {xs : List V}, G c = some (.tup xs) → c ≠ d := fun e z => by
      rw [z, hdG] at e
      cases e
    refine for_tup (xs := as.map V.ref) (fun i σ H' => ∃ v4, σ = [some (.ref p), some (.ref b), some (.str n), some (.ref t), v4] ∧ Keep d G H' ∧ H' d = some (.dT ((countsM (ss.take i)).map entC)))
      ⟨none, rfl, Keep.refl, hdG⟩ (fun i σ H' _ ⟨_, _, k, _⟩ => SqT.of (k _ _ (tuD hT) hT)) ?_ ?_
    · rintro i x σ H4 hx ⟨v4, rfl, k4, hdi⟩
      rw [List.getElem?_map] at hx
      cases hbi : as[i]? with
      | none =>
        rw [hbi] at hx
        cases hx
      | some a =>
        rw [hbi] at hx
        cases hx
        obtain ⟨st, hst, hat⟩ := Paired.gl prG hbi
        have hi : i < ss.length := (List.getElem?_eq_some_iff.mp hst).1
        have at1 := k4 _ _ (tuD hat) hat
        have hp4 := k4 _ _ (Ne.symm dp) hpG
        have il : (countsM (ss.take i)).length ≤ 400 := by
          have := countsM_len (ss.take i)
          rw [List.length_take] at this
          omega
        have gt : DGet H4 d (.ref a) (valV ((countsM (ss.take i)).map entC) (keyS st)) := DGet.t hdi at1
        rw [valV_ent] at gt
        refine ⟨_, rfl, p, C, dx, _, _, rfl, hp4, T.cl, T.nM, albF_m b n d, d, rfl, .inr ⟨_, .inl hdi⟩, _, rfl, _, gt, ?_⟩
        rw [getD_ev]
        refine ⟨_, _, rfl, rfl, _, rfl, p, C, dx, _, _, rfl, hp4, T.cl, T.nM, albF_m b n d, _, rfl, d, _, rfl, DPut.t (k := keyS st) hdi at1 (by rw [List.length_map]; exact small1000 (by omega)), _, rfl, ?_, ?_⟩
        · intro c o hc e
          rw [upd_ne hc]
          exact k4 _ _ hc e
        · rw [upd_same, put_entC]
          have e2 : ss.take (i + 1) = ss.take i ++ [st] := by rw [List.take_add_one, hst]; rfl
          rw [e2, countsM_snoc]
          rfl
    · rintro σ H4 ⟨v4, rfl, k4, hdi⟩
      rw [List.length_map, Paired.length pr, List.take_length] at hdi
      refine q H4 d (fun c o hc e => k4 _ _ (ne_of_none (s13 _ _ e) hd3) (sG _ _ (k3 _ _ hc (s13 _ _ e)))) (none_of s13 hd3) ⟨⟨dx, k4 _ _ (Ne.symm dp) hpG⟩, hdi⟩
theorem ok_ini0 {f C fLs fLt fSs fSt fNu : Addr} {fd fdLs fdLt fdSs : FuncData} (F : FInit K f fd) (T : TxtAlb K mg C) (TC : TxtCal mg fLs fLt fSs fSt fNu)
    (kLs : PySem.W.keepIn K (.ref fLs) = true) (kLt : PySem.W.keepIn K (.ref fLt) = true) (kSs : PySem.W.keepIn K (.ref fSs) = true)
    (GLs : FnOk P w K mg base CX0 5 fLs fdLs ["thing"] spLisIs) (bLs : Binds K fdLs ["thing"] [])
    (GLt : FnOk P w K mg base CX0 1 fLt fdLt ["thing", "fewest", "most"] spLet) (bLt : Binds K fdLt ["thing", "fewest", "most"] [])
    (GSs : FnOk P w K mg base CX0 6 fSs fdSs ["book", "thing"] spSts) (bSs : Binds K fdSs ["book", "thing"] []) :
    FnOk P w K mg base CX0 7 f fd ["self", "book", "name", "stamps"] (spIni0 C) := by
  refine FunD.ok0 F sc_init (fun vs H Q E h => ?_) (fun cdv A outer s H vs Q E hr h => ?_)
  · obtain ⟨p, dx, b, n, sets, rfl, _⟩ := h
    rfl
  · obtain ⟨p, dx, b, n, sets, rfl, hp, bk, hn, q⟩ := h
    have hu := hu_of hr
    refine ⟨_, pss_cons (ps_if (pt_not (pt_val (pe_call GLs (hr.mono (by decide)) (by rfl) TC.gLs kLs bLs .nil pass0 (pa_cons (pv 1) pa_nil)))) pss_never pss_nil)
      (pss_cons (ps_if (pt_not (pt_val (pe_call GLt (hr.mono (by decide)) (by rfl) TC.gLt kLt bLt .nil pass0 (pa_cons (pv 2) (pa_cons pe_int (pa_cons pe_int pa_nil)))))) pss_never pss_nil)
      (pss_cons (ps_if (PW.pt (pw_and (pt_cmpR op_notN (pv 3) pe_non (nomark _)) (pw_and1 (pt_not (pt_val (pe_call GSs hr (by rfl) TC.gSs kSs bSs .nil pass0 (pa_cons (pv 1) (pa_cons (pv 3) pa_nil)))))))) pss_never pss_nil)
      (pss_cons (ps_fld (pv 0) (pv 1) rfl) (pss_cons (ps_fld (pv 0) (pv 2) rfl) (pss_cons (ps_fld (pv 0) pe_dnewT rfl)
      (pss_one (ps_for PassesOwn.never rfl (pi_tup (pe_orT (pv 3) (pe_one (pe_tup pa_nil)))) (pg_name (i := 4) sc_init.nd rfl (Or.inl rfl))
        (pss_one (ps_dput hu (pe_fld (pv 0) rfl) (pv 4) (pe_op op_add (pe_dget2 hu (pe_fld (pv 0) rfl) (pv 4) pe_int ⟨rfl, rfl, rfl, rfl⟩) pe_int) rfl))))))))), ?_⟩
    have no := hn
    refine ⟨_, rfl, b, sets, rfl, bk, fun H1 s1 => ⟨_, rfl, iteF ?_⟩⟩
    refine ⟨_, rfl, .str n, _, 0, 8, rfl, .str _, (fun z e => by cases e; have := hn.1; omega), fun H2 s2 => ⟨_, rfl, ?_⟩⟩
    rw [no.2]
    have s12 := s1.trans s2
    refine iteF ⟨_, rfl, rfl, _, rfl, ?_⟩
    refine iteF ?_
    have s13 := s12
    have hp3 := s13 _ _ hp
    refine ⟨_, rfl, _, rfl, p, C, dx, [], rfl, hp3, T.cl, T.nB, (by show 0 < 1000; decide), _, rfl, _, rfl, p, C, dx, _, rfl, upd_same, T.cl, T.nN, (by show 1 < 1000; decide), fun d hd => ?_⟩
    have hd3 : H2 d = none := by
      have hdp : d ≠ p := fun z => by
        rw [z, upd_same] at hd
        cases hd
      rw [upd_ne hdp, upd_ne hdp] at hd
      exact hd
    have dp : d ≠ p := fun z => by
      rw [z, hp3] at hd3
      cases hd3
    refine ⟨_, rfl, p, C, dx, _, rfl, (by rw [upd_ne (Ne.symm dp)]; exact upd_same), T.cl, T.nM, alb2 b n, ?_⟩
    have k3 : ∀ c o, c ≠ p → H2 c = some o → (upd (upd (upd (upd H2 p (.ins C dx (putF "_book" (.ref b) []))) p (.ins C dx (putF "_name" (.str n) (putF "_book" (.ref b) [])))) d (.dT [])) p (.ins C dx (albF b n d))) c = some o := fun c o hc e => by
      rw [upd_ne hc, upd_ne (ne_of_none e hd3), upd_ne hc, upd_ne hc]
      exact e
    refine ⟨_, rfl, false, rfl, iteF ⟨by show 0 ≤ sizeLine; decide, fun t' ht' => ⟨t', rfl, ⟨_, SqT.of upd_same⟩, ?_⟩⟩⟩
    have sG := same_upd (o := .tup []) ht'
    have hpG := sG _ _ upd_same
    have hdG : (upd _ t' (.tup [])) d = some (.dT []) := sG _ _ (by rw [upd_ne dp]; exact upd_same)
    refine for_tup (xs := []) (fun i σ H' => H' = upd (upd (upd (upd (upd H2 p (.ins C dx (putF "_book" (.ref b) []))) p (.ins C dx (putF "_name" (.str n) (putF "_book" (.ref b) [])))) d (.dT [])) p (.ins C dx (albF b n d))) t' (.tup []))
      rfl (fun i σ H' _ e => by rw [e]; exact SqT.of upd_same) (fun i x σ H' hx _ => by cases hx) ?_
    rintro σ H4 rfl
    exact q _ d (fun c o hc e => sG _ _ (k3 _ _ hc (s13 _ _ e))) (none_of s13 hd3) ⟨⟨dx, hpG⟩, hdG⟩
end
end Hm

set_option Elab.async false
set_option maxRecDepth 100000
set_option maxHeartbeats 4000000
namespace Hm
open PySem PySem.Spec PyProof.Rows L2 HmS
def spChk (C : Addr) : Sp := fun vs H Q _ => ∃ (p a b d : Addr) (n : Str) (cs : CtT) (sets : List SetT) (s : StT), vs = [.ref p, .ref a] ∧ AlbAt C H p b n d cs ∧ Book H b sets ∧ StAt H a s ∧ StOk sets s ∧ ∀ H', Same H H' → Q .non H'
def spCof (C : Addr) : Sp := fun vs H Q _ => ∃ (p a b d : Addr) (n : Str) (cs : CtT) (sets : List SetT) (s : StT), vs = [.ref p, .ref a] ∧ AlbAt C H p b n d cs ∧ Book H b sets ∧ StAt H a s ∧ StOk sets s ∧ ∀ H', Same H H' → Q (.int (cntM cs s)) H'
def spAof (C : Addr) : Sp := fun vs H Q _ => ∃ (p b d : Addr) (n : Str) (cs : CtT), vs = [.ref p] ∧ AlbAt C H p b n d cs ∧ cs.length ≤ 400 ∧
  ∀ (H' : Hp) (l : Addr) (rs : List Addr), Same H H' → H l = none → H' l = some (.lst (rs.map V.ref)) → Paired (RowAt H') rs (riseM cs) → Q (.ref l) H'
def spFil (C : Addr) : Sp := fun vs H Q _ => ∃ (p b d : Addr) (n : Str) (cs : CtT) (pl : PlT), vs = [.ref p, .int pl.1, .int pl.2] ∧ AlbAt C H p b n d cs ∧ (∀ c ∈ cs, 1 ≤ c.2) ∧ ∀ H', Same H H' → Q (.bl (hasM cs pl)) H'
def spGaA (C : Addr) : Sp := fun vs H Q _ => ∃ (p b d : Addr) (n : Str) (cs : CtT) (sets : List SetT) (i : Nat), vs = [.ref p, .int (i : Int)] ∧ AlbAt C H p b n d cs ∧ Book H b sets ∧ i < sets.length ∧ (∀ c ∈ cs, 1 ≤ c.2) ∧
  ∀ (H' : Hp) (l : Addr), Same H H' → H l = none → H' l = some (.lst ((gapsM sets cs i).map V.int)) → Q (.ref l) H'
theorem has_some {cs : CtT} (h : ∀ c ∈ cs, 1 ≤ c.2) (pl : PlT) : hasM cs pl = ((getC cs (pl.1, pl.2, 0)).isSome || (getC cs (pl.1, pl.2, 1)).isSome) := by
  have pos : ∀ s n, getC cs s = some n → 1 ≤ n := fun s n e => h _ (getC_mem e)
  unfold hasM cntM
  cases e0 : getC cs (pl.1, pl.2, 0) with
  | none =>
    cases e1 : getC cs (pl.1, pl.2, 1) with
    | none => rfl
    | some m =>
      have := pos _ _ e1
      simp
      omega
  | some n =>
    have := pos _ _ e0
    cases e1 : getC cs (pl.1, pl.2, 1) with
    | none =>
      simp
      omega
    | some m =>
      have := pos _ _ e1
      simp
      omega
theorem isS_map (o : Option Int) : (o.map V.int).isSome = o.isSome := by cases o <;> rfl
theorem pr_rows {H : Hp} : ∀ {cs : CtT} {rs : List Addr}, Paired (fun b (c : List Key × Int) => ∃ q, H b = some (.tup [.ref q, .int c.2]) ∧ H q = some (.tup (c.1.map kV))) rs (cs.map kcC) → Paired (RowAt H) rs cs
  | [], _, .nil => .nil
  | _ :: _, _, .cons h t => .cons h (pr_rows t)
structure TxtU (mg : Str → Option Value) (fSt fNu : Addr) : Prop where
  gSt : mg "is_stamp" = some (.ref fSt)
  gNu : mg "is_set_number" = some (.ref fNu)
  sorted : mg "sorted" = none
  range : mg "range" = none
  len : mg "len" = none
  hinged : ∃ t, mg "HINGED" = some (.int 0 t)
  whole : ∃ t, mg "WHOLE" = some (.int 1 t)
section
variable {P : Program} {w : World} {K : PySem.W.Frag} {mg : Str → Option Value} {base : Heap}
theorem sc_chk : FnScope ["self", "stamp"] ["self", "stamp"] (defScope sChk) := ⟨rfl, rfl, rfl, by decide +kernel, rfl, by decide +kernel, by decide +kernel⟩
theorem ok_chk {f C fSt fNu : Addr} {fd fdSt : FuncData} (F : Fun K "_check_stamp" "Album._check_stamp" sChk f fd) (T : TxtAlb K mg C) (TU : TxtU mg fSt fNu) (kSt : PySem.W.keepIn K (.ref fSt) = true)
    (GSt : FnOk P w K mg base CX0 5 fSt fdSt ["book", "thing"] spStp) (bSt : Binds K fdSt ["book", "thing"] []) : FnOk P w K mg base CX0 6 f fd ["self", "stamp"] (spChk C) := by
  refine F.ok sc_chk (fun vs H Q E h => ?_) (fun cdv A outer s H vs Q E hr h => ?_)
  · obtain ⟨p, a, b, d, n, cs, sets, st, rfl, _⟩ := h
    rfl
  · obtain ⟨p, a, b, d, n, cs, sets, st, rfl, ⟨⟨dx, hp⟩, hd⟩, bk, ha, so, q⟩ := h
    refine ⟨_, pss_one (ps_if (pt_not (pt_val (pe_call GSt hr (by rfl) TU.gSt kSt bSt .nil pass0 (pa_cons (pe_fld (pv 0) rfl) (pa_cons (pv 1) pa_nil))))) pss_never pss_nil), ?_⟩
    exact ⟨_, rfl, p, C, dx, _, _, rfl, hp, T.cl, T.nB, albF_b b n d, _, rfl, b, a, sets, st, rfl, bk, ha, so, fun H1 s1 => ⟨_, rfl, iteF (q H1 s1)⟩⟩
theorem sc_cof : FnScope ["self", "stamp"] ["self", "stamp"] (defScope sCof) := ⟨rfl, rfl, rfl, by decide +kernel, rfl, by decide +kernel, by decide +kernel⟩
theorem ok_cof {f C fC : Addr} {fd fdC : FuncData} (F : Fun K "count_of" "Album.count_of" sCof f fd) (T : TxtAlb K mg C) (mC : Meth K C "_check_stamp" fC)
    (GC : FnOk P w K mg base CX0 6 fC fdC ["self", "stamp"] (spChk C)) (bC : Binds K fdC ["self", "stamp"] []) : FnOk P w K mg base CX0 7 f fd ["self", "stamp"] (spCof C) := by
  refine F.ok sc_cof (fun vs H Q E h => ?_) (fun cdv A outer s H vs Q E hr h => ?_)
  · obtain ⟨p, a, b, d, n, cs, sets, st, rfl, _⟩ := h
    rfl
  · obtain ⟨p, a, b, d, n, cs, sets, st, rfl, al, bk, ha, so, q⟩ := h
    obtain ⟨⟨dx, hp⟩, hd⟩ := id al
    have hu := hu_of hr
    refine ⟨_, pss_cons (ps_expr (pe_meth (pv 0) T.cl mC GC hr bC .nil pass0 (pa_cons (pv 1) pa_nil)))
      (pss_one (ps_ret (pe_dget2 hu (pe_fld (pv 0) rfl) (pv 1) pe_int ⟨rfl, rfl, rfl, rfl⟩))), ?_⟩
    refine ⟨_, rfl, p, dx, _, rfl, hp, albF_no b n d (by decide +kernel) (by decide +kernel) (by decide +kernel), _, rfl, p, a, b, d, n, cs, sets, st, rfl, al, bk, ha, so, fun H1 s1 => ?_⟩
    have gt : DGet H1 d (.ref a) (valV (cs.map entC) (keyS st)) := DGet.t (s1 _ _ hd) (s1 _ _ ha)
    rw [valV_ent] at gt
    refine ⟨_, rfl, p, C, dx, _, _, rfl, s1 _ _ hp, T.cl, T.nM, albF_m b n d, d, rfl, .inr ⟨_, .inl (s1 _ _ hd)⟩, _, rfl, _, gt, ?_⟩
    rw [getD_ev]
    exact q H1 s1
theorem sc_aof : FnScope ["self"] ["self"] (defScope sAof) := ⟨rfl, rfl, rfl, by decide +kernel, rfl, by decide +kernel, by decide +kernel⟩
theorem ok_aof {f C : Addr} {fd : FuncData} (F : Fun K "all_of" "Album.all_of" sAof f fd) (T : TxtAlb K mg C) (hS : mg "sorted" = none) : FnOk P w K mg base CX0 1 f fd ["self"] (spAof C) := by
  refine F.ok sc_aof (fun vs H Q E h => ?_) (fun cdv A outer s H vs Q E hr h => ?_)
  · obtain ⟨p, b, d, n, cs, rfl, _⟩ := h
    rfl
  · obtain ⟨p, b, d, n, cs, rfl, ⟨⟨dx, hp⟩, hd⟩, hz, q⟩ := h
    refine ⟨_, pss_one (ps_ret (pe_callB (cr_sortIC rfl hr.units) (by rfl) hS (by decide +kernel) (pa_cons (pe_bm0 PySem.F.plainAttrs_dict PySem.F.slot_dict_items PySem.F.type_dict_items DX.mt_itemsT (pe_fld (pv 0) rfl)) pa_nil))), ?_⟩
    have e : (cs.map kcC).map (fun c => (c.1, V.int c.2)) = cs.map entC := by rw [List.map_map]; rfl
    refine ⟨_, rfl, p, C, dx, _, _, rfl, hp, T.cl, T.nM, albF_m b n d, (.inr (.inr (.inl ⟨rfl, .inr ⟨_, hd⟩⟩))), d, _, rfl, rfl, hd, fun v hv => ?_⟩
    have sv : Same H (upd H v (DX.itemsO v d)) := same_upd hv
    refine ⟨v, d, cs.map kcC, rfl, upd_same, by rw [e]; exact sv _ _ hd, by rw [List.length_map]; omega, ?_, ?_, fun l H' rs s' nl nk hl pr => ?_⟩
    · intro x hx y hy
      obtain ⟨z1, m1, rfl⟩ := List.mem_map.mp hx
      obtain ⟨z2, m2, rfl⟩ := List.mem_map.mp hy
      obtain ⟨s1, _, rfl⟩ := List.mem_map.mp m1
      obtain ⟨s2, _, rfl⟩ := List.mem_map.mp m2
      simp [encC, kcC, keyD, keyS, HmS.kD, PySem.W.alike, PySem.W.alikeAll]
    · intro c hc
      obtain ⟨s1, _, rfl⟩ := List.mem_map.mp hc
      simp [kcC, keyS]
    · have nd : (cs.map (·.1)).Nodup := by
        rw [List.map_map] at nk
        have e2 : (cs.map (Prod.fst ∘ kcC)) = (cs.map (·.1)).map keyS := by rw [List.map_map]; rfl
        rw [e2, List.Nodup, List.pairwise_map] at nk
        exact nk.imp fun h z => h (by rw [z])
      rw [sortC_rise nd] at pr
      exact q H' l rs (sv.trans s') (none_of sv nl) hl (pr_rows pr)
end
end Hm

set_option Elab.async false
set_option maxRecDepth 100000
set_option maxHeartbeats 4000000
namespace Hm
open PySem PySem.Spec PyProof.Rows L2 HmS
def keepsM (cs : CtT) (s : StT) : Bool := decide (s.2.2 = 1) || !(getC cs (s.1, s.2.1, 1)).isSome
theorem kept_keeps {cs : CtT} (h : ∀ c ∈ cs, 1 ≤ c.2) {s : StT} (g0 : 0 ≤ s.2.2) (g1 : s.2.2 ≤ 1) : keptM cs s = if keepsM cs s = true then 1 else 0 := by
  have pos : ∀ s n, getC cs s = some n → 1 ≤ n := fun s n e => h _ (getC_mem e)
  unfold keptM keepsM cntM
  cases e : getC cs (s.1, s.2.1, 1) with
  | none => simp
  | some n =>
    have := pos _ _ e
    by_cases c : s.2.2 = 1
    · simp [c]
    · have c0 : s.2.2 = 0 := by omega
      simp [c0]
      omega
def spKee (C : Addr) : Sp := fun vs H Q _ => ∃ (p a b d : Addr) (n : Str) (cs : CtT) (s : StT), vs = [.ref p, .ref a] ∧ AlbAt C H p b n d cs ∧ StAt H a s ∧ ∀ H', Same H H' → Q (.bl (keepsM cs s)) H'
def spDbA (C : Addr) : Sp := fun vs H Q _ => ∃ (p b d : Addr) (n : Str) (cs : CtT), vs = [.ref p] ∧ AlbAt C H p b n d cs ∧ cs.length ≤ 400 ∧ (∀ c ∈ cs, 1 ≤ c.2) ∧ (∀ c ∈ cs, 0 ≤ c.1.2.2 ∧ c.1.2.2 ≤ 1) ∧
  ∀ (H' : Hp) (l : Addr) (rs : List Addr), Same H H' → H l = none → H' l = some (.lst (rs.map V.ref)) → Paired (RowAt H') rs (dblsM cs) → Q (.ref l) H'
def wholeM (sets : List SetT) (cs : CtT) : List Int := ((List.range sets.length).map fun (k : Nat) => (k : Int)).filter fun k => (gapsM sets cs k.toNat).isEmpty
def spWho (C : Addr) : Sp := fun vs H Q _ => ∃ (p b d : Addr) (n : Str) (cs : CtT) (sets : List SetT), vs = [.ref p] ∧ AlbAt C H p b n d cs ∧ Book H b sets ∧ (∀ c ∈ cs, 1 ≤ c.2) ∧
  ∀ (H' : Hp) (l : Addr), Same H H' → H l = none → H' l = some (.lst ((wholeM sets cs).map V.int)) → Q (.ref l) H'
section
variable {P : Program} {w : World} {K : PySem.W.Frag} {mg : Str → Option Value} {base : Heap}
theorem sc_fil : FnScope ["self", "at", "number"] ["self", "at", "number"] (defScope sFil) := ⟨rfl, rfl, rfl, by decide +kernel, rfl, by decide +kernel, by decide +kernel⟩
theorem ok_fil {f C fSt fNu : Addr} {fd : FuncData} (F : Fun K "_fills" "Album._fills" sFil f fd) (T : TxtAlb K mg C) (TU : TxtU mg fSt fNu) : FnOk P w K mg base CX0 1 f fd ["self", "at", "number"] (spFil C) := by
  refine F.ok sc_fil (fun vs H Q E h => ?_) (fun cdv A outer s H vs Q E hr h => ?_)
  · obtain ⟨p, b, d, n, cs, pl, rfl, _⟩ := h
    rfl
  · obtain ⟨p, b, d, n, cs, pl, rfl, ⟨⟨dx, hp⟩, hd⟩, pos, q⟩ := h
    have hu := hu_of hr
    obtain ⟨t0, hH⟩ := TU.hinged
    obtain ⟨t1, hW⟩ := TU.whole
    refine ⟨_, pss_one (ps_ret (pe_or (pe_cmp (pc_din hu (pe_tup (pa_cons (pv 1) (pa_cons (pv 2) (pa_cons (pe_glob (v := .int 0) (by rfl) hH ⟨_, rfl⟩) pa_nil)))) (pe_fld (pv 0) rfl)))
      (pe_one (pe_cmp (pc_din hu (pe_tup (pa_cons (pv 1) (pa_cons (pv 2) (pa_cons (pe_glob (v := .int 1) (by rfl) hW ⟨_, rfl⟩) pa_nil)))) (pe_fld (pv 0) rfl)))))), ?_⟩
    rw [has_some pos] at q
    refine ⟨_, rfl, _, rfl, by show 3 ≤ sizeLine; decide, fun t ht => ?_⟩
    have s1 : Same H (upd H t (.tup [V.int pl.1, V.int pl.2, V.int 0])) := same_upd ht
    have g1 := DGet.t (k := keyS (pl.1, pl.2, 0)) (s1 _ _ hd) upd_same
    rw [valV_ent] at g1
    refine ⟨_, rfl, p, C, dx, _, _, rfl, s1 _ _ hp, T.cl, T.nM, albF_m b n d, d, _, rfl, g1, _, rfl, ?_⟩
    rw [isS_map]
    cases e0 : (getC cs (pl.1, pl.2, 0)).isSome with
    | true =>
      rw [e0, Bool.true_or] at q
      exact iteT (q _ s1)
    | false =>
      rw [e0, Bool.false_or] at q
      refine iteF ⟨_, rfl, _, rfl, by show 3 ≤ sizeLine; decide, fun t2 ht2 => ?_⟩
      have s2 : Same H _ := s1.trans (same_upd (o := .tup [V.int pl.1, V.int pl.2, V.int 1]) ht2)
      have g2 := DGet.t (k := keyS (pl.1, pl.2, 1)) (s2 _ _ hd) upd_same
      rw [valV_ent] at g2
      refine ⟨_, rfl, p, C, dx, _, _, rfl, s2 _ _ hp, T.cl, T.nM, albF_m b n d, d, _, rfl, g2, ?_⟩
      rw [isS_map]
      exact q _ s2
abbrev nGaA : List Str := ["self", "place", "number"]
theorem sc_gaA : FnScope nGaA ["self", "place"] (defScope sGaA) := ⟨rfl, rfl, rfl, by decide +kernel, rfl, by decide +kernel, by decide +kernel⟩
theorem ok_gaA {f C fF fSt fNu : Addr} {fd fdF fdNu : FuncData} (F : Fun K "gaps" "Album.gaps" sGaA f fd) (T : TxtAlb K mg C) (TU : TxtU mg fSt fNu) (mF : Meth K C "_fills" fF) (kNu : PySem.W.keepIn K (.ref fNu) = true)
    (GF : FnOk P w K mg base CX0 1 fF fdF ["self", "at", "number"] (spFil C)) (bF : Binds K fdF ["self", "at", "number"] [])
    (GNu : FnOk P w K mg base CX0 3 fNu fdNu ["book", "thing"] spNum) (bNu : Binds K fdNu ["book", "thing"] []) : FnOk P w K mg base CX0 4 f fd ["self", "place"] (spGaA C) := by
  refine F.ok sc_gaA (fun vs H Q E h => ?_) (fun cdv A outer s H vs Q E hr h => ?_)
  · obtain ⟨p, b, d, n, cs, sets, i, rfl, _⟩ := h
    rfl
  · obtain ⟨p, b, d, n, cs, sets, i, rfl, al, bk, hi, pos, q⟩ := h
    obtain ⟨⟨dx, hp⟩, hd⟩ := id al
    obtain ⟨ok, bs, hb, pb⟩ := id bk
    refine ⟨_, pss_cons (ps_if (pt_not (pt_val (pe_call GNu hr (by rfl) TU.gNu kNu bNu .nil pass0 (pa_cons (pe_fld (pv 0) rfl) (pa_cons (pv 1) pa_nil))))) pss_never pss_nil)
      (pss_one (ps_ret (pe_lc (own := [("number", 2)]) (g := gName 2) rfl sc_gaA.nd (pi_range1 (by rfl) TU.range (pa_cons (pe_ix (r := rIxT K) ix_tup (pe_ix (r := rIxT K) ix_tup (pe_fld (pv 0) rfl) (pv 1) (fun _ _ => rfl)) pe_int (fun _ _ => rfl)) pa_nil))
      (blkOk_by (N := nGaA) (sc := defScope sGaA) (by decide +kernel)) (fun _ _ _ _ _ => pg_name (i := 2) sc_gaA.nd rfl (Or.inl rfl))
      (fun _ _ _ _ _ => pts_one (pt_not (pt_val (pe_meth (pv 0) T.cl mF GF (hr.mono (by decide)) bF .nil pass0 (pa_cons (pv 1) (pa_cons (pv 2) pa_nil)))))) (fun _ _ _ _ _ => pv 2)))), ?_⟩
    obtain ⟨st, hst⟩ : ∃ st, sets[i]? = some st := ⟨_, List.getElem?_eq_getElem hi⟩
    obtain ⟨a, ha, hat⟩ := Paired.gt pb hst
    have okS := ok.ok st (List.mem_of_getElem? hst)
    have em : manyM sets i = st.2.2.toNat := by simp [manyM, hst]
    have w1 : within (.int (i : Int)) 0 ((sets.length : Int) - 1) = true := by
      simp only [within, Bool.and_eq_true, decide_eq_true_eq]
      omega
    refine ⟨_, rfl, p, C, dx, _, _, rfl, hp, T.cl, T.nB, albF_b b n d, _, rfl, b, sets, .int (i : Int), _, rfl, bk, .int _, _, rfl, ?_⟩
    rw [w1]
    refine iteF ⟨_, rfl, p, C, dx, _, _, rfl, hp, T.cl, T.nB, albF_b b n d, _, rfl, b, _, _, .ref a, rfl, rfl, SqT.of hb, atI_nat (by rw [List.getElem?_map, ha]; rfl), a, _, _, .int st.2.2, rfl, rfl, SqT.of hat, rfl, ?_⟩
    refine ⟨st.2.2, rfl, by have := okS.m0; omega, by have := okS.m1; omega, fun D hD => lc_range (lo := 0) (n := st.2.2.toNat)
      (fun k H' => Same H H' ∧ H' D = some (.lst ((((List.range k).map fun (k : Nat) => (k : Int)).filter fun k => !hasM cs ((i : Int), k)).map V.int))) ⟨same_upd hD, upd_same⟩ (fun k H' hk pv => ?_) (fun H' pv => ?_)⟩
    · obtain ⟨sk, hDk⟩ := pv
      have ln : ((((List.range k).map fun (k : Nat) => (k : Int)).filter fun k => !hasM cs ((i : Int), k)).map V.int).length ≤ 6 := by
        have h1 := List.length_filter_le (fun k => !hasM cs ((i : Int), k)) ((List.range k).map fun (k : Nat) => (k : Int))
        rw [List.length_map, List.length_range] at h1
        have h2 := okS.m0
        have h3 := okS.m1
        rw [List.length_map]
        omega
      have es : ((List.range (k + 1)).map fun (k : Nat) => (k : Int)).filter (fun k => !hasM cs ((i : Int), k)) = ((List.range k).map fun (k : Nat) => (k : Int)).filter (fun k => !hasM cs ((i : Int), k)) ++ (if (!hasM cs ((i : Int), (k : Int))) = true then [(k : Int)] else []) := by
        rw [List.range_succ, List.map_append, List.filter_append]
        congr 1
        rw [List.map_cons, List.map_nil, List.filter_cons, List.filter_nil]
      refine ⟨rfl, _, rfl, p, dx, _, rfl, sk _ _ hp, albF_no b n d (by decide +kernel) (by decide +kernel) (by decide +kernel), _, rfl, _, rfl, p, b, d, n, cs, ((i : Int), 0 + (k : Int)), rfl, al.same sk, pos, fun H4 s4 => ⟨_, rfl, ?_⟩⟩
      have sH : Same H H4 := sk.trans s4
      have hD4 : H4 D = some _ := s4 _ _ hDk
      rw [Int.zero_add]
      refine ite2 (fun c => ?_) (fun c => ?_)
      · refine ⟨_, rfl, _, hD4, by rw [sizeLine_eq]; omega, fun x o e => ?_, ?_⟩
        · rw [upd_ne (ne_of_none e hD)]
          exact sH _ _ e
        · rw [upd_same, es, if_pos c, List.map_append]
          rfl
      · refine ⟨sH, ?_⟩
        rw [es, if_neg c, List.append_nil]
        exact hD4
    · obtain ⟨sk, hDk⟩ := pv
      exact q H' D sk hD (by rw [hDk]; unfold gapsM; rw [em])
abbrev nKee : List Str := ["self", "stamp", "at", "number", "grade"]
theorem sc_kee : FnScope nKee ["self", "stamp"] (defScope sKee) := ⟨rfl, rfl, rfl, by decide +kernel, rfl, by decide +kernel, by decide +kernel⟩
theorem ok_kee {f C fSt fNu : Addr} {fd : FuncData} (F : Fun K "_keeps" "Album._keeps" sKee f fd) (T : TxtAlb K mg C) (TU : TxtU mg fSt fNu) : FnOk P w K mg base CX0 1 f fd ["self", "stamp"] (spKee C) := by
  refine F.ok sc_kee (fun vs H Q E h => ?_) (fun cdv A outer s H vs Q E hr h => ?_)
  · obtain ⟨p, a, b, d, n, cs, st, rfl, _⟩ := h
    rfl
  · obtain ⟨p, a, b, d, n, cs, st, rfl, ⟨⟨dx, hp⟩, hd⟩, ha, q⟩ := h
    have hu := hu_of hr
    obtain ⟨t1, hW⟩ := TU.whole
    refine ⟨_, pss_cons (ps_asg (pv 1) (pg_tup rfl (pgs_cons (pg_name (i := 2) sc_kee.nd rfl (Or.inl rfl)) (pgs_cons (pg_name (i := 3) sc_kee.nd rfl (Or.inl rfl)) (pgs_cons (pg_name (i := 4) sc_kee.nd rfl (Or.inl rfl)) pgs_nil)))))
      (pss_one (ps_ret (pe_or (pe_cmpR op_eq (pv 4) (pe_glob (v := .int 1) (by rfl) hW ⟨_, rfl⟩) (nomark _))
        (pe_one (pe_cmp (pc_dnotin hu (pe_tup (pa_cons (pv 2) (pa_cons (pv 3) (pa_cons (pe_glob (v := .int 1) (by rfl) hW ⟨_, rfl⟩) pa_nil)))) (pe_fld (pv 0) rfl))))))), ?_⟩
    refine ⟨_, rfl, a, _, rfl, SqT.of ha, rfl, _, _, rfl, _, _, rfl, _, _, rfl, rfl, ?_⟩
    refine ⟨_, rfl, rfl, _, rfl, ite2 (fun c => ?_) (fun c => ?_)⟩
    · have c' : st.2.2 = 1 := by simpa using c
      have e : keepsM cs st = true := by simp [keepsM, c']
      rw [e] at q
      exact q H fun _ _ e => e
    · have c' : ¬ st.2.2 = 1 := by simpa using c
      refine ⟨_, rfl, _, rfl, by show 3 ≤ sizeLine; decide, fun t ht => ?_⟩
      have s1 : Same H (upd H t (.tup [V.int st.1, V.int st.2.1, V.int 1])) := same_upd ht
      have g1 := DGet.t (k := keyS (st.1, st.2.1, 1)) (s1 _ _ hd) upd_same
      rw [valV_ent] at g1
      refine ⟨_, rfl, p, C, dx, _, _, rfl, s1 _ _ hp, T.cl, T.nM, albF_m b n d, d, _, rfl, g1, ?_⟩
      rw [isS_map]
      have e : keepsM cs st = !(getC cs (st.1, st.2.1, 1)).isSome := by simp [keepsM, c']
      rw [e] at q
      exact q _ s1
end
end Hm

set_option Elab.async false
set_option maxRecDepth 100000
set_option maxHeartbeats 4000000
namespace Hm
open PySem PySem.Spec PyProof.Rows L2 HmS
def tTru (K : PySem.W.Frag) (ta : TE) : TT := fun σ H Q => ta σ H fun x H' => ∃ k, TruV K x H' k ∧ Q k H'
theorem pt_tru {X : Cx} {a : Expr} {ta : TE} (ha : PE X a ta) (he : ∀ whole, isTrue a X.env whole = (do let v ← whole; standAt a.pos; holding [v] (truthy v))) : PT X a (tTru X.K ta) := pt_truth ha he
section
variable {P : Program} {w : World} {K : PySem.W.Frag} {mg : Str → Option Value} {base : Heap}
abbrev nDbA : List Str := ["self", "told", "stamp", "many", "spare"]
theorem sc_dbA : FnScope nDbA ["self"] (defScope sDbA) := ⟨rfl, rfl, rfl, by decide +kernel, rfl, by decide +kernel, by decide +kernel⟩
theorem ok_dbA {f C fA fK : Addr} {fd fdA fdK : FuncData} (F : Fun K "doubles" "Album.doubles" sDbA f fd) (T : TxtAlb K mg C) (mA : Meth K C "all_of" fA) (mK : Meth K C "_keeps" fK)
    (GA : FnOk P w K mg base CX0 1 fA fdA ["self"] (spAof C)) (bA : Binds K fdA ["self"] [])
    (GK : FnOk P w K mg base CX0 1 fK fdK ["self", "stamp"] (spKee C)) (bK : Binds K fdK ["self", "stamp"] []) : FnOk P w K mg base CX0 2 f fd ["self"] (spDbA C) := by
  refine F.ok sc_dbA (fun vs H Q E h => ?_) (fun cdv A outer s H vs Q E hr h => ?_)
  · obtain ⟨p, b, d, n, cs, rfl, _⟩ := h
    rfl
  · obtain ⟨p, b, d, n, cs, rfl, al, hz, hp, hg, q⟩ := h
    refine ⟨_, pss_cons (ps_set (i := 1) sc_dbA.nd rfl (Or.inl rfl) (pe_lst pa_nil))
      (pss_cons (ps_for PassesOwn.never rfl (pi_list (pe_meth0 (pv 0) T.cl mA GA hr bA .nil pass0))
          (pg_tup rfl (pgs_cons (pg_name (i := 2) sc_dbA.nd rfl (Or.inl rfl)) (pgs_cons (pg_name (i := 3) sc_dbA.nd rfl (Or.inl rfl)) pgs_nil)))
        (pss_cons (ps_set (i := 4) sc_dbA.nd rfl (Or.inl rfl) (pe_ifExp (pt_val (pe_meth (pv 0) T.cl mK GK hr bK .nil pass0 (pa_cons (pv 2) pa_nil))) (pe_op op_sub (pv 3) pe_int) (pv 3)))
        (pss_one (ps_if (pt_cmpR op_gt (pv 4) pe_int (nomark _))
            (pss_one (ps_expr (pe_bm PySem.F.plainAttrs_list PySem.F.slot_list_append PySem.F.type_list_append mt_append (pv 1) (pa_cons (pe_tup (pa_cons (pv 2) (pa_cons (pv 4) pa_nil))) pa_nil)))) pss_nil))))
      (pss_one (ps_ret (pv 1)))), ?_⟩
    obtain ⟨⟨dx, hpA⟩, _⟩ := id al
    refine seqset ⟨by decide, fun lf hlf => ⟨_, rfl, p, dx, _, rfl, (same_upd hlf) _ _ hpA, albF_no b n d (by decide +kernel) (by decide +kernel) (by decide +kernel), p, b, d, n, cs, rfl, al.same (same_upd hlf), hz, fun H1 l rs s1 nl hl pr => ⟨l, rfl, ⟨_, SqL.of hl⟩, ?_⟩⟩⟩
    have hlf1 : H1 lf = some (.lst []) := s1 _ _ upd_same
    have llf : l ≠ lf := fun z => by
      rw [z, upd_same] at nl
      cases nl
    have al1 : AlbAt C H1 p b n d cs := al.same ((same_upd hlf).trans s1)
    have rl : (riseM cs).length = cs.length := (riseM_perm cs).length_eq
    have alK : ∀ {G : Hp}, Keep lf H1 G → AlbAt C G p b n d cs := fun {G} k => by
      obtain ⟨⟨dx, e1⟩, e2⟩ := al1
      refine ⟨⟨dx, k _ _ (fun z => ?_) e1⟩, k _ _ (fun z => ?_) e2⟩
      · rw [z, hlf1] at e1
        cases e1
      · rw [z, hlf1] at e2
        cases e2
    refine for_list (K := K) (xs := rs.map V.ref) (fun i σ H' => ∃ (v2 v3 v4 : Option V) (qs : List Addr), σ = [some (.ref p), some (.ref lf), v2, v3, v4] ∧ Keep lf H1 H' ∧ H' lf = some (.lst (qs.map V.ref)) ∧ Paired (RowAt H') qs (((riseM cs).take i).flatMap (dblM cs)) ∧ qs.length ≤ i)
      ⟨none, none, none, [], rfl, Keep.refl, hlf1, .nil, Nat.zero_le _⟩ (fun i σ H' _ ⟨_, _, _, _, _, k, _⟩ => SqL.of (k _ _ llf hl)) ?_ ?_
    · rintro i x σ H2 hx ⟨v2, v3, v4, qs, rfl, k2, hlf2, pq, lq⟩
      rw [List.getElem?_map] at hx
      cases hbi : rs[i]? with
      | none =>
        rw [hbi] at hx
        cases hx
      | some r =>
        rw [hbi] at hx
        cases hx
        obtain ⟨c, hc, rat⟩ := Paired.gl pr hbi
        have hi : i < cs.length := by
          have := (List.getElem?_eq_some_iff.mp hc).1
          omega
        have hcm : c ∈ cs := (riseM_perm cs).mem_iff.mp (List.mem_of_getElem? hc)
        obtain ⟨t, e1, e2⟩ := rat.keep k2 hlf1
        have al2 := alK k2
        obtain ⟨⟨dx2, hp2⟩, _⟩ := id al2
        refine ⟨r, _, rfl, SqT.of e1, rfl, _, _, rfl, _, _, rfl, rfl, seqset ⟨_, rfl, p, dx2, _, rfl, hp2, albF_no b n d (by decide +kernel) (by decide +kernel) (by decide +kernel), _, rfl, p, t, b, d, n, cs, c.1, rfl, al2, e2, fun G sG => ⟨_, rfl, ?_⟩⟩⟩
        have ek := kept_keeps hp (hg _ hcm).1 (hg _ hcm).2
        have hlfG : G lf = some (.lst (qs.map V.ref)) := sG _ _ hlf2
        have et : (riseM cs).take (i + 1) = (riseM cs).take i ++ [c] := by rw [List.take_add_one, hc]; rfl
        have kG : Keep lf H1 G := k2.trans (Same.keep sG)
        have body : ∀ (m : Int) (Dn : L2.St → Hp → Prop), m = c.2 - keptM cs c.1 →
            (∀ σ' H', (∃ (v2 v3 v4 : Option V) (qs : List Addr), σ' = [some (.ref p), some (.ref lf), v2, v3, v4] ∧ Keep lf H1 H' ∧ H' lf = some (.lst (qs.map V.ref)) ∧ Paired (RowAt H') qs (((riseM cs).take (i + 1)).flatMap (dblM cs)) ∧ qs.length ≤ i + 1) → Dn σ' H') →
            (∀ t2, m > 0 → G t2 = none → Dn [some (.ref p), some (.ref lf), some (.ref t), some (.int c.2), some (.int m)] (upd (upd G t2 (.tup [.ref t, .int m])) lf (.lst (qs.map V.ref ++ [.ref t2])))) ∧
            (¬ m > 0 → Dn [some (.ref p), some (.ref lf), some (.ref t), some (.int c.2), some (.int m)] G) := by
          intro m Dn em hD
          refine ⟨fun t2 gt ht2 => ?_, fun ng => ?_⟩
          · have t2lf : t2 ≠ lf := fun z => by
              rw [z, hlfG] at ht2
              cases ht2
            refine hD _ _ ⟨_, _, _, qs ++ [t2], rfl, fun b o hb e => ?_, by rw [upd_same, List.map_append]; rfl, ?_, by rw [List.length_append]; simp; omega⟩
            · rw [upd_ne hb]
              exact (same_upd ht2) _ _ (kG _ _ hb e)
            · rw [et, List.flatMap_append]
              have ed : [c].flatMap (dblM cs) = [(c.1, m)] := by
                rw [List.flatMap_cons, List.flatMap_nil, List.append_nil]
                unfold dblM
                rw [if_pos (by omega), em]
              rw [ed]
              have kk : Keep lf G (upd (upd G t2 (.tup [.ref t, .int m])) lf (.lst (qs.map V.ref ++ [.ref t2]))) := fun b o hb e => by
                rw [upd_ne hb]
                exact (same_upd ht2) _ _ e
              have e2G : StAt G t c.1 := sG _ _ e2
              have tlf : t ≠ lf := fun z => by
                have e3 : G t = some (.tup _) := e2G
                rw [z, hlfG] at e3
                cases e3
              refine Paired.snoc ⟨t, ?_, kk _ _ tlf e2G⟩ (Paired.mp (fun a b h => (h.same sG).keep kk hlfG) pq)
              rw [upd_ne t2lf]
              exact upd_same
          · refine hD _ _ ⟨_, _, _, qs, rfl, kG, hlfG, ?_, by omega⟩
            rw [et, List.flatMap_append]
            have ed : [c].flatMap (dblM cs) = [] := by
              rw [List.flatMap_cons, List.flatMap_nil, List.append_nil]
              unfold dblM
              rw [if_neg (by omega)]
            rw [ed, List.append_nil]
            exact rows_same sG pq
        refine ite2 (fun kk => ?_) (fun kk => ?_)
        · rw [if_pos kk] at ek
          obtain ⟨b1, b2⟩ := body (c.2 - 1) _ (by rw [ek]) (fun σ' H' h => h)
          refine ⟨_, rfl, _, _, rfl, rfl, _, rfl, _, _, rfl, rfl, _, rfl, ite2 (fun gt => ?_) (fun ng => ?_)⟩
          · exact ⟨_, rfl, .inl ⟨rfl, _, SqL.of hlfG⟩, _, rfl, _, rfl, by show 2 ≤ sizeLine; decide, fun t2 ht2 => ⟨lf, _, _, rfl, rfl, (same_upd ht2) _ _ hlfG, by rw [List.length_map]; exact small1000 (by omega), b1 t2 (of_decide_eq_true gt) ht2⟩⟩
          · exact b2 fun z => ng (decide_eq_true z)
        · rw [if_neg kk] at ek
          obtain ⟨b1, b2⟩ := body c.2 _ (by rw [ek]; omega) (fun σ' H' h => h)
          refine ⟨_, rfl, _, rfl, _, _, rfl, rfl, _, rfl, ite2 (fun gt => ?_) (fun ng => ?_)⟩
          · exact ⟨_, rfl, .inl ⟨rfl, _, SqL.of hlfG⟩, _, rfl, _, rfl, by show 2 ≤ sizeLine; decide, fun t2 ht2 => ⟨lf, _, _, rfl, rfl, (same_upd ht2) _ _ hlfG, by rw [List.length_map]; exact small1000 (by omega), b1 t2 (of_decide_eq_true gt) ht2⟩⟩
          · exact b2 fun z => ng (decide_eq_true z)
    · rintro σ H2 ⟨v2, v3, v4, qs, rfl, k2, hlf2, pq, lq⟩
      rw [List.length_map, Paired.length pr, List.take_length] at pq
      exact ⟨_, rfl, q H2 lf qs (keep_new (Keep.trans (Same.keep ((same_upd hlf).trans s1)) k2) hlf) hlf hlf2 pq⟩
abbrev nWho : List Str := ["self", "at"]
theorem sc_who : FnScope nWho ["self"] (defScope sWho) := ⟨rfl, rfl, rfl, by decide +kernel, rfl, by decide +kernel, by decide +kernel⟩
theorem ok_who {f C fG fSt fNu : Addr} {fd fdG : FuncData} (F : Fun K "whole_sets" "Album.whole_sets" sWho f fd) (T : TxtAlb K mg C) (TU : TxtU mg fSt fNu) (mG : Meth K C "gaps" fG)
    (GG : FnOk P w K mg base CX0 4 fG fdG ["self", "place"] (spGaA C)) (bG : Binds K fdG ["self", "place"] []) : FnOk P w K mg base CX0 5 f fd ["self"] (spWho C) := by
  refine F.ok sc_who (fun vs H Q E h => ?_) (fun cdv A outer s H vs Q E hr h => ?_)
  · obtain ⟨p, b, d, n, cs, sets, rfl, _⟩ := h
    rfl
  · obtain ⟨p, b, d, n, cs, sets, rfl, al, bk, pos, q⟩ := h
    obtain ⟨⟨dx, hp⟩, hd⟩ := id al
    obtain ⟨ok, bs, hb, pb⟩ := id bk
    refine ⟨_, pss_one (ps_ret (pe_lc (own := [("at", 1)]) (g := gName 1) (tt := tNot (tTru K (tMeth C "gaps" (spGaA C) [] E0 (tVar 0) (tCons (tVar 1) tNil)))) rfl sc_who.nd (pi_range1 (by rfl) TU.range (pa_cons (pe_callB call_len_seq (by rfl) TU.len PySem.boot_len (pa_cons (pe_fld (pv 0) rfl) pa_nil)) pa_nil))
      (blkOk_by (N := nWho) (sc := defScope sWho) (by decide +kernel)) (fun _ _ _ _ _ => pg_name (i := 1) sc_who.nd rfl (Or.inl rfl))
      (fun _ _ _ _ _ => pts_one (pt_not (pt_tru (pe_meth (pv 0) T.cl mG GG hr bG .nil pass0 (pa_cons (pv 1) pa_nil)) (by intro _; rfl)))) (fun _ _ _ _ _ => pv 1))), ?_⟩
    have bl : bs.length = sets.length := Paired.length pb
    have l1 := ok.len1
    refine ⟨_, rfl, p, C, dx, _, _, rfl, hp, T.cl, T.nB, albF_b b n d, b, _, rfl, .inr (SqT.of hb), ?_⟩
    rw [List.length_map, bl]
    refine ⟨_, rfl, by omega, by omega, fun D hD => lc_range (lo := 0) (n := sets.length)
      (fun k H' => Same H H' ∧ H' D = some (.lst ((((List.range k).map fun (k : Nat) => (k : Int)).filter fun k => (gapsM sets cs k.toNat).isEmpty).map V.int))) ⟨same_upd hD, upd_same⟩ (fun k H' hk pv => ?_) (fun H' pv => ?_)⟩
    · obtain ⟨sk, hDk⟩ := pv
      have ln : ((((List.range k).map fun (k : Nat) => (k : Int)).filter fun k => (gapsM sets cs k.toNat).isEmpty).map V.int).length ≤ 4 := by
        have h1 := List.length_filter_le (fun k : Int => (gapsM sets cs k.toNat).isEmpty) ((List.range k).map fun (k : Nat) => (k : Int))
        rw [List.length_map, List.length_range] at h1
        rw [List.length_map]
        omega
      have es : ((List.range (k + 1)).map fun (k : Nat) => (k : Int)).filter (fun k => (gapsM sets cs k.toNat).isEmpty) = ((List.range k).map fun (k : Nat) => (k : Int)).filter (fun k => (gapsM sets cs k.toNat).isEmpty) ++ (if (gapsM sets cs k).isEmpty = true then [(k : Int)] else []) := by
        rw [List.range_succ, List.map_append, List.filter_append]
        congr 1
        rw [List.map_cons, List.map_nil, List.filter_cons, List.filter_nil, Int.toNat_natCast]
      have e0 : (0 : Int) + (k : Int) = (k : Int) := Int.zero_add _
      refine ⟨rfl, ?_⟩
      rw [e0]
      refine ⟨_, rfl, p, dx, _, rfl, sk _ _ hp, albF_no b n d (by decide +kernel) (by decide +kernel) (by decide +kernel), _, rfl, p, b, d, n, cs, sets, k, rfl, al.same sk, bk.same sk, hk, pos, fun H4 l s4 nl hl => ⟨_, .inl ⟨_, SqL.of hl, rfl⟩, ?_⟩⟩
      have sH : Same H H4 := sk.trans s4
      have hD4 : H4 D = some _ := s4 _ _ hDk
      have eE : (!(!((gapsM sets cs k).map V.int).isEmpty)) = (gapsM sets cs k).isEmpty := by rw [Bool.not_not, List.isEmpty_map]
      show if (!(!((gapsM sets cs k).map V.int).isEmpty)) = true then _ else _
      rw [eE]
      refine ite2 (fun c => ?_) (fun c => ?_)
      · refine ⟨_, rfl, _, hD4, by rw [sizeLine_eq]; omega, fun x o e => ?_, ?_⟩
        · rw [upd_ne (ne_of_none e hD)]
          exact sH _ _ e
        · rw [upd_same, es, if_pos c, List.map_append]
          rfl
      · refine ⟨sH, ?_⟩
        rw [es, if_neg c, List.append_nil]
        exact hD4
    · obtain ⟨sk, hDk⟩ := pv
      exact q H' D sk hD hDk
end
end Hm

set_option Elab.async false
set_option maxRecDepth 100000
set_option maxHeartbeats 4000000
/-! a list comprehension of three clauses without tests, clause by clause -/
namespace C3
open PySem PySem.Spec PyProof.Rows L2
abbrev NoE : Value → Shared → Prop := fun _ _ => False
/-- what a turn of a clause does, em behind the store -/
def turnOf (t : Expr) (p : Pos) (em : Sem Fin → Sem Fin) (c : Expr) (j : Nat) (it acc : Value) (env : Env) : Sem Fin := do
  standAt p
  let got ← pyNext it
  match got with
  | none => pure (.done .next)
  | some v => do
    letOwnedTupleGo t it v
    assign t env v
    em (again (.compLoop c j it acc env))
/-- the last clause: the item is appended -/
def emLast (elt : Expr) (acc : Value) (env : Env) (k : Sem Fin) : Sem Fin := do
  (do
    let y ← eval elt env
    let _ ← call (.builtin "list.append") [acc, y])
  k
/-- a clause with another behind it -/
def emNext (c : Expr) (j : Nat) (i1 : Expr) (acc : Value) (env : Env) (k : Sem Fin) : Sem Fin := do
  let x ← eval i1 env
  standAt i1.pos
  let y ← foldedSetIterable i1 env x
  let it ← holding [y] (pyIter y)
  let _ ← runOwn (.compStart c j it acc env) env
  k
abbrev comp3 (elt t0 i0 t1 i1 t2 i2 : Expr) (scope : Scope) (pos : Pos) : Expr := .ListComp elt [⟨t0, i0, [], 0⟩, ⟨t1, i1, [], 0⟩, ⟨t2, i2, [], 0⟩] scope pos
section
variable {elt t0 i0 t1 i1 t2 i2 : Expr} {scope : Scope} {pos : Pos} {it acc : Value} {env : Env}
theorem turn0 : compTurn (comp3 elt t0 i0 t1 i1 t2 i2 scope pos) 0 it acc env = turnOf t0 i0.pos (emNext (comp3 elt t0 i0 t1 i1 t2 i2 scope pos) 1 i1 acc env) (comp3 elt t0 i0 t1 i1 t2 i2 scope pos) 0 it acc env := by rfl
theorem turn1 : compTurn (comp3 elt t0 i0 t1 i1 t2 i2 scope pos) 1 it acc env = turnOf t1 i1.pos (emNext (comp3 elt t0 i0 t1 i1 t2 i2 scope pos) 2 i2 acc env) (comp3 elt t0 i0 t1 i1 t2 i2 scope pos) 1 it acc env := by rfl
theorem turn2 : compTurn (comp3 elt t0 i0 t1 i1 t2 i2 scope pos) 2 it acc env = turnOf t2 i2.pos (emLast elt acc env) (comp3 elt t0 i0 t1 i1 t2 i2 scope pos) 2 it acc env := by rfl
end
section
variable {P : Program} {w : World} {A : Around} {R : Result → Shared → Prop} {s : Shared} {elt t0 i0 t1 i1 t2 i2 : Expr} {scope : Scope} {pos : Pos} {j : Nat} {it acc : Value} {env : Env} {t : Expr} {p : Pos} {em : Sem Fin → Sem Fin}
theorem loop_of (e : compTurn (comp3 elt t0 i0 t1 i1 t2 i2 scope pos) j it acc env = turnOf t p em (comp3 elt t0 i0 t1 i1 t2 i2 scope pos) j it acc env) (I : Nat → Shared → Prop)
    (turn : ∀ n s, I n s → wpAny (model P w) A (pyNext it) (fun r s1 => match r with
      | none => R (.ok .next) s1
      | some v => wpAny (model P w) A (letOwnedTupleGo t it v) (fun _ s2 => wpAny (model P w) A (assign t env v) (fun _ s3 =>
          ∀ (k : Sem Fin) (Q : Fin → Shared → Prop) (E : Value → Shared → Prop), (∀ m s', m < n → I m s' → wpAny (model P w) A k Q E s') → wpAny (model P w) A (em k) Q E s3) NoE s2) NoE s1) NoE s)
    (n : Nat) (h : I n s) : codeAny (model P w) A (.compLoop (comp3 elt t0 i0 t1 i1 t2 i2 scope pos) j it acc env) R s := by
  refine codeAny_loop rfl I (fun n s hI => ?_) n h
  show wpAny (model P w) A (Sem.onRaise (compTurn (comp3 elt t0 i0 t1 i1 t2 i2 scope pos) j it acc env) (fun x => do noteFrame x env; theTreesLotGoes x)) _ _ s
  refine wpAny_noted ?_
  rw [e]
  unfold turnOf
  refine wpAny_bind (wpAny_standAt (wpAny_bind (thnF (turn n s hI) fun r s1 h1 => ?_)))
  cases r with
  | none => exact wpAny_pure h1
  | some v => exact wpAny_bind (thnF h1 fun _ s2 h2 => wpAny_bind (thnF h2 fun _ s3 h3 => h3 _ _ _ fun m s' hm hI' => wpAny_pure ⟨rfl, m, hm, hI'⟩))
theorem start_of {g : Comprehension} (hg : (clausesOf (comp3 elt t0 i0 t1 i1 t2 i2 scope pos))[j]? = some g) (hs : g.is_async = 0) (h0 : codeAny (model P w) A (.compLoop (comp3 elt t0 i0 t1 i1 t2 i2 scope pos) j it acc env) R s)
    (h : wpAny (model P w) A (pyIter it) (fun it' s' => codeAny (model P w) A (.compLoop (comp3 elt t0 i0 t1 i1 t2 i2 scope pos) j it' acc env) R s') (notedBy (model P w) A env fun x s' => R (.error x) s') s) :
    codeAny (model P w) A (.compStart (comp3 elt t0 i0 t1 i1 t2 i2 scope pos) j it acc env) R s := by
  refine codeAny_of_tree ?_
  show wpAny (model P w) A (Sem.onRaise (compStart (comp3 elt t0 i0 t1 i1 t2 i2 scope pos) j it acc env) (fun x => do noteFrame x env; standAt theWindowsPlace)) _ _ s
  refine wpAny_notedAt ?_
  have e : compStart (comp3 elt t0 i0 t1 i1 t2 i2 scope pos) j it acc env = (do
      if (← ask).params.followText "comprehension-iter-twice" then return ← again (.compLoop (comp3 elt t0 i0 t1 i1 t2 i2 scope pos) j it acc env)
      rule "comprehension.iter-twice"
      standAt g.iter.pos
      again (.compLoop (comp3 elt t0 i0 t1 i1 t2 i2 scope pos) j (← pyIter it) acc env)) := by
    unfold compStart
    rw [hg]
    simp only [Option.elim_some, hs]
    rfl
  rw [e]
  refine wpAny_bind (wpAny_askSetting (wpAny_ite ?_))
  split
  · first
      | exact wpAny_pure ⟨rfl, h0⟩
      | exact wpAny_bind (wpAny_pure (wpAny_pure ⟨rfl, h0⟩))
  · refine wpAny_bind (wpAny_rule ?_)
    exact wpAny_bind (wpAny_standAt (wpAny_bind (wpAny_mono h (fun it' s' h' => wpAny_pure ⟨rfl, h'⟩) fun _ _ x => x)))
end
/-! ### a clause by its reading -/
abbrev Rd3 := L2.St → Hp → (Hp → Prop) → Prop
/-- for tg in iter: behind each store Y -/
def tCl (wi : TI) (g : TG) (vs : List Nat) (Y : Rd3) : Rd3 := fun σ H N => wi σ H fun J H1 => ∃ W : Nat → Nat → Hp → Prop, (∃ m, W 0 m H1) ∧ ∀ i m H, W i m H →
  (J.stop i H ∧ N H) ∨ (J.go i H ∧ ∃ N' : Hp → Prop, (∀ H', N' H' → ∃ m', m' < m ∧ W (i + 1) m' H') ∧ ∀ x H', J.yld i H x H' → g x (wipe σ vs) H' fun σ2 H2 => wipe σ2 vs = wipe σ vs ∧ Y σ2 H2 N')
/-- the item goes to the list at D -/
def tApp (D : Addr) (te : TE) : Rd3 := fun σ H N => te σ H fun y H1 => ∃ acc, H1 D = some (.lst acc) ∧ acc.length < sizeLine ∧ N (upd H1 D (.lst (acc ++ [y])))
/-- what stands behind the store runs by the reading Y, the slots vn forgotten -/
def EmOk (B : Cx) (em : Sem Fin → Sem Fin) (vn : List Nat) (Y : Rd3) : Prop := ∀ (pins : List (Addr × Obj)) (σ : L2.St) (H : Hp) (s : Shared) (N : Hp → Prop) (k : Sem Fin) (Q : Fin → Shared → Prop) (E : Value → Shared → Prop),
  Inv B pins σ H s → Y σ H N → (∀ s' H', Inv B pins (wipe σ vn) H' s' → N H' → wpAny (model B.prog B.w) B.A k Q E s') → wpAny (model B.prog B.w) B.A (em k) Q E s
section
variable {B : Cx} {pins : List (Addr × Obj)} {σ : L2.St} {H : Hp} {s : Shared} {elt t0 i0 t1 i1 t2 i2 : Expr} {scope : Scope} {pos : Pos} {j : Nat} {t : Expr} {p : Pos} {em : Sem Fin → Sem Fin} {D : Addr}
theorem em_last (hxe : B.xe = NoE) {te : TE} (pe : PE B elt te) : EmOk B (emLast elt (.ref D) B.env) [] (tApp D te) := by
  intro pins σ H s N k Q E I y hk
  unfold emLast
  have r := pe.run pins s σ H _ I y
  rw [hxe] at r
  refine wpAny_bind (wpAny_bind (thnF r fun z s1 h1 => ?_))
  obtain ⟨yv, H1, I1, r1, acc, hD, hz, nx⟩ := h1
  exact wpAny_bind (app_ok I1 hD hz r1 fun s2 I2 => wpAny_pure (hk s2 _ I2 nx))
theorem clause (hxe : B.xe = NoE) (hc : B.calm = true) {vs vn : List Nat} (hvn : ∀ i ∈ vn, i ∈ vs) {g : TG} {Y : Rd3}
    (e : ∀ it, compTurn (comp3 elt t0 i0 t1 i1 t2 i2 scope pos) j it (.ref D) B.env = turnOf t p em (comp3 elt t0 i0 t1 i1 t2 i2 scope pos) j it (.ref D) B.env) (pg : PG B t g) (hem : EmOk B em vn Y)
    {it : Addr} {fp : List Addr} {tn : Nat → Heap → Prop} {J : It} (T : Turn B.prog B.w B.K t J fp it tn) (I : Inv B pins σ H s) (st : tn 0 s.heap) (f : ∀ b ∈ fp, FpOk B pins H b)
    {W : Nat → Nat → Hp → Prop} {m0 : Nat} (w0 : W 0 m0 H) {N : Hp → Prop} (tr : ∀ i m H, W i m H →
      (J.stop i H ∧ N H) ∨ (J.go i H ∧ ∃ N' : Hp → Prop, (∀ H', N' H' → ∃ m', m' < m ∧ W (i + 1) m' H') ∧ ∀ x H', J.yld i H x H' → g x σ H' fun σ2 H2 => wipe σ2 vs = σ ∧ Y σ2 H2 N')) :
    codeAny (model B.prog B.w) B.A (.compLoop (comp3 elt t0 i0 t1 i1 t2 i2 scope pos) j (.ref it) (.ref D) B.env) (fun r s' => r = .ok .next ∧ ∃ H', Inv B pins σ H' s' ∧ N H') s := by
  have stat : ∀ {H' : Hp}, (∀ b ∈ fp, H' b = none) → ∀ b ∈ fp, FpOk B pins H' b := fun hn b hb => ⟨hn b hb, (f b hb).2⟩
  refine loop_of (e _) (fun n s' => ∃ i H', Inv B pins σ H' s' ∧ tn i s'.heap ∧ (∀ b ∈ fp, H' b = none) ∧ W i n H') ?_ m0 ⟨0, H, I, st, fun b hb => (f b hb).1, w0⟩
  rintro n s5 ⟨i, H5, I5, st5, n5, w5⟩
  rcases tr i n H5 w5 with ⟨stop, nx⟩ | ⟨go, N', hN, step⟩
  · refine thnF (T.done B rfl rfl rfl hc i pins s5 _ H5 NoE I5 (stat n5) st5 stop) fun r s6 ⟨hr, I6⟩ => ?_
    subst hr
    exact ⟨rfl, H5, I6, nx⟩
  · refine thnF (T.item B rfl rfl rfl hc i pins s5 _ H5 NoE I5 (stat n5) st5 go) fun r s6 ⟨u, hr, h6⟩ => ?_
    subst hr
    refine thnF h6 fun _ s7 ⟨x, H7, I7, r7, y7, st7, n7⟩ => ?_
    have r := pg.run _ s7 σ H7 x u _ (I7.pinned (stat n7) (T.obj _ _ st7)) r7 (step x H7 y7)
    rw [hxe] at r
    refine thnF r fun _ s8 h8 => ?_
    obtain ⟨σ8, H8, I8, hw8, y8⟩ := h8
    intro k Q E hk
    refine hem _ σ8 H8 s8 N' k Q E I8 y8 fun s' H' I' nx => ?_
    obtain ⟨m', hm, w'⟩ := hN H' nx
    have kept : ∀ b ∈ fp, ∀ o, s7.heap.get? b = some o → s'.heap.get? b = some o ∧ H' b = none := fun b hb o eo =>
      have z := I'.pin (b, o) (List.mem_append_right _ (List.mem_append_right _ (mem_pinsAt hb eo)))
      ⟨z.1, z.2.1⟩
    refine hk m' s' hm ⟨i + 1, H', I'.unpinned.weak (by rw [← hw8, wipe_length, wipe_length]) (fun j v ev => ?_), T.keep _ _ _ st7 fun b hb o eo => (kept b hb o eo).1, fun b hb => ?_, w'⟩
    · rw [← hw8] at ev
      obtain ⟨e1, e2⟩ := wipe_some ev
      rw [wipe_out fun z => e2 (hvn j z)]
      exact e1
    · obtain ⟨o, eo, _⟩ := T.obj _ _ st7 b hb
      exact (kept b hb o eo).2
theorem em_next (hxe : B.xe = NoE) (hc : B.calm = true) {vs vn : List Nat} (hvn : ∀ i ∈ vn, i ∈ vs) {ix : Expr} {wi : TI} {g : TG} {Y : Rd3} (hi : PI B t ix wi) (hs : ∀ x, foldedSetIterable ix B.env x = pure x)
    {gc : Comprehension} (hg : (clausesOf (comp3 elt t0 i0 t1 i1 t2 i2 scope pos))[j]? = some gc) (ha : gc.is_async = 0)
    (e : ∀ it, compTurn (comp3 elt t0 i0 t1 i1 t2 i2 scope pos) j it (.ref D) B.env = turnOf t p em (comp3 elt t0 i0 t1 i1 t2 i2 scope pos) j it (.ref D) B.env) (pg : PG B t g) (hem : EmOk B em vn Y) :
    EmOk B (emNext (comp3 elt t0 i0 t1 i1 t2 i2 scope pos) j ix (.ref D) B.env) vs (tCl wi g vs Y) := by
  intro pins σ H s N k Q E I y hk
  unfold emNext
  have r := hi.run pins s σ H _ I y
  rw [hxe] at r
  refine wpAny_bind (thnF r fun xv s1 hx => wpAny_bind (wpAny_standAt (wpAny_bind (wpAny_of_eq (hs xv) (wpAny_bind (wpAny_holding (thnF hx fun itv s2 h2 => ?_)))))))
  obtain ⟨it, fp, tn, J, H2, e2, I2, T, st2, f2, W, ⟨m0, w0⟩, tr⟩ := h2
  subst e2
  refine wpAny_bind (wpAny_runOwn ?_)
  rw [Around.mark_none]
  have lp := clause (N := N) hxe hc hvn e pg hem T (I2.weak (wipe_length σ vs) fun j v ev => (wipe_some ev).1) st2 f2 w0 tr
  refine codeAny_mono (start_of hg ha lp (T.self B.A 0 _ _ _ st2 lp)) fun r s' hr => ?_
  obtain ⟨rfl, H', I', nx⟩ := hr
  exact hk s' H' I' nx
/-- [elt for t0 in i0 for t1 in i1 for t2 in i2] -/
def tLc3 (wi : TI) (g : TG) (wi1 : TI) (g1 : TG) (wi2 : TI) (g2 : TG) (te : TE) (vs vs1 vs2 : List Nat) : TE := fun σ H Q => wi σ H fun J H1 => ∀ D, H1 D = none → ∃ W : Nat → Nat → Hp → Prop, (∃ m, W 0 m (upd H1 D (.lst []))) ∧ ∀ i m H, W i m H →
  (J.stop i H ∧ Q (.ref D) H) ∨ (J.go i H ∧ ∃ N : Hp → Prop, (∀ H', N H' → ∃ m', m' < m ∧ W (i + 1) m' H') ∧ ∀ x H', J.yld i H x H' → g x (wipe σ vs) H' fun σ2 H2 => wipe σ2 vs = wipe σ vs ∧ tCl wi1 g1 vs1 (tCl wi2 g2 vs2 (tApp D te)) σ2 H2 N)
variable {X : Cx}
theorem pe_lc3 {own : List (Str × Nat)} {vs1 vs2 : List Nat} {wi wi1 wi2 : TI} {g g1 g2 : TG} {te : TE} (hc : X.calm = true) (hN : X.N.Nodup) (hi : PI X t0 i0 wi) (ok : BlkOk X.N X.env.scope scope own) (hv1 : ∀ i ∈ vs1, i ∈ own.map (·.2)) (hv2 : ∀ i ∈ vs2, i ∈ vs1)
    (hall : ∀ (s : Shared) (H : Hp) (C : Addr) (cl : List (Str × Addr)) (fp : List Addr), PG (X.blk s H scope (compEnvC scope cl C X.env) fp) t0 g ∧
      (PI (X.blk s H scope (compEnvC scope cl C X.env) fp) t1 i1 wi1 ∧ PG (X.blk s H scope (compEnvC scope cl C X.env) fp) t1 g1) ∧
      (PI (X.blk s H scope (compEnvC scope cl C X.env) fp) t2 i2 wi2 ∧ PG (X.blk s H scope (compEnvC scope cl C X.env) fp) t2 g2) ∧ PE (X.blk s H scope (compEnvC scope cl C X.env) fp) elt te)
    (hs : ∀ x, foldedSetIterable i0 X.env x = pure x := by intro _; rfl) (hs1 : ∀ env x, foldedSetIterable i1 env x = pure x := by intro _ _; rfl) (hs2 : ∀ env x, foldedSetIterable i2 env x = pure x := by intro _ _; rfl) :
    PE X (comp3 elt t0 i0 t1 i1 t2 i2 scope pos) (tLc3 wi g wi1 g1 wi2 g2 te (own.map (·.2)) vs1 vs2) := by
  refine ⟨fun pins s σ H Q I h => ?_⟩
  rw [eval_ListComp]
  have hfree : ∀ y ∈ scope.names, y.2 = .free → ∃ c, X.env.cells.lookup y.1 = some c := fun y hy e => (ok.free y hy e).elim (fun k => I.ok.has _ (.inl k)) fun k => I.ok.has _ (.inr k)
  refine wpAny_comprehension_free (use := none) rfl hs (closure_ok hfree) ok.kind (fun y hy e => by rw [ok.uniq y hy, e]) (thn (hi.run pins s σ H _ I h) fun xv s1 hx => thn hx fun itv s2 h2 => ?_)
  obtain ⟨it, fp, tn, J, H2, rfl, I2, T, st2, f2, q⟩ := h2
  refine wpAny_newObj_type (newEnv_comp ?_) (by show 0 ≤ sizeLine; decide)
  have hDn : H2 s2.heap.objs.size = none := I2.hok.fresh (Nat.le_refl _)
  obtain ⟨W, ⟨m0, w0⟩, tr⟩ := q _ hDn
  generalize hD : s2.heap.objs.size = D at hDn w0 tr ⊢
  -- the new list stands
  generalize hs3 : ({ s2 with heap := s2.heap.push { cls := .type "list", data := .seq ([] : List Value).toArray } } : Shared) = s3
  have h3 : s3.heap = s2.heap.push { cls := .type "list", data := .seq ([] : List Value).toArray } := by rw [← hs3]
  have I3 : Inv X pins σ (upd H2 D (.lst [])) s3 := by
    rw [← hs3]
    exact I2.laid (t' := s2.toks) (fun b o e => Heap.get?_push_of_some _ e) (Nat.le_of_eq hD) ⟨Nat.zero_le _, [], 0, .nil, by rw [← hD]; exact Heap.get?_push_size _ rfl⟩
  have f3 : ∀ b ∈ fp, FpOk X pins (upd H2 D (.lst [])) b ∧ b < s3.heap.objs.size := fun b hb => by
    obtain ⟨o, e, _⟩ := T.obj _ _ st2 b hb
    have hlt : b < s2.heap.objs.size := Heap.lt_size e
    refine ⟨⟨?_, (f2 b hb).2⟩, ?_⟩
    · rw [upd_ne (show b ≠ D from hD ▸ Nat.ne_of_lt hlt)]
      exact (f2 b hb).1
    · rw [h3, Heap.size_push]
      exact Nat.lt_succ_of_lt hlt
  have I4 := block_start I3 ok hN f3
  obtain ⟨pg, ⟨pi1, pg1⟩, ⟨pi2, pg2⟩, pe⟩ := hall s3 (upd H2 D (.lst [])) s3.heap.objs.size (cellsFrom (s3.heap.objs.size + 1) scope.names (cloFrom X.env.cells scope.names [])) fp
  show codeAny _ _ (.compStart (comp3 elt t0 i0 t1 i1 t2 i2 scope pos) 0 (.ref it) (.ref D) (compEnvC scope (cellsFrom (s3.heap.objs.size + 1) scope.names (cloFrom X.env.cells scope.names [])) s3.heap.objs.size X.env)) _ { s3 with heap := pushCells (s3.heap.push { cls := .type "dict", data := .dict #[] }) scope.names }
  have nfp : ∀ b ∈ fp, (upd H2 D (.lst [])) b = none := fun b hb => (f3 b hb).1.1
  generalize hce : compEnvC scope (cellsFrom (s3.heap.objs.size + 1) scope.names (cloFrom X.env.cells scope.names [])) s3.heap.objs.size X.env = ce at I4 pg pe pi1 pg1 pi2 pg2 ⊢
  have cL : ce.locals = s3.heap.objs.size := by rw [← hce]; rfl
  generalize hH3 : upd H2 D (.lst []) = H3 at I3 I4 pg pe pi1 pg1 pi2 pg2 w0 nfp f3
  generalize hs4 : ({ s3 with heap := pushCells (s3.heap.push { cls := .type "dict", data := .dict #[] }) scope.names } : Shared) = s4 at I4 ⊢
  have st3 : tn 0 s3.heap := T.keep _ _ _ st2 fun b _ o e => by rw [h3]; exact Heap.get?_push_of_some _ e
  have st4 : tn 0 s4.heap := T.keep _ _ _ st3 fun b _ o e => by rw [← hs4]; exact pushCells_keeps _ _ _ _ (Heap.get?_push_of_some _ e)
  have f4 : ∀ b ∈ fp, FpOk (X.blk s3 H3 scope ce fp) [] H3 b := fun b hb => ⟨nfp b hb, (I4.ok.exf b hb).1, I4.ok.exfs b hb, .inl hb, fun x c e => (I4.ok.exf b hb).2 x c e, fun p hp => absurd (show p ∈ ([] : List (Addr × Obj)) ++ [] from hp) (by simp)⟩
  have e2 := em_last (B := X.blk s3 H3 scope ce fp) (D := D) rfl pe
  have e1 := em_next (B := X.blk s3 H3 scope ce fp) (elt := elt) (t0 := t0) (i0 := i0) (t1 := t1) (i1 := i1) (t2 := t2) (i2 := i2) (scope := scope) (pos := pos) (D := D) (vs := vs2) rfl hc (fun i z => by cases z) pi2 (hs2 _) (j := 2) rfl rfl (fun it => turn2) pg2 e2
  have e0 := em_next (B := X.blk s3 H3 scope ce fp) (elt := elt) (t0 := t0) (i0 := i0) (t1 := t1) (i1 := i1) (t2 := t2) (i2 := i2) (scope := scope) (pos := pos) (D := D) (vs := vs1) rfl hc hv2 pi1 (hs1 _) (j := 1) rfl rfl (fun it => turn1) pg1 e1
  have lp := clause (B := X.blk s3 H3 scope ce fp) (elt := elt) (t0 := t0) (i0 := i0) (t1 := t1) (i1 := i1) (t2 := t2) (i2 := i2) (scope := scope) (pos := pos) (D := D) (N := fun H' => Q (.ref D) H') (vs := own.map (·.2)) rfl hc hv1 (j := 0) (fun it => turn0) pg e0 T I4 st4 f4 w0 tr
  refine codeAny_mono (codeAny_compStart_list lp (T.self X.A 0 _ _ _ st4 lp)) fun r s' hr => ?_
  obtain ⟨rfl, H', I', qq⟩ := hr
  have I7 : Inv X pins σ H' s' := I3.call' (ch := fp) I'.os I'.base I'.hok I'.bare fun b hb => ⟨(f3 b hb).1.2.2.2.1, (f3 b hb).1.2.1, (f3 b hb).1.2.2.2.2.1, (f3 b hb).1.2.2.2.2.2⟩
  have nC : H' ce.locals = none := I'.free
  obtain ⟨m, hn, _⟩ := I'.loc
  have hn : s'.heap.Ns ce.locals m := hn
  rw [cL] at hn nC
  obtain ⟨f0, f1, f2', f5, f6, f7⟩ := I3.fpOk (Nat.le_refl _) nC
  exact ⟨m, hn, fun h'' sb => ⟨.ref D, H', I7.turned (t' := s'.toks) (fun b o hb e => (sb.2 b hb).trans e) f0 f1 f5 f6 f7, rfl, qq⟩⟩
/-- a clause over a walk -/
theorem cl_it {J : It} {n : Nat} {G : Hp → Prop} {Yd : Nat → Hp → V → Hp → Prop} (w : Walk J n G Yd) {g : TG} {vs : List Nat} {Y : Rd3} {σ : L2.St} {H : Hp} {N : Hp → Prop} (Pv : Nat → Hp → Prop) (h0 : Pv 0 H) (hG : ∀ i H, i ≤ n → Pv i H → G H)
    (hs : ∀ i x H H', i < n → Pv i H → Yd i H x H' → g x (wipe σ vs) H' fun σ2 H2 => wipe σ2 vs = wipe σ vs ∧ Y σ2 H2 (Pv (i + 1))) (hd : ∀ H, Pv n H → N H) :
    ∃ W : Nat → Nat → Hp → Prop, (∃ m, W 0 m H) ∧ ∀ i m H, W i m H →
      (J.stop i H ∧ N H) ∨ (J.go i H ∧ ∃ N' : Hp → Prop, (∀ H', N' H' → ∃ m', m' < m ∧ W (i + 1) m' H') ∧ ∀ x H', J.yld i H x H' → g x (wipe σ vs) H' fun σ2 H2 => wipe σ2 vs = wipe σ vs ∧ Y σ2 H2 N') := by
  refine ⟨fun i m H => m = n - i ∧ i ≤ n ∧ Pv i H, ⟨n, by simp, Nat.zero_le _, h0⟩, fun i m H z => ?_⟩
  obtain ⟨rfl, hi, pv⟩ := z
  have gg := hG i H hi pv
  rcases Nat.lt_or_ge i n with hlt | hge
  · exact .inr ⟨w.goes i H hlt gg, Pv (i + 1), fun H' p' => ⟨_, by omega, rfl, hlt, p'⟩, fun x H' y => hs i x H H' hlt pv (w.yields i H x H' hlt gg y)⟩
  · obtain rfl : i = n := by omega
    exact .inl ⟨w.stops H gg, hd H pv⟩
end
end C3

set_option Elab.async false
set_option maxRecDepth 100000
set_option maxHeartbeats 4000000
namespace Hm
open PySem PySem.Spec PyProof.Rows L2 HmS
abbrev stWfr : Stmt := topSt 20 -- row is_whole_from
abbrev sPut : Stmt := inClass stAlb 1 -- meth Album put
abbrev sChs : Stmt := inClass stAlb 3 -- meth Album _check_some
abbrev sBok : Stmt := inClass stAlb 5 -- meth Album book
abbrev sCld : Stmt := inClass stAlb 6 -- meth Album called
/-! ### counts -/
theorem getC_put (cs : CtT) (s t : StT) (m : Int) : getC (putC cs s m) t = if t = s then some m else getC cs t := by
  have gmap : ∀ l : CtT, getC (l.map (fun c => if c.1 = s then (c.1, m) else c)) t = if t = s then (if l.any (fun c => decide (c.1 = s)) = true then some m else none) else getC l t := by
    intro l
    induction l with
    | nil => by_cases e : t = s <;> simp [getC, e]
    | cons c r ih =>
      rw [List.map_cons]
      by_cases h : c.1 = s
      · rw [if_pos h]
        by_cases e : t = s
        · simp [getC, e, h]
        · have ne : ¬ c.1 = t := fun z => e (by rw [← z, h])
          simp only [getC, if_neg ne, if_neg e] at ih ⊢
          exact ih
      · rw [if_neg h]
        by_cases e : t = s
        · have ne : ¬ c.1 = t := fun z => h (by rw [z, e])
          simp only [getC, if_neg ne, ih, if_pos e]
          rw [List.any_cons, decide_eq_false h, Bool.false_or]
        · by_cases h2 : c.1 = t
          · simp [getC, h2, e]
          · simp only [getC, if_neg h2, if_neg e] at ih ⊢
            exact ih
  have gapp : ∀ l : CtT, (¬ l.any (fun c => decide (c.1 = s)) = true) → getC (l ++ [(s, m)]) t = if t = s then some m else getC l t := by
    intro l
    induction l with
    | nil =>
      intro _
      by_cases e : t = s
      · simp [getC, e]
      · have : ¬ s = t := fun z => e z.symm
        simp [getC, e, this]
    | cons c r ih =>
      intro h
      simp only [List.any_cons, Bool.or_eq_true, not_or, decide_eq_true_eq] at h
      rw [List.cons_append]
      by_cases e : t = s
      · have ne : ¬ c.1 = t := fun z => h.1 (by rw [z, e])
        simp only [getC, if_neg ne]
        exact ih h.2
      · by_cases h2 : c.1 = t
        · simp [getC, h2, e]
        · simp only [getC, if_neg h2]
          exact ih h.2
  unfold putC
  by_cases a : cs.any (fun c => decide (c.1 = s)) = true
  · rw [if_pos a, gmap, if_pos a]
  · rw [if_neg a]
    exact gapp cs a
theorem cnt_put (cs : CtT) (s t : StT) (m : Int) : cntM (putC cs s m) t = if t = s then m else cntM cs t := by
  unfold cntM
  rw [getC_put]
  by_cases e : t = s <;> simp [e]
/-- so many more of a stamp -/
def addC (cs : CtT) (c : StT × Int) : CtT := putC cs c.1 (cntM cs c.1 + c.2)
theorem cnt_add (cs : CtT) (c : StT × Int) (t : StT) : cntM (addC cs c) t = cntM cs t + if t = c.1 then c.2 else 0 := by
  unfold addC
  rw [cnt_put]
  by_cases e : t = c.1
  · rw [if_pos e, if_pos e, e]
  · rw [if_neg e, if_neg e]
    omega
theorem cnt_pos {sets : List SetT} {cs : CtT} (ok : CtOk sets cs) (s : StT) : 0 ≤ cntM cs s := by
  unfold cntM
  cases e : getC cs s with
  | none => simp
  | some n =>
    have := ok.pos _ (getC_mem e)
    simp
    omega
theorem putC_keys (cs : CtT) (s : StT) (m : Int) : (putC cs s m).map (·.1) = if cs.any (fun c => decide (c.1 = s)) = true then cs.map (·.1) else cs.map (·.1) ++ [s] := by
  unfold putC
  by_cases a : cs.any (fun c => decide (c.1 = s)) = true
  · rw [if_pos a, if_pos a, List.map_map]
    refine List.map_congr_left fun c _ => ?_
    by_cases h : c.1 = s <;> simp [h]
  · rw [if_neg a, if_neg a, List.map_append]
    rfl
theorem CtOk.put {sets : List SetT} {cs : CtT} (ok : CtOk sets cs) {s : StT} (hs : StOk sets s) {m : Int} (hm : 1 ≤ m) : CtOk sets (putC cs s m) := by
  refine ⟨?_, fun c hc => ?_, fun c hc => ?_⟩
  · rw [putC_keys]
    by_cases a : cs.any (fun c => decide (c.1 = s)) = true
    · rw [if_pos a]
      exact ok.nd
    · rw [if_neg a]
      refine List.nodup_append.mpr ⟨ok.nd, by simp, fun x hx y hy => ?_⟩
      obtain ⟨c, hc, rfl⟩ := List.mem_map.mp hx
      rw [List.mem_singleton.mp hy]
      intro z
      exact a (List.any_eq_true.mpr ⟨c, hc, decide_eq_true z⟩)
  · unfold putC at hc
    by_cases a : cs.any (fun c => decide (c.1 = s)) = true
    · rw [if_pos a] at hc
      obtain ⟨c', h', rfl⟩ := List.mem_map.mp hc
      by_cases h : c'.1 = s
      · rw [if_pos h]
        exact hm
      · rw [if_neg h]
        exact ok.pos _ h'
    · rw [if_neg a] at hc
      rcases List.mem_append.mp hc with h | h
      · exact ok.pos _ h
      · rw [List.mem_singleton.mp h]
        exact hm
  · unfold putC at hc
    by_cases a : cs.any (fun c => decide (c.1 = s)) = true
    · rw [if_pos a] at hc
      obtain ⟨c', h', rfl⟩ := List.mem_map.mp hc
      by_cases h : c'.1 = s
      · rw [if_pos h]
        show StOk sets c'.1
        exact ok.st _ h'
      · rw [if_neg h]
        exact ok.st _ h'
    · rw [if_neg a] at hc
      rcases List.mem_append.mp hc with h | h
      · exact ok.st _ h
      · rw [List.mem_singleton.mp h]
        exact hs
theorem CtOk.add {sets : List SetT} {cs : CtT} (ok : CtOk sets cs) {c : StT × Int} (hs : StOk sets c.1) (hm : 1 ≤ c.2) : CtOk sets (addC cs c) := by
  have := cnt_pos ok c.1
  exact ok.put hs (by omega)
theorem fold_ok {sets : List SetT} : ∀ (ks : CtT) (cs : CtT), CtOk sets cs → (∀ c ∈ ks, StOk sets c.1 ∧ 1 ≤ c.2) → CtOk sets (ks.foldl addC cs)
  | [], _, h, _ => h
  | k :: r, cs, h, hk => by
    rw [List.foldl_cons]
    have k1 := hk k List.mem_cons_self
    exact fold_ok r _ (h.add k1.1 k1.2) fun c hc => hk c (List.mem_cons_of_mem _ hc)
theorem putC_len2 {sets : List SetT} {cs : CtT} (ok : CtOk sets cs) (h4 : sets.length ≤ 4) (h6 : ∀ s ∈ sets, SetOk s) : cs.length ≤ 48 := by
  have sub : cs.map (·.1) ⊆ (placesM 0 sets).flatMap fun p => [((p.1, p.2, 0) : StT), (p.1, p.2, 1)] := by
    intro s hs
    obtain ⟨c, hc, rfl⟩ := List.mem_map.mp hs
    have so := ok.st c hc
    refine List.mem_flatMap.mpr ⟨_, so.pl, ?_⟩
    have g0 := so.g0
    have g1 := so.g1
    have : c.1.2.2 = 0 ∨ c.1.2.2 = 1 := by omega
    rcases this with z | z
    · exact List.mem_cons.mpr (.inl (Prod.ext rfl (Prod.ext rfl z)))
    · exact List.mem_cons.mpr (.inr (List.mem_singleton.mpr (Prod.ext rfl (Prod.ext rfl z))))
  have l := ok.nd.length_le_of_subset sub
  have pl := (placesM_len sets 0 h6).1
  have fl : ∀ l : List PlT, (l.flatMap fun p => [((p.1, p.2, 0) : StT), (p.1, p.2, 1)]).length = 2 * l.length := by
    intro l
    induction l with
    | nil => rfl
    | cons a r ih =>
      rw [List.flatMap_cons, List.length_append, ih, List.length_cons]
      simp
      omega
  rw [List.length_map, fl] at l
  omega
theorem CtOk.len {sets : List SetT} {cs : CtT} (ok : CtOk sets cs) (bk : BookOk sets) : cs.length ≤ 48 := putC_len2 ok bk.len1 bk.ok
theorem CtOk.perm {sets : List SetT} {cs ds : CtT} (ok : CtOk sets cs) (p : ds.Perm cs) : CtOk sets ds :=
  ⟨(p.map _).nodup_iff.mpr ok.nd, fun c hc => ok.pos c (p.mem_iff.mp hc), fun c hc => ok.st c (p.mem_iff.mp hc)⟩
theorem CtOk.rise {sets : List SetT} {cs : CtT} (ok : CtOk sets cs) : CtOk sets (riseM cs) := ok.perm (riseM_perm cs)
theorem getC_perm {cs ds : CtT} (nd : (cs.map (·.1)).Nodup) (p : ds.Perm cs) (s : StT) : getC ds s = getC cs s := by
  have nd2 : (ds.map (·.1)).Nodup := (p.map _).nodup_iff.mpr nd
  cases e : getC cs s with
  | some n => exact getC_of nd2 (p.mem_iff.mpr (getC_mem e))
  | none =>
    cases e2 : getC ds s with
    | none => rfl
    | some n => exact absurd rfl (getC_none e _ (p.mem_iff.mp (getC_mem e2)))
theorem cnt_rise {cs : CtT} (nd : (cs.map (·.1)).Nodup) (s : StT) : cntM (riseM cs) s = cntM cs s := by
  unfold cntM
  rw [getC_perm nd (riseM_perm cs)]
theorem nodup_of {cs : CtT} (h : (cs.map (·.1)).Nodup) : cs.Nodup := by
  rw [List.Nodup, List.pairwise_map] at h
  exact h.imp fun n z => n (by rw [z])
/-- alike counts rise alike -/
theorem rise_ext {sets : List SetT} {cs ds : CtT} (ok : CtOk sets cs) (od : CtOk sets ds) (h : ∀ s, cntM cs s = cntM ds s) : riseM cs = riseM ds := by
  have g : ∀ s n, getC cs s = some n ↔ getC ds s = some n := by
    intro s n
    have hh := h s
    unfold cntM at hh
    cases e1 : getC cs s with
    | none =>
      cases e2 : getC ds s with
      | none => rfl
      | some m =>
        rw [e1, e2] at hh
        have := od.pos _ (getC_mem e2)
        simp at hh
        omega
    | some m1 =>
      have p1 := ok.pos _ (getC_mem e1)
      cases e2 : getC ds s with
      | none =>
        rw [e1, e2] at hh
        simp at hh
        omega
      | some m2 =>
        rw [e1, e2] at hh
        simp at hh
        rw [hh]
  have nd1 : cs.Nodup := nodup_of ok.nd
  have nd2 : ds.Nodup := nodup_of od.nd
  have pm : cs.Perm ds := (List.perm_ext_iff_of_nodup nd1 nd2).mpr fun c => by
    constructor
    · intro hc
      exact getC_mem ((g c.1 c.2).mp (getC_of ok.nd hc))
    · intro hc
      exact getC_mem ((g c.1 c.2).mpr (getC_of od.nd hc))
  have p2 : (riseM cs).Perm (riseM ds) := (riseM_perm cs).trans (pm.trans (riseM_perm ds).symm)
  exact List.Perm.eq_of_pairwise (le := stLt) (fun a b _ _ h1 h2 => (stLt_asym h1 h2).elim) (riseM_rise ok.nd) (riseM_rise od.nd) p2
end Hm

set_option Elab.async false
set_option maxRecDepth 100000
set_option maxHeartbeats 4000000
namespace Hm
open PySem PySem.Spec PyProof.Rows L2 HmS
def fromB (x : V) (a : Int) : Bool :=
  match x with
  | .int i => decide (i ≥ a)
  | _ => false
def spWfr : Sp := fun vs H Q _ => ∃ (x : V) (t : Value) (a : Int), vs = [x, .int a] ∧ Plain H x t ∧ Q (.bl (fromB x a)) H
def spChs (C : Addr) : Sp := fun vs H Q _ => ∃ (p a b d : Addr) (n : Str) (cs : CtT) (sets : List SetT) (s : StT) (m : Int), vs = [.ref p, .ref a, .int m] ∧ AlbAt C H p b n d cs ∧ Book H b sets ∧ StAt H a s ∧ StOk sets s ∧ 1 ≤ m ∧ ∀ H', Same H H' → Q .non H'
def spPut (C : Addr) : Sp := fun vs H Q _ => ∃ (p a b d : Addr) (n : Str) (cs : CtT) (sets : List SetT) (s : StT) (m : Int), vs = [.ref p, .ref a, .int m] ∧ AlbAt C H p b n d cs ∧ Book H b sets ∧ StAt H a s ∧ StOk sets s ∧ 1 ≤ m ∧ CtOk sets cs ∧
  ∀ H', Keep d H H' → AlbAt C H' p b n d (addC cs (s, m)) → Q .non H'
def spBok (C : Addr) : Sp := fun vs H Q _ => ∃ (p b d : Addr) (n : Str) (cs : CtT), vs = [.ref p] ∧ AlbAt C H p b n d cs ∧ Q (.ref b) H
def spCld (C : Addr) : Sp := fun vs H Q _ => ∃ (p b d : Addr) (n : Str) (cs : CtT), vs = [.ref p] ∧ AlbAt C H p b n d cs ∧ Q (.str n) H
theorem AlbAt.ne {C : Addr} {H : Hp} {p b d : Addr} {n : Str} {cs : CtT} (h : AlbAt C H p b n d cs) : p ≠ d := fun z => by
  obtain ⟨⟨dx, e⟩, f⟩ := h
  rw [z, f] at e
  cases e
section
variable {P : Program} {w : World} {K : PySem.W.Frag} {mg : Str → Option Value} {base : Heap}
theorem sc_wfr : FnScope ["thing", "least"] ["thing", "least"] (defScope stWfr) := ⟨rfl, rfl, rfl, by decide +kernel, rfl, by decide +kernel, by decide +kernel⟩
theorem ok_wfr {f fW : Addr} {fd fdW : FuncData} (F : Fun K "is_whole_from" "is_whole_from" stWfr f fd) (gW : mg "is_whole" = some (.ref fW)) (kW : PySem.W.keepIn K (.ref fW) = true)
    (GW : FnOk P w K mg base CX0 1 fW fdW ["thing"] spIsW) (bW : Binds K fdW ["thing"] []) : FnOk P w K mg base CX0 2 f fd ["thing", "least"] spWfr := by
  refine F.ok sc_wfr (fun vs H Q E h => ?_) (fun cdv A outer s H vs Q E hr h => ?_)
  · obtain ⟨x, t, a, rfl, _⟩ := h
    rfl
  · obtain ⟨x, t, a, rfl, p, q⟩ := h
    refine ⟨_, pss_one (ps_ret (pe_and (pe_call GW hr (by rfl) gW kW bW .nil pass0 (pa_cons (pv 0) pa_nil)) (pe_one (pe_cmpR op_ge (pv 0) (pv 1) (nomark _))))), ?_⟩
    refine ⟨_, rfl, x, t, rfl, p, _, rfl, ?_⟩
    cases p with
    | int i => exact iteT ⟨_, rfl, _, rfl, _, _, rfl, rfl, q⟩
    | bl b => exact iteF q
    | non => exact iteF q
    | str z => exact iteF q
    | tup e => exact iteF q
theorem sc_chs : FnScope ["self", "stamp", "many"] ["self", "stamp", "many"] (defScope sChs) := ⟨rfl, rfl, rfl, by decide +kernel, rfl, by decide +kernel, by decide +kernel⟩
theorem ok_chs {f C fC fW : Addr} {fd fdC fdW : FuncData} (F : Fun K "_check_some" "Album._check_some" sChs f fd) (T : TxtAlb K mg C) (mC : Meth K C "_check_stamp" fC) (gW : mg "is_whole_from" = some (.ref fW)) (kW : PySem.W.keepIn K (.ref fW) = true)
    (GC : FnOk P w K mg base CX0 6 fC fdC ["self", "stamp"] (spChk C)) (bC : Binds K fdC ["self", "stamp"] [])
    (GW : FnOk P w K mg base CX0 2 fW fdW ["thing", "least"] spWfr) (bW : Binds K fdW ["thing", "least"] []) : FnOk P w K mg base CX0 7 f fd ["self", "stamp", "many"] (spChs C) := by
  refine F.ok sc_chs (fun vs H Q E h => ?_) (fun cdv A outer s H vs Q E hr h => ?_)
  · obtain ⟨p, a, b, d, n, cs, sets, st, m, rfl, _⟩ := h
    rfl
  · obtain ⟨p, a, b, d, n, cs, sets, st, m, rfl, al, bk, ha, so, hm, q⟩ := h
    obtain ⟨⟨dx, hp⟩, hd⟩ := id al
    refine ⟨_, pss_cons (ps_expr (pe_meth (pv 0) T.cl mC GC hr bC .nil pass0 (pa_cons (pv 1) pa_nil)))
      (pss_one (ps_if (pt_not (pt_val (pe_call GW (hr.mono (by decide)) (by rfl) gW kW bW .nil pass0 (pa_cons (pv 2) (pa_cons pe_int pa_nil))))) pss_never pss_nil)), ?_⟩
    refine ⟨_, rfl, p, dx, _, rfl, hp, albF_no b n d (by decide +kernel) (by decide +kernel) (by decide +kernel), _, rfl, p, a, b, d, n, cs, sets, st, rfl, al, bk, ha, so, fun H1 s1 => ?_⟩
    refine ⟨_, rfl, .int m, _, 1, rfl, .int m, _, rfl, ?_⟩
    have e : fromB (.int m) 1 = true := decide_eq_true hm
    rw [e]
    exact iteF (q H1 s1)
theorem sc_put : FnScope ["self", "stamp", "many"] ["self", "stamp", "many"] (defScope sPut) := ⟨rfl, rfl, rfl, by decide +kernel, rfl, by decide +kernel, by decide +kernel⟩
abbrev FPut (K : PySem.W.Frag) (f : Addr) (fd : FuncData) : Prop := FunD K "put" "Album.put" (defArgs sPut) (defBody sPut) (defScope sPut) [.int 1] [] f fd
theorem ok_put {f C fS fO : Addr} {fd fdS fdO : FuncData} (F : FPut K f fd) (T : TxtAlb K mg C) (mS : Meth K C "_check_some" fS) (mO : Meth K C "count_of" fO)
    (GS : FnOk P w K mg base CX0 7 fS fdS ["self", "stamp", "many"] (spChs C)) (bS : Binds K fdS ["self", "stamp", "many"] [])
    (GO : FnOk P w K mg base CX0 7 fO fdO ["self", "stamp"] (spCof C)) (bO : Binds K fdO ["self", "stamp"] []) : FnOk P w K mg base CX0 8 f fd ["self", "stamp", "many"] (spPut C) := by
  refine FunD.ok0 F sc_put (fun vs H Q E h => ?_) (fun cdv A outer s H vs Q E hr h => ?_)
  · obtain ⟨p, a, b, d, n, cs, sets, st, m, rfl, _⟩ := h
    rfl
  · obtain ⟨p, a, b, d, n, cs, sets, st, m, rfl, al, bk, ha, so, hm, ok, q⟩ := h
    have hu := hu_of hr
    obtain ⟨⟨dx, hp⟩, hd⟩ := id al
    refine ⟨_, pss_cons (ps_expr (pe_meth (pv 0) T.cl mS GS hr bS .nil pass0 (pa_cons (pv 1) (pa_cons (pv 2) pa_nil))))
      (pss_one (ps_dput hu (pe_fld (pv 0) rfl) (pv 1) (pe_op op_add (pe_meth (pv 0) T.cl mO GO hr bO .nil pass0 (pa_cons (pv 1) pa_nil)) (pv 2)) rfl)), ?_⟩
    refine ⟨_, rfl, p, dx, _, rfl, hp, albF_no b n d (by decide +kernel) (by decide +kernel) (by decide +kernel), _, rfl, _, rfl, p, a, b, d, n, cs, sets, st, m, rfl, al, bk, ha, so, hm, fun H1 s1 => ?_⟩
    refine ⟨_, rfl, p, dx, _, rfl, s1 _ _ hp, albF_no b n d (by decide +kernel) (by decide +kernel) (by decide +kernel), _, rfl, p, a, b, d, n, cs, sets, st, rfl, al.same s1, bk.same s1, s1 _ _ ha, so, fun H2 s2 => ?_⟩
    have s12 := s1.trans s2
    have hd2 := s12 _ _ hd
    have ln := ok.len bk.1
    refine ⟨_, rfl, _, _, rfl, rfl, _, rfl, p, C, dx, _, _, rfl, s12 _ _ hp, T.cl, T.nM, albF_m b n d, _, rfl, d, _, rfl, DPut.t (k := keyS st) hd2 (s12 _ _ ha) (by rw [List.length_map]; exact small1000 (by omega)), ?_⟩
    refine q _ (fun c o hc e => by rw [upd_ne hc]; exact s12 _ _ e) ⟨⟨dx, by rw [upd_ne al.ne]; exact s12 _ _ hp⟩, ?_⟩
    rw [upd_same, put_entC]
    rfl
theorem sc_bok : FnScope ["self"] ["self"] (defScope sBok) := ⟨rfl, rfl, rfl, by decide +kernel, rfl, by decide +kernel, by decide +kernel⟩
theorem ok_bok {f C : Addr} {fd : FuncData} (F : Fun K "book" "Album.book" sBok f fd) (T : TxtAlb K mg C) : FnOk P w K mg base CX0 1 f fd ["self"] (spBok C) := by
  refine F.ok sc_bok (fun vs H Q E h => ?_) (fun cdv A outer s H vs Q E hr h => ?_)
  · obtain ⟨p, b, d, n, cs, rfl, _⟩ := h
    rfl
  · obtain ⟨p, b, d, n, cs, rfl, ⟨⟨dx, hp⟩, hd⟩, q⟩ := h
    exact ⟨_, pss_one (ps_ret (pe_fld (pv 0) rfl)), _, rfl, p, C, dx, _, _, rfl, hp, T.cl, T.nB, albF_b b n d, q⟩
theorem sc_cld : FnScope ["self"] ["self"] (defScope sCld) := ⟨rfl, rfl, rfl, by decide +kernel, rfl, by decide +kernel, by decide +kernel⟩
theorem ok_cld {f C : Addr} {fd : FuncData} (F : Fun K "called" "Album.called" sCld f fd) (T : TxtAlb K mg C) : FnOk P w K mg base CX0 1 f fd ["self"] (spCld C) := by
  refine F.ok sc_cld (fun vs H Q E h => ?_) (fun cdv A outer s H vs Q E hr h => ?_)
  · obtain ⟨p, b, d, n, cs, rfl, _⟩ := h
    rfl
  · obtain ⟨p, b, d, n, cs, rfl, ⟨⟨dx, hp⟩, hd⟩, q⟩ := h
    exact ⟨_, pss_one (ps_ret (pe_fld (pv 0) rfl)), _, rfl, p, C, dx, _, _, rfl, hp, T.cl, T.nN, albF_n b n d, q⟩
end
end Hm

set_option Elab.async false
set_option maxRecDepth 100000
set_option maxHeartbeats 4000000
namespace Hm
open PySem PySem.Spec PyProof.Rows L2 HmS
abbrev stFid : Stmt := topSt 39 -- row filled
abbrev stJnd : Stmt := topSt 40 -- row joined
abbrev sTwn : Stmt := inClass stAlb 14 -- meth Album twin
theorem rows_keepD {d : Addr} {H H' : Hp} {o : List (List Key × V)} (hd : H d = some (.dT o)) (k : Keep d H H') {as : List Addr} {cs : CtT} (p : Paired (RowAt H) as cs) : Paired (RowAt H') as cs :=
  Paired.mp (fun a c h => by
    have ne : ∀ {b : Addr} {ys : List V}, H b = some (.tup ys) → b ≠ d := fun e z => by
      rw [z, hd] at e
      cases e
    obtain ⟨t, e, f⟩ := h
    exact ⟨t, k _ _ (ne e) e, k _ _ (ne f) f⟩) p
theorem Book.keepD {b d : Addr} {H H' : Hp} {o : List (List Key × V)} {sets : List SetT} (hd : H d = some (.dT o)) (k : Keep d H H') (x : Book H b sets) : Book H' b sets := by
  have ne : ∀ {b : Addr} {ys : List V}, H b = some (.tup ys) → b ≠ d := fun e z => by
    rw [z, hd] at e
    cases e
  obtain ⟨ok, as, e, pr⟩ := x
  exact ⟨ok, as, k _ _ (ne e) e, Paired.mp (fun a s q => k _ _ (ne q) q) pr⟩
theorem add_fresh {cs : CtT} {c : StT × Int} (h : c.1 ∉ cs.map (·.1)) : addC cs c = cs ++ [c] := by
  have g : getC cs c.1 = none := by
    cases e : getC cs c.1 with
    | none => rfl
    | some n => exact absurd (List.mem_map.mpr ⟨_, getC_mem e, rfl⟩) h
  have a : ¬ cs.any (fun k => decide (k.1 = c.1)) = true := fun z => by
    obtain ⟨k, hk, e⟩ := List.any_eq_true.mp z
    exact h (List.mem_map.mpr ⟨k, hk, of_decide_eq_true e⟩)
  unfold addC putC
  rw [if_neg a]
  unfold cntM
  rw [g]
  simp
theorem take_key {ks : CtT} (nd : (ks.map (·.1)).Nodup) {i : Nat} {c : StT × Int} (h : ks[i]? = some c) : c.1 ∉ (ks.take i).map (·.1) := by
  have e : ks.take (i + 1) = ks.take i ++ [c] := by rw [List.take_add_one, h]; rfl
  have sl : ((ks.take (i + 1)).map (·.1)).Nodup := List.Nodup.sublist ((List.take_sublist _ _).map _) nd
  rw [e, List.map_append] at sl
  intro z
  exact (List.nodup_append.mp sl).2.2 _ z c.1 (by simp) rfl
theorem CtOk.take {sets : List SetT} {cs : CtT} (ok : CtOk sets cs) (i : Nat) : CtOk sets (cs.take i) :=
  ⟨List.Nodup.sublist ((List.take_sublist _ _).map _) ok.nd, fun c hc => ok.pos c (List.mem_of_mem_take hc), fun c hc => ok.st c (List.mem_of_mem_take hc)⟩
def spFid (C : Addr) : Sp := fun vs H Q _ => ∃ (b l : Addr) (n : Str) (rs : List Addr) (ks : CtT) (sets : List SetT), vs = [.ref b, .str n, .ref l] ∧ Book H b sets ∧ NameOk n ∧ H l = some (.lst (rs.map V.ref)) ∧ Paired (RowAt H) rs ks ∧ CtOk sets ks ∧
  ∀ (H' : Hp) (p d : Addr), Same H H' → H p = none → H d = none → AlbAt C H' p b n d ks → Q (.ref p) H'
def spTwn (C : Addr) : Sp := fun vs H Q _ => ∃ (p b d : Addr) (n : Str) (cs : CtT) (sets : List SetT), vs = [.ref p] ∧ AlbAt C H p b n d cs ∧ Book H b sets ∧ NameOk n ∧ CtOk sets cs ∧
  ∀ (H' : Hp) (p' d' : Addr), Same H H' → H p' = none → H d' = none → AlbAt C H' p' b n d' (riseM cs) → Q (.ref p') H'
def joinM (cs ds : CtT) : CtT := (riseM ds).foldl addC (riseM cs)
def spJnd (C : Addr) : Sp := fun vs H Q _ => ∃ (p b d p2 d2 b2 : Addr) (n n2 : Str) (cs cs2 : CtT) (sets : List SetT), vs = [.ref p, .ref p2] ∧ AlbAt C H p b n d cs ∧ AlbAt C H p2 b2 n2 d2 cs2 ∧ Book H b sets ∧ NameOk n ∧ CtOk sets cs ∧ CtOk sets cs2 ∧
  ∀ (H' : Hp) (p' d' : Addr), Same H H' → H p' = none → H d' = none → AlbAt C H' p' b n d' (joinM cs cs2) → Q (.ref p') H'
theorem joinM_ok {sets : List SetT} {cs ds : CtT} (oc : CtOk sets cs) (od : CtOk sets ds) : CtOk sets (joinM cs ds) := fold_ok _ _ oc.rise fun c hc => ⟨od.rise.st c hc, od.rise.pos c hc⟩
theorem cnt_fold : ∀ (ks cs : CtT) (s : StT), (ks.map (·.1)).Nodup → cntM (ks.foldl addC cs) s = cntM cs s + cntM ks s
  | [], cs, s, _ => by simp [cntM, getC]
  | k :: r, cs, s, nd => by
    rw [List.map_cons, List.nodup_cons] at nd
    rw [List.foldl_cons, cnt_fold r _ s nd.2, cnt_add]
    by_cases e : s = k.1
    · have g : getC r s = none := by
        cases g : getC r s with
        | none => rfl
        | some m => exact absurd (List.mem_map.mpr ⟨_, getC_mem g, e⟩) nd.1
      rw [if_pos e]
      have e2 : k.1 = s := e.symm
      unfold cntM
      rw [g]
      simp [getC, e2]
    · have e2 : ¬ k.1 = s := fun z => e z.symm
      rw [if_neg e]
      unfold cntM
      simp only [getC, if_neg e2]
      omega
theorem cnt_join {sets : List SetT} {cs ds : CtT} (oc : CtOk sets cs) (od : CtOk sets ds) (s : StT) : cntM (joinM cs ds) s = cntM cs s + cntM ds s := by
  unfold joinM
  rw [cnt_fold _ _ _ od.rise.nd, cnt_rise oc.nd, cnt_rise od.nd]
section
variable {P : Program} {w : World} {K : PySem.W.Frag} {mg : Str → Option Value} {base : Heap}
abbrev nFid : List Str := ["book", "name", "counts", "album", "stamp", "many"]
theorem sc_fid : FnScope nFid ["book", "name", "counts"] (defScope stFid) := ⟨rfl, rfl, rfl, by decide +kernel, rfl, by decide +kernel, by decide +kernel⟩
theorem ok_fid {f C fI fP : Addr} {fd fdI fdP : FuncData} (F : Fun K "filled" "filled" stFid f fd) (T : TxtAlb K mg C) (mkI : Mk K C fI) (mP : Meth K C "put" fP)
    (GI : FnOk P w K mg base CX0 7 fI fdI ["self", "book", "name", "stamps"] (spIni0 C)) {ds : List Value} (rd : Vals [V.non] ds) (bI : Binds K fdI ["self", "book", "name", "stamps"] ds)
    (GP : FnOk P w K mg base CX0 8 fP fdP ["self", "stamp", "many"] (spPut C)) (bP : Binds K fdP ["self", "stamp", "many"] []) : FnOk P w K mg base CX0 9 f fd ["book", "name", "counts"] (spFid C) := by
  refine F.ok sc_fid (fun vs H Q E h => ?_) (fun cdv A outer s H vs Q E hr h => ?_)
  · obtain ⟨b, l, n, rs, ks, sets, rfl, _⟩ := h
    rfl
  · obtain ⟨b, l, n, rs, ks, sets, rfl, bk, hn, hl, pr, ok, q⟩ := h
    refine ⟨_, pss_cons (ps_set (i := 3) sc_fid.nd rfl (Or.inl rfl) (pe_make mkI GI hr (by rfl) T.mgC bI rd pass0 (pa_cons (pv 0) (pa_cons (pv 1) pa_nil))))
      (pss_cons (ps_for PassesOwn.never rfl (pi_list (pv 2)) (pg_tup rfl (pgs_cons (pg_name (i := 4) sc_fid.nd rfl (Or.inl rfl)) (pgs_cons (pg_name (i := 5) sc_fid.nd rfl (Or.inl rfl)) pgs_nil)))
        (pss_one (ps_expr (pe_meth (pv 3) T.cl mP GP hr bP .nil pass0 (pa_cons (pv 4) (pa_cons (pv 5) pa_nil))))))
      (pss_one (ps_ret (pv 3)))), ?_⟩
    refine seqset ⟨_, rfl, _, rfl, fun x dx hx hdx hxd => ?_⟩
    have s5 : Same H (upd (upd H dx (.own x)) x (.ins C dx [])) := fun c o e => by rw [upd_ne (ne_of_none e hx), upd_ne (ne_of_none e hdx)]; exact e
    refine ⟨x, dx, b, n, sets, rfl, upd_same, bk.same s5, hn, fun H1 d k1 nd1 al1 => ⟨rfl, ?_⟩⟩
    have s1 : Same H H1 := fun c o e => k1 c o (ne_of_none e hx) (s5 _ _ e)
    have ndH := none_of s5 nd1
    refine ⟨_, rfl, l, rfl, ⟨_, SqL.of (s1 _ _ hl)⟩, ?_⟩
    have pr1 := rows_same s1 pr
    have bk1 := bk.same s1
    have hd1 := al1.dc
    have ld : l ≠ d := ne_of_none hl ndH
    refine for_list (K := K) (xs := rs.map V.ref) (fun i σ G => ∃ v4 v5 : Option V, σ = [some (.ref b), some (.str n), some (.ref l), some (.ref x), v4, v5] ∧ Keep d H1 G ∧ AlbAt C G x b n d (ks.take i))
      ⟨none, none, rfl, Keep.refl, al1⟩ (fun i σ G _ pv => by
        obtain ⟨_, _, _, kG, _⟩ := pv
        exact SqL.of (kG _ _ ld (s1 _ _ hl))) ?_ ?_
    · rintro i y σ G hy ⟨v4, v5, rfl, kG, alG⟩
      rw [List.getElem?_map] at hy
      obtain ⟨a, ha, rfl⟩ : ∃ a, rs[i]? = some a ∧ V.ref a = y := by
        cases h : rs[i]? with
        | none =>
          rw [h] at hy
          cases hy
        | some a =>
          rw [h] at hy
          exact ⟨a, rfl, Option.some.inj hy⟩
      obtain ⟨c, hc, t, ea, et⟩ := Paired.gl (rows_keepD hd1 kG pr1) ha
      have hcm := List.mem_of_getElem? hc
      obtain ⟨⟨dxG, hxG⟩, hdG⟩ := id alG
      refine ⟨a, _, rfl, SqT.of ea, rfl, _, _, rfl, _, _, rfl, rfl, ?_⟩
      refine ⟨_, rfl, x, dxG, _, rfl, hxG, albF_no b n d (by decide +kernel) (by decide +kernel) (by decide +kernel), _, rfl, _, rfl, x, t, b, d, n, ks.take i, sets, c.1, c.2, rfl, alG, bk1.keepD hd1 kG, et, ok.st _ hcm, ok.pos _ hcm, ok.take i, fun G2 k2 al2 => ?_⟩
      refine ⟨_, _, rfl, kG.trans k2, ?_⟩
      rw [add_fresh (take_key ok.nd hc)] at al2
      rw [List.take_add_one, hc]
      exact al2
    · rintro σ G ⟨v4, v5, rfl, kG, alG⟩
      rw [List.length_map, Paired.length pr, List.take_length] at alG
      exact ⟨_, rfl, q G x d (fun c o e => kG c o (ne_of_none e ndH) (s1 _ _ e)) hx ndH alG⟩
theorem sc_twn : FnScope ["self"] ["self"] (defScope sTwn) := ⟨rfl, rfl, rfl, by decide +kernel, rfl, by decide +kernel, by decide +kernel⟩
theorem ok_twn {f C fA fF : Addr} {fd fdA fdF : FuncData} (F : Fun K "twin" "Album.twin" sTwn f fd) (T : TxtAlb K mg C) (mA : Meth K C "all_of" fA) (gF : mg "filled" = some (.ref fF)) (kF : PySem.W.keepIn K (.ref fF) = true)
    (GA : FnOk P w K mg base CX0 1 fA fdA ["self"] (spAof C)) (bA : Binds K fdA ["self"] [])
    (GF : FnOk P w K mg base CX0 9 fF fdF ["book", "name", "counts"] (spFid C)) (bF : Binds K fdF ["book", "name", "counts"] []) : FnOk P w K mg base CX0 10 f fd ["self"] (spTwn C) := by
  refine F.ok sc_twn (fun vs H Q E h => ?_) (fun cdv A outer s H vs Q E hr h => ?_)
  · obtain ⟨p, b, d, n, cs, sets, rfl, _⟩ := h
    rfl
  · obtain ⟨p, b, d, n, cs, sets, rfl, al, bk, hn, ok, q⟩ := h
    obtain ⟨⟨dx, hp⟩, hd⟩ := id al
    refine ⟨_, pss_one (ps_ret (pe_call GF hr (by rfl) gF kF bF .nil pass0 (pa_cons (pe_fld (pv 0) rfl) (pa_cons (pe_fld (pv 0) rfl) (pa_cons (pe_meth0 (pv 0) T.cl mA GA (hr.mono (by decide)) bA .nil pass0) pa_nil))))), ?_⟩
    refine ⟨_, rfl, p, C, dx, _, _, rfl, hp, T.cl, T.nB, albF_b b n d, _, rfl, p, C, dx, _, _, rfl, hp, T.cl, T.nN, albF_n b n d, ?_⟩
    have ln := ok.len bk.1
    refine ⟨_, rfl, p, dx, _, rfl, hp, albF_no b n d (by decide +kernel) (by decide +kernel) (by decide +kernel), p, b, d, n, cs, rfl, al, by omega, fun H1 l rs s1 nl hl pr => ?_⟩
    exact ⟨b, l, n, rs, riseM cs, sets, rfl, bk.same s1, hn, hl, pr, ok.rise, fun H2 p' d' s2 n1 n2 al2 => q H2 p' d' (s1.trans s2) (none_of s1 n1) (none_of s1 n2) al2⟩
abbrev nJnd : List Str := ["one", "other", "both", "stamp", "many"]
theorem sc_jnd : FnScope nJnd ["one", "other"] (defScope stJnd) := ⟨rfl, rfl, rfl, by decide +kernel, rfl, by decide +kernel, by decide +kernel⟩
theorem ok_jnd {f C fT fA fP : Addr} {fd fdT fdA fdP : FuncData} (F : Fun K "joined" "joined" stJnd f fd) (T : TxtAlb K mg C) (mT : Meth K C "twin" fT) (mA : Meth K C "all_of" fA) (mP : Meth K C "put" fP)
    (GT : FnOk P w K mg base CX0 10 fT fdT ["self"] (spTwn C)) (bT : Binds K fdT ["self"] [])
    (GA : FnOk P w K mg base CX0 1 fA fdA ["self"] (spAof C)) (bA : Binds K fdA ["self"] [])
    (GP : FnOk P w K mg base CX0 8 fP fdP ["self", "stamp", "many"] (spPut C)) (bP : Binds K fdP ["self", "stamp", "many"] []) : FnOk P w K mg base CX0 11 f fd ["one", "other"] (spJnd C) := by
  refine F.ok sc_jnd (fun vs H Q E h => ?_) (fun cdv A outer s H vs Q E hr h => ?_)
  · obtain ⟨p, b, d, p2, d2, b2, n, n2, cs, cs2, sets, rfl, _⟩ := h
    rfl
  · obtain ⟨p, b, d, p2, d2, b2, n, n2, cs, cs2, sets, rfl, al, al2, bk, hn, ok, ok2, q⟩ := h
    refine ⟨_, pss_cons (ps_set (i := 2) sc_jnd.nd rfl (Or.inl rfl) (pe_meth0 (pv 0) T.cl mT GT hr bT .nil pass0))
      (pss_cons (ps_for PassesOwn.never rfl (pi_list (pe_meth0 (pv 1) T.cl mA GA (hr.mono (by decide)) bA .nil pass0)) (pg_tup rfl (pgs_cons (pg_name (i := 3) sc_jnd.nd rfl (Or.inl rfl)) (pgs_cons (pg_name (i := 4) sc_jnd.nd rfl (Or.inl rfl)) pgs_nil)))
        (pss_one (ps_expr (pe_meth (pv 2) T.cl mP GP (hr.mono (by decide)) bP .nil pass0 (pa_cons (pv 3) (pa_cons (pv 4) pa_nil))))))
      (pss_one (ps_ret (pv 2)))), ?_⟩
    obtain ⟨⟨dx, hp⟩, hd⟩ := id al
    obtain ⟨⟨dx2, hp2⟩, hd2⟩ := id al2
    have ln2 := ok2.len bk.1
    refine seqset ⟨_, rfl, p, dx, _, rfl, hp, albF_no b n d (by decide +kernel) (by decide +kernel) (by decide +kernel), p, b, d, n, cs, sets, rfl, al, bk, hn, ok, fun H1 x dn s1 nx nd al1 => ?_⟩
    refine ⟨_, rfl, p2, dx2, _, rfl, s1 _ _ hp2, albF_no b2 n2 d2 (by decide +kernel) (by decide +kernel) (by decide +kernel), p2, b2, d2, n2, cs2, rfl, al2.same s1, by omega, fun H2 l rs s2 nl hl pr => ⟨l, rfl, ⟨_, SqL.of hl⟩, ?_⟩⟩
    have s12 := s1.trans s2
    have alx := al1.same s2
    have hdx := alx.dc
    have ld : l ≠ dn := fun z => by
      rw [z, al1.dc] at nl
      cases nl
    refine for_list (K := K) (xs := rs.map V.ref) (fun i σ G => ∃ v3 v4 : Option V, σ = [some (.ref p), some (.ref p2), some (.ref x), v3, v4] ∧ Keep dn H2 G ∧ AlbAt C G x b n dn (((riseM cs2).take i).foldl addC (riseM cs)))
      ⟨none, none, rfl, Keep.refl, alx⟩ (fun i σ G _ pv => by
        obtain ⟨_, _, _, kG, _⟩ := pv
        exact SqL.of (kG _ _ ld hl)) ?_ ?_
    · rintro i y σ G hy ⟨v3, v4, rfl, kG, alG⟩
      rw [List.getElem?_map] at hy
      obtain ⟨a, ha, rfl⟩ : ∃ a, rs[i]? = some a ∧ V.ref a = y := by
        cases h : rs[i]? with
        | none =>
          rw [h] at hy
          cases hy
        | some a =>
          rw [h] at hy
          exact ⟨a, rfl, Option.some.inj hy⟩
      obtain ⟨c, hc, t, ea, et⟩ := Paired.gl (rows_keepD hdx kG pr) ha
      have hcm := List.mem_of_getElem? hc
      have okr := ok2.rise
      have okf : CtOk sets (((riseM cs2).take i).foldl addC (riseM cs)) := fold_ok _ _ ok.rise fun c hc => ⟨okr.st c (List.mem_of_mem_take hc), okr.pos c (List.mem_of_mem_take hc)⟩
      obtain ⟨⟨dxG, hxG⟩, hdG⟩ := id alG
      refine ⟨a, _, rfl, SqT.of ea, rfl, _, _, rfl, _, _, rfl, rfl, ?_⟩
      refine ⟨_, rfl, x, dxG, _, rfl, hxG, albF_no b n dn (by decide +kernel) (by decide +kernel) (by decide +kernel), _, rfl, _, rfl, x, t, b, dn, n, _, sets, c.1, c.2, rfl, alG, (bk.same s12).keepD hdx kG, et, okr.st _ hcm, okr.pos _ hcm, okf, fun G2 k2 al3 => ?_⟩
      refine ⟨_, _, rfl, kG.trans k2, ?_⟩
      have e : (riseM cs2).take (i + 1) = (riseM cs2).take i ++ [c] := by rw [List.take_add_one, hc]; rfl
      rw [e, List.foldl_append]
      exact al3
    · rintro σ G ⟨v3, v4, rfl, kG, alG⟩
      rw [List.length_map, Paired.length pr, List.take_length] at alG
      exact ⟨_, rfl, q G x dn (fun c o e => kG c o (ne_of_none e nd) (s12 _ _ e)) nx nd alG⟩
end
end Hm

set_option Elab.async false
set_option maxRecDepth 100000
set_option maxHeartbeats 4000000
namespace Hm
open PySem PySem.Spec PyProof.Rows L2 HmS RZ
abbrev stRiw : Stmt := topSt 25 -- row is_rising_within
def riseI (is : List Int) : Bool := ((is.zip is.tail).map fun p => decide (p.1 < p.2)).all id
def spRisI : Sp := fun vs H Q _ => ∃ (t : Addr) (is : List Int), vs = [.ref t] ∧ H t = some (.tup (is.map V.int)) ∧ is.length ≤ 1000 ∧ ∀ H', Same H H' → Q (.bl (riseI is)) H'
def spRiw : Sp := fun vs H Q _ => ∃ (t : Addr) (is : List Int) (a b : Int), vs = [.ref t, .int a, .int b] ∧ H t = some (.tup (is.map V.int)) ∧ is.length ≤ 1000 ∧ (∀ i ∈ is, a ≤ i ∧ i ≤ b) ∧ ∀ H', Same H H' → Q (.bl (riseI is)) H'
theorem walk_zipT {K : PySem.W.Frag} {a b : Addr} {xs ys : List V} {n : Nat} (hn : n = min xs.length ys.length) : Walk (ItzT K a b) n (fun H => SqT K H a xs ∧ SqT K H b ys) (YPair (fun i => xs[i]?) (fun i => ys[i]?)) where
  goes := fun i H hi q => by
    have h1 : i < xs.length := by omega
    have h2 : i < ys.length := by omega
    exact ⟨xs, ys, xs[i], ys[i], q.1, q.2, List.getElem?_eq_getElem h1, List.getElem?_eq_getElem h2⟩
  stops := fun H q => ⟨xs, ys, q.1, q.2, by omega⟩
  yields := fun i H v H' hi q y => by
    obtain ⟨T, x, z, e, hT, eH, hx, hz⟩ := y
    exact ⟨T, x, z, e, hT, eH, hx xs q.1, hz ys q.2⟩
theorem flat_ints (is : List Int) : (is.map V.int).all flatV = true := by
  rw [List.all_eq_true]
  intro x hx
  obtain ⟨i, _, rfl⟩ := List.mem_map.mp hx
  rfl
section
variable {P : Program} {w : World} {K : PySem.W.Frag} {mg : Str → Option Value} {base : Heap}
theorem ok_risI {f : Addr} {fd : FuncData} (F : Fun K "is_rising" "is_rising" stRis f fd) (T : TxtKind mg) : FnOk P w K mg base CX0 1 f fd ["things"] spRisI := by
  refine F.ok sc_ris (fun vs H Q E h => ?_) (fun cdv A outer s H vs Q E hr h => ?_)
  · obtain ⟨t, is, rfl, _⟩ := h
    rfl
  · obtain ⟨t, is, rfl, ht, hz, q⟩ := h
    refine ⟨_, pss_one (ps_ret (pe_callB (cr_all rfl) (by rfl) T.all (by decide +kernel) (pa_cons (pe_lc (own := [("ahead", 1), ("behind", 2)]) (g := gTup K 2 (gCons (gName 1) (gCons (gName 2) gNil))) (tt := tYes) rfl sc_ris.nd
        (pi_zipA (by rfl) T.zip (pa_cons (pv 0) (pa_cons (pe_slice (r := rSlA K) sl_tupA (pv 0) (po_some pe_int) po_none) pa_nil)))
        (blkOk_by (N := nRis) (sc := defScope stRis) (by decide +kernel)) (fun _ _ _ _ _ => by exact pg_tup rfl (pgs_cons (pg_name (i := 1) sc_ris.nd rfl (Or.inl rfl)) (pgs_cons (pg_name (i := 2) sc_ris.nd rfl (Or.inl rfl)) pgs_nil))) (fun _ _ _ _ _ => pts_nil)
        (fun _ _ _ _ _ => pe_cmpR op_lt (pv 1) (pv 2) (nomark _))) pa_nil))), ?_⟩
    have go : ∀ (t2 : Addr) (G : Hp), Same H G → G t2 = some (.tup (is.tail.map V.int)) → tLc (fun σ H' R => R (ItzT K t t2) H') (gTup K 2 (gCons (gName 1) (gCons (gName 2) gNil))) tYes (tOp (rI0 fun i j => .bl (decide (i < j))) (tVar 1) (tVar 2)) [1, 2] [some (.ref t), none, none] G (fun x H' => rAll K [x] H' Q) := by
      intro t2 G sG h2 D hD
      have hn : (is.zip is.tail).length = min (is.map V.int).length (is.tail.map V.int).length := by rw [List.length_zip, List.length_map, List.length_map]
      refine lc_it (walk_zipT (K := K) (a := t) (b := t2) (xs := is.map V.int) (ys := is.tail.map V.int) hn)
        (fun i H' => Same G H' ∧ H' D = some (.lst ((((is.zip is.tail).take i).map fun p => decide (p.1 < p.2)).map V.bl))) ⟨same_upd hD, upd_same⟩
        (fun i H' _ pv => ⟨SqT.of (pv.1 _ _ (sG _ _ ht)), SqT.of (pv.1 _ _ h2)⟩) (fun i x H1 H2 hi pv y => ?_) (fun H' pv => ?_)
      · obtain ⟨sm, hDi⟩ := pv
        obtain ⟨T1, x1, y1, rfl, hT1, rfl, ex, ey⟩ := y
        have ex : (is.map V.int)[i]? = some x1 := ex
        have ey : (is.tail.map V.int)[i]? = some y1 := ey
        rw [List.getElem?_map] at ex ey
        cases h1 : is[i]? with
        | none =>
          rw [h1] at ex
          cases ex
        | some a1 =>
          rw [h1] at ex
          cases ex
          cases h2' : is.tail[i]? with
          | none =>
            rw [h2'] at ey
            cases ey
          | some a2 =>
            rw [h2'] at ey
            cases ey
            have gz : (is.zip is.tail)[i]? = some (a1, a2) := List.getElem?_zip_eq_some.mpr ⟨h1, h2'⟩
            have et : (is.zip is.tail).take (i + 1) = (is.zip is.tail).take i ++ [(a1, a2)] := by rw [List.take_add_one, gz]; rfl
            refine ⟨T1, _, rfl, SqT.of upd_same, rfl, _, _, rfl, _, _, rfl, rfl, rfl, yesT ⟨_, rfl, _, rfl, _, _, rfl, rfl, _, (same_upd hT1) _ _ hDi, ?_, ?_, ?_⟩⟩
            · have := List.length_take (i := i) (l := is.zip is.tail)
              have h3 : (is.zip is.tail).length ≤ is.length := by rw [List.length_zip]; omega
              rw [List.length_map, List.length_map, sizeLine_eq]
              omega
            · intro c o e
              rw [upd_ne (ne_of_none e hD)]
              exact (same_upd hT1) _ _ (sm _ _ e)
            · rw [upd_same, et, List.map_append, List.map_append]
              rfl
      · obtain ⟨sm, hDi⟩ := pv
        rw [List.take_length] at hDi
        exact ⟨D, _, rfl, SqL.of hDi, q H' (sG.trans sm)⟩
    refine ⟨_, rfl, _, rfl, 1, rfl, t, _, rfl, SqT.of ht, fun hw => ?_, fun _ t2 ht2 => ?_⟩
    · have et : is.tail = is := by
        cases is with
        | nil => rfl
        | cons a r =>
          exfalso
          have h1 : HT.sIx ((a :: r).map V.int).length 0 (some ((1 : Nat) : Int)) = 0 := hw.1
          rw [HT.sIx_nat, List.length_map, List.length_cons] at h1
          omega
      exact ⟨t, t, _, _, rfl, .inr ⟨SqT.of ht, SqT.of ht, go t H (fun _ _ e => e) (by rw [et]; exact ht)⟩⟩
    · have ec : cutV (is.map V.int) (some 1) none = is.tail.map V.int := by
        unfold cutV
        cases is with
        | nil => rfl
        | cons a r =>
          have e1 : HT.sIx ((a :: r).map V.int).length 0 (some ((1 : Nat) : Int)) = 1 := by
            rw [HT.sIx_nat, List.length_map, List.length_cons]
            omega
          show (((a :: r).map V.int).drop (HT.sIx ((a :: r).map V.int).length 0 (some ((1 : Nat) : Int)))).take (((a :: r).map V.int).length - HT.sIx ((a :: r).map V.int).length 0 (some ((1 : Nat) : Int))) = _
          rw [e1, List.map_cons, List.drop_succ_cons, List.drop_zero, List.tail_cons]
          exact List.take_of_length_le (by simp)
      rw [ec]
      have s2 : Same H (upd H t2 (.tup (is.tail.map V.int))) := same_upd ht2
      exact ⟨t, t2, _, _, rfl, .inr ⟨SqT.of (s2 _ _ ht), SqT.of upd_same, go t2 _ s2 upd_same⟩⟩
theorem sc_riw : FnScope ["thing", "least", "most", "part"] ["thing", "least", "most"] (defScope stRiw) := ⟨rfl, rfl, rfl, by decide +kernel, rfl, by decide +kernel, by decide +kernel⟩
abbrev nRiw : List Str := ["thing", "least", "most", "part"]
theorem ok_riw {f fW fR : Addr} {fd fdW fdR : FuncData} (F : Fun K "is_rising_within" "is_rising_within" stRiw f fd) (T : TxtKind mg) (gW : mg "is_whole_within" = some (.ref fW)) (kW : PySem.W.keepIn K (.ref fW) = true) (gR : mg "is_rising" = some (.ref fR)) (kR : PySem.W.keepIn K (.ref fR) = true)
    (GW : FnOk P w K mg base CX0 2 fW fdW ["thing", "least", "most"] spWit) (bW : Binds K fdW ["thing", "least", "most"] [])
    (GR : FnOk P w K mg base CX0 1 fR fdR ["things"] spRisI) (bR : Binds K fdR ["things"] []) : FnOk P w K mg base CX0 3 f fd ["thing", "least", "most"] spRiw := by
  refine F.ok sc_riw (fun vs H Q E h => ?_) (fun cdv A outer s H vs Q E hr h => ?_)
  · obtain ⟨t, is, a, b, rfl, _⟩ := h
    rfl
  · obtain ⟨t, is, a, b, rfl, ht, hz, hb, q⟩ := h
    refine ⟨_, pss_cons (ps_if (PW.pt (pw_or (pt_not (pt_val (pe_callB call_isi (by rfl) T.isi boot_isinstance (pa_cons (pv 0) (pa_cons (pe_bltn (v := .ty "tuple") (by rfl) T.tuple (by decide +kernel) rfl) pa_nil)))))
        (pw_or1 (pt_not (pt_val (pe_callB (cr_all rfl) (by rfl) T.all (by decide +kernel) (pa_cons (pe_lc (own := [("part", 3)]) (g := gName 3) (tt := tYes) rfl sc_riw.nd (pi_tup (pv 0))
          (blkOk_by (N := nRiw) (sc := defScope stRiw) (by decide +kernel)) (fun _ _ _ _ _ => pg_name (i := 3) sc_riw.nd rfl (Or.inl rfl)) (fun _ _ _ _ _ => pts_nil)
          (fun _ _ _ _ _ => pe_call GW hr (by rfl) gW kW bW .nil pass0 (pa_cons (pv 3) (pa_cons (pv 1) (pa_cons (pv 2) pa_nil))))) pa_nil))))))) (pss_one (ps_ret pe_bl)) pss_nil)
      (pss_one (ps_ret (pe_call GR (hr.mono (by decide)) (by rfl) gR kR bR .nil pass0 (pa_cons (pv 0) pa_nil)))), ?_⟩
    have pa : Plain H (.ref t) (.type "tuple") := .tup ht
    refine ⟨_, rfl, _, _, _, _, _, rfl, .ty "tuple", pa.ty, pa.kT, _, rfl, iteF ?_⟩
    refine ⟨_, rfl, t, rfl, ⟨_, SqT.of ht⟩, fun D hD => lc_tup (K := K) (xs := is.map V.int) (fun i H' => Same H H' ∧ H' D = some (.lst ((List.replicate i true).map V.bl)))
      ⟨same_upd hD, upd_same⟩ (fun i H' _ pv => SqT.of (pv.1 _ _ ht)) (fun i x H1 hx pv => ?_) (fun H1 pv => ?_)⟩
    · obtain ⟨sm, hDi⟩ := pv
      rw [List.getElem?_map] at hx
      cases h1 : is[i]? with
      | none =>
        rw [h1] at hx
        cases hx
      | some k =>
        rw [h1] at hx
        cases hx
        have hi := (List.getElem?_eq_some_iff.mp h1).1
        have bk := hb k (List.mem_of_getElem? h1)
        have e : within (.int k) a b = true := by
          simp only [within, Bool.and_eq_true, decide_eq_true_eq]
          exact bk
        refine ⟨rfl, yesT ⟨_, rfl, _, rfl, _, rfl, .int k, _, a, b, rfl, .int k, ?_⟩⟩
        rw [e]
        refine ⟨_, hDi, by rw [List.length_map, List.length_replicate]; exact small1000 (by omega), fun c o e => ?_, ?_⟩
        · rw [upd_ne (ne_of_none e hD)]
          exact sm _ _ e
        · rw [upd_same, List.replicate_succ', List.map_append]
          rfl
    · obtain ⟨sm, hDi⟩ := pv
      have ea : (List.replicate (is.map V.int).length true).all id = true := by rw [List.all_replicate]; simp
      refine ⟨D, _, rfl, SqL.of hDi, _, rfl, ?_⟩
      rw [ea]
      exact iteF ⟨_, rfl, t, is, rfl, sm _ _ ht, hz, fun H2 s2 => q H2 (sm.trans s2)⟩
end
end Hm

set_option Elab.async false
set_option maxRecDepth 100000
set_option maxHeartbeats 8000000
namespace Hm
open PySem PySem.Spec PyProof.Rows L2 HmS RZ
abbrev stPrt : Stmt := topSt 41 -- row parted
def inI (is : List Int) (k : Int) : Bool := inV (.int k) (is.map V.int)
def partI (is : List Int) (cs : CtT) : CtT := (riseM cs).filter fun c => inI is c.1.1
def partO (is : List Int) (cs : CtT) : CtT := (riseM cs).filter fun c => !inI is c.1.1
theorem CtOk.filter {sets : List SetT} {cs : CtT} (ok : CtOk sets cs) (f : StT × Int → Bool) : CtOk sets (cs.filter f) :=
  ⟨List.Nodup.sublist (List.filter_sublist.map _) ok.nd, fun c hc => ok.pos c (List.mem_filter.mp hc).1, fun c hc => ok.st c (List.mem_filter.mp hc).1⟩
def spPrt (C : Addr) : Sp := fun vs H Q _ => ∃ (p b d t : Addr) (n : Str) (cs : CtT) (sets : List SetT) (is : List Int), vs = [.ref p, .ref t] ∧ AlbAt C H p b n d cs ∧ Book H b sets ∧ NameOk n ∧ CtOk sets cs ∧
  H t = some (.tup (is.map V.int)) ∧ is.length ≤ 1000 ∧ (∀ i ∈ is, 0 ≤ i ∧ i ≤ (sets.length : Int) - 1) ∧ riseI is = true ∧
  ∀ (H' : Hp) (tp p1 d1 p2 d2 : Addr), Same H H' → H p1 = none → H d1 = none → H p2 = none → H d2 = none → d1 ≠ d2 → AlbAt C H' p1 b n d1 (partI is cs) → AlbAt C H' p2 b n d2 (partO is cs) → H' tp = some (.tup [.ref p1, .ref p2]) → Q (.ref tp) H'
/-- rows of the counts that pass f, in a comprehension's list -/
def RowsIn (G : Hp) (D : Addr) (L : CtT) (H' : Hp) : Prop := Same G H' ∧ ∃ qs : List Addr, H' D = some (.lst (qs.map V.ref)) ∧ Paired (RowAt H') qs L ∧ qs.length = L.length
theorem RowsIn.add {G H' : Hp} {D : Addr} {L : CtT} (hD : G D = none) (r : RowsIn G D L H') {t a : Addr} {c : StT × Int} (ht : H' t = none) (ha : StAt H' a c.1) {qs : List Addr} (hq : H' D = some (.lst (qs.map V.ref))) :
    RowsIn G D (L ++ [c]) (upd (upd H' t (.tup [.ref a, .int c.2])) D (.lst (qs.map V.ref ++ [.ref t]))) := by
  obtain ⟨sm, qs', hD', pr, lq⟩ := r
  have eqs : qs'.map V.ref = qs.map V.ref := by
    rw [hD'] at hq
    exact HO.lst.inj (Option.some.inj hq)
  have tD : t ≠ D := fun z => by
    rw [z, hD'] at ht
    cases ht
  have nT : ∀ {b : Addr} {ys : List V}, H' b = some (.tup ys) → b ≠ D := fun e z => by
    rw [z, hD'] at e
    cases e
  have kp : ∀ {b : Addr} {ys : List V}, H' b = some (.tup ys) → (upd (upd H' t (.tup [.ref a, .int c.2])) D (.lst (qs.map V.ref ++ [.ref t]))) b = some (.tup ys) := fun e => by
    rw [upd_ne (nT e)]
    exact (same_upd ht) _ _ e
  refine ⟨fun x o e => ?_, qs' ++ [t], by rw [upd_same, List.map_append, eqs]; rfl, ?_, by simp [lq]⟩
  · rw [upd_ne (ne_of_none e hD)]
    exact (same_upd ht) _ _ (sm _ _ e)
  · refine Paired.snoc (⟨a, by rw [upd_ne tD]; exact upd_same, kp ha⟩ : RowAt _ t c) (Paired.mp (fun x y h => ?_) pr)
    obtain ⟨u, h1, h2⟩ := h
    exact ⟨u, kp h1, kp h2⟩
section
variable {P : Program} {w : World} {K : PySem.W.Frag} {mg : Str → Option Value} {base : Heap}
abbrev nPrt : List Str := ["album", "places", "inside", "outside", "stamp", "many"]
theorem sc_prt : FnScope nPrt ["album", "places"] (defScope stPrt) := ⟨rfl, rfl, rfl, by decide +kernel, rfl, by decide +kernel, by decide +kernel⟩
theorem ok_prt {f C fR fB fA fCl fF : Addr} {fd fdR fdB fdA fdCl fdF : FuncData} (F : Fun K "parted" "parted" stPrt f fd) (T : TxtAlb K mg C) (hl : mg "len" = none) (mB : Meth K C "book" fB) (mA : Meth K C "all_of" fA) (mCl : Meth K C "called" fCl)
    (gR : mg "is_rising_within" = some (.ref fR)) (kR : PySem.W.keepIn K (.ref fR) = true) (gF : mg "filled" = some (.ref fF)) (kF : PySem.W.keepIn K (.ref fF) = true)
    (GR : FnOk P w K mg base CX0 3 fR fdR ["thing", "least", "most"] spRiw) (bR : Binds K fdR ["thing", "least", "most"] [])
    (GB : FnOk P w K mg base CX0 1 fB fdB ["self"] (spBok C)) (bB : Binds K fdB ["self"] []) (GA : FnOk P w K mg base CX0 1 fA fdA ["self"] (spAof C)) (bA : Binds K fdA ["self"] [])
    (GCl : FnOk P w K mg base CX0 1 fCl fdCl ["self"] (spCld C)) (bCl : Binds K fdCl ["self"] []) (GF : FnOk P w K mg base CX0 9 fF fdF ["book", "name", "counts"] (spFid C)) (bF : Binds K fdF ["book", "name", "counts"] []) :
    FnOk P w K mg base CX0 10 f fd ["album", "places"] (spPrt C) := by
  refine F.ok sc_prt (fun vs H Q E h => ?_) (fun cdv A outer s H vs Q E hr h => ?_)
  · obtain ⟨p, b, d, t, n, cs, sets, is, rfl, _⟩ := h
    rfl
  · obtain ⟨p, b, d, t, n, cs, sets, is, rfl, al, bk, hn, ok, ht, hz, hi, hri, q⟩ := h
    have h1 : Room 1 _ := hr.mono (by decide)
    refine ⟨_, pss_cons (ps_if (pt_not (pt_val (pe_call GR (hr.mono (by decide)) (by rfl) gR kR bR .nil pass0 (pa_cons (pv 1) (pa_cons pe_int (pa_cons (pe_op op_sub (pe_callB call_len_seq (by rfl) hl PySem.boot_len (pa_cons (pe_meth0 (pv 0) T.cl mB GB h1 bB .nil pass0) pa_nil)) pe_int) pa_nil)))))) pss_never pss_nil)
      (pss_cons (ps_setLc (i := 2) (own := [("stamp", 4), ("many", 5)]) (g := gTup K 2 (gCons (gName 4) (gCons (gName 5) gNil))) (by rfl) sc_prt.nd rfl rfl (sw_true rfl rfl rfl (by decide +kernel)) (pi_list (pe_meth0 (pv 0) T.cl mA GA h1 bA .nil pass0))
          (blkOk_by (N := nPrt) (sc := defScope stPrt) (by decide +kernel)) (fun _ _ _ _ _ => by exact pg_tup rfl (pgs_cons (pg_name (i := 4) sc_prt.nd rfl (Or.inl rfl)) (pgs_cons (pg_name (i := 5) sc_prt.nd rfl (Or.inl rfl)) pgs_nil)))
          (fun _ _ _ _ _ => pts_one (pt_cmpR (r := rIn K false) op_in_seq (pe_ix (r := rIxT K) ix_tup (pv 4) pe_int (fun _ _ => rfl)) (pv 1) (by rfl))) (fun _ _ _ _ _ => pe_tup (pa_cons (pv 4) (pa_cons (pv 5) pa_nil))))
      (pss_cons (ps_setLc (i := 3) (own := [("stamp", 4), ("many", 5)]) (g := gTup K 2 (gCons (gName 4) (gCons (gName 5) gNil))) (by rfl) sc_prt.nd rfl rfl (sw_true rfl rfl rfl (by decide +kernel)) (pi_list (pe_meth0 (pv 0) T.cl mA GA h1 bA .nil pass0))
          (blkOk_by (N := nPrt) (sc := defScope stPrt) (by decide +kernel)) (fun _ _ _ _ _ => by exact pg_tup rfl (pgs_cons (pg_name (i := 4) sc_prt.nd rfl (Or.inl rfl)) (pgs_cons (pg_name (i := 5) sc_prt.nd rfl (Or.inl rfl)) pgs_nil)))
          (fun _ _ _ _ _ => pts_one (pt_cmpR (r := rIn K true) op_notIn_seq (pe_ix (r := rIxT K) ix_tup (pv 4) pe_int (fun _ _ => rfl)) (pv 1) (by rfl))) (fun _ _ _ _ _ => pe_tup (pa_cons (pv 4) (pa_cons (pv 5) pa_nil))))
      (pss_one (ps_ret (pe_tup (pa_cons (pe_call GF hr (by rfl) gF kF bF .nil pass0 (pa_cons (pe_meth0 (pv 0) T.cl mB GB h1 bB .nil pass0) (pa_cons (pe_meth0 (pv 0) T.cl mCl GCl h1 bCl .nil pass0) (pa_cons (pv 2) pa_nil))))
          (pa_cons (pe_call GF hr (by rfl) gF kF bF .nil pass0 (pa_cons (pe_meth0 (pv 0) T.cl mB GB h1 bB .nil pass0) (pa_cons (pe_meth0 (pv 0) T.cl mCl GCl h1 bCl .nil pass0) (pa_cons (pv 3) pa_nil)))) pa_nil))))))), ?_⟩
    obtain ⟨⟨dx, hp⟩, hd⟩ := id al
    obtain ⟨okB, bs, hb, pb⟩ := id bk
    have bl : bs.length = sets.length := Paired.length pb
    have ln := ok.len okB
    have hno : ∀ {m : Str}, ¬ m = "_many" → ¬ m = "_name" → ¬ m = "_book" → (albF b n d).lookup m = none := fun h1 h2 h3 => albF_no b n d h1 h2 h3
    refine ⟨_, rfl, _, rfl, p, dx, _, rfl, hp, hno (by decide +kernel) (by decide +kernel) (by decide +kernel), p, b, d, n, cs, rfl, al, b, _, rfl, .inr (SqT.of hb), _, _, rfl, rfl, t, is, 0, _, rfl, ht, hz, ?_, fun H1 s1 => ⟨_, rfl, ?_⟩⟩
    · rw [List.length_map, bl]
      exact hi
    rw [hri]
    refine iteF ?_
    -- one of the two comprehensions
    have comp : ∀ (G : Hp) (l D : Addr) (rs : List Addr) (f : StT × Int → Bool) (neg : Bool) (σ : L2.St) (Qd : Hp → Prop), Same H G → G l = some (.lst (rs.map V.ref)) → Paired (RowAt G) rs (riseM cs) → G D = none → (∀ c, f c = if neg = true then !inI is c.1.1 else inI is c.1.1) →
        (∃ a b' c' d' e', σ = [a, some (.ref t), b', c', d', e']) → (∀ H', RowsIn G D ((riseM cs).filter f) H' → Qd H') →
        ∃ W : Nat → Nat → Hp → Prop, (∃ m, W 0 m (upd G D (.lst []))) ∧ ∀ i m H, W i m H →
          ((Itl K l).stop i H ∧ Qd H) ∨ ((Itl K l).go i H ∧ ∃ Nx : Hp → Prop, (∀ H', Nx H' → ∃ m', m' < m ∧ W (i + 1) m' H') ∧ ∀ x H', (Itl K l).yld i H x H' → (gTup K 2 (gCons (gName 4) (gCons (gName 5) gNil))) x (wipe σ [4, 5]) H' fun σ2 H2 => wipe σ2 [4, 5] = wipe σ [4, 5] ∧
            tTest (tOp (rIn K neg) (tOp (rIxT K) (tVar 4) (tC (.int 0))) (tVar 1)) σ2 H2 fun b H3 =>
            if b = true then tTup (tCons (tVar 4) (tCons (tVar 5) tNil)) σ2 H3 fun y H4 => ∃ acc, H4 D = some (.lst acc) ∧ acc.length < sizeLine ∧ Nx (upd H4 D (.lst (acc ++ [y]))) else Nx H3) := by
      rintro G l D rs f neg σ Qd sG hlG pr hD hf ⟨a0, b0, c0, d0, e0, rfl⟩ hQ
      refine lc_list (K := K) (xs := rs.map V.ref) (fun i H' => RowsIn G D (((riseM cs).take i).filter f) H') ⟨same_upd hD, [], upd_same, .nil, rfl⟩ (fun i H' _ pv => SqL.of (pv.1 _ _ hlG)) (fun i x H' hx pv => ?_) (fun H' pv => ?_)
      · rw [List.getElem?_map] at hx
        obtain ⟨r, hr', rfl⟩ : ∃ a, rs[i]? = some a ∧ V.ref a = x := by
          cases h : rs[i]? with
          | none =>
            rw [h] at hx
            cases hx
          | some a =>
            rw [h] at hx
            exact ⟨a, rfl, Option.some.inj hx⟩
        obtain ⟨c, hc, u, e1, e2⟩ := Paired.gl (rows_same pv.1 pr) hr'
        have et : ((riseM cs).take (i + 1)).filter f = ((riseM cs).take i).filter f ++ (if f c = true then [c] else []) := by
          rw [List.take_add_one, hc, List.filter_append]
          congr 1
          by_cases z : f c = true
          · simp [z]
          · simp [z]
        obtain ⟨sm, qs, hDq, prq, lq⟩ := id pv
        have lq4 : qs.length ≤ 400 := by
          rw [lq]
          have h1 := List.length_filter_le f ((riseM cs).take i)
          have h2 := List.length_take_le' i (riseM cs)
          have h3 := (riseM_perm cs).length_eq
          omega
        refine ⟨r, _, rfl, SqT.of e1, rfl, _, _, rfl, _, _, rfl, rfl, rfl, ?_⟩
        refine ⟨_, rfl, u, _, 0, _, rfl, rfl, SqT.of e2, rfl, _, rfl, t, _, rfl, .inr (SqT.of (sm _ _ (sG _ _ ht))), rfl, flat_ints is, _, rfl, ?_⟩
        have ef : (if neg = true then !inV (.int c.1.1) (is.map V.int) else inV (.int c.1.1) (is.map V.int)) = f c := (hf c).symm
        rw [ef]
        refine ite2 (fun z => ?_) (fun z => ?_)
        · refine ⟨_, rfl, _, rfl, by show 2 ≤ sizeLine; decide, fun tt htt => ⟨_, (same_upd htt) _ _ hDq, by rw [List.length_map]; exact small1000 (by omega), ?_⟩⟩
          rw [et, if_pos z]
          exact pv.add hD htt e2 hDq
        · rw [et, if_neg z, List.append_nil]
          exact pv
      · rw [List.length_map, Paired.length pr, List.take_length] at pv
        exact hQ H' pv
    try unfold tNext
    dsimp only
    refine seqset ⟨_, rfl, p, dx, _, rfl, s1 _ _ hp, hno (by decide +kernel) (by decide +kernel) (by decide +kernel), p, b, d, n, cs, rfl, al.same s1, by omega, fun H2 l rs s2 nl hl2 pr2 => ⟨l, rfl, ⟨_, SqL.of hl2⟩, fun D1 hD1 => ?_⟩⟩
    have s02 := s1.trans s2
    refine comp H2 l D1 rs (fun c => inI is c.1.1) false _ _ s02 hl2 pr2 hD1 (fun c => rfl) ⟨_, _, _, _, _, rfl⟩ fun H3 ri => ?_
    have s03 := s02.trans ri.1
    try unfold tNext
    dsimp only
    refine seqset ⟨_, rfl, p, dx, _, rfl, s03 _ _ hp, hno (by decide +kernel) (by decide +kernel) (by decide +kernel), p, b, d, n, cs, rfl, al.same s03, by omega, fun H4 l2 rs2 s4 nl2 hl4 pr4 => ⟨l2, rfl, ⟨_, SqL.of hl4⟩, fun D2 hD2 => ?_⟩⟩
    have s04 := s03.trans s4
    refine comp H4 l2 D2 rs2 (fun c => !inI is c.1.1) true _ _ s04 hl4 pr4 hD2 (fun c => rfl) ⟨_, _, _, _, _, rfl⟩ fun H5 ro => ?_
    have s05 := s04.trans ro.1
    obtain ⟨_, qs1, hq1, pq1, _⟩ := ri
    obtain ⟨s45, qs2, hq2, pq2, _⟩ := ro
    have s35 := s4.trans s45
    refine ⟨_, rfl, p, dx, _, rfl, s05 _ _ hp, hno (by decide +kernel) (by decide +kernel) (by decide +kernel), p, b, d, n, cs, rfl, al.same s05, _, rfl, p, dx, _, rfl, s05 _ _ hp, hno (by decide +kernel) (by decide +kernel) (by decide +kernel), p, b, d, n, cs, rfl, al.same s05, _, rfl, ?_⟩
    refine ⟨b, D1, n, qs1, partI is cs, sets, rfl, bk.same s05, hn, s35 _ _ hq1, rows_same s35 pq1, ok.rise.filter _, fun H6 p1 d1 s6 np1 nd1 al1 => ?_⟩
    have s06 := s05.trans s6
    refine ⟨_, rfl, p, dx, _, rfl, s06 _ _ hp, hno (by decide +kernel) (by decide +kernel) (by decide +kernel), p, b, d, n, cs, rfl, al.same s06, _, rfl, p, dx, _, rfl, s06 _ _ hp, hno (by decide +kernel) (by decide +kernel) (by decide +kernel), p, b, d, n, cs, rfl, al.same s06, _, rfl, ?_⟩
    refine ⟨b, D2, n, qs2, partO is cs, sets, rfl, bk.same s06, hn, s6 _ _ hq2, rows_same s6 pq2, ok.rise.filter _, fun H7 p2 d2 s7 np2 nd2 al2 => ⟨by show 2 ≤ sizeLine; decide, fun tp htp => ?_⟩⟩
    have s8 : Same H7 (upd H7 tp (.tup [.ref p1, .ref p2])) := same_upd htp
    refine q _ tp p1 d1 p2 d2 ((s06.trans s7).trans s8) (none_of s05 np1) (none_of s05 nd1) (none_of s06 np2) (none_of s06 nd2) (fun z => ?_) (al1.same (s7.trans s8)) (al2.same s8) upd_same
    rw [← z, al1.dc] at nd2
    cases nd2
end
end Hm

set_option Elab.async false
set_option maxRecDepth 100000
set_option maxHeartbeats 8000000
namespace Hm
open PySem PySem.Spec PyProof.Rows L2 HmS RZ
abbrev stAls : Stmt := topSt 35 -- row all_stamps
def two (p : PlT) : List StT := [(p.1, p.2, 0), (p.1, p.2, 1)]
def allSt (sets : List SetT) : List StT := (placesM 0 sets).flatMap two
def spAls : Sp := fun vs H Q _ => ∃ (b : Addr) (sets : List SetT), vs = [.ref b] ∧ Book H b sets ∧ ∀ (H' : Hp) (l : Addr) (as : List Addr), Same H H' → H l = none → H' l = some (.lst (as.map V.ref)) → Paired (StAt H') as (allSt sets) → Q (.ref l) H'
/-- the stamps in a comprehension's list -/
def StIn (G : Hp) (D : Addr) (L : List StT) (H' : Hp) : Prop := Same G H' ∧ ∃ as : List Addr, H' D = some (.lst (as.map V.ref)) ∧ Paired (StAt H') as L ∧ as.length = L.length
theorem StIn.grow {G H' H2 : Hp} {D : Addr} {L : List StT} (r : StIn G D L H') (s : Same H' H2) : StIn G D L H2 := by
  obtain ⟨sm, as, e, pr, l⟩ := r
  exact ⟨sm.trans s, as, s _ _ e, st_same s pr, l⟩
theorem StIn.add {G H' : Hp} {D : Addr} {L : List StT} (hD : G D = none) (r : StIn G D L H') {t : Addr} {s : StT} (ht : H' t = none) {as : List Addr} (hq : H' D = some (.lst (as.map V.ref))) :
    StIn G D (L ++ [s]) (upd (upd H' t (.tup [.int s.1, .int s.2.1, .int s.2.2])) D (.lst (as.map V.ref ++ [.ref t]))) := by
  obtain ⟨sm, qs', hD', pr, lq⟩ := r
  have eqs : qs'.map V.ref = as.map V.ref := by
    rw [hD'] at hq
    exact HO.lst.inj (Option.some.inj hq)
  have tD : t ≠ D := fun z => by
    rw [z, hD'] at ht
    cases ht
  refine ⟨fun x o e => ?_, qs' ++ [t], by rw [upd_same, List.map_append, eqs]; rfl, ?_, by simp [lq]⟩
  · rw [upd_ne (ne_of_none e hD)]
    exact (same_upd ht) _ _ (sm _ _ e)
  · refine Paired.snoc (show StAt _ t s from by unfold StAt; rw [upd_ne tD]; exact upd_same) (Paired.mp (fun x y h => ?_) pr)
    have n : x ≠ D := fun z => by
      have h' : H' x = some (.tup _) := h
      rw [z, hD'] at h'
      cases h'
    unfold StAt
    rw [upd_ne n]
    exact (same_upd ht) _ _ h
theorem two_len : ∀ l : List PlT, (l.flatMap two).length = 2 * l.length
  | [] => rfl
  | a :: r => by
    rw [List.flatMap_cons, List.length_append, two_len r, List.length_cons]
    simp [two]
    omega
section
variable {P : Program} {w : World} {K : PySem.W.Frag} {mg : Str → Option Value} {base : Heap}
abbrev nAls : List Str := ["book", "at", "part", "number", "grade"]
theorem sc_als : FnScope nAls ["book"] (defScope stAls) := ⟨rfl, rfl, rfl, by decide +kernel, rfl, by decide +kernel, by decide +kernel⟩
theorem ok_als {f : Addr} {fd : FuncData} (F : Fun K "all_stamps" "all_stamps" stAls f fd) (T : TxtIt mg) (hH : ∃ t, mg "HINGED" = some (.int 0 t)) (hW : ∃ t, mg "WHOLE" = some (.int 1 t)) : FnOk P w K mg base CX0 1 f fd ["book"] spAls := by
  refine F.ok sc_als (fun vs H Q E h => ?_) (fun cdv A outer s H vs Q E hr h => ?_)
  · obtain ⟨b, sets, rfl, _⟩ := h
    rfl
  · obtain ⟨b, sets, rfl, bk, q⟩ := h
    obtain ⟨th, hH⟩ := hH
    obtain ⟨tw, hW⟩ := hW
    obtain ⟨ok, bs, hb, pb⟩ := id bk
    refine ⟨_, pss_one (ps_ret (C3.pe_lc3 (own := [("at", 1), ("part", 2), ("number", 3), ("grade", 4)]) (vs1 := [3, 4]) (vs2 := [4]) (g := gTup K 2 (gCons (gName 1) (gCons (gName 2) gNil))) (g1 := gName 3) (g2 := gName 4) (wi1 := iRng1 (tCons (tOp (rIxT K) (tVar 2) (tC (.int 2))) tNil)) (wi2 := iTup K (tTup (tCons (tC (.int 0)) (tCons (tC (.int 1)) tNil)))) (te := tTup (tCons (tVar 1) (tCons (tVar 3) (tCons (tVar 4) tNil)))) rfl sc_als.nd (pi_enumT (by rfl) T.enum (pa_cons (pv 0) pa_nil))
      (blkOk_by (N := nAls) (sc := defScope stAls) (by decide +kernel)) (by decide) (by decide) (fun _ _ _ _ _ => ⟨by exact pg_tup rfl (pgs_cons (pg_name (i := 1) sc_als.nd rfl (Or.inl rfl)) (pgs_cons (pg_name (i := 2) sc_als.nd rfl (Or.inl rfl)) pgs_nil)),
        ⟨by exact pi_range1 (by rfl) T.range (pa_cons (pe_ix (r := rIxT K) ix_tup (pv 2) pe_int (fun _ _ => rfl)) pa_nil), by exact pg_name (i := 3) sc_als.nd rfl (Or.inl rfl)⟩,
        ⟨by exact pi_tup (pe_tup (pa_cons (pe_glob (v := .int 0) (by rfl) hH ⟨_, rfl⟩) (pa_cons (pe_glob (v := .int 1) (by rfl) hW ⟨_, rfl⟩) pa_nil))), by exact pg_name (i := 4) sc_als.nd rfl (Or.inl rfl)⟩,
        by exact pe_tup (pa_cons (pv 1) (pa_cons (pv 3) (pa_cons (pv 4) pa_nil)))⟩))), ?_⟩
    have bl : bs.length = sets.length := Paired.length pb
    have pl := (placesM_len sets 0 ok.ok).1
    have l4 := ok.len1
    refine ⟨_, rfl, b, _, rfl, SqT.of hb, fun D hD => ?_⟩
    have small : ∀ (i : Nat) (k : Nat) (st : SetT) (q : Nat), sets[i]? = some st → k ≤ st.2.2.toNat → q ≤ 1 → ((placesM 0 (sets.take i)).flatMap two ++ ((rowP i st).take k).flatMap two).length + q ≤ 500 := by
      intro i k st q hst hk hq
      have so := ok.ok st (List.mem_of_getElem? hst)
      have m1 := so.m1
      have h1 := (placesM_len (sets.take i) 0 fun s hs => ok.ok s (List.mem_of_mem_take hs)).1
      have h2 := List.length_take_le' i sets
      have h3 := List.length_take_le' k (rowP i st)
      have h4 : (rowP i st).length = st.2.2.toNat := by unfold rowP; rw [List.length_map, List.length_range]
      rw [List.length_append, two_len, two_len]
      omega
    refine C3.cl_it (walk_enumT (K := K) (a := b) (xs := bs.map V.ref)) (fun i H' => StIn H D ((placesM 0 (sets.take i)).flatMap two) H') ⟨same_upd hD, [], upd_same, .nil, rfl⟩ (fun i H' _ pv => SqT.of (pv.1 _ _ hb)) (fun i x H1 H1' hi pv y => ?_) (fun H' pv => ?_)
    · obtain ⟨T1, x1, y1, rfl, hT1, rfl, ex, ey⟩ := y
      have ex : some (V.int (i : Nat)) = some x1 := ex
      cases ex
      have ey : (bs.map V.ref)[i]? = some y1 := ey
      rw [List.getElem?_map] at ey
      obtain ⟨a1, ha1, rfl⟩ : ∃ a, bs[i]? = some a ∧ V.ref a = y1 := by
        cases h : bs[i]? with
        | none =>
          rw [h] at ey
          cases ey
        | some a =>
          rw [h] at ey
          exact ⟨a, rfl, Option.some.inj ey⟩
      obtain ⟨st, hst, hat⟩ := Paired.gl pb ha1
      have so := ok.ok st (List.mem_of_getElem? hst)
      have m0 := so.m0
      have m1 := so.m1
      have pv1 := pv.grow (same_upd (o := .tup [V.int (i : Nat), V.ref a1]) hT1)
      refine ⟨T1, _, rfl, SqT.of upd_same, rfl, _, _, rfl, _, _, rfl, rfl, rfl, ?_⟩
      refine ⟨_, rfl, a1, _, 2, .int st.2.2, rfl, rfl, SqT.of (pv1.1 _ _ hat), rfl, st.2.2, rfl, by omega, by omega, ?_⟩
      have et : placesM 0 (sets.take (i + 1)) = placesM 0 (sets.take i) ++ rowP i st := by
        have hlen : (sets.take i).length = i := by
          rw [List.length_take]
          have := (List.getElem?_eq_some_iff.mp hst).1
          omega
        rw [List.take_add_one, hst]
        show placesM 0 (sets.take i ++ [st]) = _
        rw [placesM_snoc, hlen, Nat.zero_add]
      refine C3.cl_it (walk_range (lo := 0) (n := st.2.2.toNat)) (fun k H' => StIn H D ((placesM 0 (sets.take i)).flatMap two ++ ((rowP i st).take k).flatMap two) H') (by rw [List.take_zero, List.flatMap_nil, List.append_nil]; exact pv1) (fun _ _ _ _ => True.intro) (fun k x H2 H2' hk pv2 y2 => ?_) (fun H' pv2 => ?_)
      · obtain ⟨rfl, rfl⟩ := y2
        have e0 : (0 : Int) + (k : Int) = (k : Int) := Int.zero_add _
        dsimp only
        rw [e0]
        refine ⟨rfl, by show 2 ≤ sizeLine; decide, fun t2 ht2 => ⟨t2, rfl, ⟨_, SqT.of upd_same⟩, ?_⟩⟩
        have hrow : (rowP i st)[k]? = some ((i : Int), (k : Int)) := by
          unfold rowP
          rw [List.getElem?_map, List.getElem?_range hk]
          rfl
        have er : (rowP i st).take (k + 1) = (rowP i st).take k ++ [((i : Int), (k : Int))] := by rw [List.take_add_one, hrow]; rfl
        have s2 := same_upd (o := .tup [V.int 0, V.int 1]) ht2
        have pv3 := pv2.grow s2
        have t2D : t2 ≠ D := fun z => by
          obtain ⟨_, as, e, _⟩ := pv2
          rw [z, e] at ht2
          cases ht2
        have hsm := small i k st 1 hst (Nat.le_of_lt hk) (Nat.le_refl _)
        refine C3.cl_it (walk_tup (K := K) (a := t2) (xs := [.int 0, .int 1])) (fun q H' => Keep D (upd H2' t2 (.tup [V.int 0, V.int 1])) H' ∧ StIn H D ((placesM 0 (sets.take i)).flatMap two ++ ((rowP i st).take k).flatMap two ++ (two ((i : Int), (k : Int))).take q) H')
          ⟨Keep.refl, by rw [List.take_zero, List.append_nil]; exact pv3⟩ (fun q H' _ pv => SqT.of (pv.1 _ _ t2D upd_same)) (fun q x H3 H3' hq pv4 y3 => ?_) (fun H' pv4 => ?_)
        · obtain ⟨rfl, hx⟩ := y3
          obtain ⟨sT, sti⟩ := pv4
          obtain ⟨_, as, hDa, _, la⟩ := id sti
          have lq : as.length < 1000 := by
            have h5 := List.length_take_le' q (two ((i : Int), (k : Int)))
            have h6 : (two ((i : Int), (k : Int))).length = 2 := rfl
            have h7 : q < 2 := hq
            have h8 := List.length_take_le q (two ((i : Int), (k : Int)))
            rw [la, List.length_append]
            omega
          have g2 : ∃ g : Int, x = V.int g ∧ (two ((i : Int), (k : Int)))[q]? = some ((i : Int), (k : Int), g) := by
            have h7 : q < 2 := hq
            have : q = 0 ∨ q = 1 := by omega
            rcases this with rfl | rfl
            · cases hx
              exact ⟨0, rfl, rfl⟩
            · cases hx
              exact ⟨1, rfl, rfl⟩
          obtain ⟨g, rfl, hg⟩ := g2
          have eq : (two ((i : Int), (k : Int))).take (q + 1) = (two ((i : Int), (k : Int))).take q ++ [((i : Int), (k : Int), g)] := by rw [List.take_add_one, hg]; rfl
          refine ⟨rfl, _, rfl, _, rfl, _, rfl, by show 3 ≤ sizeLine; decide, fun t ht => ⟨_, (same_upd ht) _ _ hDa, by rw [List.length_map]; exact small1000 (by omega), ?_, ?_⟩⟩
          · intro c o hc e
            rw [upd_ne hc]
            exact (same_upd ht) _ _ (sT _ _ hc e)
          · rw [eq, ← List.append_assoc]
            exact sti.add hD ht hDa
        · have e2 : (two ((i : Int), (k : Int))).take 2 = two ((i : Int), (k : Int)) := rfl
          have e3 := pv4.2
          rw [show ([V.int 0, V.int 1] : List V).length = 2 from rfl, e2] at e3
          rw [er, List.flatMap_append, ← List.append_assoc]
          show StIn H D (_ ++ [((i : Int), (k : Int))].flatMap two) H'
          rw [List.flatMap_cons, List.flatMap_nil, List.append_nil]
          exact e3
      · rw [show (rowP i st).take st.2.2.toNat = rowP i st from List.take_of_length_le (by unfold rowP; rw [List.length_map, List.length_range]; exact Nat.le_refl _), ← List.flatMap_append, ← et] at pv2
        exact pv2
    · obtain ⟨sm, as, hDl, pr, _⟩ := pv
      rw [List.length_map, bl, List.take_length] at pr
      exact q H' D as sm hD hDl pr
end
end Hm

set_option Elab.async false
set_option maxRecDepth 100000
set_option maxHeartbeats 8000000
namespace Hm
open PySem PySem.Spec PyProof.Rows L2 HmS RZ
abbrev stPtg : Stmt := topSt 42 -- row parting
abbrev stApt : Stmt := topSt 999 -- row _law_apart
abbrev ApT := StT × Int × Int
def ApAt (H : Hp) (a : Addr) (r : ApT) : Prop := ∃ t, H a = some (.tup [.ref t, .int r.2.1, .int r.2.2]) ∧ StAt H t r.1
theorem ap_same {H H' : Hp} (s : Same H H') {as : List Addr} {rs : List ApT} (p : Paired (ApAt H) as rs) : Paired (ApAt H') as rs := Paired.mp (fun _ _ h => by
  obtain ⟨t, e, f⟩ := h
  exact ⟨t, s _ _ e, s _ _ f⟩) p
def apart1 (cs ds : CtT) (s : StT) : ApT := (s, cntM cs s, cntM ds s)
def apNe (r : ApT) : Bool := !decide (V.int r.2.1 = V.int r.2.2)
def apartM (sets : List SetT) (cs ds : CtT) : List ApT := ((allSt sets).map (apart1 cs ds)).filter apNe
/-- the rows in a comprehension's list -/
def ApIn (G : Hp) (D : Addr) (L : List ApT) (H' : Hp) : Prop := Same G H' ∧ ∃ as : List Addr, H' D = some (.lst (as.map V.ref)) ∧ Paired (ApAt H') as L ∧ as.length = L.length
theorem ApIn.grow {G H' H2 : Hp} {D : Addr} {L : List ApT} (r : ApIn G D L H') (s : Same H' H2) : ApIn G D L H2 := by
  obtain ⟨sm, as, e, pr, l⟩ := r
  exact ⟨sm.trans s, as, s _ _ e, ap_same s pr, l⟩
theorem ApIn.add {G H' : Hp} {D : Addr} {L : List ApT} (hD : G D = none) (r : ApIn G D L H') {t a : Addr} {x : ApT} (ht : H' t = none) (ha : StAt H' a x.1) {as : List Addr} (hq : H' D = some (.lst (as.map V.ref))) :
    ApIn G D (L ++ [x]) (upd (upd H' t (.tup [.ref a, .int x.2.1, .int x.2.2])) D (.lst (as.map V.ref ++ [.ref t]))) := by
  obtain ⟨sm, qs', hD', pr, lq⟩ := r
  have eqs : qs'.map V.ref = as.map V.ref := by
    rw [hD'] at hq
    exact HO.lst.inj (Option.some.inj hq)
  have tD : t ≠ D := fun z => by
    rw [z, hD'] at ht
    cases ht
  have kp : ∀ {b : Addr} {ys : List V}, H' b = some (.tup ys) → (upd (upd H' t (.tup [.ref a, .int x.2.1, .int x.2.2])) D (.lst (as.map V.ref ++ [.ref t]))) b = some (.tup ys) := fun e => by
    rw [upd_ne (fun z => by
      rw [z, hD'] at e
      cases e)]
    exact (same_upd ht) _ _ e
  refine ⟨fun x o e => ?_, qs' ++ [t], by rw [upd_same, List.map_append, eqs]; rfl, ?_, by simp [lq]⟩
  · rw [upd_ne (ne_of_none e hD)]
    exact (same_upd ht) _ _ (sm _ _ e)
  · refine Paired.snoc (⟨a, by rw [upd_ne tD]; exact upd_same, kp ha⟩ : ApAt _ t x) (Paired.mp (fun x y h => ?_) pr)
    obtain ⟨u, h1, h2⟩ := h
    exact ⟨u, kp h1, kp h2⟩
theorem allSt_ok {sets : List SetT} : ∀ s ∈ allSt sets, StOk sets s := by
  intro s hs
  obtain ⟨p, hp, h⟩ := List.mem_flatMap.mp hs
  simp only [two, List.mem_cons, List.not_mem_nil, or_false] at h
  rcases h with rfl | rfl
  · exact ⟨hp, Int.le_refl _, by show (0 : Int) ≤ 1; decide⟩
  · exact ⟨hp, by show (0 : Int) ≤ 1; decide, Int.le_refl _⟩
theorem allSt_len {sets : List SetT} (ok : BookOk sets) : (allSt sets).length ≤ 48 := by
  unfold allSt
  rw [two_len]
  have := (placesM_len sets 0 ok.ok).1
  have := ok.len1
  omega
def spPtg (C : Addr) : Sp := fun vs H Q _ => ∃ (p b d p2 b2 d2 : Addr) (n n2 : Str) (cs cs2 : CtT) (sets : List SetT), vs = [.ref p, .ref p2] ∧ AlbAt C H p b n d cs ∧ AlbAt C H p2 b2 n2 d2 cs2 ∧ Book H b sets ∧ Book H b2 sets ∧
  ∀ (H' : Hp) (l : Addr) (as : List Addr), Same H H' → H l = none → H' l = some (.lst (as.map V.ref)) → Paired (ApAt H') as (apartM sets cs cs2) → Q (.ref l) H'
def spApt : Sp := fun vs H Q _ => ∃ (b d d2 : Addr) (cs cs2 : CtT) (sets : List SetT), vs = [.ref b, .ref d, .ref d2] ∧ Book H b sets ∧ H d = some (.dT (cs.map entC)) ∧ H d2 = some (.dT (cs2.map entC)) ∧
  ∀ (H' : Hp) (l : Addr) (as : List Addr), Same H H' → H l = none → H' l = some (.lst (as.map V.ref)) → Paired (ApAt H') as (apartM sets cs cs2) → Q (.ref l) H'
section
variable {P : Program} {w : World} {K : PySem.W.Frag} {mg : Str → Option Value} {base : Heap}
abbrev nPtg : List Str := ["one", "other", "counts", "stamp", "mine", "yours"]
theorem sc_ptg : FnScope nPtg ["one", "other"] (defScope stPtg) := ⟨rfl, rfl, rfl, by decide +kernel, rfl, by decide +kernel, by decide +kernel⟩
theorem ok_ptg {f C fS fB fO : Addr} {fd fdS fdB fdO : FuncData} (F : Fun K "parting" "parting" stPtg f fd) (T : TxtAlb K mg C) (mB : Meth K C "book" fB) (mO : Meth K C "count_of" fO) (gS : mg "all_stamps" = some (.ref fS)) (kS : PySem.W.keepIn K (.ref fS) = true)
    (GS : FnOk P w K mg base CX0 1 fS fdS ["book"] spAls) (bS : Binds K fdS ["book"] []) (GB : FnOk P w K mg base CX0 1 fB fdB ["self"] (spBok C)) (bB : Binds K fdB ["self"] [])
    (GO : FnOk P w K mg base CX0 7 fO fdO ["self", "stamp"] (spCof C)) (bO : Binds K fdO ["self", "stamp"] []) : FnOk P w K mg base CX0 8 f fd ["one", "other"] (spPtg C) := by
  refine F.ok sc_ptg (fun vs H Q E h => ?_) (fun cdv A outer s H vs Q E hr h => ?_)
  · obtain ⟨p, b, d, p2, b2, d2, n, n2, cs, cs2, sets, rfl, _⟩ := h
    rfl
  · obtain ⟨p, b, d, p2, b2, d2, n, n2, cs, cs2, sets, rfl, al, al2, bk, bk2, q⟩ := h
    have h1 : Room 1 _ := hr.mono (by decide)
    refine ⟨_, pss_cons (ps_setLc (i := 2) (own := [("stamp", 3)]) (g := gName 3) (tt := tYes) (by rfl) sc_ptg.nd rfl rfl (sw_true rfl rfl rfl (by decide +kernel)) (pi_list (pe_call GS h1 (by rfl) gS kS bS .nil pass0 (pa_cons (pe_meth0 (pv 0) T.cl mB GB h1 bB .nil pass0) pa_nil)))
          (blkOk_by (N := nPtg) (sc := defScope stPtg) (by decide +kernel)) (fun _ _ _ _ _ => pg_name (i := 3) sc_ptg.nd rfl (Or.inl rfl)) (fun _ _ _ _ _ => pts_nil)
          (fun _ _ _ _ _ => pe_tup (pa_cons (pv 3) (pa_cons (pe_meth (pv 0) T.cl mO GO hr bO .nil pass0 (pa_cons (pv 3) pa_nil)) (pa_cons (pe_meth (pv 1) T.cl mO GO hr bO .nil pass0 (pa_cons (pv 3) pa_nil)) pa_nil)))))
      (pss_one (ps_ret (pe_lc (own := [("stamp", 3), ("mine", 4), ("yours", 5)]) (g := gTup K 3 (gCons (gName 3) (gCons (gName 4) (gCons (gName 5) gNil)))) rfl sc_ptg.nd (pi_list (pv 2))
          (blkOk_by (N := nPtg) (sc := defScope stPtg) (by decide +kernel)) (fun _ _ _ _ _ => by exact pg_tup rfl (pgs_cons (pg_name (i := 3) sc_ptg.nd rfl (Or.inl rfl)) (pgs_cons (pg_name (i := 4) sc_ptg.nd rfl (Or.inl rfl)) (pgs_cons (pg_name (i := 5) sc_ptg.nd rfl (Or.inl rfl)) pgs_nil))))
          (fun _ _ _ _ _ => pts_one (pt_cmpR op_ne (pv 4) (pv 5) (nomark _))) (fun _ _ _ _ _ => pe_tup (pa_cons (pv 3) (pa_cons (pv 4) (pa_cons (pv 5) pa_nil))))))), ?_⟩
    obtain ⟨⟨dx, hp⟩, hd⟩ := id al
    obtain ⟨⟨dx2, hp2⟩, hd2⟩ := id al2
    have l48 := allSt_len bk.1
    refine seqset ⟨_, rfl, p, dx, _, rfl, hp, albF_no b n d (by decide +kernel) (by decide +kernel) (by decide +kernel), p, b, d, n, cs, rfl, al, b, sets, rfl, bk, fun H1 l as s1 nl hl pr => ⟨l, rfl, ⟨_, SqL.of hl⟩, fun D hD => ?_⟩⟩
    refine lc_list (K := K) (xs := as.map V.ref) (fun i H' => ApIn H1 D (((allSt sets).take i).map (apart1 cs cs2)) H') ⟨same_upd hD, [], upd_same, .nil, rfl⟩ (fun i H' _ pv => SqL.of (pv.1 _ _ hl)) (fun i x H' hx pv => ?_) (fun H2 pv => ?_)
    · rw [List.getElem?_map] at hx
      obtain ⟨a, ha, rfl⟩ : ∃ a, as[i]? = some a ∧ V.ref a = x := by
        cases h : as[i]? with
        | none =>
          rw [h] at hx
          cases hx
        | some a =>
          rw [h] at hx
          exact ⟨a, rfl, Option.some.inj hx⟩
      obtain ⟨st, hst, hat⟩ := Paired.gl pr ha
      have so := allSt_ok st (List.mem_of_getElem? hst)
      have sH := s1.trans pv.1
      refine ⟨rfl, yesT ⟨_, rfl, _, rfl, p, dx, _, rfl, sH _ _ hp, albF_no b n d (by decide +kernel) (by decide +kernel) (by decide +kernel), _, rfl, p, a, b, d, n, cs, sets, st, rfl, al.same sH, bk.same sH, pv.1 _ _ hat, so, fun G2 g2 => ?_⟩⟩
      have sH2 := sH.trans g2
      refine ⟨_, rfl, p2, dx2, _, rfl, sH2 _ _ hp2, albF_no b2 n2 d2 (by decide +kernel) (by decide +kernel) (by decide +kernel), _, rfl, p2, a, b2, d2, n2, cs2, sets, st, rfl, al2.same sH2, bk2.same sH2, g2 _ _ (pv.1 _ _ hat), so, fun G3 g3 => ?_⟩
      have pv3 := (pv.grow g2).grow g3
      obtain ⟨_, qs, hDq, _, lq⟩ := id pv3
      have lq4 : qs.length ≤ 48 := by
        rw [lq, List.length_map]
        have := List.length_take_le' i (allSt sets)
        omega
      have et : ((allSt sets).take (i + 1)).map (apart1 cs cs2) = ((allSt sets).take i).map (apart1 cs cs2) ++ [apart1 cs cs2 st] := by
        rw [List.take_add_one, hst, List.map_append]
        rfl
      refine ⟨by show 3 ≤ sizeLine; decide, fun tt htt => ⟨_, (same_upd htt) _ _ hDq, by rw [List.length_map]; exact small1000 (by omega), ?_⟩⟩
      rw [et]
      exact pv3.add hD (x := apart1 cs cs2 st) htt (g3 _ _ (g2 _ _ (pv.1 _ _ hat))) hDq
    · rw [List.length_map, Paired.length pr, List.take_length] at pv
      obtain ⟨s2, qs, hDq, prq, lq⟩ := pv
      have lq4 : qs.length ≤ 48 := by
        rw [lq, List.length_map]
        exact l48
      have s02 := s1.trans s2
      refine retset ⟨_, rfl, D, rfl, ⟨_, SqL.of hDq⟩, fun D2 hD2 => ?_⟩
      refine lc_list (K := K) (xs := qs.map V.ref) (fun i H' => ApIn H2 D2 ((((allSt sets).map (apart1 cs cs2)).take i).filter apNe) H') ⟨same_upd hD2, [], upd_same, .nil, rfl⟩ (fun i H' _ pv => SqL.of (pv.1 _ _ hDq)) (fun i x H' hx pv => ?_) (fun H3 pv => ?_)
      · rw [List.getElem?_map] at hx
        obtain ⟨r, hr', rfl⟩ : ∃ a, qs[i]? = some a ∧ V.ref a = x := by
          cases h : qs[i]? with
          | none =>
            rw [h] at hx
            cases hx
          | some a =>
            rw [h] at hx
            exact ⟨a, rfl, Option.some.inj hx⟩
        obtain ⟨c, hc, u, e1, e2⟩ := Paired.gl (ap_same pv.1 prq) hr'
        have et : (((allSt sets).map (apart1 cs cs2)).take (i + 1)).filter apNe = (((allSt sets).map (apart1 cs cs2)).take i).filter apNe ++ (if apNe c = true then [c] else []) := by
          rw [List.take_add_one, hc, List.filter_append]
          congr 1
          by_cases z : apNe c = true
          · simp [z]
          · simp [z]
        obtain ⟨_, qs2, hDq2, _, lq2⟩ := id pv
        have lq5 : qs2.length ≤ 48 := by
          rw [lq2]
          have h1 := List.length_filter_le apNe (((allSt sets).map (apart1 cs cs2)).take i)
          have h2 := List.length_take_le' i ((allSt sets).map (apart1 cs cs2))
          rw [List.length_map] at h2
          omega
        refine ⟨r, _, rfl, SqT.of e1, rfl, _, _, rfl, _, _, rfl, _, _, rfl, rfl, rfl, ?_⟩
        refine ⟨_, rfl, _, rfl, rfl, _, rfl, ?_⟩
        refine ite2 (fun z => ?_) (fun z => ?_)
        · refine ⟨_, rfl, _, rfl, _, rfl, by show 3 ≤ sizeLine; decide, fun tt htt => ⟨_, (same_upd htt) _ _ hDq2, by rw [List.length_map]; exact small1000 (by omega), ?_⟩⟩
          rw [et, if_pos (show apNe c = true from z)]
          exact pv.add hD2 htt e2 hDq2
        · rw [et, if_neg (show ¬ apNe c = true from z), List.append_nil]
          exact pv
      · rw [List.length_map, Paired.length prq, List.take_length] at pv
        obtain ⟨s3, as3, h3, pr3, _⟩ := pv
        exact q H3 D2 as3 (s02.trans s3) (none_of s02 hD2) h3 pr3
end
end Hm

set_option Elab.async false
set_option linter.all false
set_option maxRecDepth 100000
set_option maxHeartbeats 4000000
namespace HmQ
open PySem PySem.Spec PyProof.Rows L2 PySem.W
section
variable {prog : Program} {w : World} {K : Type} [DecidableEq K] {knd : HeapKind prog w K} {A : Around} {E : Value → Shared → Prop} {s : Shared}
/-- how == of two dicts goes through the left one -/
inductive Hits {K : Type} [DecidableEq K] (prog : Program) (w : World) (A : Around) (s : Shared) (xb : List (K × Addr × Value)) : List (K × Addr × Value) → Bool → Prop
  | nil : Hits prog w A s xb [] true
  | miss {k : K} {b : Addr} {v : Value} {r : List (K × Addr × Value)} : atKey xb k = none → Hits prog w A s xb ((k, b, v) :: r) false
  | hit {k : K} {b : Addr} {v : Value} {p : Addr × Value} {r : List (K × Addr × Value)} {e t : Bool} : atKey xb k = some p → SeqAt.EqP prog w A s v p.2 e → Hits prog w A s xb r t → Hits prog w A s xb ((k, b, v) :: r) (e && t)
theorem Hits.inv {xb : List (K × Addr × Value)} {k : K} {b : Addr} {v : Value} {r : List (K × Addr × Value)} {t : Bool} (h : Hits prog w A s xb ((k, b, v) :: r) t) :
    (atKey xb k = none ∧ t = false) ∨ ∃ p e t', atKey xb k = some p ∧ SeqAt.EqP prog w A s v p.2 e ∧ Hits prog w A s xb r t' ∧ t = (e && t') := by
  cases h with
  | miss h => exact .inl ⟨h, rfl⟩
  | hit h1 h2 h3 => exact .inr ⟨_, _, _, h1, h2, h3, rfl⟩
theorem pairs_same {nm : String} {a b : Addr} {xa xb : List (K × Addr × Value)} {r : Bool} {Q : Bool → Shared → Prop} (ha : (a == sysModules) = false) (hb : (b == sysModules) = false) (hu : knd.room A)
    (da : s.heap.DictOfH knd a xa) (db : s.heap.DictOfH knd b xb) (hits : xa.length = xb.length → Hits prog w A s xb xa r) (h : Q (xa.length == xb.length && r) s) :
    wpAny (model prog w) A (Builtin.Dict.samePairs nm a b) Q E s := by
  obtain ⟨oa, es, ep, hoa, _, hda, hea, hia, hna⟩ := da
  obtain ⟨ob, fs, ep', hob, _, hdb, heb, hib, hnb⟩ := db
  have la : es.size = xa.length := size_of_entries hea
  have lb : fs.size = xb.length := size_of_entries heb
  unfold Builtin.Dict.samePairs Builtin.Dict.showsAll
  rw [if_neg (by rw [ha]; exact Bool.false_ne_true), if_neg (by rw [hb]; exact Bool.false_ne_true)]
  refine wpAny_bind (wpAny_pure (wpAny_bind (wpAny_pure (wpAny_bind (wpAny_dictEntries hoa hda ?_)))))
  dsimp only
  refine wpAny_bind (wpAny_dictEntries hob hdb ?_)
  by_cases hz : xa.length = xb.length
  · have q : Q r s := by simpa [hz] using h
    rw [if_neg (by rw [la, lb, hz]; simp)]
    refine wpAny_bind (wpAny_dictEpoch hoa hda (wpAny_bind ?_))
    rw [Std.Legacy.Range.forIn_eq_forIn_range']
    simp only [Std.Legacy.Range.size, Nat.sub_zero, Nat.add_sub_cancel, Nat.div_one]
    refine wpAny_forIn_list _ (fun left z s' => s' = s ∧ z = (none, ()) ∧ ∃ i, left = List.range' i (es.size - i) ∧ i ≤ es.size ∧ Hits prog w A s xb (xa.drop i) r) _ ?_ ?_ _ _
      ⟨rfl, rfl, 0, by simp, Nat.zero_le _, hits hz⟩
    · rintro x left z s' ⟨rfl, rfl, i, hl, hi, pre⟩
      have hx : i < es.size := by
        rcases Nat.lt_or_ge i es.size with g | g
        · exact g
        · rw [Nat.sub_eq_zero_of_le g] at hl
          cases hl
      have e1 : es.size - i = (es.size - (i + 1)) + 1 := by omega
      rw [e1, List.range'_succ] at hl
      obtain ⟨rfl, hl⟩ := List.cons.inj hl
      have hxa : x < xa.length := by omega
      obtain ⟨k, c, v, hk⟩ : ∃ k c v, xa[x] = (k, c, v) := ⟨_, _, _, rfl⟩
      have hk' : xa[x]? = some (k, c, v) := by rw [List.getElem?_eq_getElem hxa, hk]
      rw [List.drop_eq_getElem_cons hxa, hk] at pre
      have keyed : knd.is s'.heap k c := hia _ (List.mem_of_getElem? hk')
      refine wpAny_bind (wpAny_dictEntries hoa hda ?_)
      rw [entry_at hea x, hk']
      show wpAny _ _ (holding [Value.ref c, v] _ >>= _) _ _ _
      refine wpAny_bind (wpAny_holding (wpAny_bind (wpAny_dictFind_heap hu keyed hob hdb heb hib hnb (fun no => ?_) fun j p hj => ?_)))
      · have nk : atKey xb k = none := atKey_none_of_get no
        rcases pre.inv with ⟨_, er⟩ | ⟨p, _, _, hp, _⟩
        · rw [er] at q
          refine wpAny_pure ?_
          show wpAny _ _ (if (!false) = true then _ else _) _ _ _
          rw [if_pos (by decide)]
          exact wpAny_pure (wpAny_pure q)
        · rw [nk] at hp
          cases hp
      · have sk : atKey xb k = some p := atKey_of_get hnb hj
        refine wpAny_bind (wpAny_dictEntries hob hdb ?_)
        rw [entry_at heb j, hj]
        rcases pre.inv with ⟨hp, _⟩ | ⟨p', e, t', hp, he, hr, er⟩
        · rw [sk] at hp
          cases hp
        · obtain rfl : p = p' := Option.some.inj (sk.symm.trans hp)
          refine wpAny_holding (he _ _ ?_)
          cases e with
          | false =>
            rw [er, Bool.false_and] at q
            show wpAny _ _ (if (!false) = true then _ else _) _ _ _
            rw [if_pos (by decide)]
            exact wpAny_pure (wpAny_pure q)
          | true =>
            rw [Bool.true_and] at er
            subst er
            show wpAny _ _ (if (!true) = true then _ else _) _ _ _
            rw [if_neg (by decide)]
            refine wpAny_bind (wpAny_dictEpoch hoa hda ?_)
            rw [if_neg (by simp)]
            exact wpAny_pure ⟨rfl, rfl, x + 1, hl, hx, hr⟩
    · rintro z s' ⟨rfl, rfl, i, hl, hi, pre⟩
      have e : i = es.size := by
        rcases Nat.lt_or_ge i es.size with g | g
        · have e1 : es.size - i = (es.size - (i + 1)) + 1 := by omega
          rw [e1, List.range'_succ] at hl
          cases hl
        · exact Nat.le_antisymm hi g
      rw [e, la, List.drop_length] at pre
      cases pre
      exact wpAny_pure q
  · rw [if_pos (by rw [la, lb]; simpa using hz)]
    have f : (xa.length == xb.length) = false := by simpa using hz
    rw [f, Bool.false_and] at h
    exact wpAny_bind (wpAny_rule (wpAny_pure h))
theorem dicts_same {a b : Addr} {xa xb : List (K × Addr × Value)} {r : Bool} (ha : (a == sysModules) = false) (hb : (b == sysModules) = false) (hu : A.units < cLine) (hr : knd.room A.in1)
    (da : s.heap.DictOfH knd a xa) (db : s.heap.DictOfH knd b xb) (hits : xa.length = xb.length → Hits prog w A.in1 s xb xa r) {Q : Value → Shared → Prop} (h : Q (.bool (xa.length == xb.length && r)) s) :
    wpAny (model prog w) A (richCompare .Eq (.ref a) (.ref b)) Q E s := by
  refine wpAny_richCompare_same_room (op := .Eq) da.typeIs db.typeIs PySem.F.slot_dict_eq (wpAny_call_entry PySem.F.slot_dict_eq da.typeIs PySem.F.entry_dict_eq ?_ (PySem.F.args_dict_eq_2 _ _)) hu
  show wpAny _ _ (Builtin.Dict.dictSlotArgs "__eq__" ⟨[.ref a, .ref b], []⟩ >>= _) _ _ s
  unfold Builtin.Dict.dictSlotArgs
  refine wpAny_bind (wpAny_bind (wpAny_notOrdered_dict da.typeIs ?_))
  show wpAny _ _ (pure (Value.ref a, Value.ref b)) _ _ s
  refine wpAny_pure (wpAny_bind (wpAny_isInstance (T := "dict") db.typeIs PySem.F.sub_dict_dict ?_))
  simp only [Bool.not_true, Bool.false_eq_true, if_false]
  refine wpAny_bind (wpAny_pure (wpAny_bind (wpAny_pure (wpAny_bind (pairs_same ha hb hr da db hits (wpAny_pure ⟨_, rfl, fun z => (nomatch z), ?_⟩))))))
  simpa using h
end
section
variable {X : Cx}
abbrev entI (e : List L2.Key × Int) : List L2.Key × V := (e.1, V.int e.2)
/-- == of two dicts of whole numbers by tuples -/
def sameD (ka kb : List (List L2.Key × Int)) : Bool := ka.length == kb.length && ka.all fun e => match (kb.find? fun z => decide (z.1 = e.1)) with
  | some z => e.2 == z.2
  | none => false
def rEqD : R2 := fun x y H Q => ∃ (a b : Addr) (ka kb : List (List L2.Key × Int)), x = .ref a ∧ y = .ref b ∧ H a = some (.dT (ka.map entI)) ∧ H b = some (.dT (kb.map entI)) ∧ Q (.bl (sameD ka kb)) H
theorem find_kt {H : Hp} {k : List L2.Key} : ∀ {kb : List (List L2.Key × Int)} {xb : List (List L2.Key × Addr × Value)}, KT H (kb.map entI) xb →
    (∃ z p t, (kb.find? fun z => decide (z.1 = k)) = some z ∧ atKey xb k = some (p, .int z.2 t)) ∨ ((kb.find? fun z => decide (z.1 = k)) = none ∧ atKey xb k = none)
  | [], _, h => by
    cases h
    exact .inr ⟨rfl, rfl⟩
  | z :: kb, _, h => by
    cases h with
    | @cons _ q _ qs hq t =>
      obtain ⟨e1, _, e3⟩ := hq
      obtain ⟨tk, e3⟩ := (show ∃ t, q.2.2 = Value.int z.2 t from e3)
      have e1 : z.1 = q.1 := e1
      by_cases c : z.1 = k
      · refine .inl ⟨z, q.2.1, tk, by rw [List.find?_cons_of_pos (by simpa using c)], ?_⟩
        unfold atKey
        rw [List.find?_cons_of_pos (by rw [← e1]; simpa using c), ← e3]
        rfl
      · have e2 : atKey (q :: qs) k = atKey qs k := by
          unfold atKey
          rw [List.find?_cons_of_neg (by rw [← e1]; simpa using c)]
        rw [List.find?_cons_of_neg (by simpa using c), e2]
        exact find_kt t
theorem hits_kt {P : Program} {w : World} {A : Around} {s : Shared} {H : Hp} {kb : List (List L2.Key × Int)} {xb : List (List L2.Key × Addr × Value)} (hb : KT H (kb.map entI) xb) : ∀ {ka : List (List L2.Key × Int)} {xa : List (List L2.Key × Addr × Value)}, KT H (ka.map entI) xa →
    Hits P w A s xb xa (ka.all fun e => match (kb.find? fun z => decide (z.1 = e.1)) with
      | some z => e.2 == z.2
      | none => false)
  | [], _, h => by
    cases h
    exact .nil
  | e :: ka, _, h => by
    cases h with
    | @cons _ q _ qs hq t =>
      obtain ⟨k, c, v⟩ := q
      obtain ⟨e1, _, e3⟩ := hq
      obtain ⟨tk, e3⟩ := (show ∃ t, v = Value.int e.2 t from e3)
      have e1 : e.1 = k := e1
      subst e3
      have rest := hits_kt (P := P) (w := w) (A := A) (s := s) hb t
      rw [List.all_cons]
      rcases find_kt (k := e.1) hb with ⟨z, p, tz, hz, hp⟩ | ⟨hz, hp⟩
      · rw [hz]
        rw [e1] at hp
        exact .hit hp (fun E Q q => (SeqAt.EqAt.int_int e.2 tk z.2 tz).eqP E Q q) rest
      · rw [hz]
        rw [e1] at hp
        exact .miss hp
theorem op_eqDi (hu : X.A.units + 64 < cLine) : OpR X (compareOp .Eq) rEqD := by
  intro pins s σ H x y v u Q I rx ry h
  obtain ⟨a, b, ka, kb, rfl, rfl, ha, hb, q⟩ := h
  cases (show v = Value.ref a from rx)
  cases (show u = Value.ref b from ry)
  obtain ⟨_, ya, xa, ra, da⟩ := dt_of I.hok ha
  obtain ⟨_, yb, xb, rb, db⟩ := dt_of I.hok hb
  have l1 : xa.length = ka.length := by rw [← Paired.length ra, List.length_map]
  have l2 : xb.length = kb.length := by rw [← Paired.length rb, List.length_map]
  refine dicts_same ya yb (by omega) (tupleKind_room_in1 (by omega)) da db (fun _ => hits_kt rb ra) ⟨.bl (sameD ka kb), H, I, ?_, q⟩
  rw [l1, l2]
  rfl
/-- del d[k] of a dict by tuples -/
def sDDelT (td ty : TE) : TS := fun D σ H => td σ H fun x H1 => ty σ H1 fun y H2 => ∃ (a b : Addr) (kvs : List (List L2.Key × V)) (k : List L2.Key), x = .ref a ∧ y = .ref b ∧ H2 a = some (.dT kvs) ∧ H2 b = some (.tup (k.map kV)) ∧ (valV kvs k).isSome = true ∧ D.nx σ (upd H2 a (.dT (dropK kvs k)))
end
end HmQ

set_option Elab.async false
set_option linter.all false
set_option maxRecDepth 100000
set_option maxHeartbeats 4000000
namespace HmQ
open PySem PySem.Spec PyProof.Rows L2 PySem.W
section
variable {X : Cx} {td ty : TE} {o i : Expr} {pos tpos : Pos}
theorem del_t {pins : List (Addr × Obj)} {σ : L2.St} {H : Hp} {s : Shared} {a b : Addr} {A : Around} {E : Value → Shared → Prop} {kvs : List (List L2.Key × V)} {k : List L2.Key} {Q : Unit → Shared → Prop} (hu : A.units + 1 < cLine) (I : Inv X pins σ H s) (e : H a = some (.dT kvs))
    (eb : H b = some (.tup (k.map kV))) (l : (valV kvs k).isSome = true) (h : ∀ s', Inv X pins σ (upd H a (.dT (dropK kvs k))) s' → Q () s') : wpAny (model X.prog X.w) A (delItem (.ref a) (.ref b)) Q E s := by
  obtain ⟨z, hd, xs, rel, dd⟩ := dt_of I.hok e
  obtain ⟨p, hp⟩ : ∃ p, atKey xs k = some p := by
    have r := rel.val k
    cases ep : atKey xs k with
    | some p => exact ⟨p, rfl⟩
    | none =>
      rw [ep] at r
      cases ev : valV kvs k with
      | none =>
        rw [ev] at l
        cases l
      | some v0 =>
        rw [ev] at r
        exact (show False from r).elim
  refine wpAny_delItem_heap (knd := tupleKind (mixKind X.prog X.w)) (k := k) (tupleKind_room_in1 hu) (key_of I.hok eb) hd dd hp (fun h' dd' hs => h _ ?_) (by rw [← Paired.length rel]; exact z)
  obtain ⟨o, es, ep, hq, h2, h3, h4, _, h5⟩ := dd'
  exact d_write I (by rw [e]; exact True.intro) hs ⟨o, hq⟩ ⟨Nat.le_trans (dropK_le kvs k) z, hd, _, (L2.DX.KT_drop k rel).keeps (fun c ys ec => (by rw [upd_ne (ne_of ec e (fun z => nomatch z))]; exact ec)), o, es, ep, hq, h2, h3, h4, h5⟩
theorem ps_ddelT (hu : X.A.units + 1 < cLine) (ho : PE X o td) (hi : PE X i ty) : PS X (.Delete [.Subscript o i tpos] pos) (sDDelT td ty) := by
  refine ⟨fun pins s σ H D I h => ?_⟩
  refine wpAny_Delete (wpAny_deleteEach_cons (wpAny_delete_Subscript (thn (ho.run pins s σ H _ I h) fun u s1 ⟨x, H1, I1, rx, q1⟩ => thn (hi.run pins s1 σ H1 _ I1 q1) fun iv s2 ⟨y, H2, I2, ry, a, b, kvs, k, ex, ey, e, eb, l, q2⟩ => ?_)))
  subst ex ey
  obtain rfl : u = Value.ref a := rx
  obtain rfl : iv = Value.ref b := ry
  exact del_t hu I2 e eb l fun s3 I3 => wpAny_deleteEach_nil ⟨σ, _, I3, q2⟩
end
section
variable {prog : Program} {w : World} {A : Around} {E : Value → Shared → Prop} {s : Shared} {K : Frag} {x C L f : Addr} {ox : Obj} {od : Option Obj} {b : Value}
theorem ifBound_ne {M : Model} {args : List Value} {Q : Option Value → Shared → Prop} (X : K.In s.heap) (I : InstAt s.heap x ox C od) (hs : findIn K (.ref C) "__ne__" = some (some (.builtin "object.__ne__")))
    (h : wpAny M A (call (.builtin "object.__ne__") (.ref x :: args)) (fun v => Q (some v)) E s) : wpAny M A (callSpecialIfBound? (.ref x) "__ne__" args) Q E s := by
  simp only [callSpecialIfBound?, bindSpecialIfBound?]
  refine wpAny_holding (wpAny_bind (wpAny_bind (wpAny_bind (I.type.here ((looks_findIn X hs).here ?_)))))
  simp only [F.cmp_object.ne.bind]
  refine wpAny_bind (wpAny_askSetting (wpAny_ite ?_))
  have fin : wpAny M A (call (.builtin "object.__ne__") ([.ref x] ++ args) >>= fun v => pure (some v)) Q E s :=
    wpAny_bind (wpAny_mono h (fun v s' h' => wpAny_pure h') fun _ _ h' => h')
  split
  · exact wpAny_bind (wpAny_pure (wpAny_pure fin))
  · exact wpAny_tryCatch (wpAny_bind (wpAny_pure (wpAny_pure fin)))
/-- x != b by the own __eq__ -/
theorem ne_body (hu : A.units < cLine) (X : K.In s.heap) (I : InstAt s.heap x ox C od) (he : findIn K (.ref C) "__eq__" = some (some (.ref f))) (hf : isFn K (.ref f) = true) {Q : Fin → Shared → Prop}
    (h : wpAny (model prog w) A (call (.ref f) [.ref x, b]) (fun v s' => ∃ r, v = .bool r ∧ Q (.done (.ret (.bool (!r)))) s') E s) : wpAny (model prog w) A (Builtin.«object.__ne__» ⟨[.ref x, b], []⟩) Q E s := by
  unfold Builtin.«object.__ne__»
  repeat (first
    | with_reducible refine wpAny_cRoomFor hu ?_
    | (refine wpAny_bind (m := callSpecialIfBound? (.ref x) (Str.ofString "__eq__") [b])
        (ifBound_K X I he hf (wpAny_mono h (fun v s' hv => by
          obtain ⟨r, rfl, hq⟩ := hv
          repeat (first | exact hq | exact wpAny_pure hq | exact wpAny_truthy_bool hq | (refine wpAny_bind (m := truthy (.bool _)) (wpAny_truthy_bool ?_)) | wp_step)) fun _ _ e => e)))
    | wp_step)
theorem call_ne (hu : A.units + 1 < cLine) (X : K.In s.heap) (I : InstAt s.heap x ox C od) (hm : mroIn K C (.type "object") = some true) (he : findIn K (.ref C) "__eq__" = some (some (.ref f))) (hf : isFn K (.ref f) = true) {Q : Value → Shared → Prop}
    (h : wpAny (model prog w) A.in1 (call (.ref f) [.ref x, b]) (fun v s' => ∃ r, v = .bool r ∧ Q (.bool (!r)) s') E s) : wpAny (model prog w) A (call (.builtin "object.__ne__") [.ref x, b]) Q E s := by
  refine wpAny_call (codeAny_call_builtin F.cmp_object.ne.plain F.cmpEntry_ne ?_)
  simp only [checkBuiltinCall, F.cmpKind_ne, F.cmpSplit_ne]
  have L0 := I.type (M := model prog w)
  have L1 := looks_mroIn (M := model prog w) X hm
  refine wpAny_bind ?_
  unfold isInstance
  refine wpAny_bind (L0.here (L1.here ?_))
  simp only [Bool.not_true, Bool.false_eq_true, if_false]
  have fin : wpAny (model prog w) A.in1 (Builtin.«object.__ne__» ⟨[.ref x, b], []⟩) (fun fin s' => match fin with
      | .done f => match (Except.ok f : Result) with
        | .ok (.ret v) => Q v s'
        | .ok _ => False
        | .error e => E e s'
      | .again c' => c'.quiet = true ∧ codeAny (model prog w) A c' (fun r s' => match r with
        | .ok (.ret v) => Q v s'
        | .ok _ => False
        | .error e => E e s') s') E s :=
    ne_body (A := A.in1) (by show A.units + 1 < cLine; exact hu) X I he hf h
  have ha := F.cmpArgs_ne (.ref x) b
  cases hsig : Manifest.signature? "object.__ne__" with
  | none => exact wpAny_pure fin
  | some sig =>
    simp only [argsOk, hsig] at ha
    have h2 : Bind.checkArgs "object.__ne__" sig ⟨.ref x :: [b], []⟩ = pure () := ha
    show wpAny (model prog w) A.in1 (Bind.checkArgs "object.__ne__" sig ⟨.ref x :: [b], []⟩) _ E s
    rw [h2]
    exact wpAny_pure fin
theorem ne_own {Q : Value → Shared → Prop} {D : Addr} (hu : A.units + 1 < cLine) (X : K.In s.heap) (I : InstAt s.heap x ox C od) (hb : Looks (model prog w) s.heap (typeOf b) (.ref C)) (hs : findIn K (.ref C) "__ne__" = some (some (.builtin "object.__ne__")))
    (hm : mroIn K C (.type "object") = some true) (he : findIn K (.ref C) "__eq__" = some (some (.ref f))) (hf : isFn K (.ref f) = true)
    (h : wpAny (model prog w) A.in1 (call (.ref f) [.ref x, b]) (fun v s' => ∃ r, v = .bool r ∧ Q (.bool (!r)) s') E s) : wpAny (model prog w) A (richCompare .NotEq (.ref x) b) Q E s := by
  have one : wpAny (model prog w) A (tryCompare (.ref x) "__ne__" b) (fun r s' => ∃ v, r = some v ∧ Q v s') E s := by
    unfold tryCompare
    refine wpAny_bind (ifBound_ne X I hs (call_ne hu X I hm he hf (wpAny_mono h (fun v s' hv => ?_) fun _ _ e => e)))
    obtain ⟨r, rfl, hq⟩ := hv
    exact ⟨r, rfl, wpAny_pure ⟨_, rfl, hq⟩⟩
  unfold richCompare
  simp only [oneThing_ref, cmpInfo_NotEq]
  refine wpAny_holding (wpAny_bind (wpAny_cRoomFor (by omega) ?_))
  refine wpAny_bind (I.type.here (wpAny_bind (hb.here ?_)))
  rw [show (Value.ref C != Value.ref C) = false from by simp]
  simp only [Bool.false_eq_true, if_false]
  refine wpAny_bind (wpAny_pure ?_)
  simp only [Bool.false_eq_true, if_false]
  refine wpAny_bind (wpAny_mono one (fun r s' z => ?_) fun _ _ e => e)
  obtain ⟨v, rfl, hq⟩ := z
  exact wpAny_pure hq
end
section
variable {X : Cx} {CX : CXT} {C f : Addr} {fd : FuncData} {ps : List Str} {n : Nat} {sp : Sp} {E : XK}
/-- what == and != of instances of a class with an own __eq__ ask of the text -/
structure OwnCmp (K : PySem.W.Frag) (C f : Addr) : Prop where
  eq : PySem.W.findIn K (.ref C) "__eq__" = some (some (.ref f))
  fn : PySem.W.isFn K (.ref f) = true
  ne : PySem.W.findIn K (.ref C) "__ne__" = some (some (.builtin "object.__ne__"))
  ob : PySem.W.mroIn K C (.type "object") = some true
def rOwnEq (C : Addr) (sp : Sp) (E : XK) : R2 := fun x y H Q => ∃ (a b dx dy : Addr) (fs gs : List (Str × V)), x = .ref a ∧ y = .ref b ∧ H a = some (.ins C dx fs) ∧ H b = some (.ins C dy gs) ∧ sp [.ref a, .ref b] H Q E
def rOwnNe (C : Addr) (sp : Sp) (E : XK) : R2 := fun x y H Q => ∃ (a b dx dy : Addr) (fs gs : List (Str × V)), x = .ref a ∧ y = .ref b ∧ H a = some (.ins C dx fs) ∧ H b = some (.ins C dy gs) ∧ sp [.ref a, .ref b] H (fun z H' => ∃ r, z = .bl r ∧ Q (.bl (!r)) H') E
theorem run_below {A : Around} {pins : List (Addr × Obj)} {σ : L2.St} {H : Hp} {s : Shared} {Q : VK} {a b : Addr} (F : FnOk X.prog X.w X.K X.mg X.base CX n f fd ps sp) (hr : Room n A) (e0 : Env0 X.prog X.w X.K X.mg X.base A X.stack s H) (hb : Binds X.K fd ps []) (hx : Passes CX X E)
    (I : Inv X pins σ H s) (h : sp [.ref a, .ref b] H Q E) : wpAny (model X.prog X.w) A (call (.ref f) [.ref a, .ref b]) (EP X pins σ Q) X.xe s := by
  have hl := F.len _ _ _ _ h
  have r2 : Vals [V.ref a, V.ref b] [Value.ref a, Value.ref b] := .cons rfl (.cons rfl .nil)
  refine wpAny_call (codeAny_mono (F.run A X.stack s H ⟨[.ref a, .ref b], []⟩ [.ref a, .ref b] [.ref a, .ref b] Q E hr e0 (by
    have := hb s [.ref a, .ref b] I.kIn (by simpa using hl)
    simpa using this) r2 h) fun r s' hq => ?_)
  cases r with
  | error e => exact hx pins σ H s e s' I hq
  | ok fl =>
    cases fl with
    | ret w => exact I.after hq
    | next => exact False.elim hq
    | brk => exact False.elim hq
    | cont => exact False.elim hq
theorem op_ownEq (O : OwnCmp X.K C f) (F : FnOk X.prog X.w X.K X.mg X.base CX n f fd ps sp) (hr : Room n X.A) (hb : Binds X.K fd ps []) (hx : Passes CX X E) : OpR X (compareOp .Eq) (rOwnEq C sp E) := by
  intro pins s σ H x y v u Q I rx ry h
  obtain ⟨a, b, dx, dy, fs, gs, rfl, rfl, ha, hb', q⟩ := h
  cases (show v = Value.ref a from rx)
  cases (show u = Value.ref b from ry)
  obtain ⟨mA, J, _⟩ := ins_get I.hok ha
  obtain ⟨mB, J', _⟩ := ins_get I.hok hb'
  obtain ⟨od, J, _⟩ := J.look
  obtain ⟨od', J', _⟩ := J'.look
  obtain ⟨m, hF⟩ := I.fr
  refine PySem.W.cmp_K (op := .Eq) (tb := .ref C) hr.units0 hF I.ok.mod.kin J J'.type (by simp [PySem.W.notFirst]) O.eq O.fn ?_
  refine wpAny_mono (run_below F hr I.env0 hb hx I q) (fun w s' z => ?_) fun _ _ x => x
  obtain ⟨z', H', I', rz, qz⟩ := z
  exact SlX.cmpback rz ⟨z', H', I', rz, qz⟩
theorem op_ownNe (O : OwnCmp X.K C f) (F : FnOk X.prog X.w X.K X.mg X.base CX n f fd ps sp) (hr : Room (n + 1) X.A) (hb : Binds X.K fd ps []) (hx : Passes CX X E) : OpR X (compareOp .NotEq) (rOwnNe C sp E) := by
  intro pins s σ H x y v u Q I rx ry h
  obtain ⟨a, b, dx, dy, fs, gs, rfl, rfl, ha, hb', q⟩ := h
  cases (show v = Value.ref a from rx)
  cases (show u = Value.ref b from ry)
  obtain ⟨mA, J, _⟩ := ins_get I.hok ha
  obtain ⟨mB, J', _⟩ := ins_get I.hok hb'
  obtain ⟨od, J, _⟩ := J.look
  obtain ⟨od', J', _⟩ := J'.look
  have hr1 : Room n X.A.in1 := hr.in1
  refine ne_own (D := C) (by have := hr1.units0; show X.A.units + 1 < cLine; exact this) I.kIn J J'.type O.ne O.ob O.eq O.fn ?_
  refine wpAny_mono (run_below F hr1 I.env0.in1 hb hx I q) (fun w s' z => ?_) fun _ _ x => x
  obtain ⟨z', H', I', rz, r, er, qz⟩ := z
  subst er
  cases (show w = Value.bool r from rz)
  exact ⟨r, rfl, .bl (!r), H', I', rfl, qz⟩
end
end HmQ

set_option Elab.async false
set_option maxRecDepth 100000
set_option maxHeartbeats 4000000
namespace Hm
open PySem PySem.Spec PyProof.Rows L2 HmS RZ
theorem nameE : NameOk "" := ⟨by decide, by decide +kernel⟩
theorem ct_nil {sets : List SetT} : CtOk sets [] := ⟨by simp, fun c hc => by simp at hc, fun c hc => by simp at hc⟩
theorem sql_same {K : PySem.W.Frag} {H H' : Hp} {a : Addr} {xs : List V} (h : SqL K H a xs) (e : Same H H') : SqL K H' a xs :=
  h.elim (fun h => .inl (h.elim (fun h => .inl (e _ _ h)) fun ⟨o, h⟩ => .inr ⟨o, e _ _ h⟩)) fun h => .inr h
/-! ### what is told, as data -/
theorem dpall_map {K : PySem.W.Frag} {H : Hp} {α : Type} (f : α → V) (g : α → PyData) : ∀ (l : List α), (∀ x ∈ l, Dp K H (f x) (g x)) → DpAll K H (l.map f) (l.map g)
  | [], _ => .nil
  | x :: r, h => .cons (h x List.mem_cons_self) (dpall_map f g r fun y hy => h y (List.mem_cons_of_mem _ hy))
theorem dpall_paired {K : PySem.W.Frag} {H : Hp} {β : Type} {F : Addr → β → Prop} {g : β → PyData} (h : ∀ a c, F a c → Dp K H (.ref a) (g c)) : ∀ {as : List Addr} {cs : List β}, Paired F as cs → DpAll K H (as.map V.ref) (cs.map g)
  | _, _, .nil => .nil
  | _, _, .cons a t => .cons (h _ _ a) (dpall_paired h t)
def intsD (is : List Int) : PyData := .list (is.map PyData.int)
theorem dp_ints {K : PySem.W.Frag} {H : Hp} {l : Addr} {is : List Int} (h : H l = some (.lst (is.map V.int))) : Dp K H (.ref l) (intsD is) := .lst (SqL.of h) (dpall_map _ _ _ fun x _ => .int x)
def rowD (c : StT × Int) : PyData := .tuple [.tuple [.int c.1.1, .int c.1.2.1, .int c.1.2.2], .int c.2]
def rowsD (cs : CtT) : PyData := .list (cs.map rowD)
theorem dp_rows {K : PySem.W.Frag} {H : Hp} {l : Addr} {rs : List Addr} {cs : CtT} (h : H l = some (.lst (rs.map V.ref))) (pr : Paired (RowAt H) rs cs) : Dp K H (.ref l) (rowsD cs) :=
  .lst (SqL.of h) (dpall_paired (fun _ _ ⟨_, e, f⟩ => .tup (SqT.of e) (.cons (.tup (SqT.of f) (.cons (.int _) (.cons (.int _) (.cons (.int _) .nil)))) (.cons (.int _) .nil))) pr)
def IntsAt (H : Hp) (a : Addr) (is : List Int) : Prop := H a = some (.lst (is.map V.int))
def gapsD (iss : List (List Int)) : PyData := .list (iss.map intsD)
theorem dp_gaps {K : PySem.W.Frag} {H : Hp} {l : Addr} {ls : List Addr} {iss : List (List Int)} (h : H l = some (.lst (ls.map V.ref))) (pr : Paired (IntsAt H) ls iss) : Dp K H (.ref l) (gapsD iss) :=
  .lst (SqL.of h) (dpall_paired (fun _ _ e => dp_ints e) pr)
theorem lay_all {α : Type} (g : α → PyData) (hg : ∀ x, (g x).canLay0 = true) : ∀ l : List α, PyData.canLayAll0 (l.map g) = true
  | [] => rfl
  | x :: r => by
    show ((g x).canLay0 && PyData.canLayAll0 (r.map g)) = true
    rw [hg x, lay_all g hg r]
    rfl
theorem depth_all {α : Type} (g : α → PyData) {m : Nat} (hg : ∀ x, (g x).depth ≤ m) : ∀ l : List α, PyData.depthAll (l.map g) ≤ m
  | [] => by simp [PyData.depthAll]
  | x :: r => by
    have h1 := hg x
    have h2 := depth_all g hg r
    simp only [List.map_cons, PyData.depthAll]
    omega
theorem lay_ints (is : List Int) : (intsD is).canLay0 = true := by
  simp only [intsD, PyData.canLay0]
  exact lay_all _ (fun x => rfl) is
theorem depth_ints (is : List Int) : (intsD is).depth ≤ 1 := by
  simp only [intsD, PyData.depth]
  have := depth_all PyData.int (m := 0) (fun x => by simp [PyData.depth]) is
  omega
theorem lay_rows (cs : CtT) : (rowsD cs).canLay0 = true := by
  simp only [rowsD, PyData.canLay0]
  exact lay_all _ (fun x => by simp [rowD, PyData.canLay0, PyData.canLayAll0]) cs
theorem depth_rows (cs : CtT) : (rowsD cs).depth ≤ 3 := by
  simp only [rowsD, PyData.depth]
  have := depth_all rowD (m := 2) (fun x => by simp [rowD, PyData.depth, PyData.depthAll]) cs
  omega
theorem lay_gaps (iss : List (List Int)) : (gapsD iss).canLay0 = true := by
  simp only [gapsD, PyData.canLay0]
  exact lay_all _ lay_ints iss
theorem depth_gaps (iss : List (List Int)) : (gapsD iss).depth ≤ 2 := by
  simp only [gapsD, PyData.depth]
  have := depth_all intsD (m := 1) depth_ints iss
  omega
theorem shaped_of {d : PyData} {m : Nat} (h : d.canLay0 = true) (hd : d.depth ≤ m) (hm : m ≤ 64) : SeqAt.shaped d = true := by
  simp only [SeqAt.shaped, h, Bool.true_and, decide_eq_true_eq]
  omega
theorem eqv_self {d : PyData} (h : d.canLay0 = true) : (!PyData.eqv d d) = false := by rw [SeqAt.eqv_refl d h]; rfl
theorem eqv_nil (is : List Int) : PyData.eqv (intsD is) (.list []) = is.isEmpty := by
  cases is <;> simp [intsD, PyData.eqv, PyData.eqvAll]
/-! ### the rows of two albums that part, the book, as data -/
def apD (r : ApT) : PyData := .tuple [.tuple [.int r.1.1, .int r.1.2.1, .int r.1.2.2], .int r.2.1, .int r.2.2]
def apsD (rs : List ApT) : PyData := .list (rs.map apD)
theorem dp_aps {K : PySem.W.Frag} {H : Hp} {l : Addr} {as : List Addr} {rs : List ApT} (h : H l = some (.lst (as.map V.ref))) (pr : Paired (ApAt H) as rs) : Dp K H (.ref l) (apsD rs) :=
  .lst (SqL.of h) (dpall_paired (fun _ _ ⟨_, e, f⟩ => .tup (SqT.of e) (.cons (.tup (SqT.of f) (.cons (.int _) (.cons (.int _) (.cons (.int _) .nil)))) (.cons (.int _) (.cons (.int _) .nil)))) pr)
theorem lay_aps (rs : List ApT) : (apsD rs).canLay0 = true := by
  simp only [apsD, PyData.canLay0]
  exact lay_all _ (fun x => by simp [apD, PyData.canLay0, PyData.canLayAll0]) rs
theorem depth_aps (rs : List ApT) : (apsD rs).depth ≤ 3 := by
  simp only [apsD, PyData.depth]
  have := depth_all apD (m := 2) (fun x => by simp [apD, PyData.depth, PyData.depthAll]) rs
  omega
def setD (s : SetT) : PyData := .tuple [.str s.1, .int s.2.1, .int s.2.2]
def bookD (sets : List SetT) : PyData := .tuple (sets.map setD)
theorem dp_book {K : PySem.W.Frag} {H : Hp} {b : Addr} {sets : List SetT} (h : Book H b sets) : Dp K H (.ref b) (bookD sets) := by
  obtain ⟨_, as, e, pr⟩ := h
  exact .tup (SqT.of e) (dpall_paired (F := SetAt H) (g := setD) (fun _ _ h => .tup (SqT.of h) (.cons (.str _) (.cons (.int _) (.cons (.int _) .nil)))) pr)
theorem lay_allM {α : Type} (g : α → PyData) : ∀ l : List α, (∀ x ∈ l, (g x).canLay0 = true) → PyData.canLayAll0 (l.map g) = true
  | [], _ => rfl
  | x :: r, h => by
    show ((g x).canLay0 && PyData.canLayAll0 (r.map g)) = true
    rw [h x List.mem_cons_self, lay_allM g r fun y hy => h y (List.mem_cons_of_mem _ hy)]
    rfl
theorem lay_book {sets : List SetT} (ok : BookOk sets) : (bookD sets).canLay0 = true := by
  simp only [bookD, PyData.canLay0]
  refine lay_allM _ _ fun s hs => ?_
  have hl := (ok.ok s hs).land
  have e : (PyData.str s.1).canLay0 = true := by
    generalize s.1 = z at hl
    simp only [landsL, List.mem_cons, List.not_mem_nil, or_false] at hl
    rcases hl with rfl | rfl | rfl | rfl <;> decide +kernel
  simp [setD, PyData.canLay0, PyData.canLayAll0] at e ⊢
  exact e
theorem depth_book (sets : List SetT) : (bookD sets).depth ≤ 2 := by
  simp only [bookD, PyData.depth]
  have := depth_all setD (m := 1) (fun x => by simp [setD, PyData.depth, PyData.depthAll]) sets
  omega
/-! ### counts of what is drawn -/
theorem bump_add (cs : CtT) (s : StT) : bump cs s = addC cs (s, 1) := rfl
def cnt1 (ss : List StT) (t : StT) : Int := ((ss.filter fun s => decide (s = t)).length : Nat)
theorem cnt_foldb : ∀ (ss : List StT) (cs : CtT) (t : StT), cntM (ss.foldl bump cs) t = cntM cs t + cnt1 ss t
  | [], cs, t => by simp [cnt1]
  | s :: r, cs, t => by
    rw [List.foldl_cons, cnt_foldb r, bump_add, cnt_add]
    unfold cnt1
    rw [List.filter_cons]
    by_cases e : t = s
    · rw [if_pos e, if_pos (decide_eq_true e.symm), List.length_cons]
      omega
    · have e2 : ¬ s = t := fun z => e z.symm
      rw [if_neg e, if_neg (by simpa using e2)]
      omega
theorem cnt_counts (ss : List StT) (t : StT) : cntM (countsM ss) t = cnt1 ss t := by
  unfold countsM
  rw [cnt_foldb]
  simp [cntM, getC]
theorem cnt1_app (a b : List StT) (t : StT) : cnt1 (a ++ b) t = cnt1 a t + cnt1 b t := by
  unfold cnt1
  rw [List.filter_append, List.length_append]
  omega
theorem cnt1_filter (f : StT → Bool) (t : StT) : ∀ ss : List StT, cnt1 (ss.filter f) t = if f t = true then cnt1 ss t else 0
  | [] => by simp [cnt1]
  | s :: r => by
    have ih := cnt1_filter f t r
    have hc : ∀ l : List StT, cnt1 (s :: l) t = (if s = t then 1 else 0) + cnt1 l t := by
      intro l
      unfold cnt1
      rw [List.filter_cons]
      by_cases e : s = t
      · rw [if_pos (decide_eq_true e), if_pos e, List.length_cons]
        omega
      · rw [if_neg (by simpa using e), if_neg e]
        omega
    rw [List.filter_cons]
    by_cases e : s = t
    · by_cases z : f s = true
      · have z2 : f t = true := e ▸ z
        rw [if_pos z, hc, ih, if_pos z2, if_pos z2, hc]
      · have z2 : ¬ f t = true := e ▸ z
        rw [if_neg z, ih, if_neg z2, if_neg z2]
    · by_cases z : f s = true
      · rw [if_pos z, hc, ih, hc, if_neg e]
        by_cases z2 : f t = true
        · rw [if_pos z2, if_pos z2]
        · rw [if_neg z2, if_neg z2]
          rfl
      · rw [if_neg z, ih, hc, if_neg e]
        by_cases z2 : f t = true
        · rw [if_pos z2, if_pos z2]
          omega
        · rw [if_neg z2, if_neg z2]
theorem getC_filter (f : StT → Bool) (t : StT) : ∀ cs : CtT, getC (cs.filter fun c => f c.1) t = if f t = true then getC cs t else none
  | [] => by simp [getC]
  | c :: r => by
    have ih := getC_filter f t r
    rw [List.filter_cons]
    by_cases e : c.1 = t
    · by_cases z : f c.1 = true
      · have z2 : f t = true := e ▸ z
        rw [if_pos z, if_pos z2]
        simp [getC, e]
      · have z2 : ¬ f t = true := e ▸ z
        rw [if_neg z, ih, if_neg z2, if_neg z2]
    · by_cases z : f c.1 = true
      · rw [if_pos z]
        simp only [getC, if_neg e]
        exact ih
      · rw [if_neg z, ih]
        simp only [getC, if_neg e]
theorem cnt_filter (f : StT → Bool) (cs : CtT) (t : StT) : cntM (cs.filter fun c => f c.1) t = if f t = true then cntM cs t else 0 := by
  unfold cntM
  rw [getC_filter]
  by_cases z : f t = true
  · rw [if_pos z, if_pos z]
  · rw [if_neg z, if_neg z]
    rfl
theorem part_rise {sets : List SetT} {ss : List StT} (ok : ∀ s ∈ ss, StOk sets s) (f : StT → Bool) : riseM ((riseM (countsM ss)).filter fun c => f c.1) = riseM (countsM (ss.filter f)) := by
  have o1 : CtOk sets (countsM ss) := CtOk.of ok
  refine rise_ext (o1.rise.filter _) (CtOk.of fun s hs => ok s (List.mem_filter.mp hs).1) fun t => ?_
  rw [cnt_filter, cnt_rise o1.nd, cnt_counts, cnt_counts, cnt1_filter]
theorem join_rise {sets : List SetT} {s1 s2 : List StT} (k1 : ∀ s ∈ s1, StOk sets s) (k2 : ∀ s ∈ s2, StOk sets s) : riseM (joinM (countsM s1) (countsM s2)) = riseM (countsM (s1 ++ s2)) := by
  have o1 : CtOk sets (countsM s1) := CtOk.of k1
  have o2 : CtOk sets (countsM s2) := CtOk.of k2
  refine rise_ext (joinM_ok o1 o2) (CtOk.of fun s hs => (List.mem_append.mp hs).elim (k1 s) (k2 s)) fun t => ?_
  rw [cnt_join o1 o2, cnt_counts, cnt_counts, cnt_counts, cnt1_app]
theorem apart_self (sets : List SetT) (cs : CtT) : apartM sets cs cs = [] := by
  unfold apartM
  rw [List.filter_eq_nil_iff]
  intro r hr
  obtain ⟨s, _, rfl⟩ := List.mem_map.mp hr
  simp [apNe, apart1]
theorem rise_of : ∀ {is : List Int}, is.Pairwise (· < ·) → riseI is = true
  | [], _ => rfl
  | [_], _ => rfl
  | a :: b :: r, h => by
    rw [List.pairwise_cons] at h
    have ih := rise_of h.2
    unfold riseI at ih ⊢
    rw [List.tail_cons, List.zip_cons_cons, List.map_cons, List.all_cons, decide_eq_true (h.1 b List.mem_cons_self)]
    exact ih
/-! ### what stands through a turn of the law -/
structure K9 (C : Addr) (H : Hp) (pn b p1 d1 p2 d2 t1 t2 : Addr) (sets : List SetT) (as1 as2 : List Addr) (ss1 ss2 : List StT) : Prop where
  pen : PenAt H pn
  bk : Book H b sets
  o1 : AlbAt C H p1 b "one" d1 (countsM ss1)
  o2 : AlbAt C H p2 b "other" d2 (countsM ss2)
  m1 : H t1 = some (.tup (as1.map V.ref))
  r1 : Paired (StAt H) as1 ss1
  m2 : H t2 = some (.tup (as2.map V.ref))
  r2 : Paired (StAt H) as2 ss2
  k1 : ∀ s ∈ ss1, StOk sets s
  k2 : ∀ s ∈ ss2, StOk sets s
  l1 : ss1.length ≤ 400
  l2 : ss2.length ≤ 400
theorem AlbAt.keep {C : Addr} {H H' : Hp} {pn p b d : Addr} {n : Str} {cs : CtT} (k : Keep pn H H') (pen : PenAt H pn) (h : AlbAt C H p b n d cs) : AlbAt C H' p b n d cs := by
  obtain ⟨⟨dx, e⟩, f⟩ := h
  exact ⟨⟨dx, k _ _ (pen_ne pen e fun _ z => by cases z) e⟩, k _ _ (pen_ne pen f fun _ z => by cases z) f⟩
theorem pen_same {H H' : Hp} {p : Addr} (s : Same H H') (x : PenAt H p) : PenAt H' p := by
  obtain ⟨x1, x2, x3, x4, e, r⟩ := x
  exact ⟨x1, x2, x3, x4, s _ _ e, r⟩
section
variable {C : Addr} {H H' : Hp} {pn b p1 d1 p2 d2 t1 t2 : Addr} {sets : List SetT} {as1 as2 : List Addr} {ss1 ss2 : List StT}
theorem K9.keep (k : Keep pn H H') (pen' : PenAt H' pn) (x : K9 C H pn b p1 d1 p2 d2 t1 t2 sets as1 as2 ss1 ss2) : K9 C H' pn b p1 d1 p2 d2 t1 t2 sets as1 as2 ss1 ss2 := by
  obtain ⟨pen, bk, o1, o2, m1, r1, m2, r2, h1, h2, h3, h4⟩ := x
  exact ⟨pen', bk.keep k pen, o1.keep k pen, o2.keep k pen, k _ _ (pen_ne pen m1 fun _ z => by cases z) m1, st_keep k pen r1, k _ _ (pen_ne pen m2 fun _ z => by cases z) m2, st_keep k pen r2, h1, h2, h3, h4⟩
theorem K9.same (s : Same H H') (x : K9 C H pn b p1 d1 p2 d2 t1 t2 sets as1 as2 ss1 ss2) : K9 C H' pn b p1 d1 p2 d2 t1 t2 sets as1 as2 ss1 ss2 := x.keep (Same.keep s) (pen_same s x.pen)
end
theorem StIn.push {G H' : Hp} {D : Addr} {L : List StT} (hD : G D = none) (r : StIn G D L H') {a : Addr} {s : StT} (ha : StAt H' a s) {as : List Addr} (hq : H' D = some (.lst (as.map V.ref))) :
    StIn G D (L ++ [s]) (upd H' D (.lst (as.map V.ref ++ [.ref a]))) := by
  obtain ⟨sm, qs', hD', pr, lq⟩ := r
  have eqs : qs'.map V.ref = as.map V.ref := by
    rw [hD'] at hq
    exact HO.lst.inj (Option.some.inj hq)
  have kp : ∀ {x : Addr} {y : StT}, StAt H' x y → StAt (upd H' D (.lst (as.map V.ref ++ [.ref a]))) x y := fun {x y} h => by
    have n : x ≠ D := fun z => by
      have h' : H' x = some (.tup _) := h
      rw [z, hD'] at h'
      cases h'
    unfold StAt
    rw [upd_ne n]
    exact h
  refine ⟨fun x o e => ?_, qs' ++ [a], by rw [upd_same, List.map_append, eqs]; rfl, Paired.snoc (kp ha) (Paired.mp (fun x y h => kp h) pr), by simp [lq]⟩
  rw [upd_ne (ne_of_none e hD)]
  exact sm _ _ e
/-- a tuple of rising numbers of sets -/
structure PlcAt (H : Hp) (t : Addr) (sets : List SetT) (is : List Int) : Prop where
  at_ : H t = some (.tup (is.map V.int))
  len : is.length ≤ 1000
  rng : ∀ i ∈ is, 0 ≤ i ∧ i ≤ (sets.length : Int) - 1
  rise : riseI is = true
end Hm

set_option Elab.async false
set_option maxRecDepth 100000
set_option maxHeartbeats 4000000
namespace Hm
open PySem PySem.Spec PyProof.Rows L2 HmS HmQ
abbrev sEq : Stmt := inClass stAlb 16 -- meth Album __eq__
abbrev sTak : Stmt := inClass stAlb 2 -- meth Album take
/-! ### alike counts -/
def eqM (cs ds : CtT) : Bool := sameD (cs.map kcC) (ds.map kcC)
theorem find_kc (s : StT) : ∀ ds : CtT, ((ds.map kcC).find? fun z => decide (z.1 = keyS s)) = (getC ds s).map fun n => (keyS s, n)
  | [] => rfl
  | (t, n) :: r => by
    rw [List.map_cons, getC]
    by_cases c : t = s
    · rw [if_pos c, List.find?_cons_of_pos (by show decide (keyS t = keyS s) = true; simp [c]), ← c]
      rfl
    · rw [if_neg c, List.find?_cons_of_neg (by show ¬ decide (keyS t = keyS s) = true; simpa using fun z => c (keyS_inj z))]
      exact find_kc s r
theorem eqM_all (cs ds : CtT) : eqM cs ds = true ↔ cs.length = ds.length ∧ ∀ c ∈ cs, getC ds c.1 = some c.2 := by
  unfold eqM sameD
  rw [Bool.and_eq_true, List.length_map, List.length_map, beq_iff_eq, List.all_eq_true]
  refine and_congr_right fun _ => ⟨fun h c hc => ?_, fun h e he => ?_⟩
  · have := h (kcC c) (List.mem_map.mpr ⟨c, hc, rfl⟩)
    rw [show (kcC c).1 = keyS c.1 from rfl, find_kc] at this
    cases e : getC ds c.1 with
    | none =>
      rw [e] at this
      cases this
    | some n =>
      rw [e] at this
      have : (c.2 == n) = true := this
      rw [beq_iff_eq.mp this]
  · obtain ⟨c, hc, rfl⟩ := List.mem_map.mp he
    rw [show (kcC c).1 = keyS c.1 from rfl, find_kc, h c hc]
    show (c.2 == c.2) = true
    exact beq_self_eq_true _
theorem cnt_key {sets : List SetT} {cs : CtT} (ok : CtOk sets cs) {s : StT} (h : s ∈ cs.map (·.1)) : 1 ≤ cntM cs s := by
  obtain ⟨c, hc, rfl⟩ := List.mem_map.mp h
  have := getC_of ok.nd (show (c.1, c.2) ∈ cs from hc)
  unfold cntM
  rw [this]
  exact ok.pos c hc
theorem cnt_no {cs : CtT} {s : StT} (h : s ∉ cs.map (·.1)) : cntM cs s = 0 := by
  unfold cntM
  cases e : getC cs s with
  | none => rfl
  | some n => exact absurd (List.mem_map.mpr ⟨_, getC_mem e, rfl⟩) h
theorem eqM_iff {sets : List SetT} {cs ds : CtT} (ok : CtOk sets cs) (od : CtOk sets ds) : eqM cs ds = true ↔ ∀ s, cntM cs s = cntM ds s := by
  rw [eqM_all]
  constructor
  · rintro ⟨hl, h⟩ s
    by_cases m : s ∈ cs.map (·.1)
    · obtain ⟨c, hc, rfl⟩ := List.mem_map.mp m
      unfold cntM
      rw [h c hc, getC_of ok.nd (show (c.1, c.2) ∈ cs from hc)]
    · rw [cnt_no m]
      refine (cnt_no fun m2 => ?_).symm
      have nd : (s :: cs.map (·.1)).Nodup := List.nodup_cons.mpr ⟨m, ok.nd⟩
      have sub : (s :: cs.map (·.1)) ⊆ ds.map (·.1) := by
        intro t ht
        rcases List.mem_cons.mp ht with rfl | ht
        · exact m2
        · obtain ⟨c, hc, rfl⟩ := List.mem_map.mp ht
          exact List.mem_map.mpr ⟨_, getC_mem (h c hc), rfl⟩
      have := nd.length_le_of_subset sub
      rw [List.length_cons, List.length_map, List.length_map] at this
      omega
  · intro h
    have er := rise_ext ok od h
    have p : cs.Perm ds := (riseM_perm cs).symm.trans (er ▸ riseM_perm ds)
    exact ⟨p.length_eq, fun c hc => getC_of od.nd (p.mem_iff.mp hc)⟩
theorem eqM_rise {sets : List SetT} {cs ds : CtT} (ok : CtOk sets cs) (od : CtOk sets ds) : eqM cs ds = decide (riseM cs = riseM ds) := by
  by_cases h : eqM cs ds = true
  · rw [h]
    exact (decide_eq_true (rise_ext ok od ((eqM_iff ok od).mp h))).symm
  · have h' : eqM cs ds = false := by simpa using h
    rw [h']
    refine (decide_eq_false fun z => h ((eqM_iff ok od).mpr fun s => ?_)).symm
    rw [← cnt_rise ok.nd, z, cnt_rise od.nd]
/-! ### taken -/
def takeC (cs : CtT) (s : StT) (m : Int) : CtT := if cntM cs s - m = 0 then cs.filter (fun c => decide (c.1 ≠ s)) else putC cs s (cntM cs s - m)
theorem drop_entC (cs : CtT) (s : StT) : dropK (cs.map entC) (keyS s) = (cs.filter (fun c => decide (c.1 ≠ s))).map entC := by
  unfold dropK
  rw [List.filter_map]
  congr 1
  refine List.filter_congr fun c _ => ?_
  show decide (keyS c.1 ≠ keyS s) = decide (c.1 ≠ s)
  exact decide_eq_decide.mpr ⟨fun z e => z (by rw [e]), fun z e => z (keyS_inj e)⟩
theorem cnt_filterN (cs : CtT) (s t : StT) : cntM (cs.filter fun c => decide (c.1 ≠ s)) t = if t = s then 0 else cntM cs t := by
  unfold cntM
  induction cs with
  | nil => by_cases e : t = s <;> simp [getC, e]
  | cons c r ih =>
    by_cases h : c.1 = s
    · rw [List.filter_cons_of_neg (by simpa using h), ih]
      by_cases e : t = s
      · rw [if_pos e, if_pos e]
      · rw [if_neg e, if_neg e]
        have : ¬ c.1 = t := fun z => e (by rw [← z, h])
        simp [getC, this]
    · rw [List.filter_cons_of_pos (by simpa using h)]
      by_cases e : c.1 = t
      · have ne : ¬ t = s := fun z => h (by rw [e, z])
        simp [getC, e, ne]
      · simp only [getC, if_neg e]
        exact ih
theorem cnt_take (cs : CtT) (s t : StT) (m : Int) : cntM (takeC cs s m) t = if t = s then cntM cs s - m else cntM cs t := by
  unfold takeC
  by_cases h : cntM cs s - m = 0
  · rw [if_pos h, cnt_filterN]
    by_cases e : t = s
    · rw [if_pos e, if_pos e, h]
    · rw [if_neg e, if_neg e]
  · rw [if_neg h, cnt_put]
theorem CtOk.filter' {sets : List SetT} {cs : CtT} (ok : CtOk sets cs) (f : StT × Int → Bool) : CtOk sets (cs.filter f) :=
  ⟨ok.nd.sublist ((List.filter_sublist (p := f)).map _), fun c hc => ok.pos c (List.mem_filter.mp hc).1, fun c hc => ok.st c (List.mem_filter.mp hc).1⟩
theorem CtOk.takeC {sets : List SetT} {cs : CtT} (ok : CtOk sets cs) {s : StT} (hs : StOk sets s) {m : Int} (h : m ≤ cntM cs s) : CtOk sets (takeC cs s m) := by
  unfold Hm.takeC
  by_cases e : cntM cs s - m = 0
  · rw [if_pos e]
    exact ok.filter' _
  · rw [if_neg e]
    exact ok.put hs (by omega)
/-! ### the methods -/
def spEqA (C : Addr) : Sp := fun vs H Q _ => ∃ (p b d p2 b2 d2 : Addr) (n n2 : Str) (cs cs2 : CtT) (sets : List SetT), vs = [.ref p, .ref p2] ∧ AlbAt C H p b n d cs ∧ AlbAt C H p2 b2 n2 d2 cs2 ∧ Book H b sets ∧ Book H b2 sets ∧ Q (.bl (eqM cs cs2)) H
def spTak (C : Addr) : Sp := fun vs H Q _ => ∃ (p a b d : Addr) (n : Str) (cs : CtT) (sets : List SetT) (s : StT) (m : Int), vs = [.ref p, .ref a, .int m] ∧ AlbAt C H p b n d cs ∧ Book H b sets ∧ StAt H a s ∧ StOk sets s ∧ 1 ≤ m ∧ m ≤ cntM cs s ∧ CtOk sets cs ∧
  ∀ H', Keep d H H' → AlbAt C H' p b n d (takeC cs s m) → Q .non H'
/-- what isinstance asks of the class -/
structure TxtIsi (K : PySem.W.Frag) (C : Addr) : Prop where
  ca : PySem.W.findIn K (.ref C) "__class__" = some (some (.builtin "object.__class__"))
  cn : PySem.W.specialIn K (.builtin "object.__class__") "__get__" = some (some (.builtin "getset_descriptor.__get__"))
  ct : PySem.W.takesIn K (.builtin "object.__class__") = some true
  cm : PySem.W.mroIn K C (.type "object") = some true
  ki : PySem.W.kitOne K (.ref C) (.ref C) = some true
section
variable {P : Program} {w : World} {K : PySem.W.Frag} {mg : Str → Option Value} {base : Heap}
theorem sc_eq : FnScope ["self", "other"] ["self", "other"] (defScope sEq) := ⟨rfl, rfl, rfl, by decide +kernel, rfl, by decide +kernel, by decide +kernel⟩
theorem ok_eq {f C : Addr} {fd : FuncData} (F : Fun K "__eq__" "Album.__eq__" sEq f fd) (T : TxtAlb K mg C) (hI : mg "isinstance" = none) (TI : TxtIsi K C) : FnOk P w K mg base CX0 1 f fd ["self", "other"] (spEqA C) := by
  refine F.ok sc_eq (fun vs H Q E h => ?_) (fun cdv A outer s H vs Q E hr h => ?_)
  · obtain ⟨p, b, d, p2, b2, d2, n, n2, cs, cs2, sets, rfl, _⟩ := h
    rfl
  · obtain ⟨p, b, d, p2, b2, d2, n, n2, cs, cs2, sets, rfl, ⟨⟨dx, hp⟩, hd⟩, ⟨⟨dx2, hp2⟩, hd2⟩, bk, bk2, q⟩ := h
    have hu := hu_of hr
    refine ⟨_, pss_one (ps_ret (pe_and (pe_callB call_isi (by rfl) hI boot_isinstance (pa_cons (pv 1) (pa_cons (pe_glob (v := .ref C) (by rfl) T.mgC rfl) pa_nil)))
      (pe_and (pe_cmpR (op_eqD hr.units) (pe_fld (pv 0) rfl) (pe_fld (pv 1) rfl) (nomark _))
      (pe_one (pe_cmpR (op_eqDi hr.units) (pe_fld (pv 0) rfl) (pe_fld (pv 1) rfl) (nomark _)))))), ?_⟩
    have okB := bk.1
    have lb := lay_book okB
    refine ⟨_, rfl, .ref p2, .ref C, .ref C, .ref C, true, rfl, .own C, .base (.ins hp2 T.cl TI.ca TI.cn TI.ct TI.cm), TI.ki, true, rfl, iteT ?_⟩
    refine ⟨_, rfl, p, C, dx, _, _, rfl, hp, T.cl, T.nB, albF_b b n d, _, rfl, p2, C, dx2, _, _, rfl, hp2, T.cl, T.nB, albF_b b2 n2 d2, bookD sets, bookD sets, dp_book bk, dp_book bk2, shaped_of lb (depth_book _) (by decide), shaped_of lb (depth_book _) (by decide), _, rfl, ?_⟩
    rw [SeqAt.eqv_refl _ lb]
    refine iteT ⟨_, rfl, p, C, dx, _, _, rfl, hp, T.cl, T.nM, albF_m b n d, _, rfl, p2, C, dx2, _, _, rfl, hp2, T.cl, T.nM, albF_m b2 n2 d2, d, d2, cs.map kcC, cs2.map kcC, rfl, rfl, ?_, ?_, q⟩
    · rw [List.map_map]
      exact hd
    · rw [List.map_map]
      exact hd2
theorem sc_tak : FnScope ["self", "stamp", "many", "left"] ["self", "stamp", "many"] (defScope sTak) := ⟨rfl, rfl, rfl, by decide +kernel, rfl, by decide +kernel, by decide +kernel⟩
abbrev FTak (K : PySem.W.Frag) (f : Addr) (fd : FuncData) : Prop := FunD K "take" "Album.take" (defArgs sTak) (defBody sTak) (defScope sTak) [.int 1] [] f fd
theorem ok_tak {f C fS fO : Addr} {fd fdS fdO : FuncData} (F : FTak K f fd) (T : TxtAlb K mg C) (mS : Meth K C "_check_some" fS) (mO : Meth K C "count_of" fO)
    (GS : FnOk P w K mg base CX0 7 fS fdS ["self", "stamp", "many"] (spChs C)) (bS : Binds K fdS ["self", "stamp", "many"] [])
    (GO : FnOk P w K mg base CX0 7 fO fdO ["self", "stamp"] (spCof C)) (bO : Binds K fdO ["self", "stamp"] []) : FnOk P w K mg base CX0 8 f fd ["self", "stamp", "many"] (spTak C) := by
  refine FunD.ok0 F sc_tak (fun vs H Q E h => ?_) (fun cdv A outer s H vs Q E hr h => ?_)
  · obtain ⟨p, a, b, d, n, cs, sets, st, m, rfl, _⟩ := h
    rfl
  · obtain ⟨p, a, b, d, n, cs, sets, st, m, rfl, al, bk, ha, so, hm, hle, ok, q⟩ := h
    have hu := hu_of hr
    obtain ⟨⟨dx, hp⟩, hd⟩ := id al
    refine ⟨_, pss_cons (ps_expr (pe_meth (pv 0) T.cl mS GS hr bS .nil pass0 (pa_cons (pv 1) (pa_cons (pv 2) pa_nil))))
      (pss_cons (ps_set (i := 3) sc_tak.nd rfl (Or.inl rfl) (pe_op op_sub (pe_meth (pv 0) T.cl mO GO hr bO .nil pass0 (pa_cons (pv 1) pa_nil)) (pv 2)))
      (pss_cons (ps_if (pt_cmpR op_lt (pv 3) pe_int (nomark _)) pss_never pss_nil)
      (pss_one (ps_if (pt_cmpR op_eq (pv 3) pe_int (nomark _)) (pss_one (ps_ddelT hu (pe_fld (pv 0) rfl) (pv 1))) (pss_one (ps_dput hu (pe_fld (pv 0) rfl) (pv 1) (pv 3) rfl)))))), ?_⟩
    refine ⟨_, rfl, p, dx, _, rfl, hp, albF_no b n d (by decide +kernel) (by decide +kernel) (by decide +kernel), _, rfl, _, rfl, p, a, b, d, n, cs, sets, st, m, rfl, al, bk, ha, so, hm, fun H1 s1 => ?_⟩
    try dsimp only
    refine seqset ⟨_, rfl, p, dx, _, rfl, s1 _ _ hp, albF_no b n d (by decide +kernel) (by decide +kernel) (by decide +kernel), _, rfl, p, a, b, d, n, cs, sets, st, rfl, al.same s1, bk.same s1, s1 _ _ ha, so, fun H2 s2 => ⟨_, rfl, _, _, rfl, rfl, ?_⟩⟩
    try dsimp only
    have s12 := s1.trans s2
    have hd2 := s12 _ _ hd
    have ln := ok.len bk.1
    have ha2 := s12 _ _ ha
    refine ⟨_, rfl, _, _, rfl, rfl, _, rfl, ite2 (fun z => ?_) (fun _ => ?_)⟩
    · have z' := of_decide_eq_true z
      omega
    try unfold tNext
    try dsimp only
    refine ⟨_, rfl, rfl, _, rfl, ite2 (fun z => ?_) (fun z => ?_)⟩
    · have z' : cntM cs st - m = 0 := by simpa using z
      have ev : (valV (cs.map entC) (keyS st)).isSome = true := by
        rw [valV_ent, isS_map]
        cases e : getC cs st with
        | some _ => rfl
        | none =>
          unfold cntM at hle
          rw [e] at hle
          have : m ≤ 0 := hle
          omega
      refine ⟨_, rfl, p, C, dx, _, _, rfl, s12 _ _ hp, T.cl, T.nM, albF_m b n d, _, rfl, d, a, _, keyS st, rfl, rfl, hd2, ha2, ev, ?_⟩
      refine q _ (fun c o hc e => by rw [upd_ne hc]; exact s12 _ _ e) ⟨⟨dx, by rw [upd_ne al.ne]; exact s12 _ _ hp⟩, ?_⟩
      rw [upd_same, drop_entC]
      unfold takeC
      rw [if_pos z']
    · have z' : ¬ cntM cs st - m = 0 := by simpa using z
      refine ⟨_, rfl, _, rfl, p, C, dx, _, _, rfl, s12 _ _ hp, T.cl, T.nM, albF_m b n d, _, rfl, d, _, rfl, DPut.t (k := keyS st) hd2 ha2 (by rw [List.length_map]; exact small1000 (by omega)), ?_⟩
      refine q _ (fun c o hc e => by rw [upd_ne hc]; exact s12 _ _ e) ⟨⟨dx, by rw [upd_ne al.ne]; exact s12 _ _ hp⟩, ?_⟩
      rw [upd_same, put_entC]
      unfold takeC
      rw [if_neg z']
end
end Hm

set_option Elab.async false
set_option maxRecDepth 100000
set_option maxHeartbeats 4000000
namespace Hm
open PySem PySem.Spec PyProof.Rows L2 HmS HmQ RZ
/-! ### sums -/
theorem sum_perm {l m : List Int} (p : l.Perm m) : l.sum = m.sum := by
  induction p with
  | nil => rfl
  | cons x _ ih => simp [ih]
  | swap x y l => simp only [List.sum_cons]; omega
  | trans _ _ h1 h2 => exact h1.trans h2
theorem sum_zero {α : Type} (f : α → Int) : ∀ l : List α, (∀ x ∈ l, f x = 0) → (l.map f).sum = 0
  | [], _ => rfl
  | x :: r, h => by
    rw [List.map_cons, List.sum_cons, h x List.mem_cons_self, sum_zero f r fun y hy => h y (List.mem_cons_of_mem _ hy)]
    rfl
theorem sum_filter {α : Type} (f : α → Int) (p : α → Bool) : ∀ l : List α, (∀ x ∈ l, p x = false → f x = 0) → ((l.filter p).map f).sum = (l.map f).sum
  | [], _ => rfl
  | x :: r, h => by
    have ih := sum_filter f p r fun y hy => h y (List.mem_cons_of_mem _ hy)
    by_cases c : p x = true
    · rw [List.filter_cons_of_pos c, List.map_cons, List.map_cons, List.sum_cons, List.sum_cons, ih]
    · rw [List.filter_cons_of_neg c, List.map_cons, List.sum_cons, ih, h x List.mem_cons_self (by simpa using c), Int.zero_add]
theorem sum_flat {α β : Type} (f : β → Int) (g : α → List β) : ∀ l : List α, ((l.flatMap g).map f).sum = (l.map fun x => ((g x).map f).sum).sum
  | [] => rfl
  | x :: r => by
    rw [List.flatMap_cons, List.map_append, List.sum_append, sum_flat f g r, List.map_cons, List.sum_cons]
theorem sum_congr {α : Type} {f g : α → Int} {l : List α} (h : ∀ x ∈ l, f x = g x) : (l.map f).sum = (l.map g).sum := by
  rw [List.map_congr_left h]
theorem sum_add {α : Type} (f g : α → Int) : ∀ l : List α, (l.map fun x => f x + g x).sum = (l.map f).sum + (l.map g).sum
  | [] => rfl
  | x :: r => by
    have := sum_add f g r
    simp only [List.map_cons, List.sum_cons] at this ⊢
    omega
/-! ### all stamps of a list -/
theorem allSt_mem {sets : List SetT} {s : StT} (h : StOk sets s) : s ∈ allSt sets := by
  have g0 := h.g0
  have g1 := h.g1
  refine List.mem_flatMap.mpr ⟨(s.1, s.2.1), h.pl, ?_⟩
  have : s.2.2 = 0 ∨ s.2.2 = 1 := by omega
  rcases this with z | z
  · exact List.mem_cons.mpr (.inl (Prod.ext rfl (Prod.ext rfl z)))
  · exact List.mem_cons.mpr (.inr (List.mem_singleton.mpr (Prod.ext rfl (Prod.ext rfl z))))
theorem places_nd : ∀ (sets : List SetT) (k : Nat), (placesM k sets).Nodup
  | [], _ => List.nodup_nil
  | s :: r, k => by
    refine List.nodup_append.mpr ⟨?_, places_nd r (k + 1), fun x hx y hy z => ?_⟩
    · unfold rowP
      rw [List.Nodup, List.pairwise_map]
      refine List.nodup_range.imp fun {a b} h z => h ?_
      have := (Prod.mk.inj z).2
      omega
    · obtain ⟨i, t, _, e, _⟩ := placesM_mem.mp hy
      obtain ⟨j, _, rfl⟩ := List.mem_map.mp hx
      have : ((k : Nat) : Int) = y.1 := by rw [← z]
      omega
theorem allSt_nd (sets : List SetT) : (allSt sets).Nodup := by
  unfold allSt
  have key : ∀ l : List PlT, l.Nodup → (l.flatMap two).Nodup := by
    intro l
    induction l with
    | nil => intro _; exact List.nodup_nil
    | cons p r ih =>
      intro h
      rw [List.nodup_cons] at h
      rw [List.flatMap_cons]
      refine List.nodup_append.mpr ⟨by simp [two], ih h.2, fun x hx y hy z => ?_⟩
      subst z
      obtain ⟨p', hp', hx'⟩ := List.mem_flatMap.mp hy
      have e : p' = p := by
        simp only [two, List.mem_cons, List.not_mem_nil, or_false] at hx hx'
        rcases hx with rfl | rfl <;> rcases hx' with e | e <;> (injection e with e1 e2; injection e2 with e2 e3; exact Prod.ext e1.symm e2.symm)
      exact h.1 (e ▸ hp')
  exact key _ (places_nd sets 0)
/-- a sum over the counts is one over all stamps -/
theorem sum_counts {sets : List SetT} {cs : CtT} (ok : CtOk sets cs) (f : StT → Int) (h0 : ∀ s, cntM cs s = 0 → f s = 0) : (cs.map fun c => f c.1).sum = ((allSt sets).map f).sum := by
  have e1 : (cs.map fun c => f c.1).sum = ((cs.map (·.1)).map f).sum := by rw [List.map_map]; rfl
  have p : ((allSt sets).filter fun s => decide (s ∈ cs.map (·.1))).Perm (cs.map (·.1)) := by
    refine (List.perm_ext_iff_of_nodup ((allSt_nd sets).filter _) ok.nd).mpr fun s => ?_
    rw [List.mem_filter, decide_eq_true_iff]
    refine ⟨fun h => h.2, fun h => ⟨?_, h⟩⟩
    obtain ⟨c, hc, rfl⟩ := List.mem_map.mp h
    exact allSt_mem (ok.st c hc)
  rw [e1, ← sum_perm (p.map f)]
  refine sum_filter f _ _ fun s _ hs => h0 s (cnt_no ?_)
  exact of_decide_eq_false hs
theorem cnt_ent {sets : List SetT} {cs : CtT} (ok : CtOk sets cs) {c : StT × Int} (h : c ∈ cs) : cntM cs c.1 = c.2 := by
  unfold cntM
  rw [getC_of ok.nd (show (c.1, c.2) ∈ cs from h)]
  rfl
def sumC (cs : CtT) : Int := (cs.map (·.2)).sum
theorem sumC_all {sets : List SetT} {cs : CtT} (ok : CtOk sets cs) : sumC cs = ((allSt sets).map (cntM cs)).sum := by
  rw [← sum_counts ok (cntM cs) fun s h => h]
  exact sum_congr fun c hc => (cnt_ent ok hc).symm
theorem sumC_rise (cs : CtT) : sumC (riseM cs) = sumC cs := sum_perm ((riseM_perm cs).map _)
def keptF (cs : CtT) (s : StT) : Int := if cntM cs s = 0 then 0 else keptM cs s
theorem sumC_dbls {sets : List SetT} {cs : CtT} (ok : CtOk sets cs) : sumC (dblsM cs) = sumC cs - ((allSt sets).map (keptF cs)).sum := by
  have e1 : sumC (dblsM cs) = ((riseM cs).map fun c => cntM cs c.1 - keptF cs c.1).sum := by
    unfold sumC dblsM
    rw [sum_flat]
    refine sum_congr fun c hc => ?_
    have hc' : c ∈ cs := (riseM_perm cs).mem_iff.mp hc
    have p := ok.pos c hc'
    have k1 : keptM cs c.1 ≤ 1 := by unfold keptM; split <;> omega
    have e := cnt_ent ok hc'
    have kf : keptF cs c.1 = keptM cs c.1 := by unfold keptF; rw [if_neg (by omega)]
    unfold dblM
    rw [e, kf]
    by_cases h : c.2 > keptM cs c.1
    · rw [if_pos h]
      simp
    · rw [if_neg h]
      simp
      omega
  have e2 : ((riseM cs).map fun c => cntM cs c.1 - keptF cs c.1).sum = (cs.map fun c => cntM cs c.1 - keptF cs c.1).sum := sum_perm ((riseM_perm cs).map _)
  rw [e1, e2, sum_counts ok (fun s => cntM cs s - keptF cs s) fun s h => by unfold keptF; rw [if_pos h, h]; rfl, sumC_all ok]
  have h := sum_add (fun s => cntM cs s - keptF cs s) (keptF cs) (allSt sets)
  rw [show (fun x => cntM cs x - keptF cs x + keptF cs x) = cntM cs from funext fun s => by omega] at h
  omega
def hasI (cs : CtT) (p : PlT) : Int := if hasM cs p = true then 1 else 0
theorem kept_has {sets : List SetT} {cs : CtT} (ok : CtOk sets cs) (p : PlT) : ((two p).map (keptF cs)).sum = hasI cs p := by
  have p0 := cnt_pos ok (p.1, p.2, 0)
  have p1 := cnt_pos ok (p.1, p.2, 1)
  have e : ((two p).map (keptF cs)).sum = keptF cs (p.1, p.2, 0) + keptF cs (p.1, p.2, 1) := by simp [two]
  have k0 : keptF cs (p.1, p.2, 0) = if cntM cs (p.1, p.2, 0) = 0 then 0 else if cntM cs (p.1, p.2, 1) > 0 then 0 else 1 := by
    unfold keptF keptM
    by_cases b : cntM cs (p.1, p.2, 0) = 0
    · rw [if_pos b, if_pos b]
    · rw [if_neg b, if_neg b]
      by_cases a : cntM cs (p.1, p.2, 1) > 0
      · rw [if_pos ⟨rfl, a⟩, if_pos a]
      · rw [if_neg (fun z => a z.2), if_neg a]
  have k1 : keptF cs (p.1, p.2, 1) = if cntM cs (p.1, p.2, 1) = 0 then 0 else 1 := by
    unfold keptF keptM
    by_cases b : cntM cs (p.1, p.2, 1) = 0
    · rw [if_pos b, if_pos b]
    · rw [if_neg b, if_neg b, if_neg (fun z => (by decide : ¬ ((1 : Int) = 0)) z.1)]
  rw [e, k0, k1]
  unfold hasI hasM
  by_cases b : cntM cs (p.1, p.2, 0) = 0
  · rw [if_pos b]
    by_cases a : cntM cs (p.1, p.2, 1) = 0
    · rw [if_pos a, if_neg (by rw [decide_eq_true_iff]; omega)]
      rfl
    · rw [if_neg a, if_pos (decide_eq_true (by omega))]
      rfl
  · rw [if_neg b]
    by_cases a : cntM cs (p.1, p.2, 1) = 0
    · rw [if_pos a, if_neg (by omega), if_pos (decide_eq_true (by omega))]
      rfl
    · rw [if_neg a, if_pos (by omega), if_pos (decide_eq_true (by omega))]
      rfl
theorem sum_places {cs : CtT} : ∀ (sets : List SetT) (k : Nat), ((placesM k sets).map (hasI cs)).sum = ((List.range sets.length).map fun i => (((List.range (manyM sets i)).map fun (j : Nat) => hasI cs (((k + i : Nat) : Int), (j : Int)))).sum).sum
  | [], _ => rfl
  | s :: r, k => by
    rw [List.length_cons, List.range_succ_eq_map, List.map_cons, List.sum_cons, List.map_map]
    show ((rowP k s ++ placesM (k + 1) r).map (hasI cs)).sum = _
    rw [List.map_append, List.sum_append, sum_places r (k + 1)]
    congr 1
    · unfold rowP
      rw [List.map_map]
      rfl
    · refine sum_congr fun i _ => ?_
      show _ = (((List.range (manyM (s :: r) (i + 1))).map fun (j : Nat) => hasI cs (((k + (i + 1) : Nat) : Int), (j : Int)))).sum
      rw [show manyM (s :: r) (i + 1) = manyM r i from rfl, show k + (i + 1) = k + 1 + i by omega]
theorem gaps_len (sets : List SetT) (cs : CtT) (i : Nat) : (manyM sets i : Int) - ((gapsM sets cs i).length : Int) = ((List.range (manyM sets i)).map fun (j : Nat) => hasI cs ((i : Int), (j : Int))).sum := by
  unfold gapsM
  have key : ∀ l : List Nat, ((l.length : Nat) : Int) - ((((l.map fun (k : Nat) => (k : Int)).filter fun k => !hasM cs ((i : Int), k)).length : Nat) : Int) = (l.map fun (j : Nat) => hasI cs ((i : Int), (j : Int))).sum := by
    intro l
    induction l with
    | nil => rfl
    | cons x r ih =>
      simp only [List.map_cons, List.sum_cons, List.length_cons]
      by_cases c : hasM cs ((i : Int), (x : Int)) = true
      · rw [List.filter_cons_of_neg (by simp [c])]
        unfold hasI at ih ⊢
        rw [if_pos c]
        omega
      · rw [List.filter_cons_of_pos (by simp [c]), List.length_cons]
        unfold hasI at ih ⊢
        rw [if_neg c]
        omega
  have := key (List.range (manyM sets i))
  rw [List.length_range] at this
  exact this
/-- all stamps are the doubles and one of each place there -/
theorem sums_right {sets : List SetT} {cs : CtT} (ok : CtOk sets cs) : sumC (riseM cs) = sumC (dblsM cs) + ((List.range sets.length).map fun (i : Nat) => (manyM sets i : Int) - ((gapsM sets cs i).length : Int)).sum := by
  have e1 := sumC_dbls ok
  have e2 : ((allSt sets).map (keptF cs)).sum = ((placesM 0 sets).map (hasI cs)).sum := by
    unfold allSt
    rw [sum_flat]
    exact sum_congr fun p _ => kept_has ok p
  have e3 := sum_places (cs := cs) sets 0
  have e4 : ((List.range sets.length).map fun (i : Nat) => (manyM sets i : Int) - ((gapsM sets cs i).length : Int)).sum = ((List.range sets.length).map fun i => (((List.range (manyM sets i)).map fun (j : Nat) => hasI cs (((0 + i : Nat) : Int), (j : Int)))).sum).sum :=
    sum_congr fun i _ => by rw [gaps_len, Nat.zero_add]
  rw [sumC_rise, e4, ← e3, ← e2]
  omega
/-! ### gaps of both -/
theorem cnt_sum_pos {sets : List SetT} {cs : CtT} (ok : CtOk sets cs) (p : PlT) : 0 ≤ cntM cs (p.1, p.2, 0) + cntM cs (p.1, p.2, 1) := by
  have p0 := cnt_pos ok (p.1, p.2, 0)
  have p1 := cnt_pos ok (p.1, p.2, 1)
  omega
theorem has_join {sets : List SetT} {cs ds : CtT} (oc : CtOk sets cs) (od : CtOk sets ds) (p : PlT) : hasM (joinM cs ds) p = (hasM cs p || hasM ds p) := by
  have a := cnt_sum_pos oc p
  have b := cnt_sum_pos od p
  unfold hasM
  rw [cnt_join oc od, cnt_join oc od, ← Bool.decide_or]
  exact decide_eq_decide.mpr (by omega)
theorem gaps_join {sets : List SetT} {cs ds : CtT} (oc : CtOk sets cs) (od : CtOk sets ds) (i : Nat) : gapsM sets (joinM cs ds) i = (gapsM sets cs i).filter fun k => decide (k ∈ gapsM sets ds i) := by
  unfold gapsM
  rw [List.filter_filter]
  refine List.filter_congr fun k hk => ?_
  rw [has_join oc od]
  by_cases c : hasM cs ((i : Int), k) = true
  · simp [c]
  · have c' : hasM cs ((i : Int), k) = false := by simpa using c
    rw [c', Bool.false_or]
    by_cases e : hasM ds ((i : Int), k) = true
    · rw [e]
      simp only [Bool.not_true, Bool.not_false, Bool.and_true]
      refine (decide_eq_false fun z => ?_).symm
      have := (List.mem_filter.mp z).2
      rw [e] at this
      cases this
    · have e' : hasM ds ((i : Int), k) = false := by simpa using e
      rw [e']
      simp only [Bool.not_false, Bool.and_true]
      exact (decide_eq_true (List.mem_filter.mpr ⟨hk, by rw [e']; rfl⟩)).symm
theorem whole_mem {sets : List SetT} {cs : CtT} {k : Int} : k ∈ wholeM sets cs ↔ ∃ i : Nat, i < sets.length ∧ k = (i : Int) ∧ gapsM sets cs i = [] := by
  unfold wholeM
  rw [List.mem_filter, List.mem_map]
  constructor
  · rintro ⟨⟨i, hi, rfl⟩, h⟩
    exact ⟨i, List.mem_range.mp hi, rfl, by simpa using h⟩
  · rintro ⟨i, hi, rfl, h⟩
    exact ⟨⟨i, List.mem_range.mpr hi, rfl⟩, by simpa using h⟩
theorem whole_join {sets : List SetT} {cs ds : CtT} (oc : CtOk sets cs) (od : CtOk sets ds) {k : Int} (h : k ∈ wholeM sets cs) : k ∈ wholeM sets (joinM cs ds) := by
  obtain ⟨i, hi, e, g⟩ := whole_mem.mp h
  exact whole_mem.mpr ⟨i, hi, e, by rw [gaps_join oc od, g]; rfl⟩
/-! ### parted and joined -/
theorem inI_or (iz : List Int) (cs : CtT) {sets : List SetT} (ok : CtOk sets cs) (s : StT) : cntM (partI iz cs) s + cntM (partO iz cs) s = cntM cs s := by
  unfold partI partO
  rw [cnt_filter (fun s => inI iz s.1), cnt_filter (fun s => !inI iz s.1), cnt_rise ok.nd]
  by_cases h : inI iz s.1 = true
  · rw [if_pos h, if_neg (by simp [h])]
    omega
  · rw [if_neg h, if_pos (by simpa using h)]
    omega
/-! ### what parts two albums -/
theorem apart_none {sets : List SetT} {cs ds : CtT} (oc : CtOk sets cs) (od : CtOk sets ds) : (apartM sets cs ds).isEmpty = eqM cs ds := by
  by_cases h : ∀ s, cntM cs s = cntM ds s
  · rw [(eqM_iff oc od).mpr h]
    unfold apartM
    rw [List.isEmpty_iff, List.filter_eq_nil_iff]
    intro r hr
    obtain ⟨s, _, rfl⟩ := List.mem_map.mp hr
    unfold apart1 apNe
    simp [h s]
  · have e : eqM cs ds = false := by
      cases x : eqM cs ds with
      | false => rfl
      | true => exact absurd ((eqM_iff oc od).mp x) h
    rw [e]
    obtain ⟨s, hs⟩ := Classical.not_forall.mp h
    have hm : s ∈ allSt sets := by
      by_cases a : s ∈ cs.map (·.1)
      · obtain ⟨c, hc, rfl⟩ := List.mem_map.mp a
        exact allSt_mem (oc.st c hc)
      · by_cases b : s ∈ ds.map (·.1)
        · obtain ⟨c, hc, rfl⟩ := List.mem_map.mp b
          exact allSt_mem (od.st c hc)
        · exact absurd (by rw [cnt_no a, cnt_no b]) hs
    have : apart1 cs ds s ∈ apartM sets cs ds := List.mem_filter.mpr ⟨List.mem_map.mpr ⟨s, hm, rfl⟩, by
      unfold apart1 apNe
      simpa using hs⟩
    cases x : apartM sets cs ds with
    | nil =>
      rw [x] at this
      cases this
    | cons _ _ => rfl
theorem filter_one {α : Type} {x : α} (p : α → Bool) : ∀ {l : List α}, l.Nodup → x ∈ l → (∀ y ∈ l, p y = true ↔ y = x) → l.filter p = [x]
  | a :: r, nd, hx, h => by
    rw [List.nodup_cons] at nd
    by_cases e : a = x
    · subst e
      rw [List.filter_cons_of_pos ((h a List.mem_cons_self).mpr rfl)]
      congr 1
      rw [List.filter_eq_nil_iff]
      intro y hy hp
      exact nd.1 (((h y (List.mem_cons_of_mem _ hy)).mp hp) ▸ hy)
    · rw [List.filter_cons_of_neg (fun z => e ((h a List.mem_cons_self).mp z))]
      refine filter_one p nd.2 ?_ fun y hy => h y (List.mem_cons_of_mem _ hy)
      rcases List.mem_cons.mp hx with z | z
      · exact absurd z.symm e
      · exact z
theorem apart_one {sets : List SetT} {cs ds : CtT} {s : StT} (hs : StOk sets s) (h : ∀ t, t ≠ s → cntM cs t = cntM ds t) (hd : cntM cs s ≠ cntM ds s) : apartM sets cs ds = [(s, cntM cs s, cntM ds s)] := by
  have e : (allSt sets).filter (fun t => apNe (apart1 cs ds t)) = [s] := by
    refine filter_one _ (allSt_nd sets) (allSt_mem hs) fun t _ => ?_
    unfold apart1 apNe
    by_cases z : t = s
    · subst z
      simp [hd]
    · simp [z, h t z]
  unfold apartM
  rw [List.filter_map]
  show ((allSt sets).filter (fun t => apNe (apart1 cs ds t))).map (apart1 cs ds) = _
  rw [e]
  rfl
theorem dbls_ext {sets : List SetT} {cs ds : CtT} (oc : CtOk sets cs) (od : CtOk sets ds) (h : ∀ s, cntM cs s = cntM ds s) : dblsM cs = dblsM ds := by
  unfold dblsM
  rw [rise_ext oc od h]
  have : dblM cs = dblM ds := by
    funext c
    unfold dblM keptM
    rw [h]
  rw [this]
end Hm

set_option Elab.async false
set_option maxRecDepth 100000
set_option maxHeartbeats 8000000
namespace Hm
open PySem PySem.Spec PyProof.Rows L2 HmS HmQ RZ
abbrev stSum : Stmt := topSt 56 -- row _law_sums_right
def spSums (C : Addr) : Sp := fun vs H Q _ => ∃ (p b d : Addr) (n : Str) (cs : CtT) (sets : List SetT), vs = [.ref p, .ref b] ∧ AlbAt C H p b n d cs ∧ Book H b sets ∧ CtOk sets cs ∧ ∀ H', Same H H' → Q (.bl true) H'
section
variable {P : Program} {w : World} {K : PySem.W.Frag} {mg : Str → Option Value} {base : Heap}
abbrev nSum : List Str := ["_law_album", "_law_sets", "_law_there", "_law_places_here", "_law_stamp", "_law_many", "_law_at"]
theorem sc_sum : FnScope nSum ["_law_album", "_law_sets"] (defScope stSum) := ⟨rfl, rfl, rfl, by decide +kernel, rfl, by decide +kernel, by decide +kernel⟩
theorem dbls_len (cs : CtT) : (dblsM cs).length ≤ cs.length := by
  have key : ∀ l : CtT, (l.flatMap (dblM cs)).length ≤ l.length := by
    intro l
    induction l with
    | nil => exact Nat.le_refl _
    | cons c r ih =>
      rw [List.flatMap_cons, List.length_append, List.length_cons]
      have : (dblM cs c).length ≤ 1 := by unfold dblM; split <;> simp
      omega
  have := key (riseM cs)
  rw [(riseM_perm cs).length_eq] at this
  exact this
theorem ok_sum {f C fA fG fD fW : Addr} {fd fdA fdG fdD fdW : FuncData} (F : Fun K "_law_sums_right" "_law_sums_right" stSum f fd) (T : TxtAlb K mg C) (hs : mg "sum" = none) (hl : mg "len" = none) (hrg : mg "range" = none)
    (mA : Meth K C "all_of" fA) (mG : Meth K C "gaps" fG) (mD : Meth K C "doubles" fD) (mW : Meth K C "whole_sets" fW)
    (GA : FnOk P w K mg base CX0 1 fA fdA ["self"] (spAof C)) (bA : Binds K fdA ["self"] []) (GG : FnOk P w K mg base CX0 4 fG fdG ["self", "place"] (spGaA C)) (bG : Binds K fdG ["self", "place"] [])
    (GD : FnOk P w K mg base CX0 2 fD fdD ["self"] (spDbA C)) (bD : Binds K fdD ["self"] []) (GW : FnOk P w K mg base CX0 5 fW fdW ["self"] (spWho C)) (bW : Binds K fdW ["self"] []) :
    FnOk P w K mg base CX0 6 f fd ["_law_album", "_law_sets"] (spSums C) := by
  refine F.ok sc_sum (fun vs H Q E h => ?_) (fun cdv A outer s H vs Q E hr h => ?_)
  · obtain ⟨p, b, d, n, cs, sets, rfl, _⟩ := h
    rfl
  · obtain ⟨p, b, d, n, cs, sets, rfl, al, bk, ok, q⟩ := h
    have hu := hu_of hr
    have h1 : Room 1 _ := hr.mono (by decide)
    have h2 : Room 2 _ := hr.mono (by decide)
    have h4 : Room 4 _ := hr.mono (by decide)
    refine ⟨_, pss_cons (ps_set (i := 2) sc_sum.nd rfl (Or.inl rfl) (pe_callB (cr_sum rfl) (by rfl) hs (by decide +kernel) (pa_cons (pe_lc (own := [("_law_stamp", 4), ("_law_many", 5)]) (g := gTup K 2 (gCons (gName 4) (gCons (gName 5) gNil))) (tt := tYes) rfl sc_sum.nd (pi_list (pe_meth0 (pv 0) T.cl mA GA h1 bA .nil pass0))
          (blkOk_by (N := nSum) (sc := defScope stSum) (by decide +kernel)) (fun _ _ _ _ _ => by exact pg_tup rfl (pgs_cons (pg_name (i := 4) sc_sum.nd rfl (Or.inl rfl)) (pgs_cons (pg_name (i := 5) sc_sum.nd rfl (Or.inl rfl)) pgs_nil))) (fun _ _ _ _ _ => pts_nil) (fun _ _ _ _ _ => pv 5)) pa_nil)))
      (pss_cons (ps_set (i := 3) sc_sum.nd rfl (Or.inl rfl) (pe_callB (cr_sum rfl) (by rfl) hs (by decide +kernel) (pa_cons (pe_lc (own := [("_law_at", 6)]) (g := gName 6) (tt := tYes) (te := tOp (rI0 fun i j => .int (i - j)) (tOp (rIxT K) (tOp (rIxT K) (tVar 1) (tVar 6)) (tC (.int 2))) (tCB (fun xs H Q => ∃ p ys, xs = [V.ref p] ∧ (SqL K H p ys ∨ SqT K H p ys) ∧ Q (V.int ys.length) H) (tCons (tMeth C "gaps" (spGaA C) [] E0 (tVar 0) (tCons (tVar 6) tNil)) tNil))) rfl sc_sum.nd (pi_range1 (by rfl) hrg (pa_cons (pe_callB call_len_seq (by rfl) hl PySem.boot_len (pa_cons (pv 1) pa_nil)) pa_nil))
          (blkOk_by (N := nSum) (sc := defScope stSum) (by decide +kernel)) (fun _ _ _ _ _ => pg_name (i := 6) sc_sum.nd rfl (Or.inl rfl)) (fun _ _ _ _ _ => pts_nil)
          (fun _ _ _ _ _ => by exact pe_op op_sub (pe_ix (r := rIxT K) ix_tup (pe_ix (r := rIxT K) ix_tup (pv 1) (pv 6) (fun _ _ => rfl)) pe_int (fun _ _ => rfl)) (pe_callB call_len_seq (by rfl) hl PySem.boot_len (pa_cons (pe_meth (pv 0) T.cl mG GG h4 bG .nil pass0 (pa_cons (pv 6) pa_nil)) pa_nil)))) pa_nil)))
      (pss_cons (ps_if (pt_cmpR op_ne (pv 2) (pe_op op_add (pe_callB (cr_sum rfl) (by rfl) hs (by decide +kernel) (pa_cons (pe_lc (own := [("_law_stamp", 4), ("_law_many", 5)]) (g := gTup K 2 (gCons (gName 4) (gCons (gName 5) gNil))) (tt := tYes) rfl sc_sum.nd (pi_list (pe_meth0 (pv 0) T.cl mD GD h2 bD .nil pass0))
          (blkOk_by (N := nSum) (sc := defScope stSum) (by decide +kernel)) (fun _ _ _ _ _ => by exact pg_tup rfl (pgs_cons (pg_name (i := 4) sc_sum.nd rfl (Or.inl rfl)) (pgs_cons (pg_name (i := 5) sc_sum.nd rfl (Or.inl rfl)) pgs_nil))) (fun _ _ _ _ _ => pts_nil) (fun _ _ _ _ _ => pv 5)) pa_nil)) (pv 3)) (nomark _)) (pss_one (ps_ret pe_bl)) pss_nil)
      (pss_one (ps_ret (pe_cmpR (op_eqD hr.units) (pe_meth0 (pv 0) T.cl mW GW hr bW .nil pass0) (pe_lc (own := [("_law_at", 6)]) (g := gName 6) rfl sc_sum.nd (pi_range1 (by rfl) hrg (pa_cons (pe_callB call_len_seq (by rfl) hl PySem.boot_len (pa_cons (pv 1) pa_nil)) pa_nil))
          (blkOk_by (N := nSum) (sc := defScope stSum) (by decide +kernel)) (fun _ _ _ _ _ => pg_name (i := 6) sc_sum.nd rfl (Or.inl rfl))
          (fun _ _ _ _ _ => pts_one (pt_cmpR (r := L2.rEqD K) (op_eqD (by exact hr.units)) (pe_meth (pv 0) T.cl mG GG h4 bG .nil pass0 (pa_cons (pv 6) pa_nil)) (pe_lst pa_nil) (nomark _))) (fun _ _ _ _ _ => pv 6)) (nomark _)))))), ?_⟩
    obtain ⟨⟨dx, hp⟩, hd⟩ := id al
    obtain ⟨okB, bs, hb, pb⟩ := id bk
    have bl : bs.length = sets.length := Paired.length pb
    have ln := ok.len okB
    have b1 := okB.len1
    have hno : ∀ {m : Str}, ¬ m = "_many" → ¬ m = "_name" → ¬ m = "_book" → (albF b n d).lookup m = none := fun h1 h2 h3 => albF_no b n d h1 h2 h3
    have comp : ∀ (G : Hp) (l D : Addr) (rs : List Addr) (ks : CtT) (σ : L2.St) (Qd : Hp → Prop), G l = some (.lst (rs.map V.ref)) → Paired (RowAt G) rs ks → ks.length ≤ 400 → G D = none →
        (∃ a b' c' d' e' f' g', σ = [a, b', c', d', e', f', g']) → (∀ H', Same G H' → H' D = some (.lst ((ks.map (·.2)).map V.int)) → Qd H') →
        ∃ W : Nat → Nat → Hp → Prop, (∃ m, W 0 m (upd G D (.lst []))) ∧ ∀ i m H, W i m H →
          ((Itl K l).stop i H ∧ Qd H) ∨ ((Itl K l).go i H ∧ ∃ Nx : Hp → Prop, (∀ H', Nx H' → ∃ m', m' < m ∧ W (i + 1) m' H') ∧ ∀ x H', (Itl K l).yld i H x H' → (gTup K 2 (gCons (gName 4) (gCons (gName 5) gNil))) x (wipe σ [4, 5]) H' fun σ2 H2 => wipe σ2 [4, 5] = wipe σ [4, 5] ∧
            tYes σ2 H2 fun b H3 =>
            if b = true then tVar 5 σ2 H3 fun y H4 => ∃ acc, H4 D = some (.lst acc) ∧ acc.length < sizeLine ∧ Nx (upd H4 D (.lst (acc ++ [y]))) else Nx H3) := by
      rintro G l D rs ks σ Qd hlG pr lk hD ⟨a0, b0, c0, d0, e0, f0, g0, rfl⟩ hQ
      refine lc_list (K := K) (xs := rs.map V.ref) (fun i H' => Same G H' ∧ H' D = some (.lst (((ks.take i).map (·.2)).map V.int))) ⟨same_upd hD, upd_same⟩ (fun i H' _ pv => SqL.of (pv.1 _ _ hlG)) (fun i x H' hx pv => ?_) (fun H' pv => ?_)
      · rw [List.getElem?_map] at hx
        obtain ⟨r, hr', rfl⟩ : ∃ a, rs[i]? = some a ∧ V.ref a = x := by
          cases h : rs[i]? with
          | none =>
            rw [h] at hx
            cases hx
          | some a =>
            rw [h] at hx
            exact ⟨a, rfl, Option.some.inj hx⟩
        obtain ⟨sm, hDi⟩ := pv
        obtain ⟨c, hc, u, e1, e2⟩ := Paired.gl (rows_same sm pr) hr'
        have l1 := List.length_take_le' i ks
        refine ⟨r, _, rfl, SqT.of e1, rfl, _, _, rfl, _, _, rfl, rfl, rfl, yesT ⟨_, rfl, _, hDi, by rw [List.length_map, List.length_map]; exact small1000 (by omega), fun c o e => ?_, ?_⟩⟩
        · rw [upd_ne (ne_of_none e hD)]
          exact sm _ _ e
        · rw [upd_same, List.take_add_one, hc, List.map_append, List.map_append]
          rfl
      · obtain ⟨sm, hDi⟩ := pv
        rw [List.length_map, Paired.length pr, List.take_length] at hDi
        exact hQ H' sm hDi
    refine seqset ⟨_, rfl, p, dx, _, rfl, hp, hno (by decide +kernel) (by decide +kernel) (by decide +kernel), p, b, d, n, cs, rfl, al, by omega, fun H1 l rs s1 nl hl pr => ⟨l, rfl, ⟨_, SqL.of hl⟩, fun D hD => ?_⟩⟩
    refine comp H1 l D rs (riseM cs) _ _ hl pr (by rw [(riseM_perm cs).length_eq]; omega) hD ⟨_, _, _, _, _, _, _, rfl⟩ fun H2 s2 hD2 => ⟨D, _, rfl, SqL.of hD2, ?_⟩
    have s02 := s1.trans s2
    try unfold tNext
    try dsimp only
    refine seqset ⟨_, rfl, b, _, rfl, .inr (SqT.of (s02 _ _ hb)), ?_⟩
    rw [List.length_map, bl]
    refine ⟨_, rfl, by omega, by omega, fun D2 hE => lc_range (lo := 0) (n := sets.length) (fun k H' => Same H2 H' ∧ H' D2 = some (.lst (((List.range k).map fun (i : Nat) => (manyM sets i : Int) - ((gapsM sets cs i).length : Int)).map V.int)))
      ⟨same_upd hE, upd_same⟩ (fun k H' hk pv => ?_) (fun H3 pv => ?_)⟩
    · obtain ⟨sk, hDk⟩ := pv
      have e0 : (0 : Int) + (k : Int) = (k : Int) := Int.zero_add _
      obtain ⟨st, hst⟩ : ∃ st, sets[k]? = some st := ⟨_, List.getElem?_eq_getElem hk⟩
      obtain ⟨a, ha, hat⟩ := Paired.gt pb hst
      have so := okB.ok st (List.mem_of_getElem? hst)
      have m0 := so.m0
      have em : (manyM sets k : Int) = st.2.2 := by
        have : manyM sets k = st.2.2.toNat := by simp [manyM, hst]
        omega
      have sH := s02.trans sk
      refine ⟨rfl, yesT ?_⟩
      rw [e0]
      refine ⟨_, rfl, _, rfl, b, _, _, .ref a, rfl, rfl, SqT.of (sH _ _ hb), atI_nat (by rw [List.getElem?_map, ha]; rfl), a, _, _, .int st.2.2, rfl, rfl, SqT.of (sH _ _ hat), rfl, ?_⟩
      refine ⟨_, rfl, p, dx, _, rfl, sH _ _ hp, hno (by decide +kernel) (by decide +kernel) (by decide +kernel), _, rfl, p, b, d, n, cs, sets, k, rfl, al.same sH, bk.same sH, hk, ok.pos, fun H4 l4 s4 nl4 hl4 => ⟨l4, _, rfl, .inl (SqL.of hl4), _, _, rfl, rfl, _, s4 _ _ hDk, by rw [List.length_map, List.length_map, List.length_range]; exact small1000 (by omega), fun c o e => ?_, ?_⟩⟩
      · rw [upd_ne (ne_of_none e hE)]
        exact s4 _ _ (sk _ _ e)
      · rw [upd_same, List.range_succ, List.map_append, List.map_append, List.length_map]
        show _ = some (HO.lst (_ ++ [V.int ((manyM sets k : Int) - ((gapsM sets cs k).length : Int))]))
        rw [em]
    obtain ⟨s23, hD3⟩ := pv
    refine ⟨D2, _, rfl, SqL.of hD3, ?_⟩
    have s03 := s02.trans s23
    try unfold tNext
    try dsimp only
    have gr : ∀ c ∈ cs, 0 ≤ c.1.2.2 ∧ c.1.2.2 ≤ 1 := fun c hc => ⟨(ok.st c hc).g0, (ok.st c hc).g1⟩
    refine ⟨_, rfl, _, rfl, p, dx, _, rfl, s03 _ _ hp, hno (by decide +kernel) (by decide +kernel) (by decide +kernel), p, b, d, n, cs, rfl, al.same s03, by omega, ok.pos, gr, fun H4 l4 rs4 s4 nl4 hl4 pr4 => ⟨l4, rfl, ⟨_, SqL.of hl4⟩, fun D3 hD3 => ?_⟩⟩
    refine comp H4 l4 D3 rs4 (dblsM cs) _ _ hl4 pr4 (by have := dbls_len cs; omega) hD3 ⟨_, _, _, _, _, _, _, rfl⟩ fun H5 s5 hD5 => ⟨D3, _, rfl, SqL.of hD5, ?_⟩
    have s05 := s03.trans (s4.trans s5)
    have key := sums_right ok
    unfold sumC at key
    refine ⟨_, rfl, _, _, rfl, rfl, rfl, _, rfl, ite2 (fun c => absurd c (by rw [key]; simp)) (fun _ => ?_)⟩
    try unfold tNext
    try dsimp only
    refine ⟨_, rfl, p, dx, _, rfl, s05 _ _ hp, hno (by decide +kernel) (by decide +kernel) (by decide +kernel), p, b, d, n, cs, sets, rfl, al.same s05, bk.same s05, ok.pos, fun H6 lw s6 nw hw => ?_⟩
    have s06 := s05.trans s6
    refine ⟨_, rfl, b, _, rfl, .inr (SqT.of (s06 _ _ hb)), ?_⟩
    rw [List.length_map, bl]
    refine ⟨_, rfl, by omega, by omega, fun D4 hD4 => lc_range (lo := 0) (n := sets.length)
      (fun k H' => Same H6 H' ∧ H' D4 = some (.lst ((((List.range k).map fun (k : Nat) => (k : Int)).filter fun k => (gapsM sets cs k.toNat).isEmpty).map V.int))) ⟨same_upd hD4, upd_same⟩ (fun k H' hk pv => ?_) (fun H7 pv => ?_)⟩
    · obtain ⟨sk, hDk⟩ := pv
      have ln : ((((List.range k).map fun (k : Nat) => (k : Int)).filter fun k => (gapsM sets cs k.toNat).isEmpty).map V.int).length ≤ 4 := by
        have h1 := List.length_filter_le (fun k : Int => (gapsM sets cs k.toNat).isEmpty) ((List.range k).map fun (k : Nat) => (k : Int))
        rw [List.length_map, List.length_range] at h1
        rw [List.length_map]
        omega
      have es : ((List.range (k + 1)).map fun (k : Nat) => (k : Int)).filter (fun k => (gapsM sets cs k.toNat).isEmpty) = ((List.range k).map fun (k : Nat) => (k : Int)).filter (fun k => (gapsM sets cs k.toNat).isEmpty) ++ (if (gapsM sets cs k).isEmpty = true then [(k : Int)] else []) := by
        rw [List.range_succ, List.map_append, List.filter_append]
        congr 1
        rw [List.map_cons, List.map_nil, List.filter_cons, List.filter_nil, Int.toNat_natCast]
      have e0 : (0 : Int) + (k : Int) = (k : Int) := Int.zero_add _
      have sH := s06.trans sk
      refine ⟨rfl, ?_⟩
      rw [e0]
      refine ⟨_, rfl, p, dx, _, rfl, sH _ _ hp, hno (by decide +kernel) (by decide +kernel) (by decide +kernel), _, rfl, p, b, d, n, cs, sets, k, rfl, al.same sH, bk.same sH, hk, ok.pos, fun H8 l8 s8 nl8 hl8 => ⟨by show 0 ≤ sizeLine; decide, fun lz hlz => ?_⟩⟩
      have s9 := same_upd (o := .lst []) hlz
      refine ⟨intsD (gapsM sets cs k), .list [], dp_ints (s9 _ _ hl8), .lst (SqL.of upd_same) .nil, shaped_of (lay_ints _) (depth_ints _) (by decide), by decide, _, rfl, ?_⟩
      rw [eqv_nil]
      have hD9 := s9 _ _ (s8 _ _ hDk)
      have sH9 := sk.trans (s8.trans s9)
      refine ite2 (fun c => ?_) (fun c => ?_)
      · refine ⟨_, rfl, _, hD9, by rw [sizeLine_eq]; omega, fun x o e => ?_, ?_⟩
        · rw [upd_ne (ne_of_none e hD4)]
          exact sH9 _ _ e
        · rw [upd_same, es, if_pos c, List.map_append]
          rfl
      · refine ⟨sH9, ?_⟩
        rw [es, if_neg c, List.append_nil]
        exact hD9
    obtain ⟨s67, hD7⟩ := pv
    refine ⟨intsD (wholeM sets cs), intsD (wholeM sets cs), dp_ints (s67 _ _ hw), dp_ints hD7, shaped_of (lay_ints _) (depth_ints _) (by decide), shaped_of (lay_ints _) (depth_ints _) (by decide), ?_⟩
    rw [SeqAt.eqv_refl _ (lay_ints _)]
    exact q _ (s06.trans s67)
end
end Hm

set_option Elab.async false
set_option maxRecDepth 100000
set_option maxHeartbeats 20000000
namespace Hm
open PySem PySem.Spec PyProof.Rows L2 HmS HmQ RZ
abbrev stLaw : Stmt := topSt 57 -- row law
structure LawT (P : Program) (w : World) (K : PySem.W.Frag) (mg : Str → Option Value) (base : Heap) (C : Addr) (fC fP fD fL fS fJ fPt fPg fSr fI fPu fTk fCo fTw fDb fGa fWh fE : Addr)
    (dC dP dD dL dS dJ dPt dPg dSr dI dPu dTk dCo dTw dDb dGa dWh dE : FuncData) (ds2 : List Value) : Prop where
  range : mg "range" = none
  max : mg "max" = none
  min : mg "min" = none
  len : mg "len" = none
  tuple : mg "tuple" = none
  all : mg "all" = none
  al : TxtAlb K mg C
  mkI : Mk K C fI
  ow : OwnCmp K C fE
  gC : mg "_law_cell_at" = some (.ref fC)
  gP : mg "_law_pen" = some (.ref fP)
  gD : mg "_law_draw" = some (.ref fD)
  gL : mg "_law_list" = some (.ref fL)
  gS : mg "_law_stamps" = some (.ref fS)
  gJ : mg "joined" = some (.ref fJ)
  gPt : mg "parted" = some (.ref fPt)
  gPg : mg "parting" = some (.ref fPg)
  gSr : mg "_law_sums_right" = some (.ref fSr)
  kC : PySem.W.keepIn K (.ref fC) = true
  kP : PySem.W.keepIn K (.ref fP) = true
  kD : PySem.W.keepIn K (.ref fD) = true
  kL : PySem.W.keepIn K (.ref fL) = true
  kS : PySem.W.keepIn K (.ref fS) = true
  kJ : PySem.W.keepIn K (.ref fJ) = true
  kPt : PySem.W.keepIn K (.ref fPt) = true
  kPg : PySem.W.keepIn K (.ref fPg) = true
  kSr : PySem.W.keepIn K (.ref fSr) = true
  mPu : Meth K C "put" fPu
  mTk : Meth K C "take" fTk
  mCo : Meth K C "count_of" fCo
  mTw : Meth K C "twin" fTw
  mDb : Meth K C "doubles" fDb
  mGa : Meth K C "gaps" fGa
  mWh : Meth K C "whole_sets" fWh
  GC : FnOk P w K mg base CX0 1 fC dC ["_law_script", "_law_k"] (spCellAt K)
  GP : FnOk P w K mg base CX0 1 fP dP ["_law_cell"] spPenOf
  GD : FnOk P w K mg base CX0 1 fD dD ["_law_pen_here", "_law_bound"] spDrawn
  GL : FnOk P w K mg base CX0 2 fL dL ["_law_pen_here"] spListOf
  GS : FnOk P w K mg base CX0 2 fS dS ["_law_pen_here", "_law_sets", "_law_most"] spStms
  GJ : FnOk P w K mg base CX0 11 fJ dJ ["one", "other"] (spJnd C)
  GPt : FnOk P w K mg base CX0 10 fPt dPt ["album", "places"] (spPrt C)
  GPg : FnOk P w K mg base CX0 8 fPg dPg ["one", "other"] (spPtg C)
  GSr : FnOk P w K mg base CX0 6 fSr dSr ["_law_album", "_law_sets"] (spSums C)
  GI : FnOk P w K mg base CX0 7 fI dI ["self", "book", "name", "stamps"] (spInit C)
  GI0 : FnOk P w K mg base CX0 7 fI dI ["self", "book", "name", "stamps"] (spIni0 C)
  GPu : FnOk P w K mg base CX0 8 fPu dPu ["self", "stamp", "many"] (spPut C)
  GTk : FnOk P w K mg base CX0 8 fTk dTk ["self", "stamp", "many"] (spTak C)
  GCo : FnOk P w K mg base CX0 7 fCo dCo ["self", "stamp"] (spCof C)
  GTw : FnOk P w K mg base CX0 10 fTw dTw ["self"] (spTwn C)
  GDb : FnOk P w K mg base CX0 2 fDb dDb ["self"] (spDbA C)
  GGa : FnOk P w K mg base CX0 4 fGa dGa ["self", "place"] (spGaA C)
  GWh : FnOk P w K mg base CX0 5 fWh dWh ["self"] (spWho C)
  GE : FnOk P w K mg base CX0 1 fE dE ["self", "other"] (spEqA C)
  bC : Binds K dC ["_law_script", "_law_k"] []
  bP : Binds K dP ["_law_cell"] []
  bD : Binds K dD ["_law_pen_here", "_law_bound"] []
  bL : Binds K dL ["_law_pen_here"] []
  bS : Binds K dS ["_law_pen_here", "_law_sets", "_law_most"] []
  bJ : Binds K dJ ["one", "other"] []
  bPt : Binds K dPt ["album", "places"] []
  bPg : Binds K dPg ["one", "other"] []
  bSr : Binds K dSr ["_law_album", "_law_sets"] []
  bI : Binds K dI ["self", "book", "name", "stamps"] []
  bI2 : Binds K dI ["self", "book", "name", "stamps"] ds2
  rd2 : Vals [V.str "", V.non] ds2
  bPu : Binds K dPu ["self", "stamp", "many"] []
  bTk : Binds K dTk ["self", "stamp", "many"] []
  bCo : Binds K dCo ["self", "stamp"] []
  bTw : Binds K dTw ["self"] []
  bDb : Binds K dDb ["self"] []
  bGa : Binds K dGa ["self", "place"] []
  bWh : Binds K dWh ["self"] []
  bE : Binds K dE ["self", "other"] []
/-! ### what stands through a turn -/
structure K10 (C : Addr) (H : Hp) (pn b p1 d1 p2 d2 p3 d3 : Addr) (sets : List SetT) (c1 c2 c3 : CtT) : Prop where
  pen : PenAt H pn
  bk : Book H b sets
  o1 : AlbAt C H p1 b "a" d1 c1
  o2 : AlbAt C H p2 b "a" d2 c2
  o3 : AlbAt C H p3 b "a" d3 c3
section
variable {C : Addr} {H H' : Hp} {pn b p1 d1 p2 d2 p3 d3 : Addr} {sets : List SetT} {c1 c2 c3 : CtT}
theorem K10.keep (k : Keep pn H H') (pen' : PenAt H' pn) (x : K10 C H pn b p1 d1 p2 d2 p3 d3 sets c1 c2 c3) : K10 C H' pn b p1 d1 p2 d2 p3 d3 sets c1 c2 c3 := by
  obtain ⟨pen, bk, o1, o2, o3⟩ := x
  exact ⟨pen', bk.keep k pen, o1.keep k pen, o2.keep k pen, o3.keep k pen⟩
theorem K10.same (s : Same H H') (x : K10 C H pn b p1 d1 p2 d2 p3 d3 sets c1 c2 c3) : K10 C H' pn b p1 d1 p2 d2 p3 d3 sets c1 c2 c3 := x.keep (Same.keep s) (pen_same s x.pen)
theorem AlbAt.updL {p d D : Addr} {n : Str} {cs : CtT} {xs : List V} {o : HO} (h : AlbAt C H p b n d cs) (hD : H D = some (.lst xs)) : AlbAt C (upd H D o) p b n d cs := by
  obtain ⟨⟨dx, e⟩, f⟩ := h
  refine ⟨⟨dx, ?_⟩, ?_⟩
  · rw [upd_ne (fun z => by rw [z, hD] at e; cases e)]
    exact e
  · rw [upd_ne (fun z => by rw [z, hD] at f; cases f)]
    exact f
end
theorem eqv_apsNil (rs : List ApT) : PyData.eqv (apsD rs) (.list []) = rs.isEmpty := by
  cases rs with
  | nil => rfl
  | cons _ _ => rfl
theorem inV_int (k : Int) (is : List Int) : inV (.int k) (is.map V.int) = decide (k ∈ is) := by
  induction is with
  | nil => rfl
  | cons x r ih =>
    have e : inV (.int k) ((x :: r).map V.int) = (eqV (.int x) (.int k) || inV (.int k) (r.map V.int)) := rfl
    rw [e, ih]
    by_cases h : x = k
    · subst h
      simp [eqV]
    · have h' : ¬ k = x := fun z => h z.symm
      simp [eqV, h, h']
theorem gaps_small {sets : List SetT} (ok : BookOk sets) (cs : CtT) (i : Nat) : (gapsM sets cs i).length ≤ 6 := by
  have h1 := List.length_filter_le (fun k => !hasM cs ((i : Int), k)) ((List.range (manyM sets i)).map fun (k : Nat) => (k : Int))
  rw [List.length_map, List.length_range] at h1
  have h2 : manyM sets i ≤ 6 := by
    unfold manyM
    cases e : sets[i]? with
    | none => simp
    | some s =>
      have := (ok.ok s (List.mem_of_getElem? e)).m1
      show s.2.2.toNat ≤ 6
      omega
  show (List.filter _ _).length ≤ 6
  omega
abbrev nLaw : List Str := ["_law_script", "_law_k", "_law_pen_here", "_law_sets", "_law_one", "_law_two", "_law_three", "_law_kept", "_law_rest", "_law_both", "_law_at", "_law_twin", "_law_many", "_law_turn", "_law_number", "_law_album"]
theorem sc_law : FnScope nLaw ["_law_script"] (defScope stLaw) := ⟨rfl, rfl, rfl, by decide +kernel, rfl, by decide +kernel, by decide +kernel⟩
def spLaw (K : PySem.W.Frag) : Sp := fun vs H Q _ => ∃ (a : Addr) (ns : List Int), vs = [.ref a] ∧ SqL K H a (ns.map V.int) ∧ ns.length ≤ 63 ∧ ∀ H', Q (.bl true) H'
section
variable {P : Program} {w : World} {K : PySem.W.Frag} {mg : Str → Option Value} {base : Heap}
set_option linter.all false in
theorem ok_law {C : Addr} {fC fP fD fL fS fJ fPt fPg fSr fI fPu fTk fCo fTw fDb fGa fWh fE : Addr} {dC dP dD dL dS dJ dPt dPg dSr dI dPu dTk dCo dTw dDb dGa dWh dE : FuncData} {ds2 : List Value}
    (L : LawT P w K mg base C fC fP fD fL fS fJ fPt fPg fSr fI fPu fTk fCo fTw fDb fGa fWh fE dC dP dD dL dS dJ dPt dPg dSr dI dPu dTk dCo dTw dDb dGa dWh dE ds2)
    {f : Addr} {fd : FuncData} (F : Fun K "law" "law" stLaw f fd) : FnOk P w K mg base CX0 12 f fd ["_law_script"] (spLaw K) := by
  refine F.ok sc_law (fun vs H Q E h => ?_) (fun cdv A outer s H vs Q E hr h => ?_)
  · obtain ⟨a, ns, rfl, _⟩ := h
    rfl
  · obtain ⟨a, ns, rfl, hS, hlen, q⟩ := h
    have hu := hu_of hr
    have h1 : Room 1 _ := hr.mono (by decide)
    have h2 : Room 2 _ := hr.mono (by decide)
    have h4 : Room 4 _ := hr.mono (by decide)
    have h5 : Room 5 _ := hr.mono (by decide)
    have h6 : Room 6 _ := hr.mono (by decide)
    have h7 : Room 7 _ := hr.mono (by decide)
    have h8 : Room 8 _ := hr.mono (by decide)
    have h10 : Room 10 _ := hr.mono (by decide)
    refine ⟨_, pss_cons (ps_for PassesOwn.never rfl (pi_range1 (by rfl) L.range (pa_cons (pe_callB (call_max2 rfl) (by rfl) L.max boot_max (pa_cons pe_int (pa_cons (pe_callB (call_min2 rfl) (by rfl) L.min boot_min (pa_cons (pe_callB call_len_seq (by rfl) L.len boot_len (pa_cons (pv 0) pa_nil)) (pa_cons pe_int pa_nil))) pa_nil))) pa_nil)) (pg_name (i := 1) sc_law.nd rfl (Or.inl rfl))
        (pss_cons (ps_set (i := 2) sc_law.nd rfl (Or.inr rfl) (pe_call L.GP h1 (by rfl) L.gP L.kP L.bP .nil pass0 (pa_cons (pe_call L.GC h1 (by rfl) L.gC L.kC L.bC .nil pass0 (pa_cons (pv 0) (pa_cons (pv 1) pa_nil))) pa_nil)))
        (pss_cons (ps_set (i := 3) sc_law.nd rfl (Or.inr rfl) (pe_call L.GL h2 (by rfl) L.gL L.kL L.bL .nil pass0 (pa_cons (pv 2) pa_nil)))
        (pss_cons (ps_asg (pe_lc (own := [("_law_turn", 13)]) (g := gName 13) (tt := tYes) rfl sc_law.nd (pi_range1 (by rfl) L.range (pa_cons pe_int pa_nil)) (blkOk_by (N := nLaw) (sc := defScope stLaw) (by decide +kernel)) (fun _ _ _ _ _ => pg_name (i := 13) sc_law.nd rfl (Or.inl rfl)) (fun _ _ _ _ _ => pts_nil)
              (fun _ _ _ _ _ => pe_make L.mkI L.GI h8 (by rfl) L.al.mgC L.bI .nil pass0 (pa_cons (pv 3) (pa_cons pe_str (pa_cons (pe_call L.GS h2 (by rfl) L.gS L.kS L.bS .nil pass0 (pa_cons (pv 2) (pa_cons (pv 3) (pa_cons pe_int pa_nil)))) pa_nil)))))
            (pg_lst rfl (pgs_cons (pg_name (i := 4) sc_law.nd rfl (Or.inl rfl)) (pgs_cons (pg_name (i := 5) sc_law.nd rfl (Or.inr rfl)) (pgs_cons (pg_name (i := 6) sc_law.nd rfl (Or.inl rfl)) pgs_nil)))))
        (pss_cons (ps_if (PW.pt (pw_or (pt_cmpR (op_ownNe L.ow L.GE h2 L.bE pass0) (pe_call L.GJ hr (by rfl) L.gJ L.kJ L.bJ .nil pass0 (pa_cons (pv 4) (pa_cons (pv 5) pa_nil))) (pe_call L.GJ hr (by rfl) L.gJ L.kJ L.bJ .nil pass0 (pa_cons (pv 5) (pa_cons (pv 4) pa_nil))) (nomark _))
            (pw_or1 (pt_cmpR (op_ownNe L.ow L.GE h2 L.bE pass0) (pe_call L.GJ hr (by rfl) L.gJ L.kJ L.bJ .nil pass0 (pa_cons (pe_call L.GJ hr (by rfl) L.gJ L.kJ L.bJ .nil pass0 (pa_cons (pv 4) (pa_cons (pv 5) pa_nil))) (pa_cons (pv 6) pa_nil)))
              (pe_call L.GJ hr (by rfl) L.gJ L.kJ L.bJ .nil pass0 (pa_cons (pv 4) (pa_cons (pe_call L.GJ hr (by rfl) L.gJ L.kJ L.bJ .nil pass0 (pa_cons (pv 5) (pa_cons (pv 6) pa_nil))) pa_nil))) (nomark _))))) (pss_one (ps_ret pe_bl)) pss_nil)
        (pss_cons (ps_if (PW.pt (pw_or (pt_cmpR (op_ownNe L.ow L.GE h2 L.bE pass0) (pe_call L.GJ hr (by rfl) L.gJ L.kJ L.bJ .nil pass0 (pa_cons (pv 4) (pa_cons (pe_make L.mkI L.GI0 h8 (by rfl) L.al.mgC L.bI2 L.rd2 pass0 (pa_cons (pv 3) pa_nil)) pa_nil))) (pv 4) (nomark _))
            (pw_or1 (pt_cmpR (op_neD hr.units) (pe_cmpR (op_ownEq L.ow L.GE h1 L.bE pass0) (pv 4) (pv 5) (nomark _)) (pe_cmpR (op_eqD hr.units) (pe_call L.GPg h8 (by rfl) L.gPg L.kPg L.bPg .nil pass0 (pa_cons (pv 4) (pa_cons (pv 5) pa_nil))) (pe_lst pa_nil) (nomark _)) (nomark _))))) (pss_one (ps_ret pe_bl)) pss_nil)
        (pss_cons (ps_asg (pe_call L.GPt h10 (by rfl) L.gPt L.kPt L.bPt .nil pass0 (pa_cons (pv 4) (pa_cons (pe_callTy call_tuple_of (by rfl) L.tuple (by decide +kernel) (pa_cons (pe_lc (own := [("_law_at", 10)]) (g := gName 10) rfl sc_law.nd (pi_range1 (by rfl) L.range (pa_cons (pe_callB call_len_seq (by rfl) L.len boot_len (pa_cons (pv 3) pa_nil)) pa_nil))
              (blkOk_by (N := nLaw) (sc := defScope stLaw) (by decide +kernel)) (fun _ _ _ _ _ => pg_name (i := 10) sc_law.nd rfl (Or.inl rfl)) (fun _ _ _ _ _ => pts_one (pt_cmpR op_eq (pe_call L.GD h1 (by rfl) L.gD L.kD L.bD .nil pass0 (pa_cons (pv 2) (pa_cons pe_int pa_nil))) pe_int (nomark _))) (fun _ _ _ _ _ => pv 10)) pa_nil)) pa_nil)))
            (pg_tup rfl (pgs_cons (pg_name (i := 7) sc_law.nd rfl (Or.inl rfl)) (pgs_cons (pg_name (i := 8) sc_law.nd rfl (Or.inl rfl)) pgs_nil))))
        (pss_cons (ps_if (PW.pt (pw_or (pt_cmpR (op_ownNe L.ow L.GE h2 L.bE pass0) (pe_call L.GJ hr (by rfl) L.gJ L.kJ L.bJ .nil pass0 (pa_cons (pv 7) (pa_cons (pv 8) pa_nil))) (pv 4) (nomark _))
            (pw_or1 (pt_cmpR (op_ownNe L.ow L.GE h2 L.bE pass0) (pe_call L.GJ hr (by rfl) L.gJ L.kJ L.bJ .nil pass0 (pa_cons (pv 8) (pa_cons (pv 7) pa_nil))) (pv 4) (nomark _))))) (pss_one (ps_ret pe_bl)) pss_nil)
        (pss_cons (ps_set (i := 9) sc_law.nd rfl (Or.inr rfl) (pe_call L.GJ hr (by rfl) L.gJ L.kJ L.bJ .nil pass0 (pa_cons (pv 4) (pa_cons (pv 5) pa_nil))))
        (pss_cons (ps_for PassesOwn.never rfl (pi_range1 (by rfl) L.range (pa_cons (pe_callB call_len_seq (by rfl) L.len boot_len (pa_cons (pv 3) pa_nil)) pa_nil)) (pg_name (i := 10) sc_law.nd rfl (Or.inr rfl))
          (pss_one (ps_if (pt_cmpR (op_neD hr.units) (pe_meth (pv 9) L.al.cl L.mGa L.GGa h4 L.bGa .nil pass0 (pa_cons (pv 10) pa_nil))
            (pe_lc (own := [("_law_number", 14)]) (g := gName 14) rfl sc_law.nd (pi_list (pe_meth (pv 4) L.al.cl L.mGa L.GGa h4 L.bGa .nil pass0 (pa_cons (pv 10) pa_nil))) (blkOk_by (N := nLaw) (sc := defScope stLaw) (by decide +kernel)) (fun _ _ _ _ _ => pg_name (i := 14) sc_law.nd rfl (Or.inl rfl))
              (fun _ _ _ _ _ => pts_one (pt_cmpR (r := rIn K false) op_in_seq (pv 14) (pe_meth (pv 5) L.al.cl L.mGa L.GGa h4 L.bGa .nil pass0 (pa_cons (pv 10) pa_nil)) (by rfl))) (fun _ _ _ _ _ => pv 14)) (nomark _)) (pss_one (ps_ret pe_bl)) pss_nil)))
        (pss_cons (ps_if (pt_cmpR (op_neD hr.units) (pe_lc (own := [("_law_at", 10)]) (g := gName 10) rfl sc_law.nd (pi_list (pe_meth0 (pv 4) L.al.cl L.mWh L.GWh h5 L.bWh .nil pass0)) (blkOk_by (N := nLaw) (sc := defScope stLaw) (by decide +kernel)) (fun _ _ _ _ _ => pg_name (i := 10) sc_law.nd rfl (Or.inl rfl))
              (fun _ _ _ _ _ => pts_one (pt_cmpR (r := rIn K true) op_notIn_seq (pv 10) (pe_meth0 (pv 9) L.al.cl L.mWh L.GWh h5 L.bWh .nil pass0) (by rfl))) (fun _ _ _ _ _ => pv 10)) (pe_lst pa_nil) (nomark _)) (pss_one (ps_ret pe_bl)) pss_nil)
        (pss_cons (ps_if (pt_not (pt_val (pe_callB (cr_all rfl) (by rfl) L.all (by decide +kernel) (pa_cons (pe_lc (own := [("_law_album", 15)]) (g := gName 15) (tt := tYes) rfl sc_law.nd (pi_tup (pe_tup (pa_cons (pv 4) (pa_cons (pv 9) (pa_cons (pv 7) (pa_cons (pv 8) (pa_cons (pe_make L.mkI L.GI0 h8 (by rfl) L.al.mgC L.bI2 L.rd2 pass0 (pa_cons (pv 3) pa_nil)) pa_nil))))))) (blkOk_by (N := nLaw) (sc := defScope stLaw) (by decide +kernel)) (fun _ _ _ _ _ => pg_name (i := 15) sc_law.nd rfl (Or.inl rfl)) (fun _ _ _ _ _ => pts_nil)
              (fun _ _ _ _ _ => pe_call L.GSr h6 (by rfl) L.gSr L.kSr L.bSr .nil pass0 (pa_cons (pv 15) (pa_cons (pv 3) pa_nil)))) pa_nil)))) (pss_one (ps_ret pe_bl)) pss_nil)
        (pss_cons (ps_set (i := 11) sc_law.nd rfl (Or.inl rfl) (pe_meth0 (pv 4) L.al.cl L.mTw L.GTw h10 L.bTw .nil pass0))
        (pss_cons (ps_expr (pe_meth (pv 11) L.al.cl L.mPu L.GPu h8 L.bPu .nil pass0 (pa_cons (pe_tup (pa_cons pe_int (pa_cons pe_int (pa_cons pe_int pa_nil)))) (pa_cons pe_int pa_nil))))
        (pss_cons (ps_set (i := 12) sc_law.nd rfl (Or.inl rfl) (pe_meth (pv 4) L.al.cl L.mCo L.GCo h7 L.bCo .nil pass0 (pa_cons (pe_tup (pa_cons pe_int (pa_cons pe_int (pa_cons pe_int pa_nil)))) pa_nil)))
        (pss_cons (ps_if (PW.pt (pw_or (pt_cmpR (op_ownEq L.ow L.GE h1 L.bE pass0) (pv 11) (pv 4) (nomark _))
            (pw_or1 (pt_cmpR (op_neD hr.units) (pe_call L.GPg h8 (by rfl) L.gPg L.kPg L.bPg .nil pass0 (pa_cons (pv 11) (pa_cons (pv 4) pa_nil)))
              (pe_lst (pa_cons (pe_tup (pa_cons (pe_tup (pa_cons pe_int (pa_cons pe_int (pa_cons pe_int pa_nil)))) (pa_cons (pe_op op_add (pv 12) pe_int) (pa_cons (pv 12) pa_nil)))) pa_nil)) (nomark _))))) (pss_one (ps_ret pe_bl)) pss_nil)
        (pss_cons (ps_expr (pe_meth (pv 11) L.al.cl L.mTk L.GTk h8 L.bTk .nil pass0 (pa_cons (pe_tup (pa_cons pe_int (pa_cons pe_int (pa_cons pe_int pa_nil)))) (pa_cons pe_int pa_nil))))
        (pss_one (ps_if (PW.pt (pw_or (pt_cmpR (op_ownNe L.ow L.GE h2 L.bE pass0) (pv 11) (pv 4) (nomark _))
            (pw_or1 (pt_cmpR (op_neD hr.units) (pe_meth0 (pv 11) L.al.cl L.mDb L.GDb h2 L.bDb .nil pass0) (pe_meth0 (pv 4) L.al.cl L.mDb L.GDb h2 L.bDb .nil pass0) (nomark _))))) (pss_one (ps_ret pe_bl)) pss_nil))))))))))))))))))) (pss_one (ps_ret pe_bl)), ?_⟩
    have nA : NameOk "a" := ⟨by decide, by decide +kernel⟩
    refine ⟨_, rfl, a, _, rfl, .inl hS, _, _, rfl, _, _, rfl, _, rfl, by rw [List.length_map]; split <;> (try split) <;> omega, by rw [List.length_map]; split <;> (try split) <;> omega, ?_⟩
    refine for_range (lo := 0) (fun i σ H' => ∃ (v1 v2 v3 v4 v5 v6 v7 v8 v9 v10 v11 v12 v13 v14 v15 : Option V), σ = [some (.ref a), v1, v2, v3, v4, v5, v6, v7, v8, v9, v10, v11, v12, v13, v14, v15] ∧ SqL K H' a (ns.map V.int))
      ⟨none, none, none, none, none, none, none, none, none, none, none, none, none, none, none, rfl, hS⟩ ?turn ?fin
    case fin =>
      rintro σ H' ⟨v1, v2, v3, v4, v5, v6, v7, v8, v9, v10, v11, v12, v13, v14, v15, rfl, _⟩
      exact q H'
    case turn =>
    rintro i σ H0 hi ⟨v1, v2, v3, v4, v5, v6, v7, v8, v9, v10, v11, v12, v13, v14, v15, rfl, hS0⟩
    refine seqset ⟨_, rfl, _, rfl, a, ns, i, (by rw [Int.zero_add]; rfl), hS0, fun z => ⟨z, rfl, fun pn H1 npn pen1 but1 => ?_⟩⟩
    have s01 : Same H0 H1 := fun c o e => by rw [but1 c (ne_of_none e npn)]; exact e
    refine seqset ⟨_, rfl, pn, rfl, pen1, fun H2 b sets k2 pen2 bk2 => ?_⟩
    refine ⟨3, rfl, by decide, by decide, fun D hD => lc_range (lo := 0) (n := 3) (fun i H' => Keep pn H2 H' ∧ PenAt H' pn ∧ ∃ L3 : List (Addr × Addr × CtT), L3.length = i ∧ H' D = some (.lst (L3.map fun x => V.ref x.1)) ∧ ∀ x ∈ L3, AlbAt C H' x.1 b "a" x.2.1 x.2.2 ∧ CtOk sets x.2.2)
      ⟨keep_upd hD, pen_upd pen2 hD, [], rfl, upd_same, fun x hx => nomatch hx⟩ (fun i H' hi3 pv => ?_) (fun H3 pv => ?_)⟩
    · obtain ⟨kp, pn', L3, l3, hDk, al3⟩ := pv
      have bk' : Book H' b sets := bk2.keep kp pen2
      refine ⟨rfl, yesT ⟨_, rfl, _, rfl, _, rfl, pn, b, 8, sets, rfl, by decide, by decide, pn', bk', fun H4 t as ss k4 pen4 ht pr so lz => fun x dx hx hdx hxd => ?_⟩⟩
      have s5 : Same H4 (upd (upd H4 dx (.own x)) x (.ins C dx [])) := fun c o e => by rw [upd_ne (ne_of_none e hx), upd_ne (ne_of_none e hdx)]; exact e
      refine ⟨x, dx, b, t, "a", sets, as, ss, rfl, upd_same, (bk'.keep k4 pn').same s5, nA, s5 _ _ ht, st_same s5 pr, so, lz, fun H5 d1 k5 nd5 al5 => ⟨rfl, ?_⟩⟩
      have s45 : Same H4 H5 := fun c o e => k5 c o (ne_of_none e hx) (s5 _ _ e)
      have Dp : D ≠ pn := pen_ne_none pen2 hD
      have hD5 : H5 D = some (.lst (L3.map fun x => V.ref x.1)) := s45 _ _ (k4 _ _ Dp hDk)
      refine ⟨_, hD5, by rw [List.length_map]; exact small1000 (by omega), fun c o hc e => ?_, ?_, L3 ++ [(x, d1, countsM ss)], by rw [List.length_append, l3]; rfl, by rw [upd_same, List.map_append]; rfl, fun y hy => ?_⟩
      · rw [upd_ne (ne_of_none e hD)]
        exact s45 _ _ (k4 _ _ hc (kp _ _ hc e))
      · obtain ⟨x1, x2, x3, x4, e, rr⟩ := pen_same s45 pen4
        exact ⟨x1, x2, x3, x4, by rw [upd_ne (Ne.symm Dp)]; exact e, rr⟩
      · rcases List.mem_append.mp hy with h | h
        · have z := al3 y h
          exact ⟨((z.1.keep k4 pn').same s45).updL hD5, z.2⟩
        · rw [List.mem_singleton.mp h]
          exact ⟨al5.updL hD5, CtOk.of so⟩
    obtain ⟨k3, pen3, L3, l3, hD3, al3⟩ := pv
    obtain ⟨p1, d1, c1, p2, d2, c2, p3, d3, c3, rfl⟩ : ∃ p1 d1 c1 p2 d2 c2 p3 d3 c3, L3 = [(p1, d1, c1), (p2, d2, c2), (p3, d3, c3)] := by
      match L3, l3 with
      | [(p1, d1, c1), (p2, d2, c2), (p3, d3, c3)], _ => exact ⟨p1, d1, c1, p2, d2, c2, p3, d3, c3, rfl⟩
    obtain ⟨o1, oc1⟩ : AlbAt C H3 p1 b "a" d1 c1 ∧ CtOk sets c1 := al3 _ (List.mem_cons_self)
    obtain ⟨o2, oc2⟩ : AlbAt C H3 p2 b "a" d2 c2 ∧ CtOk sets c2 := al3 _ (List.mem_cons_of_mem _ List.mem_cons_self)
    obtain ⟨o3, oc3⟩ : AlbAt C H3 p3 b "a" d3 c3 ∧ CtOk sets c3 := al3 _ (List.mem_cons_of_mem _ (List.mem_cons_of_mem _ List.mem_cons_self))
    have kk : K10 C H3 pn b p1 d1 p2 d2 p3 d3 sets c1 c2 c3 := ⟨pen3, bk2.keep k3 pen2, o1, o2, o3⟩
    have s03 : Same H0 H3 := fun c o e =>
      have hc : c ≠ pn := ne_of_none e npn
      k3 _ _ hc (k2 _ _ hc (s01 _ _ e))
    clear al3 k2 s01 but1 pen1 pen2 bk2 o1 o2 o3
    refine ⟨D, _, rfl, SqL.of hD3, rfl, _, _, rfl, _, _, rfl, _, _, rfl, rfl, ?_⟩
    have okB := kk.bk.1
    have b0 := okB.len0
    have b1 := okB.len1
    have st0 : (0, 0) ∈ placesM 0 sets := by
      obtain ⟨s0, hs0⟩ : ∃ s0, sets[0]? = some s0 := ⟨_, List.getElem?_eq_getElem b0⟩
      have so := okB.ok s0 (List.mem_of_getElem? hs0)
      have m0 := so.m0
      exact placesM_mem.mpr ⟨0, s0, hs0, rfl, 0, by omega, rfl⟩
    have so1 : StOk sets (0, 0, 1) := ⟨st0, by show (0 : Int) ≤ 1; decide, Int.le_refl _⟩
    have j12 := joinM_ok oc1 oc2
    have j21 := joinM_ok oc2 oc1
    have j23 := joinM_ok oc2 oc3
    have hno : ∀ {b : Addr} {n : Str} {d : Addr} {m : Str}, ¬ m = "_many" → ¬ m = "_name" → ¬ m = "_book" → (albF b n d).lookup m = none := fun h1 h2 h3 => albF_no _ _ _ h1 h2 h3
    have E1 : (!eqM (joinM c1 c2) (joinM c2 c1)) = false := by
      rw [(eqM_iff j12 j21).mpr fun s => by rw [cnt_join oc1 oc2, cnt_join oc2 oc1]; omega]
      rfl
    have E2 : (!eqM (joinM (joinM c1 c2) c3) (joinM c1 (joinM c2 c3))) = false := by
      rw [(eqM_iff (joinM_ok j12 oc3) (joinM_ok oc1 j23)).mpr fun s => by rw [cnt_join j12 oc3, cnt_join oc1 j23, cnt_join oc1 oc2, cnt_join oc2 oc3]; omega]
      rfl
    have E3 : (!eqM (joinM c1 []) c1) = false := by
      rw [(eqM_iff (joinM_ok oc1 ct_nil) oc1).mpr fun s => by rw [cnt_join oc1 ct_nil]; show cntM c1 s + 0 = _; omega]
      rfl
    try dsimp only
    refine ⟨_, rfl, _, rfl, p1, b, d1, p2, d2, b, "a", "a", c1, c2, sets, rfl, kk.o1, kk.o2, kk.bk, nA, oc1, oc2, fun G1 x1 y1 g1 _ _ a1 => ?_⟩
    have kk1 := kk.same g1
    refine ⟨_, rfl, _, rfl, p2, b, d2, p1, d1, b, "a", "a", c2, c1, sets, rfl, kk1.o2, kk1.o1, kk1.bk, nA, oc2, oc1, fun G2 x2 y2 g2 _ _ a2 => ?_⟩
    have kk2 := kk1.same g2
    have a1' := a1.same g2
    obtain ⟨⟨dxa, ha⟩, _⟩ := id a1'
    obtain ⟨⟨dxb, hb⟩, _⟩ := id a2
    refine ⟨x1, x2, dxa, dxb, _, _, rfl, rfl, ha, hb, x1, b, y1, x2, b, y2, "a", "a", joinM c1 c2, joinM c2 c1, sets, rfl, a1', a2, kk2.bk, kk2.bk, _, rfl, _, rfl, ?_⟩
    rw [E1]
    refine iteF ?_
    clear ha hb a1' a1 a2
    refine ⟨_, rfl, _, rfl, p1, b, d1, p2, d2, b, "a", "a", c1, c2, sets, rfl, kk2.o1, kk2.o2, kk2.bk, nA, oc1, oc2, fun G3 x3 y3 g3 _ _ a3 => ?_⟩
    have kk3 := kk2.same g3
    refine ⟨_, rfl, x3, b, y3, p3, d3, b, "a", "a", joinM c1 c2, c3, sets, rfl, a3, kk3.o3, kk3.bk, nA, j12, oc3, fun G4 x4 y4 g4 _ _ a4 => ?_⟩
    have kk4 := kk3.same g4
    refine ⟨_, rfl, _, rfl, _, rfl, p2, b, d2, p3, d3, b, "a", "a", c2, c3, sets, rfl, kk4.o2, kk4.o3, kk4.bk, nA, oc2, oc3, fun G5 x5 y5 g5 _ _ a5 => ?_⟩
    have kk5 := kk4.same g5
    refine ⟨p1, b, d1, x5, y5, b, "a", "a", c1, joinM c2 c3, sets, rfl, kk5.o1, a5, kk5.bk, nA, oc1, j23, fun G6 x6 y6 g6 _ _ a6 => ?_⟩
    have kk6 := kk5.same g6
    have a4' := a4.same (g5.trans g6)
    obtain ⟨⟨dxa, ha⟩, _⟩ := id a4'
    obtain ⟨⟨dxb, hb⟩, _⟩ := id a6
    refine ⟨x4, x6, dxa, dxb, _, _, rfl, rfl, ha, hb, x4, b, y4, x6, b, y6, "a", "a", _, _, sets, rfl, a4', a6, kk6.bk, kk6.bk, _, rfl, _, rfl, ?_⟩
    rw [E2]
    refine iteF ?_
    have s06 : Same H0 G6 := s03.trans (g1.trans (g2.trans (g3.trans (g4.trans (g5.trans g6)))))
    clear ha hb a3 a4' a4 a5 a6 g1 g2 g3 g4 g5 g6 kk1 kk2 kk3 kk4 kk5 s03 hD3
    try unfold tNext
    try dsimp only
    -- Album(sets)
    refine ⟨_, rfl, _, rfl, fun x dx hx hdx hxd => ?_⟩
    have t1 : Same G6 (upd (upd G6 dx (.own x)) x (.ins C dx [])) := fun c o e => by rw [upd_ne (ne_of_none e hx), upd_ne (ne_of_none e hdx)]; exact e
    refine ⟨x, dx, b, "", sets, rfl, upd_same, kk6.bk.same t1, nameE, fun G7 d7 k7 _ al7 => ⟨rfl, ?_⟩⟩
    have s67 : Same G6 G7 := fun c o e => k7 c o (ne_of_none e hx) (t1 _ _ e)
    have kk7 := kk6.same s67
    refine ⟨p1, b, d1, x, d7, b, "a", "", c1, [], sets, rfl, kk7.o1, al7, kk7.bk, nA, oc1, ct_nil, fun G8 x8 y8 g8 _ _ a8 => ⟨_, rfl, ?_⟩⟩
    have kk8 := kk7.same g8
    obtain ⟨⟨dxa, ha⟩, _⟩ := id a8
    obtain ⟨⟨dx1, hp1⟩, _⟩ := id kk8.o1
    obtain ⟨⟨dx2, hp2⟩, _⟩ := id kk8.o2
    refine ⟨x8, p1, dxa, dx1, _, _, rfl, rfl, ha, hp1, x8, b, y8, p1, b, d1, "a", "a", joinM c1 [], c1, sets, rfl, a8, kk8.o1, kk8.bk, kk8.bk, _, rfl, _, rfl, ?_⟩
    rw [E3]
    refine iteF ?_
    refine ⟨_, rfl, _, rfl, p1, p2, dx1, dx2, _, _, rfl, rfl, hp1, hp2, p1, b, d1, p2, b, d2, "a", "a", c1, c2, sets, rfl, kk8.o1, kk8.o2, kk8.bk, kk8.bk, ?_⟩
    refine ⟨_, rfl, _, rfl, p1, b, d1, p2, b, d2, "a", "a", c1, c2, sets, rfl, kk8.o1, kk8.o2, kk8.bk, kk8.bk, fun G9 l9 as9 g9 _ hl9 pr9 => ⟨by show 0 ≤ sizeLine; decide, fun lz hlz => ?_⟩⟩
    have g10 : Same G9 (upd G9 lz (.lst [])) := same_upd hlz
    refine ⟨apsD (apartM sets c1 c2), .list [], dp_aps (g10 _ _ hl9) (ap_same g10 pr9), .lst (SqL.of upd_same) .nil, shaped_of (lay_aps _) (depth_aps _) (by decide), by decide, ?_⟩
    refine ⟨.bool (eqM c1 c2), .bool _, .bl _, .bl _, shaped_of (m := 1) rfl (by simp [PyData.depth]) (by decide), shaped_of (m := 1) rfl (by simp [PyData.depth]) (by decide), _, rfl, ?_⟩
    rw [eqv_apsNil, apart_none oc1 oc2, eqv_self rfl]
    refine iteF ?_
    have kk10 := kk8.same (g9.trans g10)
    have s010 : Same H0 (upd G9 lz (.lst [])) := s06.trans (s67.trans (g8.trans (g9.trans g10)))
    generalize upd G9 lz (.lst []) = G10 at g10 kk10 s010 ⊢
    clear g10 hlz pr9 hl9 g9 ha hp1 hp2 a8 g8 kk8 kk7 s67 al7 k7 t1 hx hdx hxd kk6 s06 kk
    try unfold tNext
    try dsimp only
    obtain ⟨_, bs, hb, pb⟩ := id kk10.bk
    have bl : bs.length = sets.length := Paired.length pb
    refine ⟨_, rfl, _, rfl, b, _, rfl, .inr (SqT.of hb), ?_⟩
    rw [List.length_map, bl]
    have pen10 := kk10.pen
    refine ⟨_, rfl, by omega, by omega, fun D hD => lc_range (lo := 0) (n := sets.length) (fun k H' => Keep pn G10 H' ∧ PenAt H' pn ∧ ∃ is : List Int, H' D = some (.lst (is.map V.int)) ∧ (∀ x ∈ is, 0 ≤ x ∧ x < (k : Int)) ∧ is.Pairwise (· < ·) ∧ is.length ≤ k)
      ⟨keep_upd hD, pen_upd pen10 hD, [], upd_same, by simp, .nil, Nat.zero_le _⟩ (fun k H' hk pv => ?_) (fun G11 pv => ?_)⟩
    · obtain ⟨kp, pn', is, hDk, rng, rise, ll⟩ := pv
      have e0 : (0 : Int) + (k : Int) = (k : Int) := Int.zero_add _
      have Dp : D ≠ pn := pen_ne_none pen10 hD
      refine ⟨rfl, ?_⟩
      rw [e0]
      refine ⟨_, rfl, pn, 2, rfl, by decide, by decide, pn', fun r H2 r0 r1 pn2 but2 => ⟨rfl, _, rfl, ite2 (fun c => ?_) (fun c => ?_)⟩⟩
      · refine ⟨_, rfl, _, by rw [but2 D Dp]; exact hDk, by rw [List.length_map]; exact small1000 (by omega), fun c o hc e => ?_, ?_, is ++ [(k : Int)], by rw [upd_same, List.map_append]; rfl, ?_, ?_, by rw [List.length_append]; simp; omega⟩
        · rw [upd_ne (ne_of_none e hD), but2 c hc]
          exact kp _ _ hc e
        · obtain ⟨x1, x2, x3, x4, e, rr⟩ := pn2
          exact ⟨x1, x2, x3, x4, by rw [upd_ne (Ne.symm Dp)]; exact e, rr⟩
        · intro z hz
          rcases List.mem_append.mp hz with h | h
          · have := rng z h
            omega
          · rw [List.mem_singleton.mp h]
            omega
        · refine List.pairwise_append.mpr ⟨rise, by simp, fun u hu v hv => ?_⟩
          rw [List.mem_singleton.mp hv]
          exact (rng u hu).2
      · refine ⟨fun c o hc e => by rw [but2 c hc]; exact kp _ _ hc e, pn2, is, by rw [but2 D Dp]; exact hDk, fun z hz => ?_, rise, by omega⟩
        have := rng z hz
        omega
    obtain ⟨k11, pen11, is, hD11, rng, rise, ll⟩ := pv
    refine ⟨D, _, rfl, .inl ⟨SqL.of hD11, fun ts hts => ?_⟩⟩
    have kk11 := kk10.keep k11 pen11
    have g12 : Same G11 (upd G11 ts (.tup (is.map V.int))) := same_upd hts
    have s012 : Same H0 (upd G11 ts (.tup (is.map V.int))) := fun c o e => g12 _ _ (k11 _ _ (ne_of_none e npn) (s010 _ _ e))
    have pc : PlcAt (upd G11 ts (.tup (is.map V.int))) ts sets is := ⟨upd_same, by omega, fun z hz => by have := rng z hz; omega, rise_of rise⟩
    have kk12 := kk11.same g12
    generalize upd G11 ts (.tup (is.map V.int)) = G12 at g12 s012 pc kk12 ⊢
    clear g12 hts kk11 hD11 k11 pen11 rng rise ll pen10 hD bl hb pb kk10 s010
    refine ⟨p1, b, d1, ts, "a", c1, sets, is, rfl, kk12.o1, kk12.bk, nA, oc1, pc.at_, pc.len, pc.rng, pc.rise, fun M1 tp q1 e1 q2 e2 m1 _ _ _ _ _ ak ar htp => ?_⟩
    refine ⟨tp, _, rfl, SqT.of htp, rfl, _, _, rfl, _, _, rfl, rfl, ?_⟩
    have kkM := kk12.same m1
    have s0M := s012.trans m1
    have ok3 : CtOk sets (partI is c1) := oc1.rise.filter' _
    have ok4 : CtOk sets (partO is c1) := oc1.rise.filter' _
    have E4 : (!eqM (joinM (partI is c1) (partO is c1)) c1) = false := by
      rw [(eqM_iff (joinM_ok ok3 ok4) oc1).mpr fun s => by rw [cnt_join ok3 ok4]; exact inI_or is c1 oc1 s]
      rfl
    have E5 : (!eqM (joinM (partO is c1) (partI is c1)) c1) = false := by
      rw [(eqM_iff (joinM_ok ok4 ok3) oc1).mpr fun s => by rw [cnt_join ok4 ok3]; have := inI_or is c1 oc1 s; omega]
      rfl
    clear htp pc kk12 s012 m1
    try unfold tNext
    try dsimp only
    refine ⟨_, rfl, _, rfl, q1, b, e1, q2, e2, b, "a", "a", partI is c1, partO is c1, sets, rfl, ak, ar, kkM.bk, nA, ok3, ok4, fun M2 x1 y1 m2 _ _ a1 => ⟨_, rfl, ?_⟩⟩
    have kk2 := kkM.same m2
    obtain ⟨⟨dxa, ha⟩, _⟩ := id a1
    obtain ⟨⟨dx1, hp1⟩, _⟩ := id kk2.o1
    refine ⟨x1, p1, dxa, dx1, _, _, rfl, rfl, ha, hp1, x1, b, y1, p1, b, d1, "a", "a", _, c1, sets, rfl, a1, kk2.o1, kk2.bk, kk2.bk, _, rfl, _, rfl, ?_⟩
    rw [E4]
    refine iteF ?_
    clear ha hp1 a1
    refine ⟨_, rfl, _, rfl, q2, b, e2, q1, e1, b, "a", "a", partO is c1, partI is c1, sets, rfl, ar.same m2, ak.same m2, kk2.bk, nA, ok4, ok3, fun M3 x1 y1 m3 _ _ a1 => ⟨_, rfl, ?_⟩⟩
    have kk3 := kk2.same m3
    obtain ⟨⟨dxa, ha⟩, _⟩ := id a1
    obtain ⟨⟨dx1, hp1⟩, _⟩ := id kk3.o1
    refine ⟨x1, p1, dxa, dx1, _, _, rfl, rfl, ha, hp1, x1, b, y1, p1, b, d1, "a", "a", _, c1, sets, rfl, a1, kk3.o1, kk3.bk, kk3.bk, _, rfl, _, rfl, ?_⟩
    rw [E5]
    refine iteF ?_
    have s03 := s0M.trans (m2.trans m3)
    have ak3 := ak.same (m2.trans m3)
    have ar3 := ar.same (m2.trans m3)
    clear ha hp1 a1 kk2 kkM s0M ak ar m2 m3
    try unfold tNext
    try dsimp only
    refine seqset ⟨_, rfl, _, rfl, p1, b, d1, p2, d2, b, "a", "a", c1, c2, sets, rfl, kk3.o1, kk3.o2, kk3.bk, nA, oc1, oc2, fun M4 pB dB m4 _ _ aB => ?_⟩
    have kk4 := kk3.same m4
    have s04 := s03.trans m4
    have ak4 := ak3.same m4
    have ar4 := ar3.same m4
    clear kk3 s03 ak3 ar3 m4
    obtain ⟨_, bs, hb, pb⟩ := id kk4.bk
    have bl : bs.length = sets.length := Paired.length pb
    try dsimp only
    refine ⟨_, rfl, b, _, rfl, .inr (SqT.of hb), ?_⟩
    rw [List.length_map, bl]
    refine ⟨_, rfl, by omega, by omega, ?_⟩
    refine for_range (lo := 0) (n := sets.length) (fun i σ H' => ∃ w1 w10 w11 w12 w13 w14 w15 : Option V, σ = [some (.ref a), w1, some (.ref pn), some (.ref b), some (.ref p1), some (.ref p2), some (.ref p3), some (.ref q1), some (.ref q2), some (.ref pB), w10, w11, w12, w13, w14, w15] ∧ Same M4 H')
      ⟨_, _, _, _, _, _, _, rfl, fun _ _ e => e⟩ ?lap ?after
    case lap =>
      rintro j σ M5 hj ⟨w1, w10, w11, w12, w13, w14, w15, rfl, m5⟩
      have e0 : (0 : Int) + (j : Int) = (j : Int) := Int.zero_add _
      try rw [e0]
      have kk5 := kk4.same m5
      have aB5 := aB.same m5
      obtain ⟨⟨dxB, hpB⟩, _⟩ := id aB5
      try dsimp only
      refine ⟨_, rfl, pB, dxB, _, rfl, hpB, hno (by decide +kernel) (by decide +kernel) (by decide +kernel), _, rfl, pB, b, dB, "a", joinM c1 c2, sets, j, rfl, aB5, kk5.bk, hj, j12.pos, fun M6 l6 m6 _ hl6 => ?_⟩
      have kk6 := kk5.same m6
      obtain ⟨⟨dx1, hp1⟩, _⟩ := id kk6.o1
      refine ⟨_, rfl, p1, dx1, _, rfl, hp1, hno (by decide +kernel) (by decide +kernel) (by decide +kernel), _, rfl, p1, b, d1, "a", c1, sets, j, rfl, kk6.o1, kk6.bk, hj, oc1.pos, fun M7 l7 m7 _ hl7 => ⟨l7, rfl, ⟨_, SqL.of hl7⟩, fun D hD => ?_⟩⟩
      have kk7 := kk6.same m7
      refine lc_list (K := K) (xs := (gapsM sets c1 j).map V.int) (fun i H' => Same M7 H' ∧ H' D = some (.lst ((((gapsM sets c1 j).take i).filter fun k => decide (k ∈ gapsM sets c2 j)).map V.int))) ⟨same_upd hD, upd_same⟩ (fun i H' _ pv => SqL.of (pv.1 _ _ hl7)) (fun i x H' hx pv => ?_) (fun M8 pv => ?_)
      · obtain ⟨sm, hDi⟩ := pv
        rw [List.getElem?_map] at hx
        obtain ⟨k, hk, rfl⟩ : ∃ k, (gapsM sets c1 j)[i]? = some k ∧ V.int k = x := by
          cases h : (gapsM sets c1 j)[i]? with
          | none =>
            rw [h] at hx
            cases hx
          | some a =>
            rw [h] at hx
            exact ⟨a, rfl, Option.some.inj hx⟩
        have kk8 := kk7.same sm
        obtain ⟨⟨dx2, hp2⟩, _⟩ := id kk8.o2
        have et : ((gapsM sets c1 j).take (i + 1)).filter (fun k => decide (k ∈ gapsM sets c2 j)) = ((gapsM sets c1 j).take i).filter (fun k => decide (k ∈ gapsM sets c2 j)) ++ (if decide (k ∈ gapsM sets c2 j) = true then [k] else []) := by
          rw [List.take_add_one, hk, List.filter_append]
          congr 1
          by_cases z : k ∈ gapsM sets c2 j
          · simp [z]
          · simp [z]
        have lk : (((gapsM sets c1 j).take i).filter fun k => decide (k ∈ gapsM sets c2 j)).length ≤ 6 := by
          have z1 := List.length_filter_le (fun k => decide (k ∈ gapsM sets c2 j)) ((gapsM sets c1 j).take i)
          have z2 := List.length_take_le' i (gapsM sets c1 j)
          have z3 := gaps_small okB c1 j
          omega
        refine ⟨rfl, ?_⟩
        refine ⟨_, rfl, _, rfl, p2, dx2, _, rfl, hp2, hno (by decide +kernel) (by decide +kernel) (by decide +kernel), _, rfl, p2, b, d2, "a", c2, sets, j, rfl, kk8.o2, kk8.bk, hj, oc2.pos, fun M9 l9 m9 _ hl9 => ⟨l9, _, rfl, .inl (SqL.of hl9), rfl, flat_ints _, _, rfl, ?_⟩⟩
        show if inV (.int k) ((gapsM sets c2 j).map V.int) = true then _ else _
        rw [inV_int]
        refine ite2 (fun c => ?_) (fun c => ?_)
        · refine ⟨_, rfl, _, m9 _ _ hDi, by rw [List.length_map]; exact small1000 (by omega), fun c o e => ?_, ?_⟩
          · rw [upd_ne (ne_of_none e hD)]
            exact m9 _ _ (sm _ _ e)
          · rw [upd_same, et, if_pos c, List.map_append]
            rfl
        · refine ⟨sm.trans m9, ?_⟩
          rw [et, if_neg c, List.append_nil]
          exact m9 _ _ hDi
      · obtain ⟨sm, hD8⟩ := pv
        rw [List.length_map, List.take_length, ← gaps_join oc1 oc2] at hD8
        refine ⟨intsD (gapsM sets (joinM c1 c2) j), intsD (gapsM sets (joinM c1 c2) j), dp_ints (sm _ _ (m7 _ _ hl6)), dp_ints hD8, shaped_of (lay_ints _) (depth_ints _) (by decide), shaped_of (lay_ints _) (depth_ints _) (by decide), _, rfl, ?_⟩
        rw [eqv_self (lay_ints _)]
        refine iteF ?_
        exact ⟨_, _, _, _, _, _, _, rfl, m5.trans (m6.trans (m7.trans sm))⟩
    case after =>
    rintro σ M5 ⟨w1, w10, w11, w12, w13, w14, w15, rfl, m5⟩
    have kk5 := kk4.same m5
    have s05 := s04.trans m5
    have aB5 := aB.same m5
    have ak5 := ak4.same m5
    have ar5 := ar4.same m5
    clear kk4 s04 aB ak4 ar4 m5 hb pb bl
    try dsimp only
    obtain ⟨⟨dx1, hp1⟩, _⟩ := id kk5.o1
    refine ⟨_, rfl, p1, dx1, _, rfl, hp1, hno (by decide +kernel) (by decide +kernel) (by decide +kernel), p1, b, d1, "a", c1, sets, rfl, kk5.o1, kk5.bk, oc1.pos, fun M6 l6 m6 _ hl6 => ⟨l6, rfl, ⟨_, SqL.of hl6⟩, fun D hD => ?_⟩⟩
    have kk6 := kk5.same m6
    have aB6 := aB5.same m6
    refine lc_list (K := K) (xs := (wholeM sets c1).map V.int) (fun i H' => Same M6 H' ∧ H' D = some (.lst [])) ⟨same_upd hD, upd_same⟩ (fun i H' _ pv => SqL.of (pv.1 _ _ hl6)) (fun i x H' hx pv => ?_) (fun M7 pv => ?_)
    · obtain ⟨sm, hDi⟩ := pv
      rw [List.getElem?_map] at hx
      obtain ⟨k, hk, rfl⟩ : ∃ k, (wholeM sets c1)[i]? = some k ∧ V.int k = x := by
        cases h : (wholeM sets c1)[i]? with
        | none =>
          rw [h] at hx
          cases hx
        | some a =>
          rw [h] at hx
          exact ⟨a, rfl, Option.some.inj hx⟩
      have aB7 := aB6.same sm
      obtain ⟨⟨dxB, hpB⟩, _⟩ := id aB7
      refine ⟨rfl, ?_⟩
      refine ⟨_, rfl, _, rfl, pB, dxB, _, rfl, hpB, hno (by decide +kernel) (by decide +kernel) (by decide +kernel), pB, b, dB, "a", joinM c1 c2, sets, rfl, aB7, (kk6.same sm).bk, j12.pos, fun M9 l9 m9 _ hl9 => ⟨l9, _, rfl, .inl (SqL.of hl9), rfl, flat_ints _, _, rfl, ?_⟩⟩
      show if (!inV (.int k) ((wholeM sets (joinM c1 c2)).map V.int)) = true then _ else _
      rw [inV_int, decide_eq_true (whole_join oc1 oc2 (List.mem_of_getElem? hk))]
      exact iteF ⟨sm.trans m9, m9 _ _ hDi⟩
    obtain ⟨sm, hD7⟩ := pv
    refine ⟨by show 0 ≤ sizeLine; decide, fun lz hlz => ?_⟩
    have m8 : Same M7 (upd M7 lz (.lst [])) := same_upd hlz
    refine ⟨.list [], .list [], .lst (SqL.of (m8 _ _ hD7)) .nil, .lst (SqL.of upd_same) .nil, by decide, by decide, _, rfl, ?_⟩
    refine ite2 (fun c => absurd c (by decide)) (fun _ => ?_)
    have m58 : Same M5 (upd M7 lz (.lst [])) := m6.trans (sm.trans m8)
    generalize upd M7 lz (.lst []) = M8 at m8 m58 ⊢
    have kk8 := kk5.same m58
    have s08 := s05.trans m58
    have aB8 := aB5.same m58
    have ak8 := ak5.same m58
    have ar8 := ar5.same m58
    clear hp1 kk5 s05 aB5 ak5 ar5 kk6 aB6 m6 sm m8 m58 hD7 hlz hD hl6
    try unfold tNext
    try dsimp only
    -- the sums
    refine ⟨_, rfl, _, rfl, _, rfl, _, rfl, _, rfl, fun x dx hx hdx hxd => ?_⟩
    have t1 : Same M8 (upd (upd M8 dx (.own x)) x (.ins C dx [])) := fun c o e => by rw [upd_ne (ne_of_none e hx), upd_ne (ne_of_none e hdx)]; exact e
    refine ⟨x, dx, b, "", sets, rfl, upd_same, kk8.bk.same t1, nameE, fun M9 d9 k9 _ al9 => ⟨rfl, by show 5 ≤ sizeLine; decide, fun tt htt => ⟨tt, rfl, ⟨_, SqT.of upd_same⟩, fun D hD => ?_⟩⟩⟩
    have s89 : Same M8 M9 := fun c o e => k9 c o (ne_of_none e hx) (t1 _ _ e)
    have g9 : Same M9 (upd M9 tt (.tup [.ref p1, .ref pB, .ref q1, .ref q2, .ref x])) := same_upd htt
    have htt9 : (upd M9 tt (.tup [.ref p1, .ref pB, .ref q1, .ref q2, .ref x])) tt = some (.tup [.ref p1, .ref pB, .ref q1, .ref q2, .ref x]) := upd_same
    have s810 := s89.trans g9
    have kkT := kk8.same s810
    have aBT := aB8.same s810
    have akT := ak8.same s810
    have arT := ar8.same s810
    have aET := al9.same g9
    have s0T := s08.trans s810
    generalize upd M9 tt (.tup [.ref p1, .ref pB, .ref q1, .ref q2, .ref x]) = T0 at g9 htt9 s810 kkT aBT akT arT aET s0T hD ⊢
    clear s89 g9 s810 k9 al9 t1 hx hdx hxd kk8 s08 aB8 ak8 ar8
    refine lc_tup (K := K) (xs := [.ref p1, .ref pB, .ref q1, .ref q2, .ref x]) (fun i H' => Same T0 H' ∧ H' D = some (.lst ((List.replicate i true).map V.bl))) ⟨same_upd hD, upd_same⟩ (fun i H' _ pv => SqT.of (pv.1 _ _ htt9)) (fun i y H' hy pv => ?_) (fun T1 pv => ?_)
    · obtain ⟨sm, hDi⟩ := pv
      obtain ⟨p, dd, nn, cc, rfl, al, okc⟩ : ∃ (p dd : Addr) (nn : Str) (cc : CtT), y = V.ref p ∧ AlbAt C T0 p b nn dd cc ∧ CtOk sets cc := by
        have := List.mem_of_getElem? hy
        simp only [List.mem_cons, List.not_mem_nil, or_false] at this
        rcases this with rfl | rfl | rfl | rfl | rfl
        · exact ⟨_, _, _, _, rfl, kkT.o1, oc1⟩
        · exact ⟨_, _, _, _, rfl, aBT, j12⟩
        · exact ⟨_, _, _, _, rfl, akT, ok3⟩
        · exact ⟨_, _, _, _, rfl, arT, ok4⟩
        · exact ⟨_, _, _, _, rfl, aET, ct_nil⟩
      have hi : i < 5 := (List.getElem?_eq_some_iff.mp hy).1
      refine ⟨rfl, yesT ⟨_, rfl, _, rfl, p, b, dd, nn, cc, sets, rfl, al.same sm, (kkT.same sm).bk, okc, fun T2 s2 => ⟨_, s2 _ _ hDi, by rw [List.length_map, List.length_replicate]; exact small1000 (by omega), fun c o e => ?_, ?_⟩⟩⟩
      · rw [upd_ne (ne_of_none e hD)]
        exact s2 _ _ (sm _ _ e)
      · rw [upd_same, List.replicate_succ', List.map_append]
        rfl
    obtain ⟨sm, hD1⟩ := pv
    refine ⟨D, _, rfl, SqL.of hD1, _, rfl, ?_⟩
    refine ite2 (fun c => absurd c (by simp [List.replicate])) (fun _ => ?_)
    have kk1 := kkT.same sm
    have s01 := s0T.trans sm
    clear hD hD1 htt9 htt akT arT aBT aET kkT s0T
    try unfold tNext
    try dsimp only
    -- the twin
    obtain ⟨⟨dx1, hp1⟩, _⟩ := id kk1.o1
    refine seqset ⟨_, rfl, p1, dx1, _, rfl, hp1, hno (by decide +kernel) (by decide +kernel) (by decide +kernel), p1, b, d1, "a", c1, sets, rfl, kk1.o1, kk1.bk, nA, oc1, fun T2 pt dt s12 npt ndt at2 => ?_⟩
    have kk2 := kk1.same s12
    have s02 := s01.trans s12
    have n1 : d1 ≠ dt := fun z => by
      have := kk1.o1.dc
      rw [z, ndt] at this
      cases this
    obtain ⟨⟨dxt, hpt⟩, _⟩ := id at2
    try dsimp only
    refine ⟨_, rfl, pt, dxt, _, rfl, hpt, hno (by decide +kernel) (by decide +kernel) (by decide +kernel), by show 3 ≤ sizeLine; decide, fun q0 hq0 => ?_⟩
    have g2 : Same T2 (upd T2 q0 (.tup [.int 0, .int 0, .int 1])) := same_upd hq0
    refine ⟨pt, q0, b, dt, "a", riseM c1, sets, (0, 0, 1), 3, rfl, at2.same g2, (kk2.same g2).bk, upd_same, so1, by decide, oc1.rise, fun T3 k3 at3 => ?_⟩
    have keepT : ∀ {G G' : Hp}, Keep dt G G' → K10 C G pn b p1 d1 p2 d2 p3 d3 sets c1 c2 c3 → AlbAt C G pt b "a" dt (riseM c1) → Book G' b sets ∧ AlbAt C G' p1 b "a" d1 c1 := by
      intro G G' k z zt
      have ht := zt.dc
      refine ⟨z.bk.keepD ht k, ?_⟩
      obtain ⟨⟨dx, e⟩, f⟩ := z.o1
      refine ⟨⟨dx, k _ _ (fun w => ?_) e⟩, k _ _ n1 f⟩
      rw [w, ht] at e
      cases e
    obtain ⟨bk3, o13⟩ := keepT k3 (kk2.same g2) (at2.same g2)
    have s03 : Same H0 T3 := fun c o e => k3 _ _ (fun z => by
      have := s01 _ _ e
      rw [z, ndt] at this
      cases this) (g2 _ _ (s02 _ _ e))
    have ct3 : CtOk sets (addC (riseM c1) ((0, 0, 1), 3)) := oc1.rise.add so1 (by decide)
    have cn : ∀ t, cntM (addC (riseM c1) ((0, 0, 1), 3)) t = cntM c1 t + if t = (0, 0, 1) then 3 else 0 := fun t => by rw [cnt_add, cnt_rise oc1.nd]
    have cs1 : cntM (addC (riseM c1) ((0, 0, 1), 3)) (0, 0, 1) = cntM c1 (0, 0, 1) + 3 := by rw [cn, if_pos rfl]
    have F1 : eqM (addC (riseM c1) ((0, 0, 1), 3)) c1 = false := by
      cases e : eqM (addC (riseM c1) ((0, 0, 1), 3)) c1 with
      | false => rfl
      | true =>
        have := (eqM_iff ct3 oc1).mp e (0, 0, 1)
        omega
    have F2 : apartM sets (addC (riseM c1) ((0, 0, 1), 3)) c1 = [((0, 0, 1), cntM c1 (0, 0, 1) + 3, cntM c1 (0, 0, 1))] := by
      rw [apart_one so1 (fun t ht => by rw [cn, if_neg ht, Int.add_zero]) (by omega), cs1]
    clear keepT k3 at2 g2 hq0 hpt npt kk2 s02 hp1 s12
    try dsimp only
    obtain ⟨⟨dx1, hp1⟩, _⟩ := id o13
    refine seqset ⟨_, rfl, p1, dx1, _, rfl, hp1, hno (by decide +kernel) (by decide +kernel) (by decide +kernel), by show 3 ≤ sizeLine; decide, fun q1' hq1' => ?_⟩
    have g3 : Same T3 (upd T3 q1' (.tup [.int 0, .int 0, .int 1])) := same_upd hq1'
    refine ⟨p1, q1', b, d1, "a", c1, sets, (0, 0, 1), rfl, o13.same g3, bk3.same g3, upd_same, so1, fun T4 s4 => ?_⟩
    have s34 := g3.trans s4
    have o14 := o13.same s34
    have bk4 := bk3.same s34
    have at4 := at3.same s34
    have s04 := s03.trans s34
    clear g3 s4 s34 hp1 hq1' o13 bk3 at3 s03
    obtain ⟨⟨dx1, hp1⟩, _⟩ := id o14
    obtain ⟨⟨dxt, hpt⟩, _⟩ := id at4
    try dsimp only
    refine ⟨_, rfl, _, rfl, pt, p1, dxt, dx1, _, _, rfl, rfl, hpt, hp1, pt, b, dt, p1, b, d1, "a", "a", _, c1, sets, rfl, at4, o14, bk4, bk4, _, rfl, ?_⟩
    rw [F1]
    refine iteF ?_
    refine ⟨_, rfl, _, rfl, pt, b, dt, p1, b, d1, "a", "a", _, c1, sets, rfl, at4, o14, bk4, bk4, fun T5 l5 as5 s5 _ hl5 pr5 => ?_⟩
    refine ⟨by show 3 ≤ sizeLine; decide, fun qa hqa => ⟨_, rfl, _, _, rfl, rfl, _, rfl, by show 3 ≤ sizeLine; decide, fun qb hqb => ⟨by show 1 ≤ sizeLine; decide, fun lc hlc => ?_⟩⟩⟩
    have u1 := same_upd (o := .tup [.int 0, .int 0, .int 1]) hqa
    have u2 := same_upd (o := .tup [.ref qa, .int (cntM c1 (0, 0, 1) + 3), .int (cntM c1 (0, 0, 1))]) hqb
    have u3 := same_upd (o := .lst [.ref qb]) hlc
    rw [F2] at pr5
    have lay := lay_aps [((0, 0, 1), cntM c1 (0, 0, 1) + 3, cntM c1 (0, 0, 1))]
    have dep := depth_aps [((0, 0, 1), cntM c1 (0, 0, 1) + 3, cntM c1 (0, 0, 1))]
    have u13 := u1.trans (u2.trans u3)
    refine ⟨apsD [((0, 0, 1), cntM c1 (0, 0, 1) + 3, cntM c1 (0, 0, 1))], apsD [((0, 0, 1), cntM c1 (0, 0, 1) + 3, cntM c1 (0, 0, 1))], dp_aps (u13 _ _ hl5) (ap_same u13 pr5), .lst (SqL.of upd_same) (.cons (.tup (SqT.of (u3 _ _ upd_same)) (.cons (.tup (SqT.of (u3 _ _ (u2 _ _ upd_same))) (.cons (.int _) (.cons (.int _) (.cons (.int _) .nil)))) (.cons (.int _) (.cons (.int _) .nil)))) .nil), shaped_of lay dep (by decide), shaped_of lay dep (by decide), _, rfl, ?_⟩
    rw [eqv_self lay]
    refine iteF ?_
    have s45 := s5.trans u13
    generalize (upd (upd (upd T5 qa (.tup [.int 0, .int 0, .int 1])) qb (.tup [.ref qa, .int (cntM c1 (0, 0, 1) + 3), .int (cntM c1 (0, 0, 1))])) lc (.lst [.ref qb])) = T6 at s45 ⊢
    have o16 := o14.same s45
    have bk6 := bk4.same s45
    have at6 := at4.same s45
    have s06 := s04.trans s45
    clear u1 u2 u3 u13 pr5 hl5 s5 s45 hqa hqb hlc hp1 hpt o14 bk4 at4 s04
    try unfold tNext
    try dsimp only
    -- taken again
    obtain ⟨⟨dxt, hpt⟩, _⟩ := id at6
    refine ⟨_, rfl, pt, dxt, _, rfl, hpt, hno (by decide +kernel) (by decide +kernel) (by decide +kernel), by show 3 ≤ sizeLine; decide, fun q2' hq2' => ?_⟩
    have g6 : Same T6 (upd T6 q2' (.tup [.int 0, .int 0, .int 1])) := same_upd hq2'
    have c0 := cnt_pos oc1 (0, 0, 1)
    refine ⟨pt, q2', b, dt, "a", _, sets, (0, 0, 1), 3, rfl, at6.same g6, bk6.same g6, upd_same, so1, by decide, by omega, ct3, fun T7 k7 at7 => ?_⟩
    have ht6 := (at6.same g6).dc
    have bk7 : Book T7 b sets := (bk6.same g6).keepD ht6 k7
    have o17 : AlbAt C T7 p1 b "a" d1 c1 := by
      obtain ⟨⟨dx, e⟩, f⟩ := o16.same g6
      refine ⟨⟨dx, k7 _ _ (fun w => ?_) e⟩, k7 _ _ n1 f⟩
      rw [w, ht6] at e
      cases e
    have s07 : Same H0 T7 := fun c o e => k7 _ _ (fun z => by
      have := s01 _ _ e
      rw [z, ndt] at this
      cases this) (g6 _ _ (s06 _ _ e))
    have ct7 : CtOk sets (takeC (addC (riseM c1) ((0, 0, 1), 3)) (0, 0, 1) 3) := ct3.takeC so1 (by omega)
    have eqs : ∀ s, cntM (takeC (addC (riseM c1) ((0, 0, 1), 3)) (0, 0, 1) 3) s = cntM c1 s := fun s => by
      rw [cnt_take, cs1]
      by_cases z : s = (0, 0, 1)
      · rw [if_pos z, z]
        omega
      · rw [if_neg z, cn, if_neg z, Int.add_zero]
    have F3 : (!eqM (takeC (addC (riseM c1) ((0, 0, 1), 3)) (0, 0, 1) 3) c1) = false := by
      rw [(eqM_iff ct7 oc1).mpr eqs]
      rfl
    have F4 := dbls_ext ct7 oc1 eqs
    try dsimp only
    obtain ⟨⟨dx1, hp1⟩, _⟩ := id o17
    obtain ⟨⟨dxt7, hpt7⟩, _⟩ := id at7
    refine ⟨_, rfl, _, rfl, pt, p1, dxt7, dx1, _, _, rfl, rfl, hpt7, hp1, pt, b, dt, p1, b, d1, "a", "a", _, c1, sets, rfl, at7, o17, bk7, bk7, _, rfl, _, rfl, ?_⟩
    rw [F3]
    refine iteF ?_
    have l7 := ct7.len okB
    have l1 := oc1.len okB
    refine ⟨_, rfl, pt, dxt7, _, rfl, hpt7, hno (by decide +kernel) (by decide +kernel) (by decide +kernel), pt, b, dt, "a", _, rfl, at7, by omega, ct7.pos, fun c hc => ⟨(ct7.st c hc).g0, (ct7.st c hc).g1⟩, fun T8 l8 rs8 s8 _ hl8 pr8 => ?_⟩
    refine ⟨_, rfl, p1, dx1, _, rfl, s8 _ _ hp1, hno (by decide +kernel) (by decide +kernel) (by decide +kernel), p1, b, d1, "a", c1, rfl, o17.same s8, by omega, oc1.pos, fun c hc => ⟨(oc1.st c hc).g0, (oc1.st c hc).g1⟩, fun T9 l9 rs9 s9 _ hl9 pr9 => ?_⟩
    rw [F4] at pr8
    refine ⟨rowsD (dblsM c1), rowsD (dblsM c1), dp_rows (s9 _ _ hl8) (rows_same s9 pr8), dp_rows hl9 pr9, shaped_of (lay_rows _) (depth_rows _) (by decide), shaped_of (lay_rows _) (depth_rows _) (by decide), _, rfl, ?_⟩
    rw [eqv_self (lay_rows _)]
    refine iteF ?_
    exact ⟨_, _, _, _, _, _, _, _, _, _, _, _, _, _, _, rfl, sql_same hS0 (s07.trans (s8.trans s9))⟩
end
end Hm

set_option Elab.async false
set_option maxRecDepth 100000
set_option maxHeartbeats 4000000
namespace Hm
open PySem PySem.Spec PyProof.Rows L2 HmS HmQ
theorem all_mk {l : PySem.W.OpenLaw} {w : World} {K : PySem.W.Frag} {h : Heap} {mg : Str → Option Value} {fa : Addr} (X : K.In h) (G : h.Ns mainGlobals mg) (hfa : mg "law" = some (.ref fa))
    {C TI TP TK : Addr} {tH tW tT tP tK : Tok} {nT nP nK : Nat} {odT odP odK : Option Addr} {ocT ocP ocK : Value} {slT slP slK : Array (Option Value)}
    {fW0 : Addr} {odW0 anW0 : Option Addr} {slW0 : Array (Option Value)} {ocW0 kVW0 dcW0 pmW0 ctW0 cdW0 : Value}
    {fWf : Addr} {odWf anWf : Option Addr} {slWf : Array (Option Value)} {ocWf kVWf dcWf pmWf ctWf cdWf : Value}
    {fWi : Addr} {odWi anWi : Option Addr} {slWi : Array (Option Value)} {ocWi kVWi dcWi pmWi ctWi cdWi : Value}
    {fLt : Addr} {odLt anLt : Option Addr} {slLt : Array (Option Value)} {ocLt kVLt dcLt pmLt ctLt cdLt : Value}
    {fTu : Addr} {odTu anTu : Option Addr} {slTu : Array (Option Value)} {ocTu kVTu dcTu pmTu ctTu cdTu : Value}
    {fRi : Addr} {odRi anRi : Option Addr} {slRi : Array (Option Value)} {ocRi kVRi dcRi pmRi ctRi cdRi : Value}
    {fRw : Addr} {odRw anRw : Option Addr} {slRw : Array (Option Value)} {ocRw kVRw dcRw pmRw ctRw cdRw : Value}
    {fYe : Addr} {odYe anYe : Option Addr} {slYe : Array (Option Value)} {ocYe kVYe dcYe pmYe ctYe cdYe : Value}
    {fSe : Addr} {odSe anSe : Option Addr} {slSe : Array (Option Value)} {ocSe kVSe dcSe pmSe ctSe cdSe : Value}
    {fLs : Addr} {odLs anLs : Option Addr} {slLs : Array (Option Value)} {ocLs kVLs dcLs pmLs ctLs cdLs : Value}
    {fNu : Addr} {odNu anNu : Option Addr} {slNu : Array (Option Value)} {ocNu kVNu dcNu pmNu ctNu cdNu : Value}
    {fIp : Addr} {odIp anIp : Option Addr} {slIp : Array (Option Value)} {ocIp kVIp dcIp pmIp ctIp cdIp : Value}
    {fSt : Addr} {odSt anSt : Option Addr} {slSt : Array (Option Value)} {ocSt kVSt dcSt pmSt ctSt cdSt : Value}
    {fAs : Addr} {odAs anAs : Option Addr} {slAs : Array (Option Value)} {ocAs kVAs dcAs pmAs ctAs cdAs : Value}
    {fSs : Addr} {odSs anSs : Option Addr} {slSs : Array (Option Value)} {ocSs kVSs dcSs pmSs ctSs cdSs : Value}
    {fFi : Addr} {odFi anFi : Option Addr} {slFi : Array (Option Value)} {ocFi kVFi dcFi pmFi ctFi cdFi : Value}
    {fJn : Addr} {odJn anJn : Option Addr} {slJn : Array (Option Value)} {ocJn kVJn dcJn pmJn ctJn cdJn : Value}
    {fPt : Addr} {odPt anPt : Option Addr} {slPt : Array (Option Value)} {ocPt kVPt dcPt pmPt ctPt cdPt : Value}
    {fPg : Addr} {odPg anPg : Option Addr} {slPg : Array (Option Value)} {ocPg kVPg dcPg pmPg ctPg cdPg : Value}
    {fCe : Addr} {odCe anCe : Option Addr} {slCe : Array (Option Value)} {ocCe kVCe dcCe pmCe ctCe cdCe : Value}
    {fPe : Addr} {odPe anPe : Option Addr} {slPe : Array (Option Value)} {ocPe kVPe dcPe pmPe ctPe cdPe : Value}
    {fDr : Addr} {odDr anDr : Option Addr} {slDr : Array (Option Value)} {ocDr kVDr dcDr pmDr ctDr cdDr : Value}
    {fLi : Addr} {odLi anLi : Option Addr} {slLi : Array (Option Value)} {ocLi kVLi dcLi pmLi ctLi cdLi : Value}
    {fPl : Addr} {odPl anPl : Option Addr} {slPl : Array (Option Value)} {ocPl kVPl dcPl pmPl ctPl cdPl : Value}
    {fSm : Addr} {odSm anSm : Option Addr} {slSm : Array (Option Value)} {ocSm kVSm dcSm pmSm ctSm cdSm : Value}
    {fSr : Addr} {odSr anSr : Option Addr} {slSr : Array (Option Value)} {ocSr kVSr dcSr pmSr ctSr cdSr : Value}
    {fLa : Addr} {odLa anLa : Option Addr} {slLa : Array (Option Value)} {ocLa kVLa dcLa pmLa ctLa cdLa : Value}
    {fmI : Addr} {odmI anmI : Option Addr} {slmI : Array (Option Value)} {ocmI kVmI dcmI pmmI ctmI cdmI : Value}
    {fmP : Addr} {odmP anmP : Option Addr} {slmP : Array (Option Value)} {ocmP kVmP dcmP pmmP ctmP cdmP : Value}
    {fmX : Addr} {odmX anmX : Option Addr} {slmX : Array (Option Value)} {ocmX kVmX dcmX pmmX ctmX cdmX : Value}
    {fmS : Addr} {odmS anmS : Option Addr} {slmS : Array (Option Value)} {ocmS kVmS dcmS pmmS ctmS cdmS : Value}
    {fmC : Addr} {odmC anmC : Option Addr} {slmC : Array (Option Value)} {ocmC kVmC dcmC pmmC ctmC cdmC : Value}
    {fmB : Addr} {odmB anmB : Option Addr} {slmB : Array (Option Value)} {ocmB kVmB dcmB pmmB ctmB cdmB : Value}
    {fmN : Addr} {odmN anmN : Option Addr} {slmN : Array (Option Value)} {ocmN kVmN dcmN pmmN ctmN cdmN : Value}
    {fmO : Addr} {odmO anmO : Option Addr} {slmO : Array (Option Value)} {ocmO kVmO dcmO pmmO ctmO cdmO : Value}
    {fmA : Addr} {odmA anmA : Option Addr} {slmA : Array (Option Value)} {ocmA kVmA dcmA pmmA ctmA cdmA : Value}
    {fmG : Addr} {odmG anmG : Option Addr} {slmG : Array (Option Value)} {ocmG kVmG dcmG pmmG ctmG cdmG : Value}
    {fmF : Addr} {odmF anmF : Option Addr} {slmF : Array (Option Value)} {ocmF kVmF dcmF pmmF ctmF cdmF : Value}
    {fmD : Addr} {odmD anmD : Option Addr} {slmD : Array (Option Value)} {ocmD kVmD dcmD pmmD ctmD cdmD : Value}
    {fmK : Addr} {odmK anmK : Option Addr} {slmK : Array (Option Value)} {ocmK kVmK dcmK pmmK ctmK cdmK : Value}
    {fmW : Addr} {odmW anmW : Option Addr} {slmW : Array (Option Value)} {ocmW kVmW dcmW pmmW ctmW cdmW : Value}
    {fmT : Addr} {odmT anmT : Option Addr} {slmT : Array (Option Value)} {ocmT kVmT dcmT pmmT ctmT cdmT : Value}
    {fmE : Addr} {odmE anmE : Option Addr} {slmE : Array (Option Value)} {ocmE kVmE dcmE pmmE ctmE cdmE : Value}
    (aAlb : PySem.W.nsIn K mainGlobals "Album" = some (some (.ref C)))
    (aW0 : PySem.W.nsIn K mainGlobals "is_whole" = some (some (.ref fW0)))
    (lW0 : K.lookup fW0 = some ⟨ocW0, odW0, .func (PySem.W.fnOf "is_whole" "is_whole" (defArgs stIsW) (defBody stIsW) (defScope stIsW) .none kVW0 dcW0 pmW0 anW0 cdW0 ctW0), slW0⟩)
    (cW0 : PySem.W.codeIn K cdW0 "is_whole" = true)
    (kW0 : PySem.W.keepIn K (.ref fW0) = true)
    (aWf : PySem.W.nsIn K mainGlobals "is_whole_from" = some (some (.ref fWf)))
    (lWf : K.lookup fWf = some ⟨ocWf, odWf, .func (PySem.W.fnOf "is_whole_from" "is_whole_from" (defArgs stWfr) (defBody stWfr) (defScope stWfr) .none kVWf dcWf pmWf anWf cdWf ctWf), slWf⟩)
    (cWf : PySem.W.codeIn K cdWf "is_whole_from" = true)
    (kWf : PySem.W.keepIn K (.ref fWf) = true)
    (aWi : PySem.W.nsIn K mainGlobals "is_whole_within" = some (some (.ref fWi)))
    (lWi : K.lookup fWi = some ⟨ocWi, odWi, .func (PySem.W.fnOf "is_whole_within" "is_whole_within" (defArgs stWit) (defBody stWit) (defScope stWit) .none kVWi dcWi pmWi anWi cdWi ctWi), slWi⟩)
    (cWi : PySem.W.codeIn K cdWi "is_whole_within" = true)
    (kWi : PySem.W.keepIn K (.ref fWi) = true)
    (aLt : PySem.W.nsIn K mainGlobals "is_letters" = some (some (.ref fLt)))
    (lLt : K.lookup fLt = some ⟨ocLt, odLt, .func (PySem.W.fnOf "is_letters" "is_letters" (defArgs stLet) (defBody stLet) (defScope stLet) .none kVLt dcLt pmLt anLt cdLt ctLt), slLt⟩)
    (cLt : PySem.W.codeIn K cdLt "is_letters" = true)
    (kLt : PySem.W.keepIn K (.ref fLt) = true)
    (aTu : PySem.W.nsIn K mainGlobals "is_tuple" = some (some (.ref fTu)))
    (lTu : K.lookup fTu = some ⟨ocTu, odTu, .func (PySem.W.fnOf "is_tuple" "is_tuple" (defArgs stTup) (defBody stTup) (defScope stTup) .none kVTu dcTu pmTu anTu cdTu ctTu), slTu⟩)
    (cTu : PySem.W.codeIn K cdTu "is_tuple" = true)
    (kTu : PySem.W.keepIn K (.ref fTu) = true)
    (aRi : PySem.W.nsIn K mainGlobals "is_rising" = some (some (.ref fRi)))
    (lRi : K.lookup fRi = some ⟨ocRi, odRi, .func (PySem.W.fnOf "is_rising" "is_rising" (defArgs stRis) (defBody stRis) (defScope stRis) .none kVRi dcRi pmRi anRi cdRi ctRi), slRi⟩)
    (cRi : PySem.W.codeIn K cdRi "is_rising" = true)
    (kRi : PySem.W.keepIn K (.ref fRi) = true)
    (aRw : PySem.W.nsIn K mainGlobals "is_rising_within" = some (some (.ref fRw)))
    (lRw : K.lookup fRw = some ⟨ocRw, odRw, .func (PySem.W.fnOf "is_rising_within" "is_rising_within" (defArgs stRiw) (defBody stRiw) (defScope stRiw) .none kVRw dcRw pmRw anRw cdRw ctRw), slRw⟩)
    (cRw : PySem.W.codeIn K cdRw "is_rising_within" = true)
    (kRw : PySem.W.keepIn K (.ref fRw) = true)
    (aYe : PySem.W.nsIn K mainGlobals "is_year" = some (some (.ref fYe)))
    (lYe : K.lookup fYe = some ⟨ocYe, odYe, .func (PySem.W.fnOf "is_year" "is_year" (defArgs stYea) (defBody stYea) (defScope stYea) .none kVYe dcYe pmYe anYe cdYe ctYe), slYe⟩)
    (cYe : PySem.W.codeIn K cdYe "is_year" = true)
    (kYe : PySem.W.keepIn K (.ref fYe) = true)
    (aSe : PySem.W.nsIn K mainGlobals "is_set" = some (some (.ref fSe)))
    (lSe : K.lookup fSe = some ⟨ocSe, odSe, .func (PySem.W.fnOf "is_set" "is_set" (defArgs stSet) (defBody stSet) (defScope stSet) .none kVSe dcSe pmSe anSe cdSe ctSe), slSe⟩)
    (cSe : PySem.W.codeIn K cdSe "is_set" = true)
    (kSe : PySem.W.keepIn K (.ref fSe) = true)
    (aLs : PySem.W.nsIn K mainGlobals "is_list" = some (some (.ref fLs)))
    (lLs : K.lookup fLs = some ⟨ocLs, odLs, .func (PySem.W.fnOf "is_list" "is_list" (defArgs stLis) (defBody stLis) (defScope stLis) .none kVLs dcLs pmLs anLs cdLs ctLs), slLs⟩)
    (cLs : PySem.W.codeIn K cdLs "is_list" = true)
    (kLs : PySem.W.keepIn K (.ref fLs) = true)
    (aNu : PySem.W.nsIn K mainGlobals "is_set_number" = some (some (.ref fNu)))
    (lNu : K.lookup fNu = some ⟨ocNu, odNu, .func (PySem.W.fnOf "is_set_number" "is_set_number" (defArgs stNum) (defBody stNum) (defScope stNum) .none kVNu dcNu pmNu anNu cdNu ctNu), slNu⟩)
    (cNu : PySem.W.codeIn K cdNu "is_set_number" = true)
    (kNu : PySem.W.keepIn K (.ref fNu) = true)
    (aIp : PySem.W.nsIn K mainGlobals "is_place" = some (some (.ref fIp)))
    (lIp : K.lookup fIp = some ⟨ocIp, odIp, .func (PySem.W.fnOf "is_place" "is_place" (defArgs stIpl) (defBody stIpl) (defScope stIpl) .none kVIp dcIp pmIp anIp cdIp ctIp), slIp⟩)
    (cIp : PySem.W.codeIn K cdIp "is_place" = true)
    (kIp : PySem.W.keepIn K (.ref fIp) = true)
    (aSt : PySem.W.nsIn K mainGlobals "is_stamp" = some (some (.ref fSt)))
    (lSt : K.lookup fSt = some ⟨ocSt, odSt, .func (PySem.W.fnOf "is_stamp" "is_stamp" (defArgs stStp) (defBody stStp) (defScope stStp) .none kVSt dcSt pmSt anSt cdSt ctSt), slSt⟩)
    (cSt : PySem.W.codeIn K cdSt "is_stamp" = true)
    (kSt : PySem.W.keepIn K (.ref fSt) = true)
    (aAs : PySem.W.nsIn K mainGlobals "all_stamps" = some (some (.ref fAs)))
    (lAs : K.lookup fAs = some ⟨ocAs, odAs, .func (PySem.W.fnOf "all_stamps" "all_stamps" (defArgs stAls) (defBody stAls) (defScope stAls) .none kVAs dcAs pmAs anAs cdAs ctAs), slAs⟩)
    (cAs : PySem.W.codeIn K cdAs "all_stamps" = true)
    (kAs : PySem.W.keepIn K (.ref fAs) = true)
    (aSs : PySem.W.nsIn K mainGlobals "is_stamps" = some (some (.ref fSs)))
    (lSs : K.lookup fSs = some ⟨ocSs, odSs, .func (PySem.W.fnOf "is_stamps" "is_stamps" (defArgs stSts) (defBody stSts) (defScope stSts) .none kVSs dcSs pmSs anSs cdSs ctSs), slSs⟩)
    (cSs : PySem.W.codeIn K cdSs "is_stamps" = true)
    (kSs : PySem.W.keepIn K (.ref fSs) = true)
    (aFi : PySem.W.nsIn K mainGlobals "filled" = some (some (.ref fFi)))
    (lFi : K.lookup fFi = some ⟨ocFi, odFi, .func (PySem.W.fnOf "filled" "filled" (defArgs stFid) (defBody stFid) (defScope stFid) .none kVFi dcFi pmFi anFi cdFi ctFi), slFi⟩)
    (cFi : PySem.W.codeIn K cdFi "filled" = true)
    (kFi : PySem.W.keepIn K (.ref fFi) = true)
    (aJn : PySem.W.nsIn K mainGlobals "joined" = some (some (.ref fJn)))
    (lJn : K.lookup fJn = some ⟨ocJn, odJn, .func (PySem.W.fnOf "joined" "joined" (defArgs stJnd) (defBody stJnd) (defScope stJnd) .none kVJn dcJn pmJn anJn cdJn ctJn), slJn⟩)
    (cJn : PySem.W.codeIn K cdJn "joined" = true)
    (kJn : PySem.W.keepIn K (.ref fJn) = true)
    (aPt : PySem.W.nsIn K mainGlobals "parted" = some (some (.ref fPt)))
    (lPt : K.lookup fPt = some ⟨ocPt, odPt, .func (PySem.W.fnOf "parted" "parted" (defArgs stPrt) (defBody stPrt) (defScope stPrt) .none kVPt dcPt pmPt anPt cdPt ctPt), slPt⟩)
    (cPt : PySem.W.codeIn K cdPt "parted" = true)
    (kPt : PySem.W.keepIn K (.ref fPt) = true)
    (aPg : PySem.W.nsIn K mainGlobals "parting" = some (some (.ref fPg)))
    (lPg : K.lookup fPg = some ⟨ocPg, odPg, .func (PySem.W.fnOf "parting" "parting" (defArgs stPtg) (defBody stPtg) (defScope stPtg) .none kVPg dcPg pmPg anPg cdPg ctPg), slPg⟩)
    (cPg : PySem.W.codeIn K cdPg "parting" = true)
    (kPg : PySem.W.keepIn K (.ref fPg) = true)
    (aCe : PySem.W.nsIn K mainGlobals "_law_cell_at" = some (some (.ref fCe)))
    (lCe : K.lookup fCe = some ⟨ocCe, odCe, .func (PySem.W.fnOf "_law_cell_at" "_law_cell_at" (defArgs stCell) (defBody stCell) (defScope stCell) .none kVCe dcCe pmCe anCe cdCe ctCe), slCe⟩)
    (cCe : PySem.W.codeIn K cdCe "_law_cell_at" = true)
    (kCe : PySem.W.keepIn K (.ref fCe) = true)
    (aPe : PySem.W.nsIn K mainGlobals "_law_pen" = some (some (.ref fPe)))
    (lPe : K.lookup fPe = some ⟨ocPe, odPe, .func (PySem.W.fnOf "_law_pen" "_law_pen" (defArgs stPen) (defBody stPen) (defScope stPen) .none kVPe dcPe pmPe anPe cdPe ctPe), slPe⟩)
    (cPe : PySem.W.codeIn K cdPe "_law_pen" = true)
    (kPe : PySem.W.keepIn K (.ref fPe) = true)
    (aDr : PySem.W.nsIn K mainGlobals "_law_draw" = some (some (.ref fDr)))
    (lDr : K.lookup fDr = some ⟨ocDr, odDr, .func (PySem.W.fnOf "_law_draw" "_law_draw" (defArgs stDraw) (defBody stDraw) (defScope stDraw) .none kVDr dcDr pmDr anDr cdDr ctDr), slDr⟩)
    (cDr : PySem.W.codeIn K cdDr "_law_draw" = true)
    (kDr : PySem.W.keepIn K (.ref fDr) = true)
    (aLi : PySem.W.nsIn K mainGlobals "_law_list" = some (some (.ref fLi)))
    (lLi : K.lookup fLi = some ⟨ocLi, odLi, .func (PySem.W.fnOf "_law_list" "_law_list" (defArgs stList) (defBody stList) (defScope stList) .none kVLi dcLi pmLi anLi cdLi ctLi), slLi⟩)
    (cLi : PySem.W.codeIn K cdLi "_law_list" = true)
    (kLi : PySem.W.keepIn K (.ref fLi) = true)
    (aPl : PySem.W.nsIn K mainGlobals "_law_places" = some (some (.ref fPl)))
    (lPl : K.lookup fPl = some ⟨ocPl, odPl, .func (PySem.W.fnOf "_law_places" "_law_places" (defArgs stPlc) (defBody stPlc) (defScope stPlc) .none kVPl dcPl pmPl anPl cdPl ctPl), slPl⟩)
    (cPl : PySem.W.codeIn K cdPl "_law_places" = true)
    (kPl : PySem.W.keepIn K (.ref fPl) = true)
    (aSm : PySem.W.nsIn K mainGlobals "_law_stamps" = some (some (.ref fSm)))
    (lSm : K.lookup fSm = some ⟨ocSm, odSm, .func (PySem.W.fnOf "_law_stamps" "_law_stamps" (defArgs stStm) (defBody stStm) (defScope stStm) .none kVSm dcSm pmSm anSm cdSm ctSm), slSm⟩)
    (cSm : PySem.W.codeIn K cdSm "_law_stamps" = true)
    (kSm : PySem.W.keepIn K (.ref fSm) = true)
    (aSr : PySem.W.nsIn K mainGlobals "_law_sums_right" = some (some (.ref fSr)))
    (lSr : K.lookup fSr = some ⟨ocSr, odSr, .func (PySem.W.fnOf "_law_sums_right" "_law_sums_right" (defArgs stSum) (defBody stSum) (defScope stSum) .none kVSr dcSr pmSr anSr cdSr ctSr), slSr⟩)
    (cSr : PySem.W.codeIn K cdSr "_law_sums_right" = true)
    (kSr : PySem.W.keepIn K (.ref fSr) = true)
    (aLa : PySem.W.nsIn K mainGlobals "law" = some (some (.ref fLa)))
    (lLa : K.lookup fLa = some ⟨ocLa, odLa, .func (PySem.W.fnOf "law" "law" (defArgs stLaw) (defBody stLaw) (defScope stLaw) .none kVLa dcLa pmLa anLa cdLa ctLa), slLa⟩)
    (cLa : PySem.W.codeIn K cdLa "law" = true)
    (kLa : PySem.W.keepIn K (.ref fLa) = true)
    (amI : PySem.W.findIn K (.ref C) "__init__" = some (some (.ref fmI)))
    (imI : PySem.W.isFn K (.ref fmI) = true)
    (lmI : K.lookup fmI = some ⟨ocmI, odmI, .func (PySem.W.fnOf "__init__" "Album.__init__" (defArgs sInit) (defBody sInit) (defScope sInit) (.ref TI) kVmI dcmI pmmI anmI cdmI ctmI), slmI⟩)
    (cmI : PySem.W.codeIn K cdmI "Album.__init__" = true)
    (kmI : PySem.W.keepIn K (.ref fmI) = true)
    (amP : PySem.W.findIn K (.ref C) "put" = some (some (.ref fmP)))
    (imP : PySem.W.isFn K (.ref fmP) = true)
    (lmP : K.lookup fmP = some ⟨ocmP, odmP, .func (PySem.W.fnOf "put" "Album.put" (defArgs sPut) (defBody sPut) (defScope sPut) (.ref TP) kVmP dcmP pmmP anmP cdmP ctmP), slmP⟩)
    (cmP : PySem.W.codeIn K cdmP "Album.put" = true)
    (kmP : PySem.W.keepIn K (.ref fmP) = true)
    (amX : PySem.W.findIn K (.ref C) "take" = some (some (.ref fmX)))
    (imX : PySem.W.isFn K (.ref fmX) = true)
    (lmX : K.lookup fmX = some ⟨ocmX, odmX, .func (PySem.W.fnOf "take" "Album.take" (defArgs sTak) (defBody sTak) (defScope sTak) (.ref TK) kVmX dcmX pmmX anmX cdmX ctmX), slmX⟩)
    (cmX : PySem.W.codeIn K cdmX "Album.take" = true)
    (kmX : PySem.W.keepIn K (.ref fmX) = true)
    (amS : PySem.W.findIn K (.ref C) "_check_some" = some (some (.ref fmS)))
    (imS : PySem.W.isFn K (.ref fmS) = true)
    (lmS : K.lookup fmS = some ⟨ocmS, odmS, .func (PySem.W.fnOf "_check_some" "Album._check_some" (defArgs sChs) (defBody sChs) (defScope sChs) .none kVmS dcmS pmmS anmS cdmS ctmS), slmS⟩)
    (cmS : PySem.W.codeIn K cdmS "Album._check_some" = true)
    (kmS : PySem.W.keepIn K (.ref fmS) = true)
    (amC : PySem.W.findIn K (.ref C) "_check_stamp" = some (some (.ref fmC)))
    (imC : PySem.W.isFn K (.ref fmC) = true)
    (lmC : K.lookup fmC = some ⟨ocmC, odmC, .func (PySem.W.fnOf "_check_stamp" "Album._check_stamp" (defArgs sChk) (defBody sChk) (defScope sChk) .none kVmC dcmC pmmC anmC cdmC ctmC), slmC⟩)
    (cmC : PySem.W.codeIn K cdmC "Album._check_stamp" = true)
    (kmC : PySem.W.keepIn K (.ref fmC) = true)
    (amB : PySem.W.findIn K (.ref C) "book" = some (some (.ref fmB)))
    (imB : PySem.W.isFn K (.ref fmB) = true)
    (lmB : K.lookup fmB = some ⟨ocmB, odmB, .func (PySem.W.fnOf "book" "Album.book" (defArgs sBok) (defBody sBok) (defScope sBok) .none kVmB dcmB pmmB anmB cdmB ctmB), slmB⟩)
    (cmB : PySem.W.codeIn K cdmB "Album.book" = true)
    (kmB : PySem.W.keepIn K (.ref fmB) = true)
    (amN : PySem.W.findIn K (.ref C) "called" = some (some (.ref fmN)))
    (imN : PySem.W.isFn K (.ref fmN) = true)
    (lmN : K.lookup fmN = some ⟨ocmN, odmN, .func (PySem.W.fnOf "called" "Album.called" (defArgs sCld) (defBody sCld) (defScope sCld) .none kVmN dcmN pmmN anmN cdmN ctmN), slmN⟩)
    (cmN : PySem.W.codeIn K cdmN "Album.called" = true)
    (kmN : PySem.W.keepIn K (.ref fmN) = true)
    (amO : PySem.W.findIn K (.ref C) "count_of" = some (some (.ref fmO)))
    (imO : PySem.W.isFn K (.ref fmO) = true)
    (lmO : K.lookup fmO = some ⟨ocmO, odmO, .func (PySem.W.fnOf "count_of" "Album.count_of" (defArgs sCof) (defBody sCof) (defScope sCof) .none kVmO dcmO pmmO anmO cdmO ctmO), slmO⟩)
    (cmO : PySem.W.codeIn K cdmO "Album.count_of" = true)
    (kmO : PySem.W.keepIn K (.ref fmO) = true)
    (amA : PySem.W.findIn K (.ref C) "all_of" = some (some (.ref fmA)))
    (imA : PySem.W.isFn K (.ref fmA) = true)
    (lmA : K.lookup fmA = some ⟨ocmA, odmA, .func (PySem.W.fnOf "all_of" "Album.all_of" (defArgs sAof) (defBody sAof) (defScope sAof) .none kVmA dcmA pmmA anmA cdmA ctmA), slmA⟩)
    (cmA : PySem.W.codeIn K cdmA "Album.all_of" = true)
    (kmA : PySem.W.keepIn K (.ref fmA) = true)
    (amG : PySem.W.findIn K (.ref C) "gaps" = some (some (.ref fmG)))
    (imG : PySem.W.isFn K (.ref fmG) = true)
    (lmG : K.lookup fmG = some ⟨ocmG, odmG, .func (PySem.W.fnOf "gaps" "Album.gaps" (defArgs sGaA) (defBody sGaA) (defScope sGaA) .none kVmG dcmG pmmG anmG cdmG ctmG), slmG⟩)
    (cmG : PySem.W.codeIn K cdmG "Album.gaps" = true)
    (kmG : PySem.W.keepIn K (.ref fmG) = true)
    (amF : PySem.W.findIn K (.ref C) "_fills" = some (some (.ref fmF)))
    (imF : PySem.W.isFn K (.ref fmF) = true)
    (lmF : K.lookup fmF = some ⟨ocmF, odmF, .func (PySem.W.fnOf "_fills" "Album._fills" (defArgs sFil) (defBody sFil) (defScope sFil) .none kVmF dcmF pmmF anmF cdmF ctmF), slmF⟩)
    (cmF : PySem.W.codeIn K cdmF "Album._fills" = true)
    (kmF : PySem.W.keepIn K (.ref fmF) = true)
    (amD : PySem.W.findIn K (.ref C) "doubles" = some (some (.ref fmD)))
    (imD : PySem.W.isFn K (.ref fmD) = true)
    (lmD : K.lookup fmD = some ⟨ocmD, odmD, .func (PySem.W.fnOf "doubles" "Album.doubles" (defArgs sDbA) (defBody sDbA) (defScope sDbA) .none kVmD dcmD pmmD anmD cdmD ctmD), slmD⟩)
    (cmD : PySem.W.codeIn K cdmD "Album.doubles" = true)
    (kmD : PySem.W.keepIn K (.ref fmD) = true)
    (amK : PySem.W.findIn K (.ref C) "_keeps" = some (some (.ref fmK)))
    (imK : PySem.W.isFn K (.ref fmK) = true)
    (lmK : K.lookup fmK = some ⟨ocmK, odmK, .func (PySem.W.fnOf "_keeps" "Album._keeps" (defArgs sKee) (defBody sKee) (defScope sKee) .none kVmK dcmK pmmK anmK cdmK ctmK), slmK⟩)
    (cmK : PySem.W.codeIn K cdmK "Album._keeps" = true)
    (kmK : PySem.W.keepIn K (.ref fmK) = true)
    (amW : PySem.W.findIn K (.ref C) "whole_sets" = some (some (.ref fmW)))
    (imW : PySem.W.isFn K (.ref fmW) = true)
    (lmW : K.lookup fmW = some ⟨ocmW, odmW, .func (PySem.W.fnOf "whole_sets" "Album.whole_sets" (defArgs sWho) (defBody sWho) (defScope sWho) .none kVmW dcmW pmmW anmW cdmW ctmW), slmW⟩)
    (cmW : PySem.W.codeIn K cdmW "Album.whole_sets" = true)
    (kmW : PySem.W.keepIn K (.ref fmW) = true)
    (amT : PySem.W.findIn K (.ref C) "twin" = some (some (.ref fmT)))
    (imT : PySem.W.isFn K (.ref fmT) = true)
    (lmT : K.lookup fmT = some ⟨ocmT, odmT, .func (PySem.W.fnOf "twin" "Album.twin" (defArgs sTwn) (defBody sTwn) (defScope sTwn) .none kVmT dcmT pmmT anmT cdmT ctmT), slmT⟩)
    (cmT : PySem.W.codeIn K cdmT "Album.twin" = true)
    (kmT : PySem.W.keepIn K (.ref fmT) = true)
    (amE : PySem.W.findIn K (.ref C) "__eq__" = some (some (.ref fmE)))
    (imE : PySem.W.isFn K (.ref fmE) = true)
    (lmE : K.lookup fmE = some ⟨ocmE, odmE, .func (PySem.W.fnOf "__eq__" "Album.__eq__" (defArgs sEq) (defBody sEq) (defScope sEq) .none kVmE dcmE pmmE anmE cdmE ctmE), slmE⟩)
    (cmE : PySem.W.codeIn K cdmE "Album.__eq__" = true)
    (kmE : PySem.W.keepIn K (.ref fmE) = true)
    (lTI : K.lookup TI = some ⟨ocT, odT, .seq #[.str Str.empty tT, .none] nT, slT⟩)
    (lTP : K.lookup TP = some ⟨ocP, odP, .seq #[.int 1 tP] nP, slP⟩)
    (lTK : K.lookup TK = some ⟨ocK, odK, .seq #[.int 1 tK] nK, slK⟩)
    (cNe : PySem.W.findIn K (.ref C) "__ne__" = some (some (.builtin "object.__ne__")))
    (cCa : PySem.W.findIn K (.ref C) "__class__" = some (some (.builtin "object.__class__")))
    (cCn : PySem.W.specialIn K (.builtin "object.__class__") "__get__" = some (some (.builtin "getset_descriptor.__get__")))
    (cCt : PySem.W.takesIn K (.builtin "object.__class__") = some true)
    (cCm : PySem.W.mroIn K C (.type "object") = some true)
    (cKi : PySem.W.kitOne K (.ref C) (.ref C) = some true)
    (pg : PySem.W.plainGet K C Str.empty = true)
    (hdi : PySem.W.hasDictIn K C = true)
    (po : PySem.W.plainOver K C = true)
    (sa : PySem.W.findIn K (.ref C) "__setattr__" = some (some (.builtin "object.__setattr__")))
    (mk : PySem.W.makesIn K C = true)
    (kc : PySem.W.keepIn K (.ref C) = true)
    (nB : PySem.W.findIn K (.ref C) "_book" = some none)
    (nN : PySem.W.findIn K (.ref C) "_name" = some none)
    (nM : PySem.W.findIn K (.ref C) "_many" = some none)
    (hH : PySem.W.nsIn K mainGlobals "HINGED" = some (some (.int 0 tH)))
    (hW : PySem.W.nsIn K mainGlobals "WHOLE" = some (some (.int 1 tW)))
    (z0 : PySem.W.nsIn K mainGlobals "len" = some none)
    (z1 : PySem.W.nsIn K mainGlobals "int" = some none)
    (z2 : PySem.W.nsIn K mainGlobals "range" = some none)
    (z3 : PySem.W.nsIn K mainGlobals "sorted" = some none)
    (z4 : PySem.W.nsIn K mainGlobals "tuple" = some none)
    (z5 : PySem.W.nsIn K mainGlobals "enumerate" = some none)
    (z6 : PySem.W.nsIn K mainGlobals "isinstance" = some none)
    (z7 : PySem.W.nsIn K mainGlobals "bool" = some none)
    (z8 : PySem.W.nsIn K mainGlobals "str" = some none)
    (z9 : PySem.W.nsIn K mainGlobals "all" = some none)
    (z10 : PySem.W.nsIn K mainGlobals "zip" = some none)
    (z11 : PySem.W.nsIn K mainGlobals "max" = some none)
    (z12 : PySem.W.nsIn K mainGlobals "min" = some none)
    (z13 : PySem.W.nsIn K mainGlobals "sum" = some none)
    : ∃ fd : FuncData, (∀ (s : Shared) (v : Value), BindsTo s fd ⟨[v], []⟩ [("_law_script", v)]) ∧ ∀ base : Heap, K.In base → base.Ns mainGlobals mg → FnOk l.prog w K mg base CX0 12 fa fd ["_law_script"] (spLaw K) := by
  have e := hfa.symm.trans (PySem.W.mg_of X G aLa)
  cases e
  have FW0 := fun_mk (st := stIsW) lW0 cW0 kW0
  have bW0 := FW0.binds (ps := ["thing"]) fun _ _ _ _ _ _ us hl => match us, hl with | [_], _ => rfl
  have FWf := fun_mk (st := stWfr) lWf cWf kWf
  have bWf := FWf.binds (ps := ["thing", "least"]) fun _ _ _ _ _ _ us hl => match us, hl with | [_, _], _ => rfl
  have FWi := fun_mk (st := stWit) lWi cWi kWi
  have bWi := FWi.binds (ps := ["thing", "least", "most"]) fun _ _ _ _ _ _ us hl => match us, hl with | [_, _, _], _ => rfl
  have FLt := fun_mk (st := stLet) lLt cLt kLt
  have bLt := FLt.binds (ps := ["thing", "fewest", "most"]) fun _ _ _ _ _ _ us hl => match us, hl with | [_, _, _], _ => rfl
  have FTu := fun_mk (st := stTup) lTu cTu kTu
  have bTu := FTu.binds (ps := ["thing", "fewest", "most"]) fun _ _ _ _ _ _ us hl => match us, hl with | [_, _, _], _ => rfl
  have FRi := fun_mk (st := stRis) lRi cRi kRi
  have bRi := FRi.binds (ps := ["things"]) fun _ _ _ _ _ _ us hl => match us, hl with | [_], _ => rfl
  have FRw := fun_mk (st := stRiw) lRw cRw kRw
  have bRw := FRw.binds (ps := ["thing", "least", "most"]) fun _ _ _ _ _ _ us hl => match us, hl with | [_, _, _], _ => rfl
  have FYe := fun_mk (st := stYea) lYe cYe kYe
  have bYe := FYe.binds (ps := ["thing"]) fun _ _ _ _ _ _ us hl => match us, hl with | [_], _ => rfl
  have FSe := fun_mk (st := stSet) lSe cSe kSe
  have bSe := FSe.binds (ps := ["thing"]) fun _ _ _ _ _ _ us hl => match us, hl with | [_], _ => rfl
  have FLs := fun_mk (st := stLis) lLs cLs kLs
  have bLs := FLs.binds (ps := ["thing"]) fun _ _ _ _ _ _ us hl => match us, hl with | [_], _ => rfl
  have FNu := fun_mk (st := stNum) lNu cNu kNu
  have bNu := FNu.binds (ps := ["book", "thing"]) fun _ _ _ _ _ _ us hl => match us, hl with | [_, _], _ => rfl
  have FIp := fun_mk (st := stIpl) lIp cIp kIp
  have bIp := FIp.binds (ps := ["book", "thing"]) fun _ _ _ _ _ _ us hl => match us, hl with | [_, _], _ => rfl
  have FSt := fun_mk (st := stStp) lSt cSt kSt
  have bSt := FSt.binds (ps := ["book", "thing"]) fun _ _ _ _ _ _ us hl => match us, hl with | [_, _], _ => rfl
  have FAs := fun_mk (st := stAls) lAs cAs kAs
  have bAs := FAs.binds (ps := ["book"]) fun _ _ _ _ _ _ us hl => match us, hl with | [_], _ => rfl
  have FSs := fun_mk (st := stSts) lSs cSs kSs
  have bSs := FSs.binds (ps := ["book", "thing"]) fun _ _ _ _ _ _ us hl => match us, hl with | [_, _], _ => rfl
  have FFi := fun_mk (st := stFid) lFi cFi kFi
  have bFi := FFi.binds (ps := ["book", "name", "counts"]) fun _ _ _ _ _ _ us hl => match us, hl with | [_, _, _], _ => rfl
  have FJn := fun_mk (st := stJnd) lJn cJn kJn
  have bJn := FJn.binds (ps := ["one", "other"]) fun _ _ _ _ _ _ us hl => match us, hl with | [_, _], _ => rfl
  have FPt := fun_mk (st := stPrt) lPt cPt kPt
  have bPt := FPt.binds (ps := ["album", "places"]) fun _ _ _ _ _ _ us hl => match us, hl with | [_, _], _ => rfl
  have FPg := fun_mk (st := stPtg) lPg cPg kPg
  have bPg := FPg.binds (ps := ["one", "other"]) fun _ _ _ _ _ _ us hl => match us, hl with | [_, _], _ => rfl
  have FCe := fun_mk (st := stCell) lCe cCe kCe
  have bCe := FCe.binds (ps := ["_law_script", "_law_k"]) fun _ _ _ _ _ _ us hl => match us, hl with | [_, _], _ => rfl
  have FPe := fun_mk (st := stPen) lPe cPe kPe
  have bPe := FPe.binds (ps := ["_law_cell"]) fun _ _ _ _ _ _ us hl => match us, hl with | [_], _ => rfl
  have FDr := fun_mk (st := stDraw) lDr cDr kDr
  have bDr := FDr.binds (ps := ["_law_pen_here", "_law_bound"]) fun _ _ _ _ _ _ us hl => match us, hl with | [_, _], _ => rfl
  have FLi := fun_mk (st := stList) lLi cLi kLi
  have bLi := FLi.binds (ps := ["_law_pen_here"]) fun _ _ _ _ _ _ us hl => match us, hl with | [_], _ => rfl
  have FPl := fun_mk (st := stPlc) lPl cPl kPl
  have bPl := FPl.binds (ps := ["_law_sets"]) fun _ _ _ _ _ _ us hl => match us, hl with | [_], _ => rfl
  have FSm := fun_mk (st := stStm) lSm cSm kSm
  have bSm := FSm.binds (ps := ["_law_pen_here", "_law_sets", "_law_most"]) fun _ _ _ _ _ _ us hl => match us, hl with | [_, _, _], _ => rfl
  have FSr := fun_mk (st := stSum) lSr cSr kSr
  have bSr := FSr.binds (ps := ["_law_album", "_law_sets"]) fun _ _ _ _ _ _ us hl => match us, hl with | [_, _], _ => rfl
  have FLa := fun_mk (st := stLaw) lLa cLa kLa
  have FmI : FInit K fmI _ := ⟨⟨_, _, _, _, _, _, _, _, _, _, rfl, lmI, cmI, .inr ⟨by simp, TI, _, [.str Str.empty tT, .none], nT, rfl, lTI, rfl, .cons ⟨_, rfl⟩ (.cons rfl .nil)⟩, .inl rfl⟩, kmI⟩
  obtain ⟨dsmI4, rdmI4, bmI4⟩ := FmI.binds1 (ps := ["self", "book", "name", "stamps"]) 4 2 (by simp) rfl (fun _ _ _ _ _ _ _ us its l1 l2 => match us, its, l1, l2 with | [_, _, _, _], [_, _], _, _ => ⟨_, rfl, rfl⟩)
  have edmI4 : dsmI4 = [] := by cases rdmI4; rfl
  subst edmI4
  obtain ⟨dsmI3, rdmI3, bmI3⟩ := FmI.binds1 (ps := ["self", "book", "name", "stamps"]) 3 1 (by simp) rfl (fun _ _ _ _ _ _ _ us its l1 l2 => match us, its, l1, l2 with | [_, _, _], [_, _], _, _ => ⟨_, rfl, rfl⟩)
  obtain ⟨dsmI2, rdmI2, bmI2⟩ := FmI.binds1 (ps := ["self", "book", "name", "stamps"]) 2 0 (by simp) rfl (fun _ _ _ _ _ _ _ us its l1 l2 => match us, its, l1, l2 with | [_, _], [_, _], _, _ => ⟨_, rfl, rfl⟩)
  have MmI : Meth K C "__init__" fmI := ⟨amI, imI, kmI⟩
  have FmP : FPut K fmP _ := ⟨⟨_, _, _, _, _, _, _, _, _, _, rfl, lmP, cmP, .inr ⟨by simp, TP, _, [.int 1 tP], nP, rfl, lTP, rfl, .cons ⟨_, rfl⟩ .nil⟩, .inl rfl⟩, kmP⟩
  obtain ⟨dsmP3, rdmP3, bmP3⟩ := FmP.binds1 (ps := ["self", "stamp", "many"]) 3 1 (by simp) rfl (fun _ _ _ _ _ _ _ us its l1 l2 => match us, its, l1, l2 with | [_, _, _], [_], _, _ => ⟨_, rfl, rfl⟩)
  have edmP3 : dsmP3 = [] := by cases rdmP3; rfl
  subst edmP3
  have MmP : Meth K C "put" fmP := ⟨amP, imP, kmP⟩
  have FmX : FTak K fmX _ := ⟨⟨_, _, _, _, _, _, _, _, _, _, rfl, lmX, cmX, .inr ⟨by simp, TK, _, [.int 1 tK], nK, rfl, lTK, rfl, .cons ⟨_, rfl⟩ .nil⟩, .inl rfl⟩, kmX⟩
  obtain ⟨dsmX3, rdmX3, bmX3⟩ := FmX.binds1 (ps := ["self", "stamp", "many"]) 3 1 (by simp) rfl (fun _ _ _ _ _ _ _ us its l1 l2 => match us, its, l1, l2 with | [_, _, _], [_], _, _ => ⟨_, rfl, rfl⟩)
  have edmX3 : dsmX3 = [] := by cases rdmX3; rfl
  subst edmX3
  have MmX : Meth K C "take" fmX := ⟨amX, imX, kmX⟩
  have FmS := fun_mk (st := sChs) lmS cmS kmS
  have bmS := FmS.binds (ps := ["self", "stamp", "many"]) fun _ _ _ _ _ _ us hl => match us, hl with | [_, _, _], _ => rfl
  have MmS : Meth K C "_check_some" fmS := ⟨amS, imS, kmS⟩
  have FmC := fun_mk (st := sChk) lmC cmC kmC
  have bmC := FmC.binds (ps := ["self", "stamp"]) fun _ _ _ _ _ _ us hl => match us, hl with | [_, _], _ => rfl
  have MmC : Meth K C "_check_stamp" fmC := ⟨amC, imC, kmC⟩
  have FmB := fun_mk (st := sBok) lmB cmB kmB
  have bmB := FmB.binds (ps := ["self"]) fun _ _ _ _ _ _ us hl => match us, hl with | [_], _ => rfl
  have MmB : Meth K C "book" fmB := ⟨amB, imB, kmB⟩
  have FmN := fun_mk (st := sCld) lmN cmN kmN
  have bmN := FmN.binds (ps := ["self"]) fun _ _ _ _ _ _ us hl => match us, hl with | [_], _ => rfl
  have MmN : Meth K C "called" fmN := ⟨amN, imN, kmN⟩
  have FmO := fun_mk (st := sCof) lmO cmO kmO
  have bmO := FmO.binds (ps := ["self", "stamp"]) fun _ _ _ _ _ _ us hl => match us, hl with | [_, _], _ => rfl
  have MmO : Meth K C "count_of" fmO := ⟨amO, imO, kmO⟩
  have FmA := fun_mk (st := sAof) lmA cmA kmA
  have bmA := FmA.binds (ps := ["self"]) fun _ _ _ _ _ _ us hl => match us, hl with | [_], _ => rfl
  have MmA : Meth K C "all_of" fmA := ⟨amA, imA, kmA⟩
  have FmG := fun_mk (st := sGaA) lmG cmG kmG
  have bmG := FmG.binds (ps := ["self", "place"]) fun _ _ _ _ _ _ us hl => match us, hl with | [_, _], _ => rfl
  have MmG : Meth K C "gaps" fmG := ⟨amG, imG, kmG⟩
  have FmF := fun_mk (st := sFil) lmF cmF kmF
  have bmF := FmF.binds (ps := ["self", "at", "number"]) fun _ _ _ _ _ _ us hl => match us, hl with | [_, _, _], _ => rfl
  have MmF : Meth K C "_fills" fmF := ⟨amF, imF, kmF⟩
  have FmD := fun_mk (st := sDbA) lmD cmD kmD
  have bmD := FmD.binds (ps := ["self"]) fun _ _ _ _ _ _ us hl => match us, hl with | [_], _ => rfl
  have MmD : Meth K C "doubles" fmD := ⟨amD, imD, kmD⟩
  have FmK := fun_mk (st := sKee) lmK cmK kmK
  have bmK := FmK.binds (ps := ["self", "stamp"]) fun _ _ _ _ _ _ us hl => match us, hl with | [_, _], _ => rfl
  have MmK : Meth K C "_keeps" fmK := ⟨amK, imK, kmK⟩
  have FmW := fun_mk (st := sWho) lmW cmW kmW
  have bmW := FmW.binds (ps := ["self"]) fun _ _ _ _ _ _ us hl => match us, hl with | [_], _ => rfl
  have MmW : Meth K C "whole_sets" fmW := ⟨amW, imW, kmW⟩
  have FmT := fun_mk (st := sTwn) lmT cmT kmT
  have bmT := FmT.binds (ps := ["self"]) fun _ _ _ _ _ _ us hl => match us, hl with | [_], _ => rfl
  have MmT : Meth K C "twin" fmT := ⟨amT, imT, kmT⟩
  have FmE := fun_mk (st := sEq) lmE cmE kmE
  have bmE := FmE.binds (ps := ["self", "other"]) fun _ _ _ _ _ _ us hl => match us, hl with | [_, _], _ => rfl
  have MmE : Meth K C "__eq__" fmE := ⟨amE, imE, kmE⟩
  have TK : TxtKind mg := ⟨(PySem.W.mg_none_of X G z6), (PySem.W.mg_none_of X G z1), (PySem.W.mg_none_of X G z7), (PySem.W.mg_none_of X G z8), (PySem.W.mg_none_of X G z4), (PySem.W.mg_none_of X G z0), (PySem.W.mg_none_of X G z9), (PySem.W.mg_none_of X G z10)⟩
  have TL : TxtLen mg := ⟨(PySem.W.mg_none_of X G z0), (PySem.W.mg_none_of X G z1)⟩
  have TLi : TxtList mg fDr := ⟨(PySem.W.mg_none_of X G z2), (PySem.W.mg_none_of X G z3), (PySem.W.mg_none_of X G z4), (PySem.W.mg_of X G aDr)⟩
  have TI' : TxtIt mg := ⟨(PySem.W.mg_none_of X G z2), (PySem.W.mg_none_of X G z5)⟩
  have TSm : TxtStm mg fDr fPl := ⟨(PySem.W.mg_none_of X G z2), (PySem.W.mg_none_of X G z0), (PySem.W.mg_none_of X G z4), (PySem.W.mg_of X G aDr), (PySem.W.mg_of X G aPl)⟩
  have TB : TxtBook mg fWi fLt fRi fSe fTu fYe := ⟨TK, (PySem.W.mg_of X G aTu), (PySem.W.mg_of X G aYe), (PySem.W.mg_of X G aWi), (PySem.W.mg_of X G aLt), (PySem.W.mg_of X G aRi), (PySem.W.mg_of X G aSe)⟩
  have hHg : ∃ t, mg "HINGED" = some (.int 0 t) := ⟨_, (PySem.W.mg_of X G hH)⟩
  have hWh : ∃ t, mg "WHOLE" = some (.int 1 t) := ⟨_, (PySem.W.mg_of X G hW)⟩
  have TS : TxtStp mg fWi fNu fSt fTu fIp := ⟨TK, (PySem.W.mg_of X G aWi), (PySem.W.mg_of X G aNu), (PySem.W.mg_of X G aSt), (PySem.W.mg_of X G aTu), (PySem.W.mg_of X G aIp), hHg, hWh⟩
  have TA : TxtAlb K mg C := ⟨⟨pg, hdi, po, sa⟩, nB, nN, nM, (PySem.W.mg_of X G aAlb)⟩
  have TC : TxtCal mg fLs fLt fSs fSt fNu := ⟨(PySem.W.mg_of X G aLs), (PySem.W.mg_of X G aLt), (PySem.W.mg_of X G aSs), (PySem.W.mg_of X G aSt), (PySem.W.mg_of X G aNu)⟩
  have TU : TxtU mg fSt fNu := ⟨(PySem.W.mg_of X G aSt), (PySem.W.mg_of X G aNu), (PySem.W.mg_none_of X G z3), (PySem.W.mg_none_of X G z2), (PySem.W.mg_none_of X G z0), hHg, hWh⟩
  have MK : Mk K C fmI := ⟨mk, amI, imI, kc⟩
  refine ⟨PySem.W.fnOf "law" "law" (defArgs stLaw) (defBody stLaw) (defScope stLaw) .none kVLa dcLa pmLa anLa cdLa ctLa, fun s v => .of_eq rfl, fun base _ _ => ?_⟩
  have TIs : TxtIsi K C := ⟨cCa, cCn, cCt, cCm, cKi⟩
  have OW : OwnCmp K C fmE := ⟨amE, imE, cNe, cCm⟩
  have G0 := ok_isw (P := l.prog) (w := w) (base := base) (mg := mg) FW0 TK
  have GWf := ok_wfr FWf (PySem.W.mg_of X G aW0) kW0 G0 bW0
  have GWi := ok_wit FWi (PySem.W.mg_of X G aW0) kW0 G0 bW0
  have GTu := ok_tup (P := l.prog) (w := w) (base := base) (mg := mg) FTu TK
  have GLt := ok_let (P := l.prog) (w := w) (base := base) (mg := mg) FLt TK
  have GRi := ok_ris (P := l.prog) (w := w) (base := base) (mg := mg) FRi TK
  have GRj := ok_risI (P := l.prog) (w := w) (base := base) (mg := mg) FRi TK
  have GRw := ok_riw FRw TK (PySem.W.mg_of X G aWi) kWi (PySem.W.mg_of X G aRi) kRi GWi bWi GRj bRi
  have GNu := ok_num FNu (PySem.W.mg_of X G aWi) (PySem.W.mg_none_of X G z0) kWi GWi bWi
  have GYe := ok_yea FYe (PySem.W.mg_of X G aWi) kWi GWi bWi
  have GSe := ok_set FSe TB kWi kLt GWi bWi GLt bLt kTu GTu bTu kYe GYe bYe
  have GLs := ok_lis FLs TB kRi kSe kTu GTu bTu GSe bSe GRi bRi
  have GIp := ok_ipl FIp TS kWi kNu kTu GWi bWi GTu bTu GNu bNu
  have GSt := ok_stp FSt TS kWi kIp kTu GWi bWi GTu bTu GIp bIp
  have GAs := ok_als (P := l.prog) (w := w) (base := base) (mg := mg) FAs TI' hHg hWh
  have GSs := ok_sts FSs TS kSt GSt bSt
  have GI := ok_init FmI TA TC kLs kLt kSs GLs bLs GLt bLt GSs bSs
  have GI0 := ok_ini0 FmI TA TC kLs kLt kSs GLs bLs GLt bLt GSs bSs
  have GCh := ok_chk FmC TA TU kSt GSt bSt
  have GCs := ok_chs FmS TA MmC (PySem.W.mg_of X G aWf) kWf GCh bmC GWf bWf
  have GCo := ok_cof FmO TA MmC GCh bmC
  have GAo := ok_aof (P := l.prog) (w := w) (base := base) (mg := mg) FmA TA (PySem.W.mg_none_of X G z3)
  have GBo := ok_bok (P := l.prog) (w := w) (base := base) (mg := mg) FmB TA
  have GCd := ok_cld (P := l.prog) (w := w) (base := base) (mg := mg) FmN TA
  have GPu := ok_put FmP TA MmS MmO GCs bmS GCo bmO
  have GFi := ok_fid FFi TA MK MmP GI0 rdmI3 bmI3 GPu bmP3
  have GTw := ok_twn FmT TA MmA (PySem.W.mg_of X G aFi) kFi GAo bmA GFi bFi
  have GJn := ok_jnd FJn TA MmT MmA MmP GTw bmT GAo bmA GPu bmP3
  have GPt := ok_prt FPt TA (PySem.W.mg_none_of X G z0) MmB MmA MmN (PySem.W.mg_of X G aRw) kRw (PySem.W.mg_of X G aFi) kFi GRw bRw GBo bmB GAo bmA GCd bmN GFi bFi
  have GPg := ok_ptg FPg TA MmB MmO (PySem.W.mg_of X G aAs) kAs GAs bAs GBo bmB GCo bmO
  have GCe := ok_cell (P := l.prog) (w := w) (base := base) (mg := mg) FCe TL
  have GPe := ok_pen (P := l.prog) (w := w) (base := base) (mg := mg) FPe TL
  have GDr := ok_draw (P := l.prog) (w := w) (base := base) (mg := mg) FDr
  have GLi := ok_list FLi TLi kDr GDr bDr
  have GPl := ok_plc (P := l.prog) (w := w) (base := base) (mg := mg) FPl TI'
  have GSm := ok_stm FSm TSm kDr kPl GDr bDr GPl bPl
  have GFl := ok_fil (P := l.prog) (w := w) (base := base) (mg := mg) FmF TA TU
  have GGa := ok_gaA FmG TA TU MmF kNu GFl bmF GNu bNu
  have GKe := ok_kee (P := l.prog) (w := w) (base := base) (mg := mg) FmK TA TU
  have GDa := ok_dbA FmD TA MmA MmK GAo bmA GKe bmK
  have GWh := ok_who FmW TA TU MmG GGa bmG
  have GTk := ok_tak FmX TA MmS MmO GCs bmS GCo bmO
  have GEq := ok_eq (P := l.prog) (w := w) (base := base) (mg := mg) FmE TA (PySem.W.mg_none_of X G z6) TIs
  have GSr := ok_sum FSr TA (PySem.W.mg_none_of X G z13) (PySem.W.mg_none_of X G z0) (PySem.W.mg_none_of X G z2) MmA MmG MmD MmW GAo bmA GGa bmG GDa bmD GWh bmW
  exact ok_law ⟨(PySem.W.mg_none_of X G z2), (PySem.W.mg_none_of X G z11), (PySem.W.mg_none_of X G z12), (PySem.W.mg_none_of X G z0), (PySem.W.mg_none_of X G z4), (PySem.W.mg_none_of X G z9), TA, MK, OW, (PySem.W.mg_of X G aCe), (PySem.W.mg_of X G aPe), (PySem.W.mg_of X G aDr), (PySem.W.mg_of X G aLi), (PySem.W.mg_of X G aSm), (PySem.W.mg_of X G aJn), (PySem.W.mg_of X G aPt), (PySem.W.mg_of X G aPg), (PySem.W.mg_of X G aSr), kCe, kPe, kDr, kLi, kSm, kJn, kPt, kPg, kSr, MmP, MmX, MmO, MmT, MmD, MmG, MmW, GCe, GPe, GDr, GLi, GSm, GJn, GPt, GPg, GSr, GI, GI0, GPu, GTk, GCo, GTw, GDa, GGa, GWh, GEq, bCe, bPe, bDr, bLi, bSm, bJn, bPt, bPg, bSr, bmI4, bmI2, rdmI2, bmP3, bmX3, bmO, bmT, bmD, bmG, bmW, bmE⟩ FLa
theorem walk {l : PySem.W.OpenLaw} {q : Program} {loose : List Str} {XP : (Str → Option Value) → Heap → Prop} {YP : World → Heap → Prop} {d : DefRec} {K : Params → PySem.W.Frag} (hn : l.most = some 63) (hdf : d.params.defaults = [])
    (hY : ∀ (w : World) (h : Heap), YP w h → (K w.params).In h)
    (F : ∀ (w : World) (mg : Str → Option Value) (fa : Addr) (h : Heap), (K w.params).In h → h.Ns mainGlobals mg → mg d.name = some (.ref fa) →
      ∃ fd : FuncData, (∀ (s : Shared) (u : Value), BindsTo s fd ⟨[u], []⟩ [("_law_script", u)]) ∧ ∀ base : Heap, (K w.params).In base → base.Ns mainGlobals mg → FnOk l.prog w (K w.params) mg base CX0 12 fa fd ["_law_script"] (spLaw (K w.params))) :
    PySem.W.WalkO q loose XP YP l.row.toRowW d [] (fun f vs => PySem.call f vs) :=
  L2.walk_of (n := 63) (k := 12) (x := "_law_script") (CX := fun _ => CX0) (sp := fun w => spLaw (K w.params)) hn (by decide) hdf ⟨rfl, by decide, by decide⟩ hY F (fun _ _ a ns hl _ hS => ⟨a, ns, rfl, hS, hl, fun _ => rfl⟩) fun _ _ _ _ _ z => z
end Hm

set_option Elab.async false
open PySem PySem.W PyProof.Rows
set_option maxRecDepth 100000 in
set_option maxHeartbeats 0 in
theorem PySem.Challenge.cw_hingemount_k10_whole_nothing_is_lost_holds : PySem.Challenge.rw_hingemount_k10_whole_nothing_is_lost.Holds := by
  w_on; o_law; k_head; (case hw => w_witness2)
  k_fill
  refine Hm.walk (l := PySem.Challenge.rw_hingemount_k10_whole_nothing_is_lost) rfl rfl (fun w h Y => PySem.W.kIn_of Y) ?F
  case F =>
    intro w mg fa h KX G hmg
    refine' Hm.all_mk KX G hmg ?aAlb ?aW0 ?lW0 ?cW0 ?kW0 ?aWf ?lWf ?cWf ?kWf ?aWi ?lWi ?cWi ?kWi ?aLt ?lLt ?cLt ?kLt ?aTu ?lTu ?cTu ?kTu ?aRi ?lRi ?cRi ?kRi ?aRw ?lRw ?cRw ?kRw ?aYe ?lYe ?cYe ?kYe ?aSe ?lSe ?cSe ?kSe ?aLs ?lLs ?cLs ?kLs ?aNu ?lNu ?cNu ?kNu ?aIp ?lIp ?cIp ?kIp ?aSt ?lSt ?cSt ?kSt ?aAs ?lAs ?cAs ?kAs ?aSs ?lSs ?cSs ?kSs ?aFi ?lFi ?cFi ?kFi ?aJn ?lJn ?cJn ?kJn ?aPt ?lPt ?cPt ?kPt ?aPg ?lPg ?cPg ?kPg ?aCe ?lCe ?cCe ?kCe ?aPe ?lPe ?cPe ?kPe ?aDr ?lDr ?cDr ?kDr ?aLi ?lLi ?cLi ?kLi ?aPl ?lPl ?cPl ?kPl ?aSm ?lSm ?cSm ?kSm ?aSr ?lSr ?cSr ?kSr ?aLa ?lLa ?cLa ?kLa ?amI ?imI ?lmI ?cmI ?kmI ?amP ?imP ?lmP ?cmP ?kmP ?amX ?imX ?lmX ?cmX ?kmX ?amS ?imS ?lmS ?cmS ?kmS ?amC ?imC ?lmC ?cmC ?kmC ?amB ?imB ?lmB ?cmB ?kmB ?amN ?imN ?lmN ?cmN ?kmN ?amO ?imO ?lmO ?cmO ?kmO ?amA ?imA ?lmA ?cmA ?kmA ?amG ?imG ?lmG ?cmG ?kmG ?amF ?imF ?lmF ?cmF ?kmF ?amD ?imD ?lmD ?cmD ?kmD ?amK ?imK ?lmK ?cmK ?kmK ?amW ?imW ?lmW ?cmW ?kmW ?amT ?imT ?lmT ?cmT ?kmT ?amE ?imE ?lmE ?cmE ?kmE ?lTI ?lTP ?lTK ?cNe ?cCa ?cCn ?cCt ?cCm ?cKi ?pg ?hdi ?po ?sa ?mk ?kc ?nB ?nN ?nM ?hH ?hW ?z0 ?z1 ?z2 ?z3 ?z4 ?z5 ?z6 ?z7 ?z8 ?z9 ?z10 ?z11 ?z12 ?z13
    (case aAlb => k_is)
    (case aW0 => k_is)
    (case lW0 => k_is)
    (case cW0 => k_is)
    (case kW0 => k_is)
    (case aWf => k_is)
    (case lWf => k_is)
    (case cWf => k_is)
    (case kWf => k_is)
    (case aWi => k_is)
    (case lWi => k_is)
    (case cWi => k_is)
    (case kWi => k_is)
    (case aLt => k_is)
    (case lLt => k_is)
    (case cLt => k_is)
    (case kLt => k_is)
    (case aTu => k_is)
    (case lTu => k_is)
    (case cTu => k_is)
    (case kTu => k_is)
    (case aRi => k_is)
    (case lRi => k_is)
    (case cRi => k_is)
    (case kRi => k_is)
    (case aRw => k_is)
    (case lRw => k_is)
    (case cRw => k_is)
    (case kRw => k_is)
    (case aYe => k_is)
    (case lYe => k_is)
    (case cYe => k_is)
    (case kYe => k_is)
    (case aSe => k_is)
    (case lSe => k_is)
    (case cSe => k_is)
    (case kSe => k_is)
    (case aLs => k_is)
    (case lLs => k_is)
    (case cLs => k_is)
    (case kLs => k_is)
    (case aNu => k_is)
    (case lNu => k_is)
    (case cNu => k_is)
    (case kNu => k_is)
    (case aIp => k_is)
    (case lIp => k_is)
    (case cIp => k_is)
    (case kIp => k_is)
    (case aSt => k_is)
    (case lSt => k_is)
    (case cSt => k_is)
    (case kSt => k_is)
    (case aAs => k_is)
    (case lAs => k_is)
    (case cAs => k_is)
    (case kAs => k_is)
    (case aSs => k_is)
    (case lSs => k_is)
    (case cSs => k_is)
    (case kSs => k_is)
    (case aFi => k_is)
    (case lFi => k_is)
    (case cFi => k_is)
    (case kFi => k_is)
    (case aJn => k_is)
    (case lJn => k_is)
    (case cJn => k_is)
    (case kJn => k_is)
    (case aPt => k_is)
    (case lPt => k_is)
    (case cPt => k_is)
    (case kPt => k_is)
    (case aPg => k_is)
    (case lPg => k_is)
    (case cPg => k_is)
    (case kPg => k_is)
    (case aCe => k_is)
    (case lCe => k_is)
    (case cCe => k_is)
    (case kCe => k_is)
    (case aPe => k_is)
    (case lPe => k_is)
    (case cPe => k_is)
    (case kPe => k_is)
    (case aDr => k_is)
    (case lDr => k_is)
    (case cDr => k_is)
    (case kDr => k_is)
    (case aLi => k_is)
    (case lLi => k_is)
    (case cLi => k_is)
    (case kLi => k_is)
    (case aPl => k_is)
    (case lPl => k_is)
    (case cPl => k_is)
    (case kPl => k_is)
    (case aSm => k_is)
    (case lSm => k_is)
    (case cSm => k_is)
    (case kSm => k_is)
    (case aSr => k_is)
    (case lSr => k_is)
    (case cSr => k_is)
    (case kSr => k_is)
    (case aLa => k_is)
    (case lLa => k_is)
    (case cLa => k_is)
    (case kLa => k_is)
    (case amI => k_is)
    (case imI => k_is)
    (case lmI => k_is)
    (case cmI => k_is)
    (case kmI => k_is)
    (case amP => k_is)
    (case imP => k_is)
    (case lmP => k_is)
    (case cmP => k_is)
    (case kmP => k_is)
    (case amX => k_is)
    (case imX => k_is)
    (case lmX => k_is)
    (case cmX => k_is)
    (case kmX => k_is)
    (case amS => k_is)
    (case imS => k_is)
    (case lmS => k_is)
    (case cmS => k_is)
    (case kmS => k_is)
    (case amC => k_is)
    (case imC => k_is)
    (case lmC => k_is)
    (case cmC => k_is)
    (case kmC => k_is)
    (case amB => k_is)
    (case imB => k_is)
    (case lmB => k_is)
    (case cmB => k_is)
    (case kmB => k_is)
    (case amN => k_is)
    (case imN => k_is)
    (case lmN => k_is)
    (case cmN => k_is)
    (case kmN => k_is)
    (case amO => k_is)
    (case imO => k_is)
    (case lmO => k_is)
    (case cmO => k_is)
    (case kmO => k_is)
    (case amA => k_is)
    (case imA => k_is)
    (case lmA => k_is)
    (case cmA => k_is)
    (case kmA => k_is)
    (case amG => k_is)
    (case imG => k_is)
    (case lmG => k_is)
    (case cmG => k_is)
    (case kmG => k_is)
    (case amF => k_is)
    (case imF => k_is)
    (case lmF => k_is)
    (case cmF => k_is)
    (case kmF => k_is)
    (case amD => k_is)
    (case imD => k_is)
    (case lmD => k_is)
    (case cmD => k_is)
    (case kmD => k_is)
    (case amK => k_is)
    (case imK => k_is)
    (case lmK => k_is)
    (case cmK => k_is)
    (case kmK => k_is)
    (case amW => k_is)
    (case imW => k_is)
    (case lmW => k_is)
    (case cmW => k_is)
    (case kmW => k_is)
    (case amT => k_is)
    (case imT => k_is)
    (case lmT => k_is)
    (case cmT => k_is)
    (case kmT => k_is)
    (case amE => k_is)
    (case imE => k_is)
    (case lmE => k_is)
    (case cmE => k_is)
    (case kmE => k_is)
    (case lTI => k_is)
    (case lTP => k_is)
    (case lTK => k_is)
    (case cNe => first | k_is | kernel_rfl)
    (case cCa => first | k_is | kernel_rfl)
    (case cCn => first | k_is | kernel_rfl)
    (case cCt => first | k_is | kernel_rfl)
    (case cCm => first | k_is | kernel_rfl)
    (case cKi => first | k_is | kernel_rfl)
    (case pg => k_is)
    (case hdi => k_is)
    (case po => k_is)
    (case sa => k_is)
    (case mk => k_is)
    (case kc => k_is)
    (case nB => k_is)
    (case nN => k_is)
    (case nM => k_is)
    (case hH => k_is)
    (case hW => k_is)
    (case z0 => k_is)
    (case z1 => k_is)
    (case z2 => k_is)
    (case z3 => k_is)
    (case z4 => k_is)
    (case z5 => k_is)
    (case z6 => k_is)
    (case z7 => k_is)
    (case z8 => k_is)
    (case z9 => k_is)
    (case z10 => k_is)
    (case z11 => k_is)
    (case z12 => k_is)
    (case z13 => k_is)

