import PyProof.Rows.All
import Wide.All
import OpenK.AllK
import Wide.FinOn
import PyProof.DictCompW
import KE.KeyNested
import KE.KDictWalk
import HandS.Base
import HandS.Call
import HandS.List
import HandS.Comp
import HandS.Dict
import HandS.DictComp
import HandS.Iter
import HandS.Walk
import HandS.ForMost
import HandS.Conv
import HandS.DictTup
import HandS.TupLen
import HandS.Zip
import HandS.TupAny
import HandS.IsInst
import HandS.Deep
import HandS.Steps
import HandS.Lambda
import HandS.TupMul
import KE.SortData
import KE.DataCmp
import KE.GoesMore
import KE.GoesEnum
import HandS.ForExc
import KE.DataMinMax
import HandS.SetFor
import KE.KDictSum
import HandS.Style
import HandS.Text
import HandS.SortKw
import PyProof.ReprRoads
import PyProof.ReprLen
import HandS.WordsExc
import HandS.TryMany
import HandS.EndTab
import HandS.OwnEq
import HandS.DictEq
import HandS.SlotsOwn
import PyProof.InstNe
import PyProof.DictMoreH
import HandS.Defaults
import HandS.Flow
import HandS.TupSets
import KE.GoesRaise
import HandS.MakeKwOnly
import HandS.MakeKw
import HandS.NamedTupGet
import HandS.DictSub
import KE.KEqNest
import PyProof.NeKinds
import HandS.FStr
import HandS.Nested
import HandS.ExcInit
import HandS.ExcOwn
import HandS.Exc
import HandS.ExcField
import KE.KExcSuper
import HandS.Star
import KE.KCallOwn
import KE.KDictCopyH
import PyProof.Conv_bool
import KE.SortKeyHeap
import HandS.StrMore
import HandS.Strs
import HandS.TryOnly
import KE.IntTextLaws
import PySem.Challenge.RW_hingemount_k85_albums_written_and_read
set_option Elab.async false
set_option maxRecDepth 100000
set_option maxHeartbeats 4000000
set_option linter.all false
/-! dicts whose keys are nested tuples of whole numbers -/
namespace Nd
open PySem PySem.Spec PyProof.Rows L2
mutual
def nums : NestedKey → Bool
  | .none => true
  | .num _ => true
  | .text _ => false
  | .tup ks => numsA ks
def numsA : List NestedKey → Bool
  | [] => true
  | k :: ks => nums k && numsA ks
end
mutual
def nh : NestedKey → Int
  | .none => reduceHash 0xFCA86420
  | .num i => hashInt i
  | .text _ => 0
  | .tup ks => reduceHash (Builtin.Tuple.tupleHashOf (nhs ks))
def nhs : List NestedKey → List Int
  | [] => []
  | k :: ks => nh k :: nhs ks
end
mutual
theorem nh_eq (w : World) : ∀ k : NestedKey, nums k = true → k.hash w = nh k
  | .none, _ => rfl
  | .num _, _ => rfl
  | .text _, h => absurd h Bool.false_ne_true
  | .tup ks, h => by
    show reduceHash (Builtin.Tuple.tupleHashOf (NestedKey.hashes w ks)) = reduceHash (Builtin.Tuple.tupleHashOf (nhs ks))
    rw [nhs_eq w ks h]
theorem nhs_eq (w : World) : ∀ ks : List NestedKey, numsA ks = true → NestedKey.hashes w ks = nhs ks
  | [], _ => rfl
  | k :: ks, h => by
    have h : (nums k && numsA ks) = true := h
    rw [Bool.and_eq_true] at h
    show k.hash w :: NestedKey.hashes w ks = nh k :: nhs ks
    rw [nh_eq w k h.1, nhs_eq w ks h.2]
end
abbrev NE := NestedKey × Addr × V
abbrev NX := NestedKey × Addr × Value
def Rl (p : NE) (q : NX) : Prop := p.1 = q.1 ∧ p.2.1 = q.2.1 ∧ RelV p.2.2 q.2.2
def ent (x : NX) : DictEntry := ⟨nh x.1, .ref x.2.1, x.2.2⟩
def NdAt (h : Heap) (a : Addr) (kas : List NE) : Prop := kas.length ≤ sizeLine ∧ (a == sysModules) = false ∧ (∀ p ∈ kas, nums p.1 = true) ∧ ∃ xs : List NX, Paired Rl kas xs ∧
  ∃ o es ep, h.get? a = some o ∧ o.ExactDict ∧ o.data = .dict es ep ∧ es.toList = xs.map ent ∧ (xs.map (·.1)).Nodup
/-- the object at a is a dict with these entries: key, the key's place, value -/
def ndO (a : Addr) (kas : List NE) : HO := .ext fun h => NdAt h a kas
theorem ndO_ok {P : Program} {w : World} {H : Hp} {h : Heap} {a : Addr} {kas : List NE} (x : NdAt h a kas) : ObjOk P w H h a (ndO a kas) := by
  obtain ⟨z, y, n, xs, r, o, es, ep, e, c⟩ := x
  refine ⟨⟨z, y, n, xs, r, o, es, ep, e, c⟩, ⟨o, e⟩, fun h1 h2 q k => ?_⟩
  obtain ⟨z, y, n, xs, r, o, es, ep, e, c⟩ := q
  exact ⟨z, y, n, xs, r, o, es, ep, k _ e, c⟩
mutual
/-- v is the key k -/
inductive NK (H : Hp) : V → NestedKey → Prop where
  | int (i : Int) : NK H (.int i) (.num i)
  | tup {a : Addr} {vs : List V} {ks : List NestedKey} : H a = some (.tup vs) → NKs H vs ks → NK H (.ref a) (.tup ks)
inductive NKs (H : Hp) : List V → List NestedKey → Prop where
  | nil : NKs H [] []
  | cons {v : V} {vs : List V} {k : NestedKey} {ks : List NestedKey} : NK H v k → NKs H vs ks → NKs H (v :: vs) (k :: ks)
end
mutual
theorem NK.keeps {H H' : Hp} (kt : ∀ a vs, H a = some (.tup vs) → H' a = some (.tup vs)) : ∀ {v : V} {k : NestedKey}, NK H v k → NK H' v k
  | _, _, .int i => .int i
  | _, _, .tup e r => .tup (kt _ _ e) (NKs.keeps kt r)
theorem NKs.keeps {H H' : Hp} (kt : ∀ a vs, H a = some (.tup vs) → H' a = some (.tup vs)) : ∀ {vs : List V} {ks : List NestedKey}, NKs H vs ks → NKs H' vs ks
  | _, _, .nil => .nil
  | _, _, .cons x y => .cons (NK.keeps kt x) (NKs.keeps kt y)
end
mutual
theorem NK.nums {H : Hp} : ∀ {v : V} {k : NestedKey}, NK H v k → Nd.nums k = true
  | _, _, .int i => rfl
  | _, _, .tup _ r => by
    show numsA _ = true
    exact NKs.nums r
theorem NKs.nums {H : Hp} : ∀ {vs : List V} {ks : List NestedKey}, NKs H vs ks → numsA ks = true
  | _, _, .nil => rfl
  | _, _, .cons (k := k) (ks := ks) x y => by
    show (Nd.nums k && numsA ks) = true
    rw [NK.nums x, NKs.nums y]
    rfl
end
section
variable {P : Program} {w : World} {H : Hp} {h : Heap}
mutual
theorem NK.is (ok : HOk P w H h) : ∀ {v : V} {k : NestedKey} {u : Value}, NK H v k → RelV v u → NestedIs h k u
  | _, _, u, .int i, r => by
    obtain ⟨t, e⟩ := (show ∃ t, u = Value.int i t from r)
    rw [e]
    exact .int i t
  | _, _, u, .tup (a := a) e q, r => by
    cases (show u = Value.ref a from r)
    obtain ⟨_, its, rv, o, h1, h2, n, h3⟩ := (show ObjOk P w H h _ (.tup _) from ok _ _ e)
    exact .tup h1 h2 h3 (by simpa using NKs.is ok q rv)
theorem NKs.is (ok : HOk P w H h) : ∀ {vs : List V} {ks : List NestedKey} {us : List Value}, NKs H vs ks → Vals vs us → NestedAll h ks us
  | _, _, _, .nil, .nil => .nil
  | _, _, _, .cons x y, .cons r t => .cons (NK.is ok x r) (NKs.is ok y t)
end
theorem paired_mem {α β : Type} {F : α → β → Prop} : ∀ {l : List α} {m : List β}, Paired F l m → ∀ y ∈ m, ∃ x ∈ l, F x y
  | _, _, .nil, y, hy => nomatch hy
  | _, _, .cons r t, y, hy => by
    rcases List.mem_cons.mp hy with e | hy
    · rw [e]
      exact ⟨_, List.mem_cons_self, r⟩
    · obtain ⟨x, hx, q⟩ := paired_mem t y hy
      exact ⟨x, List.mem_cons_of_mem _ hx, q⟩
/-- all keys stand where they are told to -/
def KeysOk (H : Hp) (kas : List NE) : Prop := ∀ p ∈ kas, NK H (.ref p.2.1) p.1 ∧ p.1.depth ≤ 8
theorem ents_eq (w : World) : ∀ {kas : List NE} {xs : List NX}, Paired Rl kas xs → (∀ p ∈ kas, nums p.1 = true) → xs.map ent = xs.map (entryOfKey (nestedKind P w))
  | _, _, .nil, _ => rfl
  | _, _, .cons (a := p) (b := q) r t, n => by
    rw [List.map_cons, List.map_cons, ents_eq w t fun p hp => n p (List.mem_cons_of_mem _ hp)]
    have e : q.1.hash w = nh q.1 := nh_eq w _ (by rw [← r.1]; exact n _ List.mem_cons_self)
    show (⟨nh q.1, .ref q.2.1, q.2.2⟩ : DictEntry) :: _ = (⟨q.1.hash w, .ref q.2.1, q.2.2⟩ : DictEntry) :: _
    rw [e]
theorem nd_raw {a : Addr} {kas : List NE} (ok : HOk P w H h) (x : NdAt h a kas) (hk : KeysOk H kas) : kas.length ≤ sizeLine ∧ (a == sysModules) = false ∧ ∃ xs : List NX, Paired Rl kas xs ∧ h.DictOfH (nestedKind P w) a xs := by
  obtain ⟨z, y, n, xs, r, o, es, ep, e, c, d, t, nd⟩ := x
  refine ⟨z, y, xs, r, o, es, ep, e, c, d, by rw [t, ents_eq w r n], fun q hq => ?_, nd⟩
  obtain ⟨p, hp, rl⟩ := paired_mem r q hq
  obtain ⟨h1, h2⟩ := hk p hp
  rw [← rl.1, ← rl.2.1]
  exact ⟨NK.is ok h1 rfl, h2⟩
theorem nd_of {a : Addr} {kas : List NE} (ok : HOk P w H h) (e : H a = some (ndO a kas)) (hk : KeysOk H kas) : kas.length ≤ sizeLine ∧ (a == sysModules) = false ∧ ∃ xs : List NX, Paired Rl kas xs ∧ h.DictOfH (nestedKind P w) a xs :=
  nd_raw ok (show ObjOk P w H h a (ndO a kas) from ok a _ e).1 hk
end
/-! what is asked and put -/
def putN (kas : List NE) (k : NestedKey) (b : Addr) (v : V) : List NE := if (kas.any fun p => decide (p.1 = k)) = true then kas.map (fun p => if p.1 = k then (p.1, p.2.1, v) else p) else kas ++ [(k, b, v)]
theorem Rl.any {k : NestedKey} : ∀ {kas : List NE} {xs : List NX}, Paired Rl kas xs → (kas.any fun p => decide (p.1 = k)) = (atKey xs k).isSome
  | _, _, .nil => rfl
  | _, _, .cons (a := p) (b := q) r t => by
    have ih := Rl.any (k := k) t
    unfold atKey at ih ⊢
    rw [List.find?_cons, List.any_cons, ← r.1, ih]
    by_cases e : p.1 = k
    · rw [decide_eq_true e]
      rfl
    · rw [decide_eq_false e]
      rfl
theorem Rl.map {k : NestedKey} {v : V} {u : Value} (rv : RelV v u) : ∀ {kas : List NE} {xs : List NX}, Paired Rl kas xs → Paired Rl (kas.map (fun p => if p.1 = k then (p.1, p.2.1, v) else p)) (xs.map (putAt k u))
  | _, _, .nil => .nil
  | _, _, .cons (a := p) (b := q) r t => by
    refine .cons ?_ (Rl.map rv t)
    show Rl (if p.1 = k then (p.1, p.2.1, v) else p) (putAt k u q)
    unfold putAt
    by_cases e : p.1 = k
    · rw [if_pos e, if_pos (by rw [← r.1]; exact e)]
      exact ⟨r.1, r.2.1, rv⟩
    · rw [if_neg e, if_neg (by rw [← r.1]; exact e)]
      exact r
theorem Rl.put {k : NestedKey} {b : Addr} {v : V} {u : Value} (rv : RelV v u) {kas : List NE} {xs : List NX} (r : Paired Rl kas xs) : Paired Rl (putN kas k b v) (storedH xs k b u) := by
  unfold putN storedH
  rw [Rl.any r]
  by_cases q : (atKey xs k).isSome = true
  · rw [if_pos q, if_pos q]
    exact Rl.map rv r
  · rw [if_neg q, if_neg q]
    exact Paired.snoc r ⟨rfl, rfl, rv⟩
theorem putN_len (kas : List NE) (k : NestedKey) (b : Addr) (v : V) : (putN kas k b v).length ≤ kas.length + 1 := by
  unfold putN
  split
  · rw [List.length_map]; omega
  · rw [List.length_append]; exact Nat.le_refl _
theorem putN_keys {φ : NestedKey → Addr → Prop} {kas : List NE} {k : NestedKey} {b : Addr} {v : V} (h : ∀ p ∈ kas, φ p.1 p.2.1) (hb : φ k b) : ∀ p ∈ putN kas k b v, φ p.1 p.2.1 := fun p hp => by
  unfold putN at hp
  split at hp
  · obtain ⟨q, hq, e⟩ := List.mem_map.mp hp
    by_cases z : q.1 = k
    · rw [if_pos z] at e
      rw [← e]
      exact h q hq
    · rw [if_neg z] at e
      rw [← e]
      exact h q hq
  · rcases List.mem_append.mp hp with hp | hp
    · exact h p hp
    · rw [List.mem_singleton.mp hp]
      exact hb
section
variable {X : Cx} {pins : List (Addr × Obj)} {σ : L2.St} {H : Hp} {s : Shared} {a b : Addr} {k : NestedKey} {v : V} {u r : Value} {kas : List NE} {A : Around} {E : Value → Shared → Prop}
theorem nd_put {xs : List NX} {h' : Heap} {t' : Nat} (I : Inv X pins σ H s) (e : H a = some (ndO a kas)) (hl : (putN kas k b v).length ≤ sizeLine) (hd : (a == sysModules) = false) (rel : Paired Rl kas xs) (rv : RelV v r) (kb : NK H (.ref b) k) (dd' : h'.DictOfH (nestedKind X.prog X.w) a (storedH xs k b r)) (hs : Heap.SameBut a s.heap h') :
    Inv X pins σ (upd H a (ndO a (putN kas k b v))) { s with heap := h', toks := t' } := by
  have nm : ∀ p ∈ kas, nums p.1 = true := (show ObjOk X.prog X.w H s.heap a (ndO a kas) from I.hok a _ e).1.2.2.1
  obtain ⟨q, es, ep, hq, h2, h3, h4, _, h5⟩ := dd'
  have nm' : ∀ p ∈ putN kas k b v, nums p.1 = true := putN_keys (φ := fun x _ => nums x = true) nm kb.nums
  have rel' := Rl.put (k := k) (b := b) rv rel
  exact d_write I (by rw [e]; exact True.intro) hs ⟨q, hq⟩ (ndO_ok ⟨hl, hd, nm', _, rel', q, es, ep, hq, h2, h3, by rw [h4, ents_eq (P := X.prog) X.w rel' nm'], h5⟩)
theorem nd_dictSet {Q : Unit → Shared → Prop} (hu : A.units + 9 < cLine) (I : Inv X pins σ H s) (e : H a = some (ndO a kas)) (hk : KeysOk H kas) (kb : NK H (.ref b) k) (db : k.depth ≤ 8) (hz : kas.length < sizeLine) (rv : RelV v r)
    (h : ∀ s', Inv X pins σ (upd H a (ndO a (putN kas k b v))) s' → Q () s') : wpAny (model X.prog X.w) A (dictSet a (.ref b) r) Q E s := by
  obtain ⟨z, hd, xs, rel, dd⟩ := nd_of I.hok e hk
  have hzx : xs.length ≤ sizeLine := by rw [← Paired.length rel]; exact z
  have hl : (putN kas k b v).length ≤ sizeLine := by have := putN_len kas k b v; omega
  exact wpAny_dictSet_heap (knd := nestedKind X.prog X.w) (hsz := hzx) (show A.units + 8 < cLine by omega) ⟨NK.is I.hok kb rfl, db⟩ dd fun h' dd' hs => h _ (nd_put I e hl hd rel rv kb dd' hs)
end
end Nd

set_option Elab.async false
set_option maxRecDepth 100000
set_option maxHeartbeats 4000000
set_option linter.all false
/-! walks over such a dict, which is locked for ever -/
namespace Nd
open PySem PySem.Spec PyProof.Rows L2
section
variable {X : Cx} {pins : List (Addr × Obj)} {σ : L2.St} {H : Hp} {s : Shared} {d : Addr} {o : Obj} {kas : List NE}
end
section
variable {P : Program} {w : World} {K : PySem.W.Frag} {tg : Expr} {d : Addr} {o : Obj} {es : Array DictEntry} {ep : Nat} {kas : List NE}
end
section
variable {X : Cx} {tg e : Expr} {td : TE} {apos cpos : Pos}
end
end Nd

set_option Elab.async false
set_option maxRecDepth 100000
set_option maxHeartbeats 4000000
/-! a list comprehension of three clauses without tests, clause by clause -/
namespace C3
open PySem PySem.Spec PyProof.Rows L2
abbrev NoE : Value → Shared → Prop := fun _ _ => False
/-- what a turn of a clause does, em behind the store -/
def turnOf (t : Expr) (p : Pos) (em : Sem Fin → Sem Fin) (c : Expr) (j : Nat) (it acc : Value) (env : Env) : Sem Fin := do
  standAt p
  let got ← pyNext it
  match got with
  | none => pure (.done .next)
  | some v => do
    letOwnedTupleGo t it v
    assign t env v
    em (again (.compLoop c j it acc env))
/-- the last clause: the item is appended -/
def emLast (elt : Expr) (acc : Value) (env : Env) (k : Sem Fin) : Sem Fin := do
  (do
    let y ← eval elt env
    let _ ← call (.builtin "list.append") [acc, y])
  k
/-- a clause with another behind it -/
def emNext (c : Expr) (j : Nat) (i1 : Expr) (acc : Value) (env : Env) (k : Sem Fin) : Sem Fin := do
  let x ← eval i1 env
  standAt i1.pos
  let y ← foldedSetIterable i1 env x
  let it ← holding [y] (pyIter y)
  let _ ← runOwn (.compStart c j it acc env) env
  k
abbrev comp3 (elt t0 i0 t1 i1 t2 i2 : Expr) (scope : Scope) (pos : Pos) : Expr := .ListComp elt [⟨t0, i0, [], 0⟩, ⟨t1, i1, [], 0⟩, ⟨t2, i2, [], 0⟩] scope pos
section
variable {elt t0 i0 t1 i1 t2 i2 : Expr} {scope : Scope} {pos : Pos} {it acc : Value} {env : Env}
theorem turn0 : compTurn (comp3 elt t0 i0 t1 i1 t2 i2 scope pos) 0 it acc env = turnOf t0 i0.pos (emNext (comp3 elt t0 i0 t1 i1 t2 i2 scope pos) 1 i1 acc env) (comp3 elt t0 i0 t1 i1 t2 i2 scope pos) 0 it acc env := by rfl
theorem turn1 : compTurn (comp3 elt t0 i0 t1 i1 t2 i2 scope pos) 1 it acc env = turnOf t1 i1.pos (emNext (comp3 elt t0 i0 t1 i1 t2 i2 scope pos) 2 i2 acc env) (comp3 elt t0 i0 t1 i1 t2 i2 scope pos) 1 it acc env := by rfl
end
section
variable {P : Program} {w : World} {A : Around} {R : Result → Shared → Prop} {s : Shared} {elt t0 i0 t1 i1 t2 i2 : Expr} {scope : Scope} {pos : Pos} {j : Nat} {it acc : Value} {env : Env} {t : Expr} {p : Pos} {em : Sem Fin → Sem Fin}
theorem loop_of (e : compTurn (comp3 elt t0 i0 t1 i1 t2 i2 scope pos) j it acc env = turnOf t p em (comp3 elt t0 i0 t1 i1 t2 i2 scope pos) j it acc env) (I : Nat → Shared → Prop)
    (turn : ∀ n s, I n s → wpAny (model P w) A (pyNext it) (fun r s1 => match r with
      | none => R (.ok .next) s1
      | some v => wpAny (model P w) A (letOwnedTupleGo t it v) (fun _ s2 => wpAny (model P w) A (assign t env v) (fun _ s3 =>
          ∀ (k : Sem Fin) (Q : Fin → Shared → Prop) (E : Value → Shared → Prop), (∀ m s', m < n → I m s' → wpAny (model P w) A k Q E s') → wpAny (model P w) A (em k) Q E s3) NoE s2) NoE s1) NoE s)
    (n : Nat) (h : I n s) : codeAny (model P w) A (.compLoop (comp3 elt t0 i0 t1 i1 t2 i2 scope pos) j it acc env) R s := by
  refine codeAny_loop rfl I (fun n s hI => ?_) n h
  show wpAny (model P w) A (Sem.onRaise (compTurn (comp3 elt t0 i0 t1 i1 t2 i2 scope pos) j it acc env) (fun x => do noteFrame x env; theTreesLotGoes x)) _ _ s
  refine wpAny_noted ?_
  rw [e]
  unfold turnOf
  refine wpAny_bind (wpAny_standAt (wpAny_bind (thnF (turn n s hI) fun r s1 h1 => ?_)))
  cases r with
  | none => exact wpAny_pure h1
  | some v => exact wpAny_bind (thnF h1 fun _ s2 h2 => wpAny_bind (thnF h2 fun _ s3 h3 => h3 _ _ _ fun m s' hm hI' => wpAny_pure ⟨rfl, m, hm, hI'⟩))
theorem start_of {g : Comprehension} (hg : (clausesOf (comp3 elt t0 i0 t1 i1 t2 i2 scope pos))[j]? = some g) (hs : g.is_async = 0) (h0 : codeAny (model P w) A (.compLoop (comp3 elt t0 i0 t1 i1 t2 i2 scope pos) j it acc env) R s)
    (h : wpAny (model P w) A (pyIter it) (fun it' s' => codeAny (model P w) A (.compLoop (comp3 elt t0 i0 t1 i1 t2 i2 scope pos) j it' acc env) R s') (notedBy (model P w) A env fun x s' => R (.error x) s') s) :
    codeAny (model P w) A (.compStart (comp3 elt t0 i0 t1 i1 t2 i2 scope pos) j it acc env) R s := by
  refine codeAny_of_tree ?_
  show wpAny (model P w) A (Sem.onRaise (compStart (comp3 elt t0 i0 t1 i1 t2 i2 scope pos) j it acc env) (fun x => do noteFrame x env; standAt theWindowsPlace)) _ _ s
  refine wpAny_notedAt ?_
  have e : compStart (comp3 elt t0 i0 t1 i1 t2 i2 scope pos) j it acc env = (do
      if (← ask).params.followText "comprehension-iter-twice" then return ← again (.compLoop (comp3 elt t0 i0 t1 i1 t2 i2 scope pos) j it acc env)
      rule "comprehension.iter-twice"
      standAt g.iter.pos
      again (.compLoop (comp3 elt t0 i0 t1 i1 t2 i2 scope pos) j (← pyIter it) acc env)) := by
    unfold compStart
    rw [hg]
    simp only [Option.elim_some, hs]
    rfl
  rw [e]
  refine wpAny_bind (wpAny_askSetting (wpAny_ite ?_))
  split
  · first
      | exact wpAny_pure ⟨rfl, h0⟩
      | exact wpAny_bind (wpAny_pure (wpAny_pure ⟨rfl, h0⟩))
  · refine wpAny_bind (wpAny_rule ?_)
    exact wpAny_bind (wpAny_standAt (wpAny_bind (wpAny_mono h (fun it' s' h' => wpAny_pure ⟨rfl, h'⟩) fun _ _ x => x)))
end
/-! ### a clause by its reading -/
abbrev Rd3 := L2.St → Hp → (Hp → Prop) → Prop
/-- for tg in iter: behind each store Y -/
def tCl (wi : TI) (g : TG) (vs : List Nat) (Y : Rd3) : Rd3 := fun σ H N => wi σ H fun J H1 => ∃ W : Nat → Nat → Hp → Prop, (∃ m, W 0 m H1) ∧ ∀ i m H, W i m H →
  (J.stop i H ∧ N H) ∨ (J.go i H ∧ ∃ N' : Hp → Prop, (∀ H', N' H' → ∃ m', m' < m ∧ W (i + 1) m' H') ∧ ∀ x H', J.yld i H x H' → g x (wipe σ vs) H' fun σ2 H2 => wipe σ2 vs = wipe σ vs ∧ Y σ2 H2 N')
/-- the item goes to the list at D -/
def tApp (D : Addr) (te : TE) : Rd3 := fun σ H N => te σ H fun y H1 => ∃ acc, H1 D = some (.lst acc) ∧ acc.length < sizeLine ∧ N (upd H1 D (.lst (acc ++ [y])))
/-- what stands behind the store runs by the reading Y, the slots vn forgotten -/
def EmOk (B : Cx) (em : Sem Fin → Sem Fin) (vn : List Nat) (Y : Rd3) : Prop := ∀ (pins : List (Addr × Obj)) (σ : L2.St) (H : Hp) (s : Shared) (N : Hp → Prop) (k : Sem Fin) (Q : Fin → Shared → Prop) (E : Value → Shared → Prop),
  Inv B pins σ H s → Y σ H N → (∀ s' H', Inv B pins (wipe σ vn) H' s' → N H' → wpAny (model B.prog B.w) B.A k Q E s') → wpAny (model B.prog B.w) B.A (em k) Q E s
section
variable {B : Cx} {pins : List (Addr × Obj)} {σ : L2.St} {H : Hp} {s : Shared} {elt t0 i0 t1 i1 t2 i2 : Expr} {scope : Scope} {pos : Pos} {j : Nat} {t : Expr} {p : Pos} {em : Sem Fin → Sem Fin} {D : Addr}
theorem em_last (hxe : B.xe = NoE) {te : TE} (pe : PE B elt te) : EmOk B (emLast elt (.ref D) B.env) [] (tApp D te) := by
  intro pins σ H s N k Q E I y hk
  unfold emLast
  have r := pe.run pins s σ H _ I y
  rw [hxe] at r
  refine wpAny_bind (wpAny_bind (thnF r fun z s1 h1 => ?_))
  obtain ⟨yv, H1, I1, r1, acc, hD, hz, nx⟩ := h1
  exact wpAny_bind (app_ok I1 hD hz r1 fun s2 I2 => wpAny_pure (hk s2 _ I2 nx))
theorem clause (hxe : B.xe = NoE) (hc : B.calm = true) {vs vn : List Nat} (hvn : ∀ i ∈ vn, i ∈ vs) {g : TG} {Y : Rd3}
    (e : ∀ it, compTurn (comp3 elt t0 i0 t1 i1 t2 i2 scope pos) j it (.ref D) B.env = turnOf t p em (comp3 elt t0 i0 t1 i1 t2 i2 scope pos) j it (.ref D) B.env) (pg : PG B t g) (hem : EmOk B em vn Y)
    {it : Addr} {fp : List Addr} {tn : Nat → Heap → Prop} {J : It} (T : Turn B.prog B.w B.K t J fp it tn) (I : Inv B pins σ H s) (st : tn 0 s.heap) (f : ∀ b ∈ fp, FpOk B pins H b)
    {W : Nat → Nat → Hp → Prop} {m0 : Nat} (w0 : W 0 m0 H) {N : Hp → Prop} (tr : ∀ i m H, W i m H →
      (J.stop i H ∧ N H) ∨ (J.go i H ∧ ∃ N' : Hp → Prop, (∀ H', N' H' → ∃ m', m' < m ∧ W (i + 1) m' H') ∧ ∀ x H', J.yld i H x H' → g x σ H' fun σ2 H2 => wipe σ2 vs = σ ∧ Y σ2 H2 N')) :
    codeAny (model B.prog B.w) B.A (.compLoop (comp3 elt t0 i0 t1 i1 t2 i2 scope pos) j (.ref it) (.ref D) B.env) (fun r s' => r = .ok .next ∧ ∃ H', Inv B pins σ H' s' ∧ N H') s := by
  have stat : ∀ {H' : Hp}, (∀ b ∈ fp, H' b = none) → ∀ b ∈ fp, FpOk B pins H' b := fun hn b hb => ⟨hn b hb, (f b hb).2⟩
  refine loop_of (e _) (fun n s' => ∃ i H', Inv B pins σ H' s' ∧ tn i s'.heap ∧ (∀ b ∈ fp, H' b = none) ∧ W i n H') ?_ m0 ⟨0, H, I, st, fun b hb => (f b hb).1, w0⟩
  rintro n s5 ⟨i, H5, I5, st5, n5, w5⟩
  rcases tr i n H5 w5 with ⟨stop, nx⟩ | ⟨go, N', hN, step⟩
  · refine thnF (T.done B rfl rfl rfl hc i pins s5 _ H5 NoE I5 (stat n5) st5 stop) fun r s6 ⟨hr, I6⟩ => ?_
    subst hr
    exact ⟨rfl, H5, I6, nx⟩
  · refine thnF (T.item B rfl rfl rfl hc i pins s5 _ H5 NoE I5 (stat n5) st5 go) fun r s6 ⟨u, hr, h6⟩ => ?_
    subst hr
    refine thnF h6 fun _ s7 ⟨x, H7, I7, r7, y7, st7, n7⟩ => ?_
    have r := pg.run _ s7 σ H7 x u _ (I7.pinned (stat n7) (T.obj _ _ st7)) r7 (step x H7 y7)
    rw [hxe] at r
    refine thnF r fun _ s8 h8 => ?_
    obtain ⟨σ8, H8, I8, hw8, y8⟩ := h8
    intro k Q E hk
    refine hem _ σ8 H8 s8 N' k Q E I8 y8 fun s' H' I' nx => ?_
    obtain ⟨m', hm, w'⟩ := hN H' nx
    have kept : ∀ b ∈ fp, ∀ o, s7.heap.get? b = some o → s'.heap.get? b = some o ∧ H' b = none := fun b hb o eo =>
      have z := I'.pin (b, o) (List.mem_append_right _ (List.mem_append_right _ (mem_pinsAt hb eo)))
      ⟨z.1, z.2.1⟩
    refine hk m' s' hm ⟨i + 1, H', I'.unpinned.weak (by rw [← hw8, wipe_length, wipe_length]) (fun j v ev => ?_), T.keep _ _ _ st7 fun b hb o eo => (kept b hb o eo).1, fun b hb => ?_, w'⟩
    · rw [← hw8] at ev
      obtain ⟨e1, e2⟩ := wipe_some ev
      rw [wipe_out fun z => e2 (hvn j z)]
      exact e1
    · obtain ⟨o, eo, _⟩ := T.obj _ _ st7 b hb
      exact (kept b hb o eo).2
theorem em_next (hxe : B.xe = NoE) (hc : B.calm = true) {vs vn : List Nat} (hvn : ∀ i ∈ vn, i ∈ vs) {ix : Expr} {wi : TI} {g : TG} {Y : Rd3} (hi : PI B t ix wi) (hs : ∀ x, foldedSetIterable ix B.env x = pure x)
    {gc : Comprehension} (hg : (clausesOf (comp3 elt t0 i0 t1 i1 t2 i2 scope pos))[j]? = some gc) (ha : gc.is_async = 0)
    (e : ∀ it, compTurn (comp3 elt t0 i0 t1 i1 t2 i2 scope pos) j it (.ref D) B.env = turnOf t p em (comp3 elt t0 i0 t1 i1 t2 i2 scope pos) j it (.ref D) B.env) (pg : PG B t g) (hem : EmOk B em vn Y) :
    EmOk B (emNext (comp3 elt t0 i0 t1 i1 t2 i2 scope pos) j ix (.ref D) B.env) vs (tCl wi g vs Y) := by
  intro pins σ H s N k Q E I y hk
  unfold emNext
  have r := hi.run pins s σ H _ I y
  rw [hxe] at r
  refine wpAny_bind (thnF r fun xv s1 hx => wpAny_bind (wpAny_standAt (wpAny_bind (wpAny_of_eq (hs xv) (wpAny_bind (wpAny_holding (thnF hx fun itv s2 h2 => ?_)))))))
  obtain ⟨it, fp, tn, J, H2, e2, I2, T, st2, f2, W, ⟨m0, w0⟩, tr⟩ := h2
  subst e2
  refine wpAny_bind (wpAny_runOwn ?_)
  rw [Around.mark_none]
  have lp := clause (N := N) hxe hc hvn e pg hem T (I2.weak (wipe_length σ vs) fun j v ev => (wipe_some ev).1) st2 f2 w0 tr
  refine codeAny_mono (start_of hg ha lp (T.self B.A 0 _ _ _ st2 lp)) fun r s' hr => ?_
  obtain ⟨rfl, H', I', nx⟩ := hr
  exact hk s' H' I' nx
/-- [elt for t0 in i0 for t1 in i1 for t2 in i2] -/
def tLc3 (wi : TI) (g : TG) (wi1 : TI) (g1 : TG) (wi2 : TI) (g2 : TG) (te : TE) (vs vs1 vs2 : List Nat) : TE := fun σ H Q => wi σ H fun J H1 => ∀ D, H1 D = none → ∃ W : Nat → Nat → Hp → Prop, (∃ m, W 0 m (upd H1 D (.lst []))) ∧ ∀ i m H, W i m H →
  (J.stop i H ∧ Q (.ref D) H) ∨ (J.go i H ∧ ∃ N : Hp → Prop, (∀ H', N H' → ∃ m', m' < m ∧ W (i + 1) m' H') ∧ ∀ x H', J.yld i H x H' → g x (wipe σ vs) H' fun σ2 H2 => wipe σ2 vs = wipe σ vs ∧ tCl wi1 g1 vs1 (tCl wi2 g2 vs2 (tApp D te)) σ2 H2 N)
variable {X : Cx}
end
end C3

set_option Elab.async false
set_option maxRecDepth 100000
set_option maxHeartbeats 4000000
set_option linter.all false
/-! a dict comprehension of two clauses without tests, its keys nested tuples of whole numbers -/
namespace Nd
open PySem PySem.Spec PyProof.Rows L2 C3
/-- the last clause: the value is stored at the key -/
def emLastD (kx vx : Expr) (D : Addr) (env : Env) (k : Sem Fin) : Sem Fin := do
  (do
    let kv ← eval kx env
    let vv ← holding [kv] (eval vx env)
    standAt { kx.pos with endLine := vx.pos.endLine, endCol := vx.pos.endCol }
    holding [kv, vv] (dictSet D kv vv))
  k
abbrev comp2 (kx vx t0 i0 t1 i1 : Expr) (scope : Scope) (pos : Pos) : Expr := .DictComp kx vx [⟨t0, i0, [], 0⟩, ⟨t1, i1, [], 0⟩] scope pos
section
variable {kx vx t0 i0 t1 i1 : Expr} {scope : Scope} {pos : Pos} {it acc : Value} {D : Addr} {env : Env}
theorem turn0 : compTurn (comp2 kx vx t0 i0 t1 i1 scope pos) 0 it (.ref D) env = turnOf t0 i0.pos (emNext (comp2 kx vx t0 i0 t1 i1 scope pos) 1 i1 (.ref D) env) (comp2 kx vx t0 i0 t1 i1 scope pos) 0 it (.ref D) env := by rfl
theorem turn1 : compTurn (comp2 kx vx t0 i0 t1 i1 scope pos) 1 it (.ref D) env = turnOf t1 i1.pos (emLastD kx vx D env) (comp2 kx vx t0 i0 t1 i1 scope pos) 1 it (.ref D) env := by rfl
end
section
variable {P : Program} {w : World} {A : Around} {R : Result → Shared → Prop} {s : Shared} {kx vx t0 i0 t1 i1 : Expr} {scope : Scope} {pos : Pos} {j : Nat} {it acc : Value} {env : Env} {t : Expr} {p : Pos} {em : Sem Fin → Sem Fin}
theorem loop_of (e : compTurn (comp2 kx vx t0 i0 t1 i1 scope pos) j it acc env = turnOf t p em (comp2 kx vx t0 i0 t1 i1 scope pos) j it acc env) (I : Nat → Shared → Prop)
    (turn : ∀ n s, I n s → wpAny (model P w) A (pyNext it) (fun r s1 => match r with
      | none => R (.ok .next) s1
      | some v => wpAny (model P w) A (letOwnedTupleGo t it v) (fun _ s2 => wpAny (model P w) A (assign t env v) (fun _ s3 =>
          ∀ (k : Sem Fin) (Q : Fin → Shared → Prop) (E : Value → Shared → Prop), (∀ m s', m < n → I m s' → wpAny (model P w) A k Q E s') → wpAny (model P w) A (em k) Q E s3) NoE s2) NoE s1) NoE s)
    (n : Nat) (h : I n s) : codeAny (model P w) A (.compLoop (comp2 kx vx t0 i0 t1 i1 scope pos) j it acc env) R s := by
  refine codeAny_loop rfl I (fun n s hI => ?_) n h
  show wpAny (model P w) A (Sem.onRaise (compTurn (comp2 kx vx t0 i0 t1 i1 scope pos) j it acc env) (fun x => do noteFrame x env; theTreesLotGoes x)) _ _ s
  refine wpAny_noted ?_
  rw [e]
  unfold turnOf
  refine wpAny_bind (wpAny_standAt (wpAny_bind (thnF (turn n s hI) fun r s1 h1 => ?_)))
  cases r with
  | none => exact wpAny_pure h1
  | some v => exact wpAny_bind (thnF h1 fun _ s2 h2 => wpAny_bind (thnF h2 fun _ s3 h3 => h3 _ _ _ fun m s' hm hI' => wpAny_pure ⟨rfl, m, hm, hI'⟩))
theorem start_of {g : Comprehension} (hg : (clausesOf (comp2 kx vx t0 i0 t1 i1 scope pos))[j]? = some g) (hs : g.is_async = 0) (h0 : codeAny (model P w) A (.compLoop (comp2 kx vx t0 i0 t1 i1 scope pos) j it acc env) R s)
    (h : wpAny (model P w) A (pyIter it) (fun it' s' => codeAny (model P w) A (.compLoop (comp2 kx vx t0 i0 t1 i1 scope pos) j it' acc env) R s') (notedBy (model P w) A env fun x s' => R (.error x) s') s) :
    codeAny (model P w) A (.compStart (comp2 kx vx t0 i0 t1 i1 scope pos) j it acc env) R s := by
  refine codeAny_of_tree ?_
  show wpAny (model P w) A (Sem.onRaise (compStart (comp2 kx vx t0 i0 t1 i1 scope pos) j it acc env) (fun x => do noteFrame x env; standAt theWindowsPlace)) _ _ s
  refine wpAny_notedAt ?_
  have e : compStart (comp2 kx vx t0 i0 t1 i1 scope pos) j it acc env = (do
      if (← ask).params.followText "comprehension-iter-twice" then return ← again (.compLoop (comp2 kx vx t0 i0 t1 i1 scope pos) j it acc env)
      rule "comprehension.iter-twice"
      standAt g.iter.pos
      again (.compLoop (comp2 kx vx t0 i0 t1 i1 scope pos) j (← pyIter it) acc env)) := by
    unfold compStart
    rw [hg]
    simp only [Option.elim_some, hs]
    rfl
  rw [e]
  refine wpAny_bind (wpAny_askSetting (wpAny_ite ?_))
  split
  · first
      | exact wpAny_pure ⟨rfl, h0⟩
      | exact wpAny_bind (wpAny_pure (wpAny_pure ⟨rfl, h0⟩))
  · refine wpAny_bind (wpAny_rule ?_)
    exact wpAny_bind (wpAny_standAt (wpAny_bind (wpAny_mono h (fun it' s' h' => wpAny_pure ⟨rfl, h'⟩) fun _ _ x => x)))
end
/-- the value goes to the dict at D -/
def tAppD (D : Addr) (tk tv : TE) : Rd3 := fun σ H N => tk σ H fun y H1 => tv σ H1 fun z H2 => ∃ kas k b, y = .ref b ∧ H2 D = some (ndO D kas) ∧ KeysOk H2 kas ∧ NK H2 (.ref b) k ∧ k.depth ≤ 8 ∧ kas.length < sizeLine ∧ N (upd H2 D (ndO D (putN kas k b z)))
section
variable {B : Cx} {pins : List (Addr × Obj)} {σ : L2.St} {H : Hp} {s : Shared} {kx vx t0 i0 t1 i1 : Expr} {scope : Scope} {pos : Pos} {j : Nat} {t : Expr} {p : Pos} {em : Sem Fin → Sem Fin} {D : Addr}
theorem em_last (hxe : B.xe = NoE) (hu : B.A.units + 9 < cLine) {tk tv : TE} (pk : PE B kx tk) (pv : PE B vx tv) : EmOk B (emLastD kx vx D B.env) [] (tAppD D tk tv) := by
  intro pins σ H s N k Q E I y hk
  unfold emLastD
  have r := pk.run pins s σ H _ I y
  rw [hxe] at r
  refine wpAny_bind (wpAny_bind (thnF r fun z s1 h1 => ?_))
  obtain ⟨yk, H1, I1, r1, q1⟩ := h1
  have r' := pv.run pins s1 σ H1 _ I1 q1
  rw [hxe] at r'
  refine wpAny_bind (wpAny_holding (thnF r' fun z2 s2 h2 => ?_))
  obtain ⟨yv, H2, I2, r2, kas, k', b, ey, hD, hks, kb, db, hz, nx⟩ := h2
  subst ey
  obtain rfl : z = Value.ref b := r1
  exact wpAny_bind (wpAny_standAt (wpAny_holding (nd_dictSet hu I2 hD hks kb db hz r2 fun s3 I3 => hk s3 _ I3 nx)))
theorem clause (hxe : B.xe = NoE) (hc : B.calm = true) {vs vn : List Nat} (hvn : ∀ i ∈ vn, i ∈ vs) {g : TG} {Y : Rd3}
    (e : ∀ it, compTurn (comp2 kx vx t0 i0 t1 i1 scope pos) j it (.ref D) B.env = turnOf t p em (comp2 kx vx t0 i0 t1 i1 scope pos) j it (.ref D) B.env) (pg : PG B t g) (hem : EmOk B em vn Y)
    {it : Addr} {fp : List Addr} {tn : Nat → Heap → Prop} {J : It} (T : Turn B.prog B.w B.K t J fp it tn) (I : Inv B pins σ H s) (st : tn 0 s.heap) (f : ∀ b ∈ fp, FpOk B pins H b)
    {W : Nat → Nat → Hp → Prop} {m0 : Nat} (w0 : W 0 m0 H) {N : Hp → Prop} (tr : ∀ i m H, W i m H →
      (J.stop i H ∧ N H) ∨ (J.go i H ∧ ∃ N' : Hp → Prop, (∀ H', N' H' → ∃ m', m' < m ∧ W (i + 1) m' H') ∧ ∀ x H', J.yld i H x H' → g x σ H' fun σ2 H2 => wipe σ2 vs = σ ∧ Y σ2 H2 N')) :
    codeAny (model B.prog B.w) B.A (.compLoop (comp2 kx vx t0 i0 t1 i1 scope pos) j (.ref it) (.ref D) B.env) (fun r s' => r = .ok .next ∧ ∃ H', Inv B pins σ H' s' ∧ N H') s := by
  have stat : ∀ {H' : Hp}, (∀ b ∈ fp, H' b = none) → ∀ b ∈ fp, FpOk B pins H' b := fun hn b hb => ⟨hn b hb, (f b hb).2⟩
  refine loop_of (e _) (fun n s' => ∃ i H', Inv B pins σ H' s' ∧ tn i s'.heap ∧ (∀ b ∈ fp, H' b = none) ∧ W i n H') ?_ m0 ⟨0, H, I, st, fun b hb => (f b hb).1, w0⟩
  rintro n s5 ⟨i, H5, I5, st5, n5, w5⟩
  rcases tr i n H5 w5 with ⟨stop, nx⟩ | ⟨go, N', hN, step⟩
  · refine thnF (T.done B rfl rfl rfl hc i pins s5 _ H5 NoE I5 (stat n5) st5 stop) fun r s6 ⟨hr, I6⟩ => ?_
    subst hr
    exact ⟨rfl, H5, I6, nx⟩
  · refine thnF (T.item B rfl rfl rfl hc i pins s5 _ H5 NoE I5 (stat n5) st5 go) fun r s6 ⟨u, hr, h6⟩ => ?_
    subst hr
    refine thnF h6 fun _ s7 ⟨x, H7, I7, r7, y7, st7, n7⟩ => ?_
    have r := pg.run _ s7 σ H7 x u _ (I7.pinned (stat n7) (T.obj _ _ st7)) r7 (step x H7 y7)
    rw [hxe] at r
    refine thnF r fun _ s8 h8 => ?_
    obtain ⟨σ8, H8, I8, hw8, y8⟩ := h8
    intro k Q E hk
    refine hem _ σ8 H8 s8 N' k Q E I8 y8 fun s' H' I' nx => ?_
    obtain ⟨m', hm, w'⟩ := hN H' nx
    have kept : ∀ b ∈ fp, ∀ o, s7.heap.get? b = some o → s'.heap.get? b = some o ∧ H' b = none := fun b hb o eo =>
      have z := I'.pin (b, o) (List.mem_append_right _ (List.mem_append_right _ (mem_pinsAt hb eo)))
      ⟨z.1, z.2.1⟩
    refine hk m' s' hm ⟨i + 1, H', I'.unpinned.weak (by rw [← hw8, wipe_length, wipe_length]) (fun j v ev => ?_), T.keep _ _ _ st7 fun b hb o eo => (kept b hb o eo).1, fun b hb => ?_, w'⟩
    · rw [← hw8] at ev
      obtain ⟨e1, e2⟩ := wipe_some ev
      rw [wipe_out fun z => e2 (hvn j z)]
      exact e1
    · obtain ⟨o, eo, _⟩ := T.obj _ _ st7 b hb
      exact (kept b hb o eo).2
theorem em_next (hxe : B.xe = NoE) (hc : B.calm = true) {vs vn : List Nat} (hvn : ∀ i ∈ vn, i ∈ vs) {ix : Expr} {wi : TI} {g : TG} {Y : Rd3} (hi : PI B t ix wi) (hs : ∀ x, foldedSetIterable ix B.env x = pure x)
    {gc : Comprehension} (hg : (clausesOf (comp2 kx vx t0 i0 t1 i1 scope pos))[j]? = some gc) (ha : gc.is_async = 0)
    (e : ∀ it, compTurn (comp2 kx vx t0 i0 t1 i1 scope pos) j it (.ref D) B.env = turnOf t p em (comp2 kx vx t0 i0 t1 i1 scope pos) j it (.ref D) B.env) (pg : PG B t g) (hem : EmOk B em vn Y) :
    EmOk B (emNext (comp2 kx vx t0 i0 t1 i1 scope pos) j ix (.ref D) B.env) vs (tCl wi g vs Y) := by
  intro pins σ H s N k Q E I y hk
  unfold emNext
  have r := hi.run pins s σ H _ I y
  rw [hxe] at r
  refine wpAny_bind (thnF r fun xv s1 hx => wpAny_bind (wpAny_standAt (wpAny_bind (wpAny_of_eq (hs xv) (wpAny_bind (wpAny_holding (thnF hx fun itv s2 h2 => ?_)))))))
  obtain ⟨it, fp, tn, J, H2, e2, I2, T, st2, f2, W, ⟨m0, w0⟩, tr⟩ := h2
  subst e2
  refine wpAny_bind (wpAny_runOwn ?_)
  rw [Around.mark_none]
  have lp := clause (N := N) hxe hc hvn e pg hem T (I2.weak (wipe_length σ vs) fun j v ev => (wipe_some ev).1) st2 f2 w0 tr
  refine codeAny_mono (start_of hg ha lp (T.self B.A 0 _ _ _ st2 lp)) fun r s' hr => ?_
  obtain ⟨rfl, H', I', nx⟩ := hr
  exact hk s' H' I' nx
variable {X : Cx}
end
end Nd

set_option Elab.async false
set_option maxRecDepth 100000
set_option maxHeartbeats 4000000
set_option linter.all false
namespace Da
open PySem PySem.Spec PyProof.Rows L2
/-! ### data -/
inductive D where
  | non
  | bl (b : Bool)
  | int (i : Int)
  | str (s : Str)
  | tup (xs : List D)
  | lst (xs : List D)
  | dK (ks : List Key) (xs : List D)
  | dT (ks : List (List Key)) (xs : List D)
  | ins (C : Addr) (ns : List Str) (xs : List D)
mutual
/-- v is the data d, all of it in the part F -/
inductive Rep (F : Hp) : V → D → Prop where
  | non : Rep F .non .non
  | bl (b : Bool) : Rep F (.bl b) (.bl b)
  | int (i : Int) : Rep F (.int i) (.int i)
  | str (s : Str) : Rep F (.str s) (.str s)
  | tup {a : Addr} {vs : List V} {ds : List D} : F a = some (.tup vs) → Reps F vs ds → Rep F (.ref a) (.tup ds)
  | lst {a : Addr} {vs : List V} {ds : List D} : F a = some (.lst vs) → Reps F vs ds → Rep F (.ref a) (.lst ds)
  | dK {a : Addr} {kvs : List (Key × V)} {ks : List Key} {ds : List D} : F a = some (.dK kvs) → kvs.map (·.1) = ks → Reps F (kvs.map (·.2)) ds → Rep F (.ref a) (.dK ks ds)
  | dT {a : Addr} {kvs : List (List Key × V)} {ks : List (List Key)} {ds : List D} : F a = some (.dT kvs) → kvs.map (·.1) = ks → Reps F (kvs.map (·.2)) ds → Rep F (.ref a) (.dT ks ds)
  | ins {a C dx : Addr} {fs : List (Str × V)} {ns : List Str} {ds : List D} : F a = some (.ins C dx fs) → fs.map (·.1) = ns → Reps F (fs.map (·.2)) ds → Rep F (.ref a) (.ins C ns ds)
inductive Reps (F : Hp) : List V → List D → Prop where
  | nil : Reps F [] []
  | cons {v : V} {vs : List V} {d : D} {ds : List D} : Rep F v d → Reps F vs ds → Reps F (v :: vs) (d :: ds)
end
theorem Rep.mono {F F' : Hp} (s : Same F F') {v : V} {d : D} (h : Rep F v d) : Rep F' v d :=
  Rep.rec (motive_1 := fun v d _ => Rep F' v d) (motive_2 := fun vs ds _ => Reps F' vs ds) .non .bl .int .str (fun e _ r => .tup (s _ _ e) r) (fun e _ r => .lst (s _ _ e) r) (fun e k _ r => .dK (s _ _ e) k r) (fun e k _ r => .dT (s _ _ e) k r)
    (fun e k _ r => .ins (s _ _ e) k r) .nil (fun _ _ a b => .cons a b) h
theorem Reps.mono {F F' : Hp} (s : Same F F') : ∀ {vs : List V} {ds : List D}, Reps F vs ds → Reps F' vs ds
  | _, _, .nil => .nil
  | _, _, .cons a b => .cons (a.mono s) (Reps.mono s b)
section
variable {F : Hp}
theorem Reps.length : ∀ {vs : List V} {ds : List D}, Reps F vs ds → vs.length = ds.length
  | _, _, .nil => rfl
  | _, _, .cons _ b => by rw [List.length_cons, List.length_cons, Reps.length b]
theorem Reps.get : ∀ {vs : List V} {ds : List D} {i : Nat} {d : D}, Reps F vs ds → ds[i]? = some d → ∃ v, vs[i]? = some v ∧ Rep F v d
  | _, _, i, d, .nil, h => by simp at h
  | _, _, 0, d, .cons a _, h => by
    cases h
    exact ⟨_, rfl, a⟩
  | _, _, i + 1, d, .cons _ b, h => by
    obtain ⟨v, e, r⟩ := Reps.get (i := i) b (by simpa using h)
    exact ⟨v, by simpa using e, r⟩
theorem Reps.getV : ∀ {vs : List V} {ds : List D} {i : Nat} {v : V}, Reps F vs ds → vs[i]? = some v → ∃ d, ds[i]? = some d ∧ Rep F v d
  | _, _, i, d, .nil, h => by simp at h
  | _, _, 0, d, .cons a _, h => by
    cases h
    exact ⟨_, rfl, a⟩
  | _, _, i + 1, d, .cons _ b, h => by
    obtain ⟨v, e, r⟩ := Reps.getV (i := i) b (by simpa using h)
    exact ⟨v, by simpa using e, r⟩
theorem Reps.app : ∀ {vs us : List V} {ds es : List D}, Reps F vs ds → Reps F us es → Reps F (vs ++ us) (ds ++ es)
  | _, _, _, _, .nil, h => h
  | _, _, _, _, .cons a b, h => .cons a (Reps.app b h)
theorem Reps.snoc {vs : List V} {ds : List D} {v : V} {d : D} (h : Reps F vs ds) (r : Rep F v d) : Reps F (vs ++ [v]) (ds ++ [d]) := h.app (.cons r .nil)
theorem Reps.set : ∀ {vs : List V} {ds : List D} {i : Nat} {v : V} {d : D}, Reps F vs ds → Rep F v d → Reps F (vs.set i v) (ds.set i d)
  | _, _, _, _, _, .nil, _ => .nil
  | _, _, 0, _, _, .cons _ b, r => .cons r b
  | _, _, i + 1, _, _, .cons a b, r => .cons a (Reps.set (i := i) b r)
theorem Reps.drop : ∀ {vs : List V} {ds : List D} (n : Nat), Reps F vs ds → Reps F (vs.drop n) (ds.drop n)
  | _, _, 0, h => h
  | _, _, _ + 1, .nil => .nil
  | _, _, n + 1, .cons _ b => Reps.drop n b
theorem Reps.take : ∀ {vs : List V} {ds : List D} (n : Nat), Reps F vs ds → Reps F (vs.take n) (ds.take n)
  | _, _, 0, _ => .nil
  | _, _, _ + 1, .nil => .nil
  | _, _, n + 1, .cons a b => .cons a (Reps.take n b)
theorem Reps.eraseIdx : ∀ {vs : List V} {ds : List D} (n : Nat), Reps F vs ds → Reps F (vs.eraseIdx n) (ds.eraseIdx n)
  | _, _, 0, .nil => .nil
  | _, _, _ + 1, .nil => .nil
  | _, _, 0, .cons _ b => b
  | _, _, n + 1, .cons a b => .cons a (Reps.eraseIdx n b)
theorem Reps.rep {v : V} {d : D} (h : Rep F v d) : ∀ n, Reps F (List.replicate n v) (List.replicate n d)
  | 0 => .nil
  | n + 1 => .cons h (Reps.rep h n)
theorem Reps.ints : ∀ (is : List Int), Reps F (is.map V.int) (is.map D.int)
  | [] => .nil
  | i :: r => .cons (.int i) (Reps.ints r)
theorem Reps.of_ints : ∀ {vs : List V} {is : List Int}, Reps F vs (is.map D.int) → vs = is.map V.int
  | _, [], .nil => rfl
  | _, i :: r, .cons a b => by
    cases a
    rw [List.map_cons, ← Reps.of_ints b]
theorem Reps.of_bls : ∀ {vs : List V} {is : List Bool}, Reps F vs (is.map D.bl) → vs = is.map V.bl
  | _, [], .nil => rfl
  | _, i :: r, .cons a b => by
    cases a
    rw [List.map_cons, ← Reps.of_bls b]
theorem Reps.of_strs : ∀ {vs : List V} {is : List Str}, Reps F vs (is.map D.str) → vs = is.map V.str
  | _, [], .nil => rfl
  | _, i :: r, .cons a b => by
    cases a
    rw [List.map_cons, ← Reps.of_strs b]
end
/-- no table of code objects -/
def NT (o : HO) : Prop := ∀ ps, o ≠ .tbl ps
/-- all but the tables stays -/
def NS (H H' : Hp) : Prop := ∀ b o, NT o → H b = some o → H' b = some o
theorem NS.of {H H' : Hp} (s : Same H H') : NS H H' := fun b o _ e => s b o e
theorem NS.refl (H : Hp) : NS H H := fun _ _ _ h => h
theorem NS.trans {H H1 H2 : Hp} (a : NS H H1) (b : NS H1 H2) : NS H H2 := fun c o n h => b c o n (a c o n h)
/-- the tables that a law's defs write -/
class HasT (K : PySem.W.Frag) where
  T : List (Addr × Str)
def TbOk (K : PySem.W.Frag) [t : HasT K] (H : Hp) : Prop := LamX.Tabs t.T H
theorem TbOk.ext {K : PySem.W.Frag} [HasT K] {H H' : Hp} (t : TbOk K H) (s : Same H H') : TbOk K H' := LamX.Tabs.ext t s
/-- nothing changes but at an address of a list or a dict -/
def Plainly (o : HO) : Prop := NT o ∧ ∀ c q, o ≠ LamX.CodeO c q
theorem TbOk.chg {K : PySem.W.Frag} [HasT K] {H H' : Hp} {p : Addr} {o : HO} (t : TbOk K H) (hp : H p = some o) (po : Plainly o) (k : ∀ b, b ≠ p → H' b = H b) : TbOk K H' := fun z hz => by
  obtain ⟨ps, h1, h2, h3⟩ := t z hz
  refine ⟨ps, ?_, h2, fun pos cv hc => ?_⟩
  · rw [k _ (fun e => by rw [e, hp] at h1; cases h1; exact po.1 _ rfl)]
    exact h1
  · obtain ⟨c, e1, e2⟩ := h3 pos cv hc
    refine ⟨c, e1, ?_⟩
    rw [k _ (fun e => by rw [e, hp] at e2; cases e2; exact po.2 _ _ rfl)]
    exact e2
theorem plain_lst (vs : List V) : Plainly (.lst vs) := ⟨fun _ z => (nomatch z), fun c q z => by cases z⟩
theorem plain_dK (vs : List (Key × V)) : Plainly (.dK vs) := ⟨fun _ z => (nomatch z), fun c q z => by cases z⟩
theorem plain_dT (vs : List (List Key × V)) : Plainly (.dT vs) := ⟨fun _ z => (nomatch z), fun c q z => by cases z⟩
theorem nt_tup (vs : List V) : NT (.tup vs) := fun _ z => nomatch z
/-- no tables within -/
def FN (F : Hp) : Prop := ∀ a o, F a = some o → NT o
/-- nothing, or a tuple -/
def Soft (H : Hp) (a : Addr) : Prop := H a = none ∨ ∃ vs, H a = some (.tup vs)
/-- without its tables -/
def ntH (H : Hp) : Hp := fun a => match H a with
  | some (.tbl _) => none
  | o => o
theorem ntH_some {H : Hp} {a : Addr} {o : HO} (e : ntH H a = some o) : H a = some o ∧ NT o := by
  unfold ntH at e
  cases q : H a with
  | none => rw [q] at e; cases e
  | some u =>
    rw [q] at e
    cases u <;> first | (cases e; exact ⟨rfl, fun _ z => nomatch z⟩) | cases e
theorem ntH_of {H : Hp} {a : Addr} {o : HO} (e : H a = some o) (n : NT o) : ntH H a = some o := by
  unfold ntH
  rw [e]
  cases o <;> first | rfl | exact absurd rfl (n _)
theorem ntH_none {H : Hp} {a : Addr} (e : H a = none) : ntH H a = none := by
  unfold ntH
  rw [e]
theorem soft_nt {H : Hp} {a : Addr} (z : Soft H a) : Soft (ntH H) a := by
  rcases z with z | ⟨vs, z⟩
  · exact .inl (ntH_none z)
  · exact .inr ⟨vs, ntH_of z (nt_tup vs)⟩
/-! a pen: a list of four ints, the last one below its modulus -/
def PenAt (H : Hp) (p : Addr) : Prop := ∃ a b c d : Int, H p = some (.lst [.int a, .int b, .int c, .int d]) ∧ 0 ≤ d ∧ d < 1000000007
theorem PenAt.there {H : Hp} {p : Addr} (x : PenAt H p) : H p ≠ none := by
  obtain ⟨_, _, _, _, e, _⟩ := x
  rw [e]
  exact fun z => nomatch z
theorem PenAt.hard {H : Hp} {p : Addr} (x : PenAt H p) : ¬ Soft H p := by
  obtain ⟨_, _, _, _, e, _⟩ := x
  rintro (z | ⟨vs, z⟩)
  · rw [e] at z; cases z
  · rw [e] at z; cases z
theorem PenAt.pl {H : Hp} {p : Addr} (x : PenAt H p) : ∃ o, H p = some o ∧ Plainly o := by
  obtain ⟨_, _, _, _, e, _⟩ := x
  exact ⟨_, e, plain_lst _⟩
theorem PenAt.of {H H' : Hp} {p : Addr} (x : PenAt H p) (e : H' p = H p) : PenAt H' p := by
  obtain ⟨a, b, c, d, h, r⟩ := x
  exact ⟨a, b, c, d, e.trans h, r⟩
theorem plain_ins (C dx : Addr) (fs : List (Str × V)) : Plainly (.ins C dx fs) := ⟨fun _ z => (nomatch z), fun c q z => by cases z⟩
/-! ### trees that are owned -/
inductive O where
  | d (x : D)
  | tup (xs : List O)
  | lst (xs : List O)
  | dK (ks : List Key) (xs : List O)
  | dT (ks : List (List Key)) (xs : List O)
  | ins (C : Addr) (ns : List Str) (xs : List O)
mutual
/-- v is o in H; what may change of it stands at S -/
inductive Ow (F H : Hp) : List Addr → V → O → Prop where
  | d {v : V} {x : D} : Rep F v x → Ow F H [] v (.d x)
  | tup {S : List Addr} {a : Addr} {vs : List V} {os : List O} : H a = some (.tup vs) → Ows F H S vs os → Ow F H S (.ref a) (.tup os)
  | lst {S : List Addr} {a : Addr} {vs : List V} {os : List O} : F a = none → H a = some (.lst vs) → Ows F H S vs os → Ow F H (a :: S) (.ref a) (.lst os)
  | dK {S : List Addr} {a : Addr} {kvs : List (Key × V)} {ks : List Key} {os : List O} : F a = none → H a = some (.dK kvs) → kvs.map (·.1) = ks → Ows F H S (kvs.map (·.2)) os → Ow F H (a :: S) (.ref a) (.dK ks os)
  | dT {S : List Addr} {a : Addr} {kvs : List (List Key × V)} {ks : List (List Key)} {os : List O} : F a = none → H a = some (.dT kvs) → kvs.map (·.1) = ks → Ows F H S (kvs.map (·.2)) os → Ow F H (a :: S) (.ref a) (.dT ks os)
  | ins {S : List Addr} {a C dx : Addr} {fs : List (Str × V)} {ns : List Str} {os : List O} : F a = none → H a = some (.ins C dx fs) → fs.map (·.1) = ns → Ows F H S (fs.map (·.2)) os → Ow F H (a :: S) (.ref a) (.ins C ns os)
inductive Ows (F H : Hp) : List Addr → List V → List O → Prop where
  | nil : Ows F H [] [] []
  | cons {S T : List Addr} {v : V} {vs : List V} {o : O} {os : List O} : Ow F H S v o → Ows F H T vs os → Ows F H (S ++ T) (v :: vs) (o :: os)
end
mutual
def O.dt : O → D
  | .d x => x
  | .tup xs => .tup (dts xs)
  | .lst xs => .lst (dts xs)
  | .dK ks xs => .dK ks (dts xs)
  | .dT ks xs => .dT ks (dts xs)
  | .ins C ns xs => .ins C ns (dts xs)
def dts : List O → List D
  | [] => []
  | x :: r => x.dt :: dts r
end
mutual
theorem Ow.grow {F F' H H' : Hp} (sf : Same F F') (kt : ∀ a vs, H a = some (.tup vs) → H' a = some (.tup vs)) : ∀ {S : List Addr} {v : V} {o : O}, Ow F H S v o → (∀ a ∈ S, H' a = H a ∧ F' a = none) → Ow F' H' S v o
  | _, _, _, .d r, _ => .d (r.mono sf)
  | _, _, _, .tup e r, k => .tup (kt _ _ e) (Ows.grow sf kt r k)
  | _, _, _, .lst f e r, k => .lst (k _ List.mem_cons_self).2 ((k _ List.mem_cons_self).1.trans e) (Ows.grow sf kt r fun a h => k a (List.mem_cons_of_mem _ h))
  | _, _, _, .dK f e n r, k => .dK (k _ List.mem_cons_self).2 ((k _ List.mem_cons_self).1.trans e) n (Ows.grow sf kt r fun a h => k a (List.mem_cons_of_mem _ h))
  | _, _, _, .dT f e n r, k => .dT (k _ List.mem_cons_self).2 ((k _ List.mem_cons_self).1.trans e) n (Ows.grow sf kt r fun a h => k a (List.mem_cons_of_mem _ h))
  | _, _, _, .ins f e n r, k => .ins (k _ List.mem_cons_self).2 ((k _ List.mem_cons_self).1.trans e) n (Ows.grow sf kt r fun a h => k a (List.mem_cons_of_mem _ h))
theorem Ows.grow {F F' H H' : Hp} (sf : Same F F') (kt : ∀ a vs, H a = some (.tup vs) → H' a = some (.tup vs)) : ∀ {S : List Addr} {vs : List V} {os : List O}, Ows F H S vs os → (∀ a ∈ S, H' a = H a ∧ F' a = none) → Ows F' H' S vs os
  | _, _, _, .nil, _ => .nil
  | _, _, _, .cons a b, k => .cons (Ow.grow sf kt a fun x h => k x (List.mem_append_left _ h)) (Ows.grow sf kt b fun x h => k x (List.mem_append_right _ h))
end
mutual
theorem Ow.at {F H : Hp} : ∀ {S : List Addr} {v : V} {o : O}, Ow F H S v o → ∀ a ∈ S, F a = none ∧ ∃ u, H a = some u ∧ Plainly u ∧ ∀ vs, u ≠ .tup vs
  | _, _, _, .d _, _, h => nomatch h
  | _, _, _, .tup _ r, a, h => Ows.at r a h
  | _, _, _, .lst f e r, a, h => (List.mem_cons.mp h).elim (fun z => by rw [z]; exact ⟨f, _, e, plain_lst _, fun _ z => nomatch z⟩) fun z => Ows.at r a z
  | _, _, _, .dK f e n r, a, h => (List.mem_cons.mp h).elim (fun z => by rw [z]; exact ⟨f, _, e, plain_dK _, fun _ z => nomatch z⟩) fun z => Ows.at r a z
  | _, _, _, .dT f e n r, a, h => (List.mem_cons.mp h).elim (fun z => by rw [z]; exact ⟨f, _, e, plain_dT _, fun _ z => nomatch z⟩) fun z => Ows.at r a z
  | _, _, _, .ins f e n r, a, h => (List.mem_cons.mp h).elim (fun z => by rw [z]; exact ⟨f, _, e, plain_ins _ _ _, fun _ z => nomatch z⟩) fun z => Ows.at r a z
theorem Ows.at {F H : Hp} : ∀ {S : List Addr} {vs : List V} {os : List O}, Ows F H S vs os → ∀ a ∈ S, F a = none ∧ ∃ u, H a = some u ∧ Plainly u ∧ ∀ vs, u ≠ .tup vs
  | _, _, _, .nil, _, h => nomatch h
  | _, _, _, .cons x y, a, h => (List.mem_append.mp h).elim (fun z => Ow.at x a z) fun z => Ows.at y a z
end
mutual
theorem Ow.frz {F H F' : Hp} (sf : Same F F') (kt : ∀ a vs, H a = some (.tup vs) → F' a = some (.tup vs)) : ∀ {S : List Addr} {v : V} {o : O}, Ow F H S v o → (∀ a ∈ S, F' a = H a) → Rep F' v o.dt
  | _, _, _, .d r, _ => r.mono sf
  | _, _, _, .tup e r, k => .tup (kt _ _ e) (Ows.frz sf kt r k)
  | _, _, _, .lst f e r, k => .lst ((k _ List.mem_cons_self).trans e) (Ows.frz sf kt r fun a h => k a (List.mem_cons_of_mem _ h))
  | _, _, _, .dK f e n r, k => .dK ((k _ List.mem_cons_self).trans e) n (Ows.frz sf kt r fun a h => k a (List.mem_cons_of_mem _ h))
  | _, _, _, .dT f e n r, k => .dT ((k _ List.mem_cons_self).trans e) n (Ows.frz sf kt r fun a h => k a (List.mem_cons_of_mem _ h))
  | _, _, _, .ins f e n r, k => .ins ((k _ List.mem_cons_self).trans e) n (Ows.frz sf kt r fun a h => k a (List.mem_cons_of_mem _ h))
theorem Ows.frz {F H F' : Hp} (sf : Same F F') (kt : ∀ a vs, H a = some (.tup vs) → F' a = some (.tup vs)) : ∀ {S : List Addr} {vs : List V} {os : List O}, Ows F H S vs os → (∀ a ∈ S, F' a = H a) → Reps F' vs (dts os)
  | _, _, _, .nil, _ => .nil
  | _, _, _, .cons a b, k => .cons (Ow.frz sf kt a fun x h => k x (List.mem_append_left _ h)) (Ows.frz sf kt b fun x h => k x (List.mem_append_right _ h))
end
/-- all tuples of H frozen -/
def tupF (F H : Hp) : Hp := fun a => match F a with
  | some o => some o
  | none => match H a with
    | some (.tup vs) => some (.tup vs)
    | _ => none
theorem tupF_same {F H : Hp} : Same F (tupF F H) := fun a o e => by
  unfold tupF
  rw [e]
theorem tupF_at {F H : Hp} (fh : Same F H) {a : Addr} {vs : List V} (e : H a = some (.tup vs)) : tupF F H a = some (.tup vs) := by
  unfold tupF
  cases q : F a with
  | some o => exact (fh _ _ q).symm.trans e
  | none => rw [e]
theorem tupF_of {F H : Hp} {a : Addr} {o : HO} (e : tupF F H a = some o) : F a = some o ∨ ((∃ vs, o = .tup vs) ∧ H a = some o) := by
  unfold tupF at e
  cases q : F a with
  | some u =>
    rw [q] at e
    exact .inl e
  | none =>
    rw [q] at e
    cases h : H a with
    | none => rw [h] at e; cases e
    | some u =>
      rw [h] at e
      cases u <;> first | (cases e; exact .inr ⟨⟨_, rfl⟩, rfl⟩) | cases e
/-! ### keys that are nested tuples of whole numbers -/
mutual
def nk : D → NestedKey
  | .int i => .num i
  | .tup xs => .tup (nks xs)
  | _ => .none
def nks : List D → List NestedKey
  | [] => []
  | x :: r => nk x :: nks r
end
mutual
def nkOk : D → Bool
  | .int _ => true
  | .tup xs => nkOks xs
  | _ => false
def nkOks : List D → Bool
  | [] => true
  | x :: r => nkOk x && nkOks r
end
/-- a tuple that may be a key -/
def kOk (x : D) : Bool := nkOk x && decide ((nk x).depth ≤ 8)
mutual
theorem rep_nk {F H : Hp} (fh : Same F H) : ∀ {v : V} {x : D}, Rep F v x → nkOk x = true → Nd.NK H v (nk x)
  | _, _, .int i, _ => .int i
  | _, _, .tup e r, h => .tup (fh _ _ e) (reps_nk fh r h)
  | _, _, .non, h => absurd h Bool.false_ne_true
  | _, _, .bl _, h => absurd h Bool.false_ne_true
  | _, _, .str _, h => absurd h Bool.false_ne_true
  | _, _, .lst _ _, h => absurd h Bool.false_ne_true
  | _, _, .dK _ _ _, h => absurd h Bool.false_ne_true
  | _, _, .dT _ _ _, h => absurd h Bool.false_ne_true
  | _, _, .ins _ _ _, h => absurd h Bool.false_ne_true
theorem reps_nk {F H : Hp} (fh : Same F H) : ∀ {vs : List V} {xs : List D}, Reps F vs xs → nkOks xs = true → Nd.NKs H vs (nks xs)
  | _, _, .nil, _ => .nil
  | _, _, .cons (d := x) (ds := r) a b, h => by
    have h : (nkOk x && nkOks r) = true := h
    rw [Bool.and_eq_true] at h
    exact .cons (rep_nk fh a h.1) (reps_nk fh b h.2)
end
theorem plain_nd (a : Addr) (kas : List Nd.NE) : Plainly (Nd.ndO a kas) := by
  refine ⟨(fun _ z => nomatch z), fun c q z => ?_⟩
  have e : (fun h => Nd.NdAt h a kas) = fun h : Heap => ∃ (oc : Obj) (vs : Array Value) (t : Tok), h.get? c = some oc ∧ oc.data = .fields vs ∧ vs[1]? = some (.str q t) := HO.ext.inj z
  let o : Obj := { cls := .none, data := .fields #[.none, .str q 0] }
  let h : Heap := { objs := Array.replicate (c + 1) o }
  have hc : h.get? c = some o := by
    show (match (Array.replicate (c + 1) o)[c]? with
      | some ⟨_, _, .freed, _⟩ => none
      | o => o) = some o
    rw [Array.getElem?_replicate, if_pos (Nat.lt_succ_self c)]
  have n : Nd.NdAt h a kas := by
    rw [show Nd.NdAt h a kas = (fun h => Nd.NdAt h a kas) h from rfl, e]
    exact ⟨o, _, _, hc, rfl, rfl⟩
  obtain ⟨_, _, _, xs, _, u, es, ep, hu, _, hd, _⟩ := n
  have hu : (match (Array.replicate (c + 1) o)[a]? with
      | some ⟨_, _, .freed, _⟩ => none
      | o => o) = some u := hu
  rw [Array.getElem?_replicate] at hu
  by_cases z : a < c + 1
  · rw [if_pos z] at hu
    cases hu
    cases hd
  · rw [if_neg z] at hu
    cases hu
/-! ### what a slot holds -/
inductive En where
  | no
  | d (x : D)
  | lst (xs : List D)
  | dK (ks : List Key) (xs : List D)
  | dT (ks : List (List Key)) (xs : List D)
  | pen
  | scr (ns : List Int)
  | ow (o : O) (S : List Addr)
  | nd (ks : List D) (xs : List D)
/-- where something stands that may change -/
def Adr (e : En) (v : V) (a : Addr) : Prop := match e with
  | .lst _ => v = .ref a
  | .dK _ _ => v = .ref a
  | .dT _ _ => v = .ref a
  | .pen => v = .ref a
  | .ow _ S => a ∈ S
  | .nd _ _ => v = .ref a
  | _ => False
def En.own : En → Bool
  | .lst _ => true
  | .dK _ _ => true
  | .dT _ _ => true
  | .pen => true
  | .nd _ _ => true
  | _ => false
structure Ct (K : PySem.W.Frag) where
  F0 : Hp
  H0 : Hp
  pn : Option Addr
  sc : Option (Addr × List Int)
  hs : ∀ a ns, sc = some (a, ns) → SqL K H0 a (ns.map V.int) ∧ pn ≠ some a
section
variable {K : PySem.W.Frag}
def Held (c : Ct K) (F H : Hp) : En → V → Prop
  | .no, _ => True
  | .d x, v => Rep F v x
  | .lst ds, v => ∃ a vs, v = .ref a ∧ F a = none ∧ c.H0 a = none ∧ H a = some (.lst vs) ∧ Reps F vs ds
  | .dK ks ds, v => ∃ (a : Addr) (kvs : List (Key × V)), v = .ref a ∧ F a = none ∧ c.H0 a = none ∧ H a = some (.dK kvs) ∧ kvs.map (·.1) = ks ∧ Reps F (kvs.map (·.2)) ds
  | .dT ks ds, v => ∃ (a : Addr) (kvs : List (List Key × V)), v = .ref a ∧ F a = none ∧ c.H0 a = none ∧ H a = some (.dT kvs) ∧ kvs.map (·.1) = ks ∧ Reps F (kvs.map (·.2)) ds
  | .pen, v => ∃ a, v = .ref a ∧ F a = none ∧ (c.H0 a = none ∨ c.pn = some a) ∧ PenAt H a
  | .scr ns, v => ∃ a, v = .ref a ∧ c.sc = some (a, ns)
  | .ow o S, v => Ow F H S v o ∧ S.Nodup ∧ ∀ a ∈ S, c.H0 a = none
  | .nd ks ds, v => ∃ (a : Addr) (kas : List Nd.NE), v = .ref a ∧ F a = none ∧ c.H0 a = none ∧ H a = some (Nd.ndO a kas) ∧ kas.map (·.1) = ks.map nk ∧ ks.all kOk = true ∧ Reps F (kas.map fun p => V.ref p.2.1) ks ∧ Reps F (kas.map (·.2.2)) ds
variable [HasT K]
/-- the state between two steps: F what stays for ever, H all; the slots σ hold Γ -/
structure Is (c : Ct K) (F H : Hp) (σ : L2.St) (Γ : List En) : Prop where
  f0 : Same c.F0 F
  fh : Same F H
  nw : ∀ a o, F a = some o → c.F0 a = some o ∨ Soft c.H0 a
  h0 : ∀ a o, c.pn ≠ some a → c.H0 a = some o → H a = some o
  pp : ∀ p, c.pn = some p → F p = none ∧ PenAt H p ∧ c.H0 p ≠ none
  len : σ.length = Γ.length
  at_ : ∀ (i : Nat) (e : En), Γ[i]? = some e → e ≠ .no → ∃ v, σ[i]? = some (some v) ∧ Held c F H e v
  dis : ∀ (i j : Nat) (a : Addr) (e e' : En) (v v' : V), i ≠ j → Γ[i]? = some e → Γ[j]? = some e' → σ[i]? = some (some v) → σ[j]? = some (some v') → Adr e v a → Adr e' v' a → False
  fn : FN F
  tb : TbOk K H
  hn : ∀ a o, c.H0 a = some o → NT o
variable {c : Ct K} {F F' H H' : Hp} {σ : L2.St} {Γ : List En} {v : V} {e : En}
/-- nobody's of the slots -/
def Not (σ : L2.St) (Γ : List En) (a : Addr) : Prop := ∀ (j : Nat) (e' : En) (v' : V), Γ[j]? = some e' → σ[j]? = some (some v') → Adr e' v' a → False
theorem adr_no {e : En} {v : V} {a : Addr} (x : Adr e v a) : e ≠ .no := fun z => by rw [z] at x; exact x
theorem Is.un (I : Is c F H σ Γ) {a : Addr} (h : H a = none) : c.H0 a = none := by
  cases q : c.H0 a with
  | none => rfl
  | some o =>
    by_cases z : c.pn = some a
    · exact absurd h (I.pp a z).2.1.there
    · rw [I.h0 a o z q] at h
      cases h
theorem Is.soft (I : Is c F H σ Γ) {a : Addr} (h : Soft (ntH H) a) : Soft c.H0 a := by
  cases q : c.H0 a with
  | none => exact .inl q
  | some o =>
    have nt := I.hn a o q
    by_cases z : c.pn = some a
    · obtain ⟨u, h1, h2⟩ := (I.pp a z).2.1.pl
      have hard := (I.pp a z).2.1.hard
      rcases h with h | ⟨vs, h⟩
      · rw [ntH_of h1 h2.1] at h
        cases h
      · exact absurd (.inr ⟨vs, (ntH_some h).1⟩) hard
    · have e := ntH_of (I.h0 a o z q) nt
      rcases h with h | ⟨vs, h⟩
      · rw [e] at h
        cases h
      · rw [e] at h
        cases h
        exact .inr ⟨vs, q⟩
theorem Is.unF (I : Is c F H σ Γ) {a : Addr} (h : H a = none) : F a = none := I.fh.free h
omit [HasT K] in
theorem hard_of {a : Addr} {o : HO} (e : H a = some o) (nt : NT o) (n : ∀ vs, o ≠ .tup vs) : ¬ Soft (ntH H) a := fun z => by
  rcases z with z | ⟨vs, z⟩
  · rw [ntH_of e nt] at z; cases z
  · rw [ntH_of e nt] at z; cases z; exact n vs rfl
omit [HasT K] in
theorem Held.adr (h : Held c F H e v) {a : Addr} (x : Adr e v a) : F a = none ∧ ¬ Soft (ntH H) a ∧ ∃ u, H a = some u ∧ Plainly u := by
  cases e with
  | lst ds =>
    obtain ⟨a, vs, rfl, h1, _, h2, _⟩ := h
    cases x
    exact ⟨h1, hard_of h2 (fun _ z => nomatch z) (fun vs z => nomatch z), _, h2, plain_lst _⟩
  | dK ks ds =>
    obtain ⟨a, vs, rfl, h1, _, h2, _⟩ := h
    cases x
    exact ⟨h1, hard_of h2 (fun _ z => nomatch z) (fun vs z => nomatch z), _, h2, plain_dK _⟩
  | dT ks ds =>
    obtain ⟨a, vs, rfl, h1, _, h2, _⟩ := h
    cases x
    exact ⟨h1, hard_of h2 (fun _ z => nomatch z) (fun vs z => nomatch z), _, h2, plain_dT _⟩
  | pen =>
    obtain ⟨a, rfl, h1, _, h2⟩ := h
    cases x
    obtain ⟨u, h3, h4⟩ := h2.pl
    exact ⟨h1, fun z => h2.hard (z.elim (fun w => by rw [ntH_of h3 h4.1] at w; cases w) fun ⟨vs, w⟩ => .inr ⟨vs, (ntH_some w).1⟩), u, h3, h4⟩
  | ow o S =>
    obtain ⟨f, u, e, p, n⟩ := h.1.at a x
    exact ⟨f, hard_of e p.1 n, u, e, p⟩
  | nd ks ds =>
    obtain ⟨a, vs, rfl, h1, _, h2, _⟩ := h
    cases x
    exact ⟨h1, hard_of h2 (fun _ z => nomatch z) (fun vs z => nomatch z), _, h2, plain_nd _ _⟩
  | no => exact x.elim
  | d y => exact x.elim
  | scr ns => exact x.elim
omit [HasT K] in
theorem Held.h0 (h : Held c F H e v) {a : Addr} (x : Adr e v a) : c.H0 a = none ∨ (e = .pen ∧ c.pn = some a) := by
  cases e with
  | lst ds =>
    obtain ⟨a, vs, rfl, h1, h0, _⟩ := h
    cases x
    exact .inl h0
  | dK ks ds =>
    obtain ⟨a, vs, rfl, h1, h0, _⟩ := h
    cases x
    exact .inl h0
  | dT ks ds =>
    obtain ⟨a, vs, rfl, h1, h0, _⟩ := h
    cases x
    exact .inl h0
  | pen =>
    obtain ⟨a, rfl, h1, h0, h2⟩ := h
    cases x
    exact h0.imp id fun z => ⟨rfl, z⟩
  | ow o S => exact .inl (h.2.2 a x)
  | nd ks ds =>
    obtain ⟨a, vs, rfl, h1, h0, _⟩ := h
    cases x
    exact .inl h0
  | no => exact x.elim
  | d y => exact x.elim
  | scr ns => exact x.elim
omit [HasT K] in
/-- the same seen from elsewhere -/
theorem Held.to {c' : Ct K} (h : Held c F H e v) (k : ∀ a, Adr e v a → (c.H0 a = none → c'.H0 a = none) ∧ (c.pn = some a → c'.H0 a = none ∨ c'.pn = some a)) (ks : ∀ p, c.sc = some p → c'.sc = some p) : Held c' F H e v := by
  cases e with
  | lst ds =>
    obtain ⟨a, vs, rfl, h1, h0, h2⟩ := h
    exact ⟨a, vs, rfl, h1, (k a rfl).1 h0, h2⟩
  | dK ks' ds =>
    obtain ⟨a, vs, rfl, h1, h0, h2⟩ := h
    exact ⟨a, vs, rfl, h1, (k a rfl).1 h0, h2⟩
  | dT ks' ds =>
    obtain ⟨a, vs, rfl, h1, h0, h2⟩ := h
    exact ⟨a, vs, rfl, h1, (k a rfl).1 h0, h2⟩
  | pen =>
    obtain ⟨a, rfl, h1, h0, h2⟩ := h
    exact ⟨a, rfl, h1, h0.elim (fun z => .inl ((k a rfl).1 z)) (k a rfl).2, h2⟩
  | ow o S => exact ⟨h.1, h.2.1, fun a m => (k a m).1 (h.2.2 a m)⟩
  | nd ks' ds =>
    obtain ⟨a, vs, rfl, h1, h0, h2⟩ := h
    exact ⟨a, vs, rfl, h1, (k a rfl).1 h0, h2⟩
  | no => trivial
  | d y => exact h
  | scr ns =>
    obtain ⟨a, ea, z⟩ := h
    exact ⟨a, ea, ks _ z⟩
omit [HasT K] in
/-- an owned thing's place is as it was, all else has grown -/
theorem Held.grow (h : Held c F H e v) (sf : Same F F') (k : ∀ a, Adr e v a → H' a = H a ∨ (e = .pen ∧ PenAt H' a)) (nf : ∀ a, Adr e v a → F' a = none) (kt : ∀ a vs, H a = some (.tup vs) → H' a = some (.tup vs)) : Held c F' H' e v := by
  cases e with
  | lst ds =>
    obtain ⟨a, vs, rfl, h1, h0, h2, h3⟩ := h
    exact ⟨a, vs, rfl, nf a rfl, h0, by rw [← h2]; exact (k a rfl).resolve_right (fun z => nomatch z.1), h3.mono sf⟩
  | dK ks ds =>
    obtain ⟨a, vs, rfl, h1, h0, h2, e, h3⟩ := h
    exact ⟨a, vs, rfl, nf a rfl, h0, by rw [← h2]; exact (k a rfl).resolve_right (fun z => nomatch z.1), e, h3.mono sf⟩
  | dT ks ds =>
    obtain ⟨a, vs, rfl, h1, h0, h2, e, h3⟩ := h
    exact ⟨a, vs, rfl, nf a rfl, h0, by rw [← h2]; exact (k a rfl).resolve_right (fun z => nomatch z.1), e, h3.mono sf⟩
  | pen =>
    obtain ⟨a, rfl, h1, h0, h2⟩ := h
    exact ⟨a, rfl, nf a rfl, h0, (k a rfl).elim (fun z => h2.of z) (·.2)⟩
  | ow o S => exact ⟨h.1.grow sf kt fun a m => ⟨(k a m).resolve_right (fun z => nomatch z.1), nf a m⟩, h.2⟩
  | nd ks ds =>
    obtain ⟨a, vs, rfl, h1, h0, h2, e, h3, h4, h5⟩ := h
    exact ⟨a, vs, rfl, nf a rfl, h0, by rw [← h2]; exact (k a rfl).resolve_right (fun z => nomatch z.1), e, h3, h4.mono sf, h5.mono sf⟩
  | no => trivial
  | d x => exact Rep.mono sf h
  | scr ns => exact h
/-- all grows, nothing that was there changes but the tables -/
theorem Is.growN (I : Is c F H σ Γ) (sf : Same F F') (sh : NS H H') (tb : TbOk K H') (fh : Same F' H') (fn : FN F') (nw : ∀ a o, F' a = some o → F a = some o ∨ Soft (ntH H) a) : Is c F' H' σ Γ := by
  have nf : ∀ a, F a = none → ¬ Soft (ntH H) a → F' a = none := fun a h1 h2 => by
    cases q : F' a with
    | none => rfl
    | some o =>
      rcases nw a o q with z | z
      · rw [h1] at z
        cases z
      · exact absurd z h2
  have same : ∀ a o, H a = some o → Plainly o → H' a = H a := fun a o h n => by
    rw [h]
    exact sh a o n.1 h
  refine ⟨I.f0.trans sf, fh, fun a o h => ?_, fun a o p h => sh _ _ (I.hn a o h) (I.h0 a o p h), fun p h => ?_, I.len, fun i e h n => ?_, I.dis, fn, tb, I.hn⟩
  · rcases nw a o h with z | z
    · exact I.nw a o z
    · exact .inr (I.soft z)
  · obtain ⟨h1, h2, h3⟩ := I.pp p h
    obtain ⟨u, h4, h5⟩ := h2.pl
    exact ⟨nf p h1 (fun z => h2.hard (z.elim (fun w => by rw [ntH_of h4 h5.1] at w; cases w) fun ⟨vs, w⟩ => .inr ⟨vs, (ntH_some w).1⟩)), h2.of (same p u h4 h5), h3⟩
  · obtain ⟨v, h1, h2⟩ := I.at_ i e h n
    refine ⟨v, h1, h2.grow sf (fun a x => ?_) (fun a x => ?_) (fun a vs e => sh a _ (nt_tup vs) e)⟩
    · obtain ⟨_, _, u, q, pl⟩ := h2.adr x
      exact .inl (same a u q pl)
    · obtain ⟨q1, q2, _⟩ := h2.adr x
      exact nf a q1 q2
theorem FN.grow {F F' H' : Hp} (fh : Same F' H') (ok : ∀ a o, F' a = some o → F a = some o ∨ NT o) (fn : FN F) : FN F' := fun a o e => (ok a o e).elim (fn a o) id
theorem Is.grow (I : Is c F H σ Γ) (sf : Same F F') (sh : Same H H') (fh : Same F' H') (fn : FN F') (nw : ∀ a o, F' a = some o → F a = some o ∨ Soft H a) : Is c F' H' σ Γ := I.growN sf (.of sh) (I.tb.ext sh) fh fn fun a o e => (nw a o e).imp id soft_nt
/-- the pen alone changes, and tables; all else grows -/
theorem Is.growP (I : Is c F H σ Γ) {i : Nat} {p : Addr} (gi : Γ[i]? = some .pen) (si : σ[i]? = some (some (.ref p))) (sf : Same F F') (k : ∀ a o, a ≠ p → NT o → H a = some o → H' a = some o) (tb : TbOk K H') (pen : PenAt H' p) (fh : Same F' H') (fn : FN F') (nw : ∀ a o, F' a = some o → F a = some o ∨ Soft (ntH H) a) : Is c F' H' σ Γ := by
  obtain ⟨v, hv, p', ev, pf, ph0, pp⟩ := I.at_ i .pen gi (fun z => nomatch z)
  rw [si] at hv
  cases hv
  cases ev
  have nf : ∀ a, F a = none → ¬ Soft (ntH H) a → F' a = none := fun a h1 h2 => by
    cases q : F' a with
    | none => rfl
    | some o =>
      rcases nw a o q with z | z
      · rw [h1] at z
        cases z
      · exact absurd z h2
  have same : ∀ a o, a ≠ p → H a = some o → Plainly o → H' a = H a := fun a o n h pl => by
    rw [h]
    exact k a o n pl.1 h
  refine ⟨I.f0.trans sf, fh, fun a o h => ?_, fun a o q h => ?_, fun q h => ?_, I.len, fun j e h n => ?_, I.dis, fn, tb, I.hn⟩
  · rcases nw a o h with z | z
    · exact I.nw a o z
    · exact .inr (I.soft z)
  · by_cases z : a = p
    · subst z
      rcases ph0 with w | w
      · rw [w] at h
        cases h
      · exact absurd w q
    · exact k a o z (I.hn a o h) (I.h0 a o q h)
  · obtain ⟨h1, h2, h3⟩ := I.pp q h
    obtain ⟨u, h4, h5⟩ := h2.pl
    refine ⟨nf q h1 (fun z => h2.hard (z.elim (fun w => by rw [ntH_of h4 h5.1] at w; cases w) fun ⟨vs, w⟩ => .inr ⟨vs, (ntH_some w).1⟩)), ?_, h3⟩
    by_cases z : q = p
    · rw [z]
      exact pen
    · exact h2.of (same q u z h4 h5)
  · obtain ⟨v, h1, h2⟩ := I.at_ j e h n
    refine ⟨v, h1, h2.grow sf (fun a x => ?_) (fun a x => ?_) (fun a vs e => k a _ (fun z => pp.hard (.inr ⟨vs, by rw [← z]; exact e⟩)) (nt_tup vs) e)⟩
    · obtain ⟨_, _, u, q, pl⟩ := h2.adr x
      by_cases z : a = p
      · subst z
        by_cases ij : j = i
        · subst ij
          rw [gi] at h
          cases h
          exact .inr ⟨rfl, pen⟩
        · exact (I.dis j i a e .pen v _ ij h gi h1 si x rfl).elim
      · exact .inl (same a u z q pl)
    · obtain ⟨q1, q2, _⟩ := h2.adr x
      exact nf a q1 q2
/-- what an expression hands on: frozen, or owned by nobody else -/
def Res (c : Ct K) (F H : Hp) (σ : L2.St) (Γ : List En) (v : V) (e : En) : Prop :=
  Held c F H e v ∧ e ≠ .no ∧ ∀ a, Adr e v a → Not σ Γ a
omit [HasT K] in
theorem Res.d {x : D} (h : Rep F v x) : Res c F H σ Γ v (.d x) := ⟨h, (fun z => nomatch z), (fun _ z => z.elim)⟩
/-- a slot is stored -/
theorem Is.set (I : Is c F H σ Γ) (r : Res c F H σ Γ v e) (i : Nat) : Is c F H (σ.set i (some v)) (Γ.set i e) := by
  refine ⟨I.f0, I.fh, I.nw, I.h0, I.pp, by rw [List.length_set, List.length_set]; exact I.len, fun j e' h n => ?_, fun j k a e1 e2 v1 v2 jk h1 h2 s1 s2 x1 x2 => ?_, I.fn, I.tb, I.hn⟩
  · rw [List.getElem?_set] at h
    by_cases z : i = j
    · rw [if_pos z] at h
      split at h
      · rename_i hl
        cases h
        refine ⟨v, ?_, r.1⟩
        rw [← z, List.getElem?_set_self (by rw [I.len]; exact hl)]
      · cases h
    · rw [if_neg z] at h
      obtain ⟨w, h1, h2⟩ := I.at_ j e' h n
      exact ⟨w, by rw [List.getElem?_set_ne z]; exact h1, h2⟩
  · by_cases z1 : i = j
    · subst z1
      have z2 : ¬ i = k := jk
      rw [List.getElem?_set_ne z2] at h2 s2
      have l1 : i < σ.length := by
        have := (List.getElem?_eq_some_iff.mp s1).1
        simpa using this
      rw [List.getElem?_set_self l1] at s1
      rw [List.getElem?_set_self (by rw [← I.len]; exact l1)] at h1
      cases h1
      cases s1
      exact r.2.2 a x1 k e2 v2 h2 s2 x2
    · rw [List.getElem?_set_ne z1] at h1 s1
      by_cases z2 : i = k
      · subst z2
        have l1 : i < σ.length := by
          have := (List.getElem?_eq_some_iff.mp s2).1
          simpa using this
        rw [List.getElem?_set_self l1] at s2
        rw [List.getElem?_set_self (by rw [← I.len]; exact l1)] at h2
        cases h2
        cases s2
        exact r.2.2 a x2 j e1 v1 h1 s1 x1
      · rw [List.getElem?_set_ne z2] at h2 s2
        exact I.dis j k a e1 e2 v1 v2 jk h1 h2 s1 s2 x1 x2
theorem set_no {i j : Nat} {e' : En} (h : (Γ.set i .no)[j]? = some e') (n : e' ≠ .no) : Γ[j]? = some e' ∧ i ≠ j := by
  rw [List.getElem?_set] at h
  split at h
  · split at h
    · cases h
      exact absurd rfl n
    · cases h
  · exact ⟨h, by assumption⟩
/-- a slot is forgotten -/
theorem Is.forget (I : Is c F H σ Γ) (i : Nat) : Is c F H σ (Γ.set i .no) :=
  ⟨I.f0, I.fh, I.nw, I.h0, I.pp, by rw [List.length_set]; exact I.len, fun j e' h n => I.at_ j e' (set_no h n).1 n, fun j k a e1 e2 v1 v2 jk h1 h2 s1 s2 x1 x2 =>
    I.dis j k a e1 e2 v1 v2 jk (set_no h1 (adr_no x1)).1 (set_no h2 (adr_no x2)).1 s1 s2 x1 x2, I.fn, I.tb, I.hn⟩
theorem Not.forget {a : Addr} (n : Not σ Γ a) (i : Nat) : Not σ (Γ.set i .no) a := fun j e' v' g s x => n j e' v' (set_no g (adr_no x)).1 s x
/-- a slot wiped on both sides -/
theorem Is.wipe1 (I : Is c F H σ Γ) (i : Nat) : Is c F H (σ.set i none) (Γ.set i .no) := by
  refine ⟨I.f0, I.fh, I.nw, I.h0, I.pp, by rw [List.length_set, List.length_set]; exact I.len, fun j e' h n => ?_, fun j k a e1 e2 v1 v2 jk h1 h2 s1 s2 x1 x2 => ?_, I.fn, I.tb, I.hn⟩
  · obtain ⟨h1, h2⟩ := set_no h n
    rw [List.getElem?_set_ne h2]
    exact I.at_ j e' h1 n
  · obtain ⟨h1, z1⟩ := set_no h1 (adr_no x1)
    obtain ⟨h2, z2⟩ := set_no h2 (adr_no x2)
    rw [List.getElem?_set_ne z1] at s1
    rw [List.getElem?_set_ne z2] at s2
    exact I.dis j k a e1 e2 v1 v2 jk h1 h2 s1 s2 x1 x2
/-! ### freezing -/
omit [HasT K] in
theorem fn_upd {a : Addr} {o : HO} (fn : FN F) (nt : NT o) : FN (upd F a o) := fun b u e => by
  by_cases z : b = a
  · subst z
    rw [upd_same] at e
    cases e
    exact nt
  · rw [upd_ne z] at e
    exact fn b u e
/-- more becomes data for ever -/
theorem Is.moreF (I : Is c F H σ Γ) (sf : Same F F') (fh : Same F' H) (nw : ∀ b u, F' b = some u → F b = some u ∨ (NT u ∧ ((c.H0 b = none ∧ Not σ Γ b) ∨ ∃ vs, u = .tup vs))) : Is c F' H σ Γ := by
  refine ⟨I.f0.trans sf, fh, fun b u e => ?_, I.h0, fun p h => ?_, I.len, fun i e h n => ?_, I.dis, fun b u e => ?_, I.tb, I.hn⟩
  · rcases nw b u e with z | ⟨_, ⟨z, _⟩ | ⟨vs, z⟩⟩
    · exact I.nw b u z
    · exact .inr (.inl z)
    · subst z
      exact .inr (I.soft (soft_nt (.inr ⟨vs, fh _ _ e⟩)))
  · obtain ⟨h1, h2, h3⟩ := I.pp p h
    refine ⟨?_, h2, h3⟩
    cases q : F' p with
    | none => rfl
    | some u =>
      rcases nw p u q with z | ⟨_, ⟨z, _⟩ | ⟨vs, z⟩⟩
      · rw [h1] at z; cases z
      · exact absurd z h3
      · subst z
        exact absurd (.inr ⟨vs, fh _ _ q⟩) h2.hard
  · obtain ⟨v, h1, h2⟩ := I.at_ i e h n
    refine ⟨v, h1, h2.grow sf (fun _ _ => .inl rfl) (fun b x => ?_) (fun _ _ e => e)⟩
    obtain ⟨q1, q2, _⟩ := h2.adr x
    cases q : F' b with
    | none => rfl
    | some u =>
      rcases nw b u q with z | ⟨_, ⟨_, z⟩ | ⟨vs, z⟩⟩
      · rw [q1] at z; cases z
      · exact (z i e v h h1 x).elim
      · subst z
        exact absurd (soft_nt (.inr ⟨vs, fh _ _ q⟩)) q2
  · rcases nw b u e with z | ⟨z, _⟩
    · exact I.fn b u z
    · exact z
/-- what is owned becomes data for ever -/
theorem Is.more (I : Is c F H σ Γ) {a : Addr} {o : HO} (fa : F a = none) (ha : H a = some o) (h0 : c.H0 a = none) (no : Not σ Γ a) (nt : NT o) : Is c (upd F a o) H σ Γ ∧ Same F (upd F a o) := by
  have sf : Same F (upd F a o) := fun b u e => by rw [upd_ne (ne_of_none e fa)]; exact e
  refine ⟨I.moreF sf (fun b u e => ?_) fun b u e => ?_, sf⟩
  · by_cases z : b = a
    · subst z
      rw [upd_same] at e
      cases e
      exact ha
    · rw [upd_ne z] at e
      exact I.fh b u e
  · by_cases z : b = a
    · subst z
      rw [upd_same] at e
      cases e
      exact .inr ⟨nt, .inl ⟨h0, no⟩⟩
    · rw [upd_ne z] at e
      exact .inl e
theorem Is.tups (I : Is c F H σ Γ) : Is c (tupF F H) H σ Γ := I.moreF tupF_same (fun a o e => (tupF_of e).elim (fun z => I.fh a o z) (·.2)) fun b u e => (tupF_of e).imp id fun z => by
  obtain ⟨⟨vs, rfl⟩, _⟩ := z
  exact ⟨nt_tup vs, .inr ⟨vs, rfl⟩⟩
/-- a tree with its places frozen -/
def frzF (F H : Hp) (S : List Addr) : Hp := fun a => if a ∈ S then H a else tupF F H a
omit [HasT K] in
theorem frzF_same {S : List Addr} (h : ∀ a ∈ S, F a = none) : Same F (frzF F H S) := fun a o e => by
  unfold frzF
  split
  · rename_i m
    rw [h a m] at e
    cases e
  · exact tupF_same a o e
theorem Is.moreS (I : Is c F H σ Γ) {S : List Addr} {o : O} (h : Ow F H S v o) (h0 : ∀ a ∈ S, c.H0 a = none) (no : ∀ a ∈ S, Not σ Γ a) : Is c (frzF F H S) H σ Γ ∧ Same F (frzF F H S) ∧ Rep (frzF F H S) v o.dt := by
  have sf : Same F (frzF F H S) := frzF_same fun a m => (h.at a m).1
  have fh : Same (frzF F H S) H := fun a u e => by
    unfold frzF at e
    split at e
    · exact e
    · exact (tupF_of e).elim (fun z => I.fh a u z) (·.2)
  refine ⟨I.moreF sf fh fun b u e => ?_, sf, h.frz sf (fun a vs e => ?_) fun a m => ?_⟩
  · have e' := e
    unfold frzF at e
    split at e
    · rename_i m
      obtain ⟨_, u', e2, pl, _⟩ := h.at b m
      rw [e2] at e
      cases e
      exact .inr ⟨pl.1, .inl ⟨h0 b m, no b m⟩⟩
    · rcases tupF_of e with z | ⟨⟨vs, z⟩, _⟩
      · exact .inl z
      · subst z
        exact .inr ⟨nt_tup vs, .inr ⟨vs, rfl⟩⟩
  · unfold frzF
    split
    · exact e
    · exact tupF_at I.fh e
  · unfold frzF
    rw [if_pos m]
/-- the data that a result is, once it is frozen -/
def En.frz : En → Option D
  | .d x => some x
  | .lst xs => some (.lst xs)
  | .dK ks xs => some (.dK ks xs)
  | .dT ks xs => some (.dT ks xs)
  | .ow o _ => some o.dt
  | _ => none
theorem Res.frz (I : Is c F H σ Γ) (r : Res c F H σ Γ v e) {x : D} (h : e.frz = some x) : ∃ F', Is c F' H σ Γ ∧ Same F F' ∧ Rep F' v x := by
  obtain ⟨h1, _, h3⟩ := r
  cases e with
  | d y =>
    cases h
    exact ⟨F, I, Same.refl F, h1⟩
  | lst ds =>
    cases h
    obtain ⟨a, vs, rfl, q1, q2, q3, q4⟩ := h1
    obtain ⟨I', s⟩ := I.more q1 q3 q2 (h3 a rfl) (fun _ z => nomatch z)
    exact ⟨_, I', s, .lst upd_same (q4.mono s)⟩
  | dK ks ds =>
    cases h
    obtain ⟨a, vs, rfl, q1, q2, q3, q5, q4⟩ := h1
    obtain ⟨I', s⟩ := I.more q1 q3 q2 (h3 a rfl) (fun _ z => nomatch z)
    exact ⟨_, I', s, .dK upd_same q5 (q4.mono s)⟩
  | dT ks ds =>
    cases h
    obtain ⟨a, vs, rfl, q1, q2, q3, q5, q4⟩ := h1
    obtain ⟨I', s⟩ := I.more q1 q3 q2 (h3 a rfl) (fun _ z => nomatch z)
    exact ⟨_, I', s, .dT upd_same q5 (q4.mono s)⟩
  | ow o S =>
    cases h
    obtain ⟨I', s, r⟩ := I.moreS h1.1 h1.2.2 h3
    exact ⟨_, I', s, r⟩
  | no => cases h
  | pen => cases h
  | scr ns => cases h
  | nd ks xs => cases h
theorem set_same {i : Nat} {v : V} (hv : σ[i]? = some (some v)) : σ.set i (some v) = σ := by
  apply List.ext_getElem?
  intro j
  rw [List.getElem?_set]
  by_cases z : i = j
  · subst z
    rw [if_pos rfl, if_pos (List.getElem?_eq_some_iff.mp hv).1, hv]
  · rw [if_neg z]
/-- what a slot holds, without the slot -/
theorem Is.resOf (I : Is c F H σ Γ) {i : Nat} (g : Γ[i]? = some e) (n : e ≠ .no) : ∃ v, σ[i]? = some (some v) ∧ Is c F H σ (Γ.set i .no) ∧ Res c F H σ (Γ.set i .no) v e := by
  obtain ⟨v, hv, hh⟩ := I.at_ i e g n
  refine ⟨v, hv, I.forget i, hh, n, fun a x j e' v' g' s' x' => ?_⟩
  obtain ⟨g2, ij⟩ := set_no g' (adr_no x')
  exact I.dis i j a e e' v v' ij g g2 hv s' x x'
/-- a slot that owns becomes a slot of data -/
theorem Is.frzSlot (I : Is c F H σ Γ) {i : Nat} {e : En} {x : D} (g : Γ[i]? = some e) (h : e.frz = some x) : ∃ F' v, σ[i]? = some (some v) ∧ Is c F' H σ (Γ.set i (.d x)) ∧ Same F F' ∧ Rep F' v x := by
  obtain ⟨v, hv, I1, r⟩ := I.resOf g (fun z => by rw [z] at h; cases h)
  obtain ⟨F', I2, s, rp⟩ := r.frz I1 h
  refine ⟨F', v, hv, ?_, s, rp⟩
  have I3 := I2.set (Res.d rp : Res c F' H σ (Γ.set i .no) v (.d x)) i
  rw [set_same hv, List.set_set] at I3
  exact I3
/-- a new object of data -/
theorem Is.new (I : Is c F H σ Γ) {p : Addr} {o : HO} (hp : H p = none) (nt : NT o := by exact fun _ z => nomatch z) : Is c (upd F p o) (upd H p o) σ Γ ∧ Same F (upd F p o) ∧ Same H (upd H p o) := by
  have fp : F p = none := I.unF hp
  have sf : Same F (upd F p o) := fun b u e => by rw [upd_ne (ne_of_none e fp)]; exact e
  have sh : Same H (upd H p o) := fun b u e => by rw [upd_ne (ne_of_none e hp)]; exact e
  refine ⟨I.grow sf sh (fun b u e => ?_) (fn_upd I.fn nt) (fun b u e => ?_), sf, sh⟩
  · by_cases z : b = p
    · subst z
      rw [upd_same] at e ⊢
      exact e
    · rw [upd_ne z] at e ⊢
      exact I.fh b u e
  · by_cases z : b = p
    · subst z
      exact .inr (.inl hp)
    · rw [upd_ne z] at e
      exact .inl e
/-- a new object that is nobody's yet -/
theorem Is.newH (I : Is c F H σ Γ) {p : Addr} {o : HO} (hp : H p = none) : Is c F (upd H p o) σ Γ := by
  have sh : Same H (upd H p o) := fun b u e => by rw [upd_ne (ne_of_none e hp)]; exact e
  exact I.grow (Same.refl F) sh (I.fh.trans sh) I.fn fun a o e => .inl e
theorem Is.freshN (I : Is c F H σ Γ) {p : Addr} (hp : ntH H p = none) : Not σ Γ p := fun j e' v' g s x => by
  obtain ⟨v, h1, h2⟩ := I.at_ j e' g (adr_no x)
  rw [s] at h1
  cases h1
  obtain ⟨_, _, u, h3, h4⟩ := h2.adr x
  rw [ntH_of h3 h4.1] at hp
  cases hp
theorem Is.fresh (I : Is c F H σ Γ) {p : Addr} (hp : H p = none) : Not σ Γ p := I.freshN (ntH_none hp)
theorem Is.newL (I : Is c F H σ Γ) {p : Addr} {vs : List V} {ds : List D} (hp : H p = none) (r : Reps F vs ds) : Is c F (upd H p (.lst vs)) σ Γ ∧ Res c F (upd H p (.lst vs)) σ Γ (.ref p) (.lst ds) :=
  ⟨I.newH hp, ⟨p, vs, rfl, I.unF hp, I.un hp, upd_same, r⟩, fun z => (nomatch z), fun a e => by cases e; exact I.fresh hp⟩
/-! ### a thing that is being made, kept apart -/
def Ct.guard (c : Ct K) (p : Addr) (o : HO) (h : c.H0 p = none) : Ct K := ⟨c.F0, upd c.H0 p o, c.pn, c.sc, fun a ns e => ⟨Same.seq (fun b u e => by rw [upd_ne (ne_of_none e h)]; exact e) (c.hs a ns e).1, (c.hs a ns e).2⟩⟩
/-- nobody's -/
structure Free (c : Ct K) (F : Hp) (σ : L2.St) (Γ : List En) (p : Addr) : Prop where
  f : F p = none
  h0 : c.H0 p = none
  pn : c.pn ≠ some p
  sl : Not σ Γ p
theorem Is.guard (I : Is c F H σ Γ) {p : Addr} {o : HO} (fr : Free c F σ Γ p) (hp : H p = some o) (nt : NT o := by exact fun _ z => nomatch z) : Is (c.guard p o fr.h0) F H σ Γ := by
  refine ⟨I.f0, I.fh, fun a u e => ?_, fun a u q e => ?_, fun q e => ?_, I.len, fun i e g n => ?_, I.dis, I.fn, I.tb, fun a u e => ?_⟩
  · rcases I.nw a u e with z | z
    · exact .inl z
    · refine .inr ?_
      have ap : a ≠ p := fun w => by
        rw [w, fr.f] at e
        cases e
      show Soft (upd c.H0 p o) a
      unfold Soft
      rw [upd_ne ap]
      exact z
  · by_cases ap : a = p
    · subst ap
      have e : upd c.H0 a o a = some u := e
      rw [upd_same] at e
      cases e
      exact hp
    · have e : upd c.H0 p o a = some u := e
      rw [upd_ne ap] at e
      exact I.h0 a u q e
  · obtain ⟨h1, h2, h3⟩ := I.pp q e
    refine ⟨h1, h2, ?_⟩
    have qp : q ≠ p := fun w => fr.pn (by rw [← w]; exact e)
    show upd c.H0 p o q ≠ none
    rw [upd_ne qp]
    exact h3
  · obtain ⟨v, h1, h2⟩ := I.at_ i e g n
    refine ⟨v, h1, h2.to (fun a x => ⟨fun z => ?_, .inr⟩) fun _ z => z⟩
    have ne : a ≠ p := fun w => by
      subst w
      exact fr.sl i e v g h1 x
    show upd c.H0 p o a = none
    rw [upd_ne ne]
    exact z
  · by_cases ap : a = p
    · subst ap
      have e : upd c.H0 a o a = some u := e
      rw [upd_same] at e
      cases e
      exact nt
    · have e : upd c.H0 p o a = some u := e
      rw [upd_ne ap] at e
      exact I.hn a u e
theorem Is.guarded {p : Addr} {o : HO} {h : c.H0 p = none} (I : Is (c.guard p o h) F H σ Γ) (pn : c.pn ≠ some p) : H p = some o := I.h0 p o pn upd_same
theorem Is.freed {p : Addr} {o : HO} {h : c.H0 p = none} (I : Is (c.guard p o h) F H σ Γ) (pn : c.pn ≠ some p) (f0 : c.F0 p = none) (hard : ∀ vs, o ≠ .tup vs) : Free c F σ Γ p := by
  refine ⟨?_, h, pn, fun j e' v' g s x => ?_⟩
  · cases q : F p with
    | none => rfl
    | some u =>
      rcases I.nw p u q with z | z
      · have z : c.F0 p = some u := z
        rw [f0] at z
        cases z
      · have z : Soft (upd c.H0 p o) p := z
        unfold Soft at z
        rw [upd_same] at z
        rcases z with z | ⟨vs, z⟩
        · cases z
        · cases z
          exact absurd rfl (hard vs)
  · obtain ⟨v, h1, h2⟩ := I.at_ j e' g (adr_no x)
    rw [s] at h1
    cases h1
    rcases h2.h0 x with z | z
    · have z : upd c.H0 p o p = none := z
      rw [upd_same] at z
      cases z
    · exact pn z.2
theorem Is.unguard {p : Addr} {o : HO} {h : c.H0 p = none} (I : Is (c.guard p o h) F H σ Γ) (pn : c.pn ≠ some p) : Is c F H σ Γ := by
  have low : ∀ {a : Addr}, (c.guard p o h).H0 a = none → c.H0 a = none := fun {a} z => by
    have z : upd c.H0 p o a = none := z
    by_cases w : a = p
    · rw [w]
      exact h
    · rw [upd_ne w] at z
      exact z
  have high : ∀ {a : Addr} {u : HO}, c.H0 a = some u → (c.guard p o h).H0 a = some u := fun {a u} z => by
    show upd c.H0 p o a = some u
    rw [upd_ne (ne_of_none z h)]
    exact z
  have lowS : ∀ {a : Addr}, Soft (c.guard p o h).H0 a → Soft c.H0 a := fun {a} z => by
    rcases z with z | ⟨vs, z⟩
    · exact .inl (low z)
    · have z : upd c.H0 p o a = some (.tup vs) := z
      by_cases w : a = p
      · rw [w]
        exact .inl h
      · rw [upd_ne w] at z
        exact .inr ⟨vs, z⟩
  refine ⟨I.f0, I.fh, fun a u e => (I.nw a u e).imp id lowS, fun a u q e => I.h0 a u q (high e), fun q e => ?_, I.len, fun i e g n => ?_, I.dis, I.fn, I.tb, fun a u e => I.hn a u (high e)⟩
  · obtain ⟨h1, h2, h3⟩ := I.pp q e
    refine ⟨h1, h2, fun z => ?_⟩
    by_cases w : q = p
    · rw [w] at e
      exact pn e
    · exact h3 (by show upd c.H0 p o q = none; rw [upd_ne w]; exact z)
  · obtain ⟨v, h1, h2⟩ := I.at_ i e g n
    exact ⟨v, h1, h2.to (fun a x => ⟨low, .inr⟩) fun _ z => z⟩
/-- what is nobody's changes -/
theorem Is.chg (I : Is c F H σ Γ) {p : Addr} {o o' : HO} (fr : Free c F σ Γ p) (hp : H p = some o') (pl : Plainly o') (nt : ∀ vs, o' ≠ .tup vs) : Is c F (upd H p o) σ Γ := by
  refine ⟨I.f0, fun a u e => ?_, I.nw, fun a u q e => ?_, fun q e => ?_, I.len, fun i e g n => ?_, I.dis, I.fn, I.tb.chg hp pl (fun b hb => upd_ne hb), I.hn⟩
  · have ap : a ≠ p := fun w => by
      rw [w, fr.f] at e
      cases e
    rw [upd_ne ap]
    exact I.fh a u e
  · have ap : a ≠ p := fun w => by
      rw [w, fr.h0] at e
      cases e
    rw [upd_ne ap]
    exact I.h0 a u q e
  · obtain ⟨h1, h2, h3⟩ := I.pp q e
    have qp : q ≠ p := fun w => fr.pn (by rw [← w]; exact e)
    exact ⟨h1, h2.of (upd_ne qp), h3⟩
  · obtain ⟨v, h1, h2⟩ := I.at_ i e g n
    refine ⟨v, h1, h2.grow (Same.refl F) (fun a x => .inl (upd_ne fun w => ?_)) (fun a x => (h2.adr x).1) (fun a vs e => ?_)⟩
    · subst w
      exact fr.sl i e v g h1 x
    · rw [upd_ne fun w => ?_]
      · exact e
      · rw [w, hp] at e
        cases e
        exact nt vs rfl
/-! ### wiped slots -/
def wipeE (Γ : List En) : List Nat → List En
  | [] => Γ
  | v :: vs => (wipeE Γ vs).set v .no
theorem Is.wipe (I : Is c F H σ Γ) : ∀ vs : List Nat, Is c F H (L2.wipe σ vs) (wipeE Γ vs)
  | [] => I
  | v :: vs => (Is.wipe I vs).wipe1 v
theorem Is.forgets (I : Is c F H σ Γ) : ∀ vs : List Nat, Is c F H σ (wipeE Γ vs)
  | [] => I
  | v :: vs => (Is.forgets I vs).forget v
theorem Not.forgets {a : Addr} (n : Not σ Γ a) : ∀ vs : List Nat, Not σ (wipeE Γ vs) a
  | [] => n
  | v :: vs => (Not.forgets n vs).forget v
theorem wipeE_no {vs : List Nat} {j : Nat} {e : En} (h : (wipeE Γ vs)[j]? = some e) (n : e ≠ .no) : j ∉ vs := by
  induction vs generalizing e with
  | nil => simp
  | cons v vs ih =>
    have h : ((wipeE Γ vs).set v .no)[j]? = some e := h
    rw [List.getElem?_set] at h
    split at h
    · split at h
      · cases h
        exact absurd rfl n
      · cases h
    · rename_i hv
      simp only [List.mem_cons, not_or]
      exact ⟨fun z => hv z.symm, ih h n⟩
theorem Is.unwipe {σ' : L2.St} {vs : List Nat} (I : Is c F H σ' Γ) (w : L2.wipe σ' vs = L2.wipe σ vs) : Is c F H σ (wipeE Γ vs) := by
  have J := I.forgets vs
  have eq : ∀ j : Nat, j ∉ vs → σ'[j]? = σ[j]? := fun j hj => by rw [← wipe_out (σ := σ') hj, ← wipe_out (σ := σ) hj, w]
  have ll : σ.length = σ'.length := by rw [← wipe_length σ vs, ← wipe_length σ' vs, w]
  refine ⟨J.f0, J.fh, J.nw, J.h0, J.pp, ll.trans J.len, fun i e g n => ?_, fun i j a e1 e2 v1 v2 ij g1 g2 s1 s2 x1 x2 => ?_, J.fn, J.tb, J.hn⟩
  · obtain ⟨v, h1, h2⟩ := J.at_ i e g n
    exact ⟨v, by rw [← eq i (wipeE_no g n)]; exact h1, h2⟩
  · refine J.dis i j a e1 e2 v1 v2 ij g1 g2 ?_ ?_ x1 x2
    · rw [eq i (wipeE_no g1 (adr_no x1))]
      exact s1
    · rw [eq j (wipeE_no g2 (adr_no x2))]
      exact s2
end
end Da

set_option Elab.async false
set_option maxRecDepth 100000
set_option maxHeartbeats 4000000
set_option linter.all false
namespace Da
open PySem PySem.Spec PyProof.Rows L2
abbrev DT := List En → (En → List En → Prop) → Prop
abbrev DB := List En → (Bool → List En → Prop) → Prop
abbrev DA := List En → (List D → List En → Prop) → Prop
/-- an exception that leaves: what is wished of it -/
def EOk {K : PySem.W.Frag} [HasT K] (c : Ct K) (E : XK) (ψ : Value → Prop) : Prop :=
  ∀ C H', (∀ a o, c.pn ≠ some a → c.H0 a = some o → H' a = some o) → (∀ p, c.pn = some p → PenAt H' p) → TbOk K H' → ψ C → E C none H'
class Snd (K : PySem.W.Frag) [HasT K] (E : XK) (ψ : Value → Prop) (te : TE) (den : outParam DT) : Prop where
  run : ∀ {c : Ct K} {F H : Hp} {σ : L2.St} {Γ : List En} {φ : En → List En → Prop} {Q : VK}, Is c F H σ Γ → EOk c E ψ → den Γ φ →
    (∀ F' H' v e Γ', Is c F' H' σ Γ' → Same F F' → Res c F' H' σ Γ' v e → φ e Γ' → Q v H') → te σ H Q
class SndT (K : PySem.W.Frag) [HasT K] (E : XK) (ψ : Value → Prop) (tt : TT) (den : outParam DB) : Prop where
  run : ∀ {c : Ct K} {F H : Hp} {σ : L2.St} {Γ : List En} {φ : Bool → List En → Prop} {Q : Bool → Hp → Prop}, Is c F H σ Γ → EOk c E ψ → den Γ φ →
    (∀ F' H' b Γ', Is c F' H' σ Γ' → Same F F' → φ b Γ' → Q b H') → tt σ H Q
class SndA (K : PySem.W.Frag) [HasT K] (E : XK) (ψ : Value → Prop) (ta : TA) (den : outParam DA) : Prop where
  run : ∀ {c : Ct K} {F H : Hp} {σ : L2.St} {Γ : List En} {φ : List D → List En → Prop} {Q : List V → Hp → Prop}, Is c F H σ Γ → EOk c E ψ → den Γ φ →
    (∀ F' H' vs ds Γ', Is c F' H' σ Γ' → Same F F' → Reps F' vs ds → φ ds Γ' → Q vs H') → ta σ H Q
/-- an operation on two values -/
class SndR (K : PySem.W.Frag) [HasT K] (r : R2) (den : outParam (D → D → (En → Prop) → Prop)) : Prop where
  run : ∀ {c : Ct K} {F H : Hp} {σ : L2.St} {Γ : List En} {x y : V} {d e : D} {φ : En → Prop} {Q : VK}, Is c F H σ Γ → Rep F x d → Rep F y e → den d e φ →
    (∀ F' H' v z, Is c F' H' σ Γ → Same F F' → Res c F' H' σ Γ v z → φ z → Q v H') → r x y H Q
/-- a call on values -/
class SndC (K : PySem.W.Frag) [HasT K] (r : List V → Hp → VK → Prop) (den : outParam (List D → (En → Prop) → Prop)) : Prop where
  run : ∀ {c : Ct K} {F H : Hp} {σ : L2.St} {Γ : List En} {xs : List V} {ds : List D} {φ : En → Prop} {Q : VK}, Is c F H σ Γ → Reps F xs ds → den ds φ →
    (∀ F' H' v z, Is c F' H' σ Γ → Same F F' → Res c F' H' σ Γ v z → φ z → Q v H') → r xs H Q
/-- with the data of a result -/
def wf (e : En) (k : D → Prop) : Prop := match e with
  | .d x => k x
  | .lst xs => k (.lst xs)
  | .dK ks xs => k (.dK ks xs)
  | .dT ks xs => k (.dT ks xs)
  | .ow o _ => k o.dt
  | _ => False
def wb (e : En) (k : Bool → Prop) : Prop := match e with
  | .d (.bl b) => k b
  | _ => False
theorem wf_frz {e : En} {k : D → Prop} (h : wf e k) : ∃ x, e.frz = some x ∧ k x := by
  cases e <;> first | exact ⟨_, rfl, h⟩ | exact h.elim
theorem wb_of {e : En} {k : Bool → Prop} (h : wb e k) : ∃ b, e = .d (.bl b) ∧ k b := by
  cases e with
  | d x =>
    cases x <;> first | exact ⟨_, rfl, h⟩ | exact h.elim
  | _ => exact h.elim
section
variable {K : PySem.W.Frag} [HasT K] {E : XK} {ψ : Value → Prop} {te ta tb tx : TE} {da db dx dt : DT} {tt tu : TT} {dtt dtu : DB} {al : TA} {dal : DA} {r : R2} {dr : D → D → (En → Prop) → Prop}
theorem Snd.frz (s : Snd K E ψ ta da) {c : Ct K} {F H : Hp} {σ : L2.St} {Γ : List En} {φ : En → List En → Prop} {k : D → List En → Prop} {Q : VK} (I : Is c F H σ Γ) (eo : EOk c E ψ) (h : da Γ fun e Γ1 => wf e fun x => k x Γ1)
    (q : ∀ F' H' v x Γ', Is c F' H' σ Γ' → Same F F' → Rep F' v x → k x Γ' → Q v H') : ta σ H Q := by
  refine s.run I eo h fun F1 H1 v e Γ1 I1 s1 r1 h1 => ?_
  obtain ⟨x, hx, h1⟩ := wf_frz h1
  obtain ⟨F2, I2, s2, rp⟩ := r1.frz I1 hx
  exact q F2 H1 v x Γ1 I2 (s1.trans s2) rp h1
theorem Snd.bool (s : Snd K E ψ ta da) {c : Ct K} {F H : Hp} {σ : L2.St} {Γ : List En} {k : Bool → List En → Prop} {Q : VK} (I : Is c F H σ Γ) (eo : EOk c E ψ) (h : da Γ fun e Γ1 => wb e fun x => k x Γ1)
    (q : ∀ F' H' b Γ', Is c F' H' σ Γ' → Same F F' → k b Γ' → Q (.bl b) H') : ta σ H Q := by
  refine s.run I eo h fun F1 H1 v e Γ1 I1 s1 r1 h1 => ?_
  obtain ⟨b, rfl, h1⟩ := wb_of h1
  obtain ⟨h2, _⟩ := r1
  cases (show Rep F1 v (.bl b) from h2)
  exact q F1 H1 b Γ1 I1 s1 h1
/-! ### names and constants -/
def dVar (i : Nat) : DT := fun Γ φ => match Γ[i]? with
  | some (.d x) => φ (.d x) Γ
  | some (.lst xs) => φ (.d (.lst xs)) (Γ.set i (.d (.lst xs)))
  | some (.dK ks xs) => φ (.d (.dK ks xs)) (Γ.set i (.d (.dK ks xs)))
  | some (.dT ks xs) => φ (.d (.dT ks xs)) (Γ.set i (.d (.dT ks xs)))
  | some (.ow o _) => φ (.d o.dt) (Γ.set i (.d o.dt))
  | _ => False
instance snd_var (i : Nat) : Snd K E ψ (tVar i) (dVar i) := ⟨fun {c F H σ Γ φ Q} I _ h q => by
  unfold dVar at h
  have go : ∀ {e : En} {x : D}, Γ[i]? = some e → e.frz = some x → φ (.d x) (Γ.set i (.d x)) → tVar i σ H Q := fun g z h => by
    obtain ⟨F1, v, hv, I1, s1, rp⟩ := I.frzSlot g z
    exact ⟨v, hv, q F1 H v _ _ I1 s1 (Res.d rp) h⟩
  cases g : Γ[i]? with
  | none => rw [g] at h; exact h.elim
  | some e =>
    rw [g] at h
    cases e with
    | d x =>
      obtain ⟨v, hv, rp⟩ := I.at_ i _ g (fun z => nomatch z)
      exact ⟨v, hv, q F H v _ _ I (Same.refl F) (Res.d rp) h⟩
    | lst xs => exact go g rfl h
    | dK ks xs => exact go g rfl h
    | dT ks xs => exact go g rfl h
    | ow o S => exact go g rfl h
    | no => exact h.elim
    | pen => exact h.elim
    | scr ns => exact h.elim
    | nd ks xs => exact h.elim⟩
/-- a plain constant as data -/
def vD : V → D
  | .bl b => .bl b
  | .int i => .int i
  | .str s => .str s
  | _ => .non
def isSc : V → Bool
  | .non => true
  | .bl _ => true
  | .int _ => true
  | .str _ => true
  | _ => false
theorem rep_sc {F : Hp} : ∀ {v : V}, isSc v = true → Rep F v (vD v)
  | .non, _ => .non
  | .bl b, _ => .bl b
  | .int b, _ => .int b
  | .str b, _ => .str b
def dC (v : V) : DT := fun Γ φ => isSc v = true ∧ φ (.d (vD v)) Γ
instance snd_c (v : V) : Snd K E ψ (tC v) (dC v) := ⟨fun {c F H σ Γ φ Q} I _ h q => q F H v _ _ I (Same.refl F) (Res.d (rep_sc h.1)) h.2⟩
/-! ### arguments and displays -/
def dNil : DA := fun Γ φ => φ [] Γ
def dCons (da : DT) (dr : DA) : DA := fun Γ φ => da Γ fun e Γ1 => wf e fun x => dr Γ1 fun xs Γ2 => φ (x :: xs) Γ2
instance snd_nil : SndA K E ψ tNil dNil := ⟨fun {c F H σ Γ φ Q} I _ h q => q F H [] [] Γ I (Same.refl F) .nil h⟩
instance snd_cons [s : Snd K E ψ ta da] [sl : SndA K E ψ al dal] : SndA K E ψ (tCons ta al) (dCons da dal) := ⟨fun {c F H σ Γ φ Q} I eo h q => by
  refine s.frz (φ := fun _ _ => True) (k := fun x Γ1 => dal Γ1 fun xs Γ2 => φ (x :: xs) Γ2) I eo h fun F1 H1 v x Γ1 I1 s1 r1 h1 => ?_
  refine sl.run I1 eo h1 fun F2 H2 vs xs Γ2 I2 s2 r2 h2 => ?_
  exact q F2 H2 _ _ Γ2 I2 (s1.trans s2) (.cons (r1.mono s2) r2) h2⟩
def dTup (dal : DA) : DT := fun Γ φ => dal Γ fun xs Γ1 => xs.length ≤ 100000 ∧ φ (.d (.tup xs)) Γ1
instance snd_tup [sl : SndA K E ψ al dal] : Snd K E ψ (tTup al) (dTup dal) := ⟨fun {c F H σ Γ φ Q} I eo h q => by
  refine sl.run I eo h fun F1 H1 vs xs Γ1 I1 s1 r1 h1 => ?_
  refine ⟨by rw [r1.length]; exact Nat.le_trans h1.1 (by decide), fun p hp => ?_⟩
  obtain ⟨I2, s2, _⟩ := I1.new (o := .tup vs) hp
  exact q _ _ _ _ Γ1 I2 (s1.trans s2) (Res.d (.tup upd_same (r1.mono s2))) h1.2⟩
def dLst (dal : DA) : DT := fun Γ φ => dal Γ fun xs Γ1 => xs.length ≤ 100000 ∧ φ (.lst xs) Γ1
instance snd_lst [sl : SndA K E ψ al dal] : Snd K E ψ (tLst al) (dLst dal) := ⟨fun {c F H σ Γ φ Q} I eo h q => by
  refine sl.run I eo h fun F1 H1 vs xs Γ1 I1 s1 r1 h1 => ?_
  refine ⟨by rw [r1.length]; exact Nat.le_trans h1.1 (by decide), fun p hp => ?_⟩
  obtain ⟨I2, r2⟩ := I1.newL hp r1
  exact q _ _ _ _ Γ1 I2 s1 r2 h1.2⟩
/-! ### operations -/
def dOp (dr : D → D → (En → Prop) → Prop) (da db : DT) : DT := fun Γ φ => da Γ fun e Γ1 => wf e fun x => db Γ1 fun e' Γ2 => wf e' fun y => dr x y fun z => φ z Γ2
instance (priority := 900) snd_op [sr : SndR K r dr] [sa : Snd K E ψ ta da] [sb : Snd K E ψ tb db] : Snd K E ψ (tOp r ta tb) (dOp dr da db) := ⟨fun {c F H σ Γ φ Q} I eo h q => by
  refine sa.frz (φ := fun _ _ => True) (k := fun x Γ1 => db Γ1 fun e' Γ2 => wf e' fun y => dr x y fun z => φ z Γ2) I eo h fun F1 H1 v x Γ1 I1 s1 r1 h1 => ?_
  refine sb.frz (φ := fun _ _ => True) (k := fun y Γ2 => dr x y fun z => φ z Γ2) I1 eo h1 fun F2 H2 u y Γ2 I2 s2 r2 h2 => ?_
  exact sr.run I2 (r1.mono s2) r2 h2 fun F3 H3 w z I3 s3 r3 h3 => q F3 H3 w z Γ2 I3 ((s1.trans s2).trans s3) r3 h3⟩
def onI (x y : D) (k : Int → Int → Prop) : Prop := match x, y with
  | .int i, .int j => k i j
  | _, _ => False
def dI (C : Int → Int → Prop) (g : Int → Int → V) (x y : D) (φ : En → Prop) : Prop := onI x y fun i j => C i j ∧ isSc (g i j) = true ∧ φ (.d (vD (g i j)))
def dI0 (g : Int → Int → V) (x y : D) (φ : En → Prop) : Prop := onI x y fun i j => isSc (g i j) = true ∧ φ (.d (vD (g i j)))
theorem two_ints {F : Hp} {x y : V} {d e : D} {k : Int → Int → Prop} (rx : Rep F x d) (ry : Rep F y e) (h : onI d e k) : ∃ i j, x = .int i ∧ y = .int j ∧ k i j := by
  cases d with
  | int i =>
    cases rx
    cases e with
    | int j =>
      cases ry
      exact ⟨i, j, rfl, rfl, h⟩
    | _ => exact h.elim
  | _ => exact h.elim
instance snd_rI (C : Int → Int → Prop) (g : Int → Int → V) : SndR K (rI C g) (dI C g) := ⟨fun {c F H σ Γ x y d e φ Q} I rx ry h q => by
  obtain ⟨i, j, rfl, rfl, h1, h2, h3⟩ := two_ints rx ry h
  exact ⟨i, j, rfl, rfl, h1, q F H _ _ I (Same.refl F) (Res.d (rep_sc h2)) h3⟩⟩
instance snd_rI0 (g : Int → Int → V) : SndR K (rI0 g) (dI0 g) := ⟨fun {c F H σ Γ x y d e φ Q} I rx ry h q => by
  obtain ⟨i, j, rfl, rfl, h2, h3⟩ := two_ints rx ry h
  exact ⟨i, j, rfl, rfl, q F H _ _ I (Same.refl F) (Res.d (rep_sc h2)) h3⟩⟩
/-- negation and its like -/
def dUn (g : Int → V) (da : DT) : DT := fun Γ φ => da Γ fun e Γ1 => match e with
  | .d (.int i) => isSc (g i) = true ∧ φ (.d (vD (g i))) Γ1
  | _ => False
instance snd_un (g : Int → V) [sa : Snd K E ψ ta da] : Snd K E ψ (tUn (rU g) ta) (dUn g da) := ⟨fun {c F H σ Γ φ Q} I eo h q => by
  refine sa.run I eo h fun F1 H1 v e Γ1 I1 s1 r1 h1 => ?_
  cases e with
  | d x =>
    cases x with
    | int i =>
      cases (show Rep F1 v (.int i) from r1.1)
      exact ⟨i, rfl, q F1 H1 _ _ Γ1 I1 s1 (Res.d (rep_sc h1.1)) h1.2⟩
    | _ => exact h1.elim
  | _ => exact h1.elim⟩
/-! ### data as the library's data: == -/
mutual
def D.py : D → PyData
  | .non => .none
  | .bl b => .bool b
  | .int i => .int i
  | .str s => .str s
  | .tup xs => .tuple (pys xs)
  | .lst xs => .list (pys xs)
  | .dK _ _ => .none
  | .dT _ _ => .none
  | .ins _ _ _ => .none
def pys : List D → List PyData
  | [] => []
  | x :: xs => x.py :: pys xs
end
mutual
/-- no dict, no object within -/
def D.flat : D → Bool
  | .tup xs => flats xs
  | .lst xs => flats xs
  | .dK _ _ => false
  | .dT _ _ => false
  | .ins _ _ _ => false
  | _ => true
def flats : List D → Bool
  | [] => true
  | x :: xs => x.flat && flats xs
end
mutual
theorem Rep.dp {F H : Hp} (fh : Same F H) : ∀ {x : D} {v : V}, Rep F v x → x.flat = true → Dp K H v x.py
  | .non, _, .non, _ => .non
  | .bl _, _, .bl b, _ => .bl b
  | .int _, _, .int i, _ => .int i
  | .str _, _, .str i, _ => .str i
  | .tup ds, _, .tup e r, h => .tup (SqT.of (fh _ _ e)) (Reps.dp fh r h)
  | .lst ds, _, .lst e r, h => .lst (SqL.of (fh _ _ e)) (Reps.dp fh r h)
theorem Reps.dp {F H : Hp} (fh : Same F H) : ∀ {xs : List D} {vs : List V}, Reps F vs xs → flats xs = true → DpAll K H vs (pys xs)
  | [], _, .nil, _ => .nil
  | x :: xs, _, .cons a b, h => by
    unfold flats at h
    rw [Bool.and_eq_true] at h
    exact .cons (Rep.dp fh a h.1) (Reps.dp fh b h.2)
end
def D.fit (x : D) : Bool := x.flat && SeqAt.shaped x.py
def D.eqv (x y : D) : Bool := PyData.eqv x.py y.py
def dEq (x y : D) (φ : En → Prop) : Prop := x.fit = true ∧ y.fit = true ∧ φ (.d (.bl (x.eqv y)))
def dNe (x y : D) (φ : En → Prop) : Prop := x.fit = true ∧ y.fit = true ∧ φ (.d (.bl (!x.eqv y)))
instance snd_eqD : SndR K (rEqD K) dEq := ⟨fun {c F H σ Γ x y d e φ Q} I rx ry h q => by
  obtain ⟨h1, h2, h3⟩ := h
  unfold D.fit at h1 h2
  rw [Bool.and_eq_true] at h1 h2
  exact ⟨_, _, rx.dp I.fh h1.1, ry.dp I.fh h2.1, h1.2, h2.2, q F H _ _ I (Same.refl F) (Res.d (.bl _)) h3⟩⟩
instance snd_neD : SndR K (rNeD K) dNe := ⟨fun {c F H σ Γ x y d e φ Q} I rx ry h q => by
  obtain ⟨h1, h2, h3⟩ := h
  unfold D.fit at h1 h2
  rw [Bool.and_eq_true] at h1 h2
  exact ⟨_, _, rx.dp I.fh h1.1, ry.dp I.fh h2.1, h1.2, h2.2, q F H _ _ I (Same.refl F) (Res.d (.bl _)) h3⟩⟩
/-! ### items -/
def dIxT (x y : D) (φ : En → Prop) : Prop := match x, y with
  | .tup xs, .int i => ∃ z, atI xs i = some z ∧ φ (.d z)
  | _, _ => False
def dIxL (x y : D) (φ : En → Prop) : Prop := match x, y with
  | .lst xs, .int i => ∃ z, atI xs i = some z ∧ φ (.d z)
  | _, _ => False
theorem Reps.atI {F : Hp} {vs : List V} {ds : List D} {i : Int} {z : D} (r : Reps F vs ds) (h : atI ds i = some z) : ∃ v, L2.atI vs i = some v ∧ Rep F v z := by
  unfold L2.atI at h ⊢
  rw [r.length]
  cases e : ixN ds.length i with
  | none => rw [e] at h; cases h
  | some j =>
    rw [e] at h
    obtain ⟨v, e1, rp⟩ := r.get (i := j) h
    exact ⟨v, e1, rp⟩
instance snd_ixT : SndR K (rIxT K) dIxT := ⟨fun {c F H σ Γ x y d e φ Q} I rx ry h q => by
  cases d with
  | tup xs =>
    cases e with
    | int i =>
      obtain ⟨z, hz, h⟩ := h
      cases rx with
      | tup e1 r1 =>
        cases ry
        obtain ⟨v, e2, rp⟩ := r1.atI hz
        exact ⟨_, _, i, v, rfl, rfl, SqT.of (I.fh _ _ e1), e2, q F H _ _ I (Same.refl F) (Res.d rp) h⟩
    | _ => exact h.elim
  | _ => exact h.elim⟩
instance snd_ixL : SndR K (rIxL K) dIxL := ⟨fun {c F H σ Γ x y d e φ Q} I rx ry h q => by
  cases d with
  | lst xs =>
    cases e with
    | int i =>
      obtain ⟨z, hz, h⟩ := h
      cases rx with
      | lst e1 r1 =>
        cases ry
        obtain ⟨v, e2, rp⟩ := r1.atI hz
        exact ⟨_, _, i, v, rfl, rfl, SqL.of (I.fh _ _ e1), e2, q F H _ _ I (Same.refl F) (Res.d rp) h⟩
    | _ => exact h.elim
  | _ => exact h.elim⟩
/-- an item of a list that the slot owns, or of data -/
def dIxLv (i : Nat) (db : DT) : DT := fun Γ φ => match Γ[i]? with
  | some (.lst xs) => db Γ fun e Γ1 => Γ1[i]? = some (.lst xs) ∧ wf e fun y => dIxL (.lst xs) y fun z => φ z Γ1
  | some (.d x) => db Γ fun e Γ1 => wf e fun y => dIxL x y fun z => φ z Γ1
  | _ => False
instance snd_ixLv (i : Nat) [sb : Snd K E ψ tb db] : Snd K E ψ (tOp (rIxL K) (tVar i) tb) (dIxLv i db) := ⟨fun {c F H σ Γ φ Q} I eo h q => by
  unfold dIxLv at h
  cases g : Γ[i]? with
  | none => rw [g] at h; exact h.elim
  | some e =>
    rw [g] at h
    cases e with
    | d x =>
      obtain ⟨v, hv, rp⟩ := I.at_ i _ g (fun z => nomatch z)
      have rp : Rep F v x := rp
      refine ⟨v, hv, ?_⟩
      refine sb.frz (φ := fun _ _ => True) (k := fun y Γ2 => dIxL x y fun z => φ z Γ2) I eo h fun F2 H2 u y Γ2 I2 s2 r2 h2 => ?_
      exact SndR.run (r := rIxL K) I2 (rp.mono s2) r2 h2 fun F3 H3 w z I3 s3 r3 h3 => q F3 H3 w z Γ2 I3 (s2.trans s3) r3 h3
    | lst xs =>
      obtain ⟨v, hv, a, vs, rfl, _⟩ := I.at_ i _ g (fun z => nomatch z)
      refine ⟨_, hv, ?_⟩
      refine sb.run I eo h fun F2 H2 u e Γ2 I2 s2 r2 h2 => ?_
      obtain ⟨g2, h2⟩ := h2
      obtain ⟨y, hy, h3⟩ := wf_frz h2
      obtain ⟨F3, I3, s3, rp⟩ := r2.frz I2 hy
      obtain ⟨v', hv', a', vs', e', _, _, hl, rs⟩ := I3.at_ i _ g2 (fun z => nomatch z)
      rw [hv] at hv'
      cases hv'
      cases e'
      cases y with
      | int j =>
        cases rp
        obtain ⟨z, hz, h4⟩ := h3
        obtain ⟨w, ew, rw'⟩ := rs.atI hz
        exact ⟨a, vs', j, w, rfl, rfl, SqL.of hl, ew, q F3 H2 w _ Γ2 I3 (s2.trans s3) (Res.d rw') h4⟩
      | _ => exact h3.elim
    | no => exact h.elim
    | dK ks xs => exact h.elim
    | dT ks xs => exact h.elim
    | ow o S => exact h.elim
    | pen => exact h.elim
    | scr ns => exact h.elim
    | nd ks xs => exact h.elim⟩
/-! ### and, or, not, if; tests -/
def dAndV (da db : DT) : DT := fun Γ φ => da Γ fun e Γ1 => wb e fun b => if b = true then db Γ1 φ else φ (.d (.bl false)) Γ1
def dOrV (da db : DT) : DT := fun Γ φ => da Γ fun e Γ1 => wb e fun b => if b = true then φ (.d (.bl true)) Γ1 else db Γ1 φ
def dNotV (da : DT) : DT := fun Γ φ => da Γ fun e Γ1 => wb e fun b => φ (.d (.bl (!b))) Γ1
instance snd_andV [sa : Snd K E ψ ta da] [sb : Snd K E ψ tb db] : Snd K E ψ (tAndV ta tb) (dAndV da db) := ⟨fun {c F H σ Γ φ Q} I eo h q => by
  refine sa.bool (k := fun b Γ1 => if b = true then db Γ1 φ else φ (.d (.bl false)) Γ1) I eo h fun F1 H1 b Γ1 I1 s1 h1 => ⟨b, rfl, ?_⟩
  cases b with
  | true => exact iteT (sb.run I1 eo h1 fun F2 H2 v e Γ2 I2 s2 r2 h2 => q F2 H2 v e Γ2 I2 (s1.trans s2) r2 h2)
  | false => exact iteF (q F1 H1 _ _ Γ1 I1 s1 (Res.d (.bl _)) h1)⟩
instance snd_orV [sa : Snd K E ψ ta da] [sb : Snd K E ψ tb db] : Snd K E ψ (tOrV ta tb) (dOrV da db) := ⟨fun {c F H σ Γ φ Q} I eo h q => by
  refine sa.bool (k := fun b Γ1 => if b = true then φ (.d (.bl true)) Γ1 else db Γ1 φ) I eo h fun F1 H1 b Γ1 I1 s1 h1 => ⟨b, rfl, ?_⟩
  cases b with
  | true => exact iteT (q F1 H1 _ _ Γ1 I1 s1 (Res.d (.bl _)) h1)
  | false => exact iteF (sb.run I1 eo h1 fun F2 H2 v e Γ2 I2 s2 r2 h2 => q F2 H2 v e Γ2 I2 (s1.trans s2) r2 h2)⟩
instance snd_notV [sa : Snd K E ψ ta da] : Snd K E ψ (tNotV ta) (dNotV da) := ⟨fun {c F H σ Γ φ Q} I eo h q => by
  refine sa.bool (k := fun b Γ1 => φ (.d (.bl (!b))) Γ1) I eo h fun F1 H1 b Γ1 I1 s1 h1 => ⟨b, rfl, q F1 H1 _ _ Γ1 I1 s1 (Res.d (.bl _)) h1⟩⟩
def dB (da : DT) : DB := fun Γ φ => da Γ fun e Γ1 => wb e fun b => φ b Γ1
instance snd_B [sa : Snd K E ψ ta da] : SndT K E ψ (tB ta) (dB da) := ⟨fun {c F H σ Γ φ Q} I eo h q => sa.bool (k := fun b Γ1 => φ b Γ1) I eo h fun F1 H1 b Γ1 I1 s1 h1 => ⟨b, rfl, q F1 H1 b Γ1 I1 s1 h1⟩⟩
instance snd_test [sa : Snd K E ψ ta da] : SndT K E ψ (tTest ta) (dB da) := ⟨fun {c F H σ Γ φ Q} I eo h q => sa.bool (k := fun b Γ1 => φ b Γ1) I eo h fun F1 H1 b Γ1 I1 s1 h1 => ⟨b, rfl, q F1 H1 b Γ1 I1 s1 h1⟩⟩
def dAnd (dtt dtu : DB) : DB := fun Γ φ => dtt Γ fun b Γ1 => if b = true then dtu Γ1 φ else φ false Γ1
def dOr (dtt dtu : DB) : DB := fun Γ φ => dtt Γ fun b Γ1 => if b = true then φ true Γ1 else dtu Γ1 φ
def dNot (dtt : DB) : DB := fun Γ φ => dtt Γ fun b Γ1 => φ (!b) Γ1
def dYes : DB := fun Γ φ => φ true Γ
instance snd_yes : SndT K E ψ tYes dYes := ⟨fun {c F H σ Γ φ Q} I eo h q => q F H true Γ I (Same.refl F) h⟩
instance snd_and [sa : SndT K E ψ tt dtt] [sb : SndT K E ψ tu dtu] : SndT K E ψ (tAnd tt tu) (dAnd dtt dtu) := ⟨fun {c F H σ Γ φ Q} I eo h q => by
  refine sa.run I eo h fun F1 H1 b Γ1 I1 s1 h1 => ?_
  cases b with
  | true => exact iteT (sb.run I1 eo h1 fun F2 H2 e Γ2 I2 s2 h2 => q F2 H2 e Γ2 I2 (s1.trans s2) h2)
  | false => exact iteF (q F1 H1 _ Γ1 I1 s1 h1)⟩
instance snd_or [sa : SndT K E ψ tt dtt] [sb : SndT K E ψ tu dtu] : SndT K E ψ (tOr tt tu) (dOr dtt dtu) := ⟨fun {c F H σ Γ φ Q} I eo h q => by
  refine sa.run I eo h fun F1 H1 b Γ1 I1 s1 h1 => ?_
  cases b with
  | true => exact iteT (q F1 H1 _ Γ1 I1 s1 h1)
  | false => exact iteF (sb.run I1 eo h1 fun F2 H2 e Γ2 I2 s2 h2 => q F2 H2 e Γ2 I2 (s1.trans s2) h2)⟩
instance snd_not [sa : SndT K E ψ tt dtt] : SndT K E ψ (tNot tt) (dNot dtt) := ⟨fun {c F H σ Γ φ Q} I eo h q => sa.run I eo h fun F1 H1 b Γ1 I1 s1 h1 => q F1 H1 _ Γ1 I1 s1 h1⟩
def dIf (dtt : DB) (da db : DT) : DT := fun Γ φ => dtt Γ fun b Γ1 => if b = true then da Γ1 φ else db Γ1 φ
instance snd_if [st : SndT K E ψ tt dtt] [sa : Snd K E ψ ta da] [sb : Snd K E ψ tb db] : Snd K E ψ (tIf tt ta tb) (dIf dtt da db) := ⟨fun {c F H σ Γ φ Q} I eo h q => by
  refine st.run I eo h fun F1 H1 b Γ1 I1 s1 h1 => ?_
  cases b with
  | true => exact iteT (sa.run I1 eo h1 fun F2 H2 v e Γ2 I2 s2 r2 h2 => q F2 H2 v e Γ2 I2 (s1.trans s2) r2 h2)
  | false => exact iteF (sb.run I1 eo h1 fun F2 H2 v e Γ2 I2 s2 r2 h2 => q F2 H2 v e Γ2 I2 (s1.trans s2) r2 h2)⟩
/-- a < b < c -/
def dChain (dr dr' : D → D → (En → Prop) → Prop) (da db dx : DT) : DT := fun Γ φ => da Γ fun e Γ1 => wf e fun x => db Γ1 fun e' Γ2 => wf e' fun y => dr x y fun z => wb z fun k => if k = true then dx Γ2 fun e'' Γ3 => wf e'' fun w => dr' y w fun z => φ z Γ3 else φ (.d (.bl false)) Γ2
instance snd_chain {r' : R2} {dr' : D → D → (En → Prop) → Prop} [sr : SndR K r dr] [sr' : SndR K r' dr'] [sa : Snd K E ψ ta da] [sb : Snd K E ψ tb db] [sx : Snd K E ψ tx dx] : Snd K E ψ (tChain r r' ta tb tx) (dChain dr dr' da db dx) := ⟨fun {c F H σ Γ φ Q} I eo h q => by
  refine sa.frz (φ := fun _ _ => True) (k := fun x Γ1 => db Γ1 fun e' Γ2 => wf e' fun y => dr x y fun z => wb z fun k => if k = true then dx Γ2 fun e'' Γ3 => wf e'' fun w => dr' y w fun z => φ z Γ3 else φ (.d (.bl false)) Γ2) I eo h fun F1 H1 v x Γ1 I1 s1 r1 h1 => ?_
  refine sb.frz (φ := fun _ _ => True) (k := fun y Γ2 => dr x y fun z => wb z fun k => if k = true then dx Γ2 fun e'' Γ3 => wf e'' fun w => dr' y w fun z => φ z Γ3 else φ (.d (.bl false)) Γ2) I1 eo h1 fun F2 H2 u y Γ2 I2 s2 r2 h2 => ?_
  refine sr.run I2 (r1.mono s2) r2 h2 fun F3 H3 w z I3 s3 r3 h3 => ?_
  obtain ⟨k, rfl, h3⟩ := wb_of h3
  cases (show Rep F3 w (.bl k) from r3.1)
  refine ⟨k, rfl, ?_⟩
  cases k with
  | false => exact iteF (q F3 H3 _ _ Γ2 I3 ((s1.trans s2).trans s3) (Res.d (.bl _)) h3)
  | true =>
    refine iteT ?_
    refine sx.frz (φ := fun _ _ => True) (k := fun w Γ3 => dr' y w fun z => φ z Γ3) I3 eo h3 fun F4 H4 w x4 Γ4 I4 s4 r4 h4 => ?_
    exact sr'.run I4 ((r2.mono s3).mono s4) r4 h4 fun F5 H5 w5 z5 I5 s5 r5 h5 => q F5 H5 w5 z5 Γ4 I5 ((((s1.trans s2).trans s3).trans s4).trans s5) r5 h5⟩
end
end Da

set_option Elab.async false
set_option maxRecDepth 100000
set_option maxHeartbeats 4000000
set_option linter.all false
namespace Da
open PySem PySem.Spec PyProof.Rows L2 RZ
/-! ### what a def promises, over data -/
def c0 (K : PySem.W.Frag) (F H : Hp) : Ct K := ⟨F, ntH H, none, none, fun _ _ e => nomatch e⟩
def spX (K : PySem.W.Frag) [HasT K] (den : List D → (En → Prop) → (Value → Prop) → Prop) : Sp := fun vs H Q E => ∃ (F : Hp) (ds : List D) (φ : En → Prop) (ψ : Value → Prop), Same F H ∧ FN F ∧ TbOk K H ∧ Reps F vs ds ∧ den ds φ ψ ∧
  (∀ F' H' v e, Same F F' → NS H H' → TbOk K H' → Same F' H' → FN F' → (∀ a o, F' a = some o → F a = some o ∨ Soft (ntH H) a) → Held (c0 K F H) F' H' e v → e ≠ .no → φ e → Q v H') ∧
  (∀ C H', NS H H' → TbOk K H' → ψ C → E C none H')
/-- with a pen ahead -/
def cP (K : PySem.W.Frag) (F H : Hp) (p : Addr) : Ct K := ⟨F, ntH H, some p, none, fun _ _ e => nomatch e⟩
def spP (K : PySem.W.Frag) [HasT K] (den : List D → (En → Prop) → Prop) : Sp := fun vs H Q _ => ∃ (p : Addr) (us : List V) (F : Hp) (ds : List D) (φ : En → Prop), vs = .ref p :: us ∧ F p = none ∧ PenAt H p ∧ Same F H ∧ FN F ∧ TbOk K H ∧ Reps F us ds ∧ den ds φ ∧
  (∀ F' H' v e, Same F F' → (∀ a o, a ≠ p → NT o → H a = some o → H' a = some o) → TbOk K H' → PenAt H' p → Same F' H' → FN F' → (∀ a o, F' a = some o → F a = some o ∨ Soft (ntH H) a) → Held (cP K F H p) F' H' e v → e ≠ .no → e ≠ .pen → φ e → Q v H')
/-- iterators -/
def ItOk (K : PySem.W.Frag) [HasT K] (F1 : Hp) (J : It) (items : List D) : Prop := ∀ (c : Ct K) F H σ Γ (i : Nat), Is c F H σ Γ → Same F1 F →
  (i = items.length → J.stop i H) ∧ ∀ d, items[i]? = some d → J.go i H ∧ ∀ x H', J.yld i H x H' → ∃ F', Is c F' H' σ Γ ∧ Same F F' ∧ Rep F' x d
class SndI (K : PySem.W.Frag) [HasT K] (E : XK) (ψ : Value → Prop) (wi : TI) (den : outParam DA) : Prop where
  run : ∀ {c : Ct K} {F H : Hp} {σ : L2.St} {Γ : List En} {φ : List D → List En → Prop} {R : It → Hp → Prop}, Is c F H σ Γ → EOk c E ψ → den Γ φ →
    (∀ F' H' J items Γ', Is c F' H' σ Γ' → Same F F' → ItOk K F' J items → φ items Γ' → R J H') → wi σ H R
/-- targets -/
class SndG (K : PySem.W.Frag) [HasT K] (g : TG) (gv : outParam (List Nat)) (den : outParam (D → List En → (List En → Prop) → Prop)) : Prop where
  run : ∀ {c : Ct K} {F H : Hp} {σ : L2.St} {Γ : List En} {x : V} {d : D} {φ : List En → Prop} {Q : L2.St → Hp → Prop}, Is c F H σ Γ → Rep F x d → den d Γ φ →
    (∀ σ' Γ', Is c F H σ' Γ' → (∀ vs, (∀ i ∈ gv, i ∈ vs) → wipe σ' vs = wipe σ vs) → φ Γ' → Q σ' H) → g x σ H Q
class SndGs (K : PySem.W.Frag) [HasT K] (g : TGs) (gv : outParam (List Nat)) (den : outParam (List D → List En → (List En → Prop) → Prop)) : Prop where
  run : ∀ {c : Ct K} {F H : Hp} {σ : L2.St} {Γ : List En} {xs : List V} {ds : List D} {φ : List En → Prop} {Q : L2.St → Hp → Prop}, Is c F H σ Γ → Reps F xs ds → den ds Γ φ →
    (∀ σ' Γ', Is c F H σ' Γ' → (∀ vs, (∀ i ∈ gv, i ∈ vs) → wipe σ' vs = wipe σ vs) → φ Γ' → Q σ' H) → g xs σ H Q
theorem wipe_in {σ : L2.St} {j : Nat} : ∀ {vs : List Nat}, j ∈ vs → (wipe σ vs)[j]? = if j < σ.length then some none else none
  | v :: vs, h => by
    show ((wipe σ vs).set v none)[j]? = _
    rw [List.getElem?_set, wipe_length]
    by_cases z : v = j
    · rw [if_pos z, z]
    · rw [if_neg z]
      exact wipe_in ((List.mem_cons.mp h).resolve_left fun w => z w.symm)
theorem wipe_set {σ : L2.St} {i : Nat} {v : Option V} {vs : List Nat} (h : i ∈ vs) : wipe (σ.set i v) vs = wipe σ vs := by
  apply List.ext_getElem?
  intro j
  by_cases hj : j ∈ vs
  · rw [wipe_in hj, wipe_in hj, List.length_set]
  · rw [wipe_out hj, wipe_out hj, List.getElem?_set_ne fun z => hj (by rw [← z]; exact h)]
theorem wipe_wipe {σ : L2.St} {vs : List Nat} : wipe (wipe σ vs) vs = wipe σ vs := by
  apply List.ext_getElem?
  intro j
  by_cases hj : j ∈ vs
  · rw [wipe_in hj, wipe_in hj, wipe_length]
  · rw [wipe_out hj]
section
variable {K : PySem.W.Frag} [HasT K] {E : XK} {ψ : Value → Prop} {te ta tb tx : TE} {da db dx de : DT} {tt tu : TT} {dtt dtu : DB} {al : TA} {dal : DA} {r : R2} {dr : D → D → (En → Prop) → Prop}
/-! ### calls of built-ins -/
def dCB (dc : List D → (En → Prop) → Prop) (dal : DA) : DT := fun Γ φ => dal Γ fun xs Γ1 => dc xs fun z => φ z Γ1
instance (priority := 900) snd_cb {rc : List V → Hp → VK → Prop} {dc : List D → (En → Prop) → Prop} [sc : SndC K rc dc] [sl : SndA K E ψ al dal] : Snd K E ψ (tCB rc al) (dCB dc dal) := ⟨fun {c F H σ Γ φ Q} I eo h q => by
  refine sl.run I eo h fun F1 H1 vs xs Γ1 I1 s1 r1 h1 => ?_
  exact sc.run I1 r1 h1 fun F2 H2 v z I2 s2 r2 h2 => q F2 H2 v z Γ1 I2 (s1.trans s2) r2 h2⟩
def rLen (K : PySem.W.Frag) : List V → Hp → VK → Prop := fun xs H Q => ∃ x n, xs = [x] ∧ LenV K x H n ∧ Q (.int n) H
theorem cl_len {X : Cx} : CallR X (.builtin "len") (rLen X.K) := call_len
def dLenR (xs : List D) (φ : En → Prop) : Prop := match xs with
  | [.tup ds] => φ (.d (.int ds.length))
  | [.lst ds] => φ (.d (.int ds.length))
  | [.str s] => s.length ≤ sizeLine ∧ φ (.d (.int s.length))
  | _ => False
theorem one_of {F : Hp} {xs : List V} {d : D} (r : Reps F xs [d]) : ∃ x, xs = [x] ∧ Rep F x d := by
  cases r with
  | cons a b =>
    cases b
    exact ⟨_, rfl, a⟩
instance snd_len : SndC K (rLen K) dLenR := ⟨fun {c F H σ Γ xs ds φ Q} I r h q => by
  match ds, r, h with
  | [.tup es], r, h =>
    obtain ⟨x, rfl, rp⟩ := one_of r
    cases rp with
    | tup e rs => exact ⟨_, es.length, rfl, .inr ⟨_, SqT.of (I.fh _ _ e), rs.length.symm⟩, q F H _ _ I (Same.refl F) (Res.d (.int _)) h⟩
  | [.lst es], r, h =>
    obtain ⟨x, rfl, rp⟩ := one_of r
    cases rp with
    | lst e rs => exact ⟨_, es.length, rfl, .inl ⟨_, SqL.of (I.fh _ _ e), rs.length.symm⟩, q F H _ _ I (Same.refl F) (Res.d (.int _)) h⟩
  | [.str s], r, h =>
    obtain ⟨x, rfl, rp⟩ := one_of r
    cases rp
    exact ⟨_, s.length, rfl, ⟨h.1, rfl⟩, q F H _ _ I (Same.refl F) (Res.d (.int _)) h.2⟩⟩
/-- len of what a slot owns -/
def dLenv (i : Nat) : DT := fun Γ φ => match Γ[i]? with
  | some (.lst xs) => φ (.d (.int xs.length)) Γ
  | some (.scr ns) => φ (.d (.int ns.length)) Γ
  | some (.d x) => dLenR [x] fun z => φ z Γ
  | _ => False
theorem Is.script {c : Ct K} {F H : Hp} {σ : L2.St} {Γ : List En} {i : Nat} {ns : List Int} (I : Is c F H σ Γ) (g : Γ[i]? = some (.scr ns)) : ∃ a, σ[i]? = some (some (.ref a)) ∧ SqL K H a (ns.map V.int) := by
  obtain ⟨v, hv, a, rfl, e⟩ := I.at_ i _ g (fun z => nomatch z)
  refine ⟨a, hv, ?_⟩
  obtain ⟨h1, h2⟩ := c.hs a ns e
  rcases h1 with (h | ⟨o, h⟩) | h
  · exact .inl (.inl (I.h0 _ _ h2 h))
  · exact .inl (.inr ⟨o, I.h0 _ _ h2 h⟩)
  · exact .inr h
instance snd_lenv (i : Nat) : Snd K E ψ (tCB (rLen K) (tCons (tVar i) tNil)) (dLenv i) := ⟨fun {c F H σ Γ φ Q} I eo h q => by
  unfold dLenv at h
  cases g : Γ[i]? with
  | none => rw [g] at h; exact h.elim
  | some e =>
    rw [g] at h
    cases e with
    | d x =>
      obtain ⟨v, hv, rp⟩ := I.at_ i _ g (fun z => nomatch z)
      exact ⟨v, hv, SndC.run (r := rLen K) I (.cons rp .nil) h fun F2 H2 v z I2 s2 r2 h2 => q F2 H2 v z Γ I2 s2 r2 h2⟩
    | lst xs =>
      obtain ⟨v, hv, a, vs, rfl, _, _, hl, rs⟩ := I.at_ i _ g (fun z => nomatch z)
      exact ⟨_, hv, _, xs.length, rfl, .inl ⟨vs, SqL.of hl, rs.length.symm⟩, q F H _ _ Γ I (Same.refl F) (Res.d (.int _)) h⟩
    | scr ns =>
      obtain ⟨a, hv, hs⟩ := I.script g
      exact ⟨_, hv, _, ns.length, rfl, .inl ⟨_, hs, by rw [List.length_map]⟩, q F H _ _ Γ I (Same.refl F) (Res.d (.int _)) h⟩
    | no => exact h.elim
    | dK ks xs => exact h.elim
    | dT ks xs => exact h.elim
    | ow o S => exact h.elim
    | pen => exact h.elim
    | nd ks xs => exact h.elim⟩
/-- list(x), tuple(x) -/
def rList (K : PySem.W.Frag) : List V → Hp → VK → Prop := fun xs H Q => ∃ p ys, xs = [.ref p] ∧ (SqL K H p ys ∨ SqT K H p ys) ∧ ∀ l, H l = none → Q (.ref l) (upd H l (.lst ys))
def dListR (xs : List D) (φ : En → Prop) : Prop := match xs with
  | [.tup ds] => φ (.lst ds)
  | [.lst ds] => φ (.lst ds)
  | _ => False
instance snd_list : SndC K (rList K) dListR := ⟨fun {c F H σ Γ xs ds φ Q} I r h q => by
  have go : ∀ (p : Addr) (vs : List V) (es : List D), Reps F vs es → (SqL K H p vs ∨ SqT K H p vs) → φ (.lst es) → rList K [.ref p] H Q := fun p vs es rs hs h => ⟨p, vs, rfl, hs, fun l hl => by
    obtain ⟨I2, r2⟩ := I.newL hl rs
    exact q _ _ _ _ I2 (Same.refl F) r2 h⟩
  match ds, r, h with
  | [.tup es], r, h =>
    obtain ⟨x, rfl, rp⟩ := one_of r
    cases rp with
    | tup e rs => exact go _ _ _ rs (.inr (SqT.of (I.fh _ _ e))) h
  | [.lst es], r, h =>
    obtain ⟨x, rfl, rp⟩ := one_of r
    cases rp with
    | lst e rs => exact go _ _ _ rs (.inl (SqL.of (I.fh _ _ e))) h⟩
def rTuple (K : PySem.W.Frag) : List V → Hp → VK → Prop := fun xs H Q => ∃ p ys, xs = [.ref p] ∧ ((SqL K H p ys ∧ ∀ l, H l = none → Q (.ref l) (upd H l (.tup ys))) ∨ (SqT K H p ys ∧ Q (.ref p) H))
theorem cl_tuple {X : Cx} : CallR X (.type "tuple") (rTuple X.K) := call_tuple_of
def dTupR (xs : List D) (φ : En → Prop) : Prop := match xs with
  | [.tup ds] => φ (.d (.tup ds))
  | [.lst ds] => φ (.d (.tup ds))
  | _ => False
instance snd_tuple : SndC K (rTuple K) dTupR := ⟨fun {c F H σ Γ xs ds φ Q} I r h q => by
  match ds, r, h with
  | [.tup es], r, h =>
    obtain ⟨x, rfl, rp⟩ := one_of r
    cases rp with
    | tup e rs => exact ⟨_, _, rfl, .inr ⟨SqT.of (I.fh _ _ e), q F H _ _ I (Same.refl F) (Res.d (.tup e rs)) h⟩⟩
  | [.lst es], r, h =>
    obtain ⟨x, rfl, rp⟩ := one_of r
    cases rp with
    | @lst a vs _ e rs =>
      refine ⟨_, _, rfl, .inl ⟨SqL.of (I.fh _ _ e), fun l hl => ?_⟩⟩
      obtain ⟨I2, s2, _⟩ := I.new (o := .tup vs) hl
      exact q _ _ _ _ I2 s2 (Res.d (.tup upd_same (rs.mono s2))) h⟩
def dAllR (xs : List D) (φ : En → Prop) : Prop := match xs with
  | [.lst ds] => ∃ bs : List Bool, ds = bs.map D.bl ∧ φ (.d (.bl (bs.all id)))
  | _ => False
instance snd_all : SndC K (rAll K) dAllR := ⟨fun {c F H σ Γ xs ds φ Q} I r h q => by
  match ds, r, h with
  | [.lst es], r, h =>
    obtain ⟨bs, rfl, h⟩ := h
    obtain ⟨x, rfl, rp⟩ := one_of r
    cases rp with
    | lst e rs =>
      rw [rs.of_bls] at e
      exact ⟨_, bs, rfl, SqL.of (I.fh _ _ e), q F H _ _ I (Same.refl F) (Res.d (.bl _)) h⟩⟩
def dAnyR (xs : List D) (φ : En → Prop) : Prop := match xs with
  | [.lst ds] => ∃ bs : List Bool, ds = bs.map D.bl ∧ φ (.d (.bl (bs.any id)))
  | _ => False
instance snd_any : SndC K (rAny K) dAnyR := ⟨fun {c F H σ Γ xs ds φ Q} I r h q => by
  match ds, r, h with
  | [.lst es], r, h =>
    obtain ⟨bs, rfl, h⟩ := h
    obtain ⟨x, rfl, rp⟩ := one_of r
    cases rp with
    | lst e rs =>
      rw [rs.of_bls] at e
      exact ⟨_, bs, rfl, SqL.of (I.fh _ _ e), q F H _ _ I (Same.refl F) (Res.d (.bl _)) h⟩⟩
def dSumR (xs : List D) (φ : En → Prop) : Prop := match xs with
  | [.lst ds] => ∃ is : List Int, ds = is.map D.int ∧ φ (.d (.int is.sum))
  | _ => False
instance snd_sum : SndC K (rSum K) dSumR := ⟨fun {c F H σ Γ xs ds φ Q} I r h q => by
  match ds, r, h with
  | [.lst es], r, h =>
    obtain ⟨bs, rfl, h⟩ := h
    obtain ⟨x, rfl, rp⟩ := one_of r
    cases rp with
    | lst e rs =>
      rw [rs.of_ints] at e
      exact ⟨_, bs, rfl, SqL.of (I.fh _ _ e), q F H _ _ I (Same.refl F) (Res.d (.int _)) h⟩⟩
def rMx (xs : List V) (H : Hp) (Q : VK) : Prop := ∃ i j, xs = [.int i, .int j] ∧ Q (.int (if j > i then j else i)) H
def rMn (xs : List V) (H : Hp) (Q : VK) : Prop := ∃ i j, xs = [.int i, .int j] ∧ Q (.int (if j < i then j else i)) H
theorem cl_max {X : Cx} (hc : X.calm = true) : CallR X (.builtin "max") rMx := call_max2 hc
theorem cl_min {X : Cx} (hc : X.calm = true) : CallR X (.builtin "min") rMn := call_min2 hc
def dMxR (xs : List D) (φ : En → Prop) : Prop := match xs with
  | [.int i, .int j] => φ (.d (.int (if j > i then j else i)))
  | _ => False
def dMnR (xs : List D) (φ : En → Prop) : Prop := match xs with
  | [.int i, .int j] => φ (.d (.int (if j < i then j else i)))
  | _ => False
instance snd_mx : SndC K rMx dMxR := ⟨fun {c F H σ Γ xs ds φ Q} I r h q => by
  match ds, r, h with
  | [.int i, .int j], .cons a (.cons b .nil), h =>
    cases a
    cases b
    exact ⟨i, j, rfl, q F H _ _ I (Same.refl F) (Res.d (.int _)) h⟩⟩
instance snd_mn : SndC K rMn dMnR := ⟨fun {c F H σ Γ xs ds φ Q} I r h q => by
  match ds, r, h with
  | [.int i, .int j], .cons a (.cons b .nil), h =>
    cases a
    cases b
    exact ⟨i, j, rfl, q F H _ _ I (Same.refl F) (Res.d (.int _)) h⟩⟩
def rInt1 (xs : List V) (H : Hp) (Q : VK) : Prop := (∃ i, xs = [.int i] ∧ Q (.int i) H) ∨ ∃ k, xs = [.bl k] ∧ Q (.int (if k then 1 else 0)) H
def dIntR (xs : List D) (φ : En → Prop) : Prop := match xs with
  | [.int i] => φ (.d (.int i))
  | [.bl k] => φ (.d (.int (if k then 1 else 0)))
  | _ => False
instance snd_int1 : SndC K rInt1 dIntR := ⟨fun {c F H σ Γ xs ds φ Q} I r h q => by
  match ds, r, h with
  | [.int i], .cons a .nil, h =>
    cases a
    exact .inl ⟨i, rfl, q F H _ _ I (Same.refl F) (Res.d (.int _)) h⟩
  | [.bl k], .cons a .nil, h =>
    cases a
    exact .inr ⟨k, rfl, q F H _ _ I (Same.refl F) (Res.d (.int _)) h⟩⟩
/-- isinstance(x, T) -/
def D.ty : D → Option String
  | .non => some "NoneType"
  | .bl _ => some "bool"
  | .int _ => some "int"
  | .str _ => some "str"
  | .tup _ => some "tuple"
  | .lst _ => some "list"
  | .dK _ _ => some "dict"
  | .dT _ _ => some "dict"
  | .ins _ _ _ => none
def isTy (T : String) (x : D) : Option Bool := match x.ty with
  | some t => if t = T then some true else if t = "bool" ∧ T = "int" then some true else some false
  | none => none
def dIsi (T : String) (da : DT) : DT := fun Γ φ => da Γ fun e Γ1 => wf e fun x => T ∈ ["int", "bool", "str", "tuple", "list", "dict"] ∧ ∃ b, isTy T x = some b ∧ φ (.d (.bl b)) Γ1
theorem kit_all {t T : String} (ht : t ∈ ["NoneType", "bool", "int", "str", "tuple", "list", "dict"]) (hT : T ∈ ["int", "bool", "str", "tuple", "list", "dict"]) : PySem.W.kitOne K (.type t) (.type T) = some (decide (t = T) || (decide (t = "bool") && decide (T = "int"))) := by
  simp only [List.mem_cons, List.not_mem_nil, or_false] at ht hT
  rcases ht with rfl | rfl | rfl | rfl | rfl | rfl | rfl <;> rcases hT with rfl | rfl | rfl | rfl | rfl | rfl <;> first | exact kit_ty (show kitB _ _ = some true by decide +kernel) | exact kit_ty (show kitB _ _ = some false by decide +kernel)
theorem Rep.tyX {F H : Hp} (fh : Same F H) {v : V} {x : D} {t : String} (r : Rep F v x) (h : x.ty = some t) : TyX K H v (.type t) := by
  cases r with
  | non => cases h; exact .base .non
  | bl b => cases h; exact .base (.bl b)
  | int b => cases h; exact .base (.int b)
  | str b => cases h; exact .base (.str b)
  | tup e r => cases h; exact .base (.tup (fh _ _ e))
  | lst e r => cases h; exact .base (.lst (fh _ _ e))
  | dK e k r => cases h; exact .base (.dK (fh _ _ e))
  | dT e k r => cases h; exact .base (.dT (fh _ _ e))
  | ins e k r => cases h
theorem D.ty_in {x : D} {t : String} (h : x.ty = some t) : t ∈ ["NoneType", "bool", "int", "str", "tuple", "list", "dict"] := by
  cases x <;> cases h <;> decide
instance snd_isi (T : String) [sa : Snd K E ψ ta da] : Snd K E ψ (tCB (rIsi K) (tCons ta (tCons (tC (.ty T)) tNil))) (dIsi T da) := ⟨fun {c F H σ Γ φ Q} I eo h q => by
  refine sa.frz (φ := fun _ _ => True) (k := fun x Γ1 => T ∈ ["int", "bool", "str", "tuple", "list", "dict"] ∧ ∃ b, isTy T x = some b ∧ φ (.d (.bl b)) Γ1) I eo h fun F1 H1 v x Γ1 I1 s1 r1 h1 => ?_
  obtain ⟨hT, b, hb, h1⟩ := h1
  unfold isTy at hb
  cases ht : x.ty with
  | none => rw [ht] at hb; cases hb
  | some t =>
    rw [ht] at hb
    refine ⟨v, .ty T, .type t, .type T, _, rfl, .ty T, r1.tyX I1.fh ht, kit_all (D.ty_in ht) hT, ?_⟩
    have e : (decide (t = T) || (decide (t = "bool") && decide (T = "int"))) = b := by
      by_cases z : t = T
      · simp only [z, if_true] at hb
        cases hb
        simp [z]
      · by_cases w : t = "bool" ∧ T = "int"
        · simp only [if_neg z, if_pos w] at hb
          cases hb
          simp [w.1, w.2]
        · simp only [if_neg z, if_neg w] at hb
          cases hb
          rw [decide_eq_false z, Bool.false_or]
          by_cases w1 : t = "bool"
          · have w2 : T ≠ "int" := fun w2 => w ⟨w1, w2⟩
            rw [decide_eq_false w2, Bool.and_false]
          · rw [decide_eq_false w1, Bool.false_and]
    rw [e]
    exact q F1 H1 _ _ Γ1 I1 s1 (Res.d (.bl _)) h1⟩
/-! ### slices -/
def cutL {α : Type} (xs : List α) (lo hi : Option Int) : List α := (xs.drop (HT.sIx xs.length 0 lo)).take (HT.sIx xs.length xs.length hi - HT.sIx xs.length 0 lo)
theorem Reps.cut {F : Hp} {vs : List V} {ds : List D} (r : Reps F vs ds) (lo hi : Option Int) : Reps F (cutV vs lo hi) (cutL ds lo hi) := by
  unfold cutV cutL
  rw [r.length]
  exact (r.drop _).take _
class SndO (K : PySem.W.Frag) [HasT K] (E : XK) (ψ : Value → Prop) (to : TO) (den : outParam (List En → (Option Int → List En → Prop) → Prop)) : Prop where
  run : ∀ {c : Ct K} {F H : Hp} {σ : L2.St} {Γ : List En} {φ : Option Int → List En → Prop} {Q : Option Int → Hp → Prop}, Is c F H σ Γ → EOk c E ψ → den Γ φ →
    (∀ F' H' o Γ', Is c F' H' σ Γ' → Same F F' → φ o Γ' → Q o H') → to σ H Q
def wi (e : En) (k : Int → Prop) : Prop := match e with
  | .d (.int i) => k i
  | _ => False
theorem wi_of {e : En} {k : Int → Prop} (h : wi e k) : ∃ b, e = .d (.int b) ∧ k b := by
  cases e with
  | d x => cases x <;> first | exact ⟨_, rfl, h⟩ | exact h.elim
  | _ => exact h.elim
def dNoPart : List En → (Option Int → List En → Prop) → Prop := fun Γ φ => φ none Γ
def dPart (da : DT) : List En → (Option Int → List En → Prop) → Prop := fun Γ φ => da Γ fun e Γ1 => wi e fun i => φ (some i) Γ1
instance snd_nopart : SndO K E ψ tNoPart dNoPart := ⟨fun {c F H σ Γ φ Q} I eo h q => q F H none Γ I (Same.refl F) h⟩
instance snd_part [sa : Snd K E ψ ta da] : SndO K E ψ (tPart ta) (dPart da) := ⟨fun {c F H σ Γ φ Q} I eo h q => sa.run I eo h fun F1 H1 v e Γ1 I1 s1 r1 h1 => by
  obtain ⟨i, rfl, h1⟩ := wi_of h1
  cases (show Rep F1 v (.int i) from r1.1)
  exact ⟨i, rfl, q F1 H1 _ Γ1 I1 s1 h1⟩⟩
def dSl (t : Bool) (da : DT) (dl dh : List En → (Option Int → List En → Prop) → Prop) : DT := fun Γ φ => da Γ fun e Γ1 => wf e fun x => dl Γ1 fun lo Γ2 => dh Γ2 fun hi Γ3 => match x with
  | .tup xs => t = true ∧ φ (.d (.tup (cutL xs lo hi))) Γ3
  | .lst xs => t = false ∧ φ (.lst (cutL xs lo hi)) Γ3
  | _ => False
theorem cut_whole {α : Type} {xs : List α} {lo hi : Option Int} (h : HT.sIx xs.length 0 lo = 0 ∧ HT.sIx xs.length xs.length hi = xs.length) : cutL xs lo hi = xs := by
  unfold cutL
  rw [h.1, h.2, List.drop_zero, Nat.sub_zero, List.take_length]
instance snd_slA {tl th : TO} {dl dh : List En → (Option Int → List En → Prop) → Prop} [sa : Snd K E ψ ta da] [sl : SndO K E ψ tl dl] [sh : SndO K E ψ th dh] : Snd K E ψ (tSl (rSlA K) ta tl th) (dSl true da dl dh) := ⟨fun {c F H σ Γ φ Q} I eo h q => by
  refine sa.frz (φ := fun _ _ => True) (k := fun x Γ1 => dl Γ1 fun lo Γ2 => dh Γ2 fun hi Γ3 => match x with
  | .tup xs => true = true ∧ φ (.d (.tup (cutL xs lo hi))) Γ3
  | .lst xs => true = false ∧ φ (.lst (cutL xs lo hi)) Γ3
  | _ => False) I eo h fun F1 H1 v x Γ1 I1 s1 r1 h1 => ?_
  refine sl.run I1 eo h1 fun F2 H2 lo Γ2 I2 s2 h2 => ?_
  refine sh.run I2 eo h2 fun F3 H3 hi Γ3 I3 s3 h3 => ?_
  have r3 := (r1.mono s2).mono s3
  cases r3 with
  | @tup a vs es e rs =>
    refine ⟨a, vs, rfl, SqT.of (I3.fh _ _ e), fun w => ?_, fun _ p hp => ?_⟩
    · rw [rs.length] at w
      have := h3.2
      rw [cut_whole w] at this
      exact q F3 H3 _ _ Γ3 I3 ((s1.trans s2).trans s3) (Res.d (.tup e rs)) this
    · obtain ⟨I4, s4, _⟩ := I3.new (o := .tup (cutV vs lo hi)) hp
      exact q _ _ _ _ Γ3 I4 (((s1.trans s2).trans s3).trans s4) (Res.d (.tup upd_same ((rs.cut lo hi).mono s4))) h3.2
  | lst e rs => exact absurd h3.1 (by decide)
  | _ => exact h3.elim⟩
instance snd_slL {tl th : TO} {dl dh : List En → (Option Int → List En → Prop) → Prop} [sa : Snd K E ψ ta da] [sl : SndO K E ψ tl dl] [sh : SndO K E ψ th dh] : Snd K E ψ (tSl (rSlL K) ta tl th) (dSl false da dl dh) := ⟨fun {c F H σ Γ φ Q} I eo h q => by
  refine sa.frz (φ := fun _ _ => True) (k := fun x Γ1 => dl Γ1 fun lo Γ2 => dh Γ2 fun hi Γ3 => match x with
  | .tup xs => false = true ∧ φ (.d (.tup (cutL xs lo hi))) Γ3
  | .lst xs => false = false ∧ φ (.lst (cutL xs lo hi)) Γ3
  | _ => False) I eo h fun F1 H1 v x Γ1 I1 s1 r1 h1 => ?_
  refine sl.run I1 eo h1 fun F2 H2 lo Γ2 I2 s2 h2 => ?_
  refine sh.run I2 eo h2 fun F3 H3 hi Γ3 I3 s3 h3 => ?_
  have r3 := (r1.mono s2).mono s3
  cases r3 with
  | @lst a vs es e rs =>
    refine ⟨a, vs, rfl, SqL.of (I3.fh _ _ e), fun p hp => ?_⟩
    obtain ⟨I4, r4⟩ := I3.newL hp (rs.cut lo hi)
    exact q _ _ _ _ Γ3 I4 ((s1.trans s2).trans s3) r4 h3.2
  | tup e rs => exact absurd h3.1 (by decide)
  | _ => exact h3.elim⟩
/-! ### sums of sequences -/
def dCatA (x y : D) (φ : En → Prop) : Prop := match x, y with
  | .tup xs, .tup ys => xs.length + ys.length ≤ 1000000 ∧ φ (.d (.tup (xs ++ ys)))
  | _, _ => False
instance snd_catA : SndR K (rCatA K) dCatA := ⟨fun {c F H σ Γ x y d e φ Q} I rx ry h q => by
  match d, e, rx, ry, h with
  | .tup ds, .tup es, .tup (vs := vs) e1 r1, .tup (vs := us) e2 r2, h =>
    refine ⟨_, _, vs, us, rfl, rfl, SqT.of (I.fh _ _ e1), SqT.of (I.fh _ _ e2), by rw [r1.length, r2.length]; exact Nat.le_trans h.1 (by decide), fun z => ?_, fun _ z => ?_, fun _ _ p hp => ?_⟩
    · subst z
      cases r1
      exact q F H _ _ I (Same.refl F) (Res.d (.tup e2 r2)) h.2
    · subst z
      cases r2
      have := h.2
      rw [List.append_nil] at this
      exact q F H _ _ I (Same.refl F) (Res.d (.tup e1 r1)) this
    · obtain ⟨I2, s2, _⟩ := I.new (o := .tup (vs ++ us)) hp
      exact q _ _ _ _ I2 s2 (Res.d (.tup upd_same ((r1.app r2).mono s2))) h.2⟩
def dCat (x y : D) (φ : En → Prop) : Prop := match x, y with
  | .lst xs, .lst ys => xs.length + ys.length ≤ 1000000 ∧ φ (.lst (xs ++ ys))
  | _, _ => False
instance snd_cat : SndR K rCat dCat := ⟨fun {c F H σ Γ x y d e φ Q} I rx ry h q => by
  match d, e, rx, ry, h with
  | .lst ds, .lst es, .lst (vs := vs) e1 r1, .lst (vs := us) e2 r2, h =>
    refine ⟨_, _, vs, us, rfl, rfl, I.fh _ _ e1, I.fh _ _ e2, by rw [r1.length, r2.length]; exact Nat.le_trans h.1 (by decide), fun p hp => ?_⟩
    obtain ⟨I2, r3⟩ := I.newL hp (r1.app r2)
    exact q _ _ _ _ I2 (Same.refl F) r3 h.2⟩
def dRep (x y : D) (φ : En → Prop) : Prop := match x, y with
  | .lst xs, .int k => k ≤ 10000 ∧ -10000 ≤ k ∧ xs.length ≤ 100 ∧ φ (.lst (List.replicate k.toNat xs).flatten)
  | _, _ => False
theorem Reps.flat {F : Hp} {vs : List V} {ds : List D} (r : Reps F vs ds) : ∀ n, Reps F (List.replicate n vs).flatten (List.replicate n ds).flatten
  | 0 => .nil
  | n + 1 => by
    rw [List.replicate_succ, List.replicate_succ, List.flatten_cons, List.flatten_cons]
    exact r.app (Reps.flat r n)
instance snd_rep : SndR K rRep dRep := ⟨fun {c F H σ Γ x y d e φ Q} I rx ry h q => by
  match d, e, rx, ry, h with
  | .lst ds, .int k, .lst (vs := vs) e1 r1, .int _, h =>
    obtain ⟨h1, h0, h2, h⟩ := h
    refine ⟨_, k, vs, rfl, rfl, I.fh _ _ e1, by omega, by omega, ?_, fun p hp => ?_⟩
    · rw [r1.length]
      have : ds.length * k.toNat ≤ 100 * 10000 := Nat.mul_le_mul h2 (by omega)
      exact Nat.le_trans this (by decide)
    · obtain ⟨I2, r3⟩ := I.newL hp (r1.flat k.toNat)
      exact q _ _ _ _ I2 (Same.refl F) r3 h⟩
/-! ### in, not in -/
def D.sc : D → Bool
  | .non => true
  | .bl _ => true
  | .int _ => true
  | .str _ => true
  | _ => false
theorem Rep.sc {F : Hp} {v : V} {x : D} (r : Rep F v x) (h : x.sc = true) : flatV v = true ∧ x = vD v := by
  cases r <;> first | exact ⟨rfl, rfl⟩ | exact nomatch h
theorem Reps.sc {F : Hp} : ∀ {vs : List V} {xs : List D}, Reps F vs xs → xs.all D.sc = true → vs.all flatV = true ∧ xs = vs.map vD
  | _, _, .nil, _ => ⟨rfl, rfl⟩
  | _, _, .cons a b, h => by
    rw [List.all_cons, Bool.and_eq_true] at h
    obtain ⟨h1, h2⟩ := a.sc h.1
    obtain ⟨h3, h4⟩ := Reps.sc b h.2
    exact ⟨by rw [List.all_cons, h1, h3]; rfl, by rw [List.map_cons, ← h2, ← h4]⟩
theorem eqv_sc {v u : V} (h1 : flatV v = true) (h2 : flatV u = true) : eqV v u = (vD v).eqv (vD u) := by
  cases v <;> cases u <;> first | (simp only [eqV, D.eqv, vD, D.py, PyData.eqv]; done) | (exact absurd h1 Bool.false_ne_true) | (exact absurd h2 Bool.false_ne_true) | (simp [eqV, D.eqv, vD, D.py, PyData.eqv])
def inD (x : D) (xs : List D) : Bool := xs.any fun y => y.eqv x
theorem inV_D {v : V} (h : flatV v = true) : ∀ {vs : List V}, vs.all flatV = true → inV v vs = inD (vD v) (vs.map vD)
  | [], _ => rfl
  | u :: r, a => by
    rw [List.all_cons, Bool.and_eq_true] at a
    show (eqV u v || inV v r) = ((vD u).eqv (vD v) || inD (vD v) (r.map vD))
    rw [eqv_sc a.1 h, inV_D h a.2]
def dIn (neg : Bool) (x y : D) (φ : En → Prop) : Prop := match y with
  | .lst ys => x.sc = true ∧ ys.all D.sc = true ∧ φ (.d (.bl (if neg then !inD x ys else inD x ys)))
  | .tup ys => x.sc = true ∧ ys.all D.sc = true ∧ φ (.d (.bl (if neg then !inD x ys else inD x ys)))
  | _ => False
instance snd_in (neg : Bool) : SndR K (rIn K neg) (dIn neg) := ⟨fun {c F H σ Γ x y d e φ Q} I rx ry h q => by
  match e, ry, h with
  | .lst es, .lst (vs := us) e2 r2, h =>
    obtain ⟨h1, h2, h3⟩ := h
    obtain ⟨a1, a2⟩ := rx.sc h1
    obtain ⟨b1, b2⟩ := r2.sc h2
    refine ⟨_, us, rfl, .inl (SqL.of (I.fh _ _ e2)), a1, b1, ?_⟩
    rw [inV_D a1 b1, ← a2, ← b2]
    exact q F H _ _ I (Same.refl F) (Res.d (.bl _)) h3
  | .tup es, .tup (vs := us) e2 r2, h =>
    obtain ⟨h1, h2, h3⟩ := h
    obtain ⟨a1, a2⟩ := rx.sc h1
    obtain ⟨b1, b2⟩ := r2.sc h2
    refine ⟨_, us, rfl, .inr (SqT.of (I.fh _ _ e2)), a1, b1, ?_⟩
    rw [inV_D a1 b1, ← a2, ← b2]
    exact q F H _ _ I (Same.refl F) (Res.d (.bl _)) h3⟩
def dInD (neg : Bool) (x y : D) (φ : En → Prop) : Prop := match y with
  | .lst ys => x.fit = true ∧ (D.lst ys).fit = true ∧ φ (.d (.bl (if neg then !inD x ys else inD x ys)))
  | _ => False
theorem any_pys (x : D) : ∀ ys : List D, (pys ys).any (fun z => PyData.eqv z x.py) = inD x ys
  | [] => rfl
  | y :: r => by
    show (PyData.eqv y.py x.py || (pys r).any fun z => PyData.eqv z x.py) = (y.eqv x || inD x r)
    rw [any_pys x r]
    rfl
instance snd_inD : SndR K (rInD K) (dInD false) := ⟨fun {c F H σ Γ x y d e φ Q} I rx ry h q => by
  match e, ry, h with
  | .lst es, ry, h =>
    obtain ⟨h1, h2, h3⟩ := h
    unfold D.fit at h1 h2
    rw [Bool.and_eq_true] at h1 h2
    refine ⟨_, pys es, rx.dp I.fh h1.1, ry.dp I.fh h2.1, h1.2, h2.2, ?_⟩
    rw [any_pys]
    exact q F H _ _ I (Same.refl F) (Res.d (.bl _)) h3⟩
instance snd_notInD : SndR K (rNotInD K) (dInD true) := ⟨fun {c F H σ Γ x y d e φ Q} I rx ry h q => by
  match e, ry, h with
  | .lst es, ry, h =>
    obtain ⟨h1, h2, h3⟩ := h
    unfold D.fit at h1 h2
    rw [Bool.and_eq_true] at h1 h2
    refine ⟨_, pys es, rx.dp I.fh h1.1, ry.dp I.fh h2.1, h1.2, h2.2, ?_⟩
    rw [any_pys]
    exact q F H _ _ I (Same.refl F) (Res.d (.bl _)) h3⟩
/-- is None -/
def D.isN : D → Bool
  | .non => true
  | _ => false
def dIsN (neg : Bool) (x y : D) (φ : En → Prop) : Prop := match y with
  | .non => φ (.d (.bl (if neg then !x.isN else x.isN)))
  | _ => False
theorem dIsN_run {F : Hp} {v : V} {x : D} (rx : Rep F v x) {neg : Bool} {φ : En → Prop} (h : φ (.d (.bl (if neg then !x.isN else x.isN)))) : φ (.d (.bl (if neg then !decide (v = .non) else decide (v = .non)))) := by
  cases rx <;> cases neg <;> simpa [D.isN] using h
instance snd_isN : SndR K rIsN (dIsN false) := ⟨fun {c F H σ Γ x y d e φ Q} I rx ry h q => by
  match e, ry, h with
  | .non, .non, h => exact ⟨rfl, q F H _ _ I (Same.refl F) (Res.d (.bl _)) (dIsN_run (neg := false) (φ := φ) rx h)⟩⟩
instance snd_notN : SndR K rNotN (dIsN true) := ⟨fun {c F H σ Γ x y d e φ Q} I rx ry h q => by
  match e, ry, h with
  | .non, .non, h => exact ⟨rfl, q F H _ _ I (Same.refl F) (Res.d (.bl _)) (dIsN_run (neg := true) (φ := φ) rx h)⟩⟩
end
end Da

set_option Elab.async false
set_option maxRecDepth 100000
set_option maxHeartbeats 4000000
namespace HmS
open PySem PySem.Spec PyProof.Rows L2
/-! ### keys as data -/
def kD : Key → PyData
  | .inl i => .int i
  | .inr x => .str x
def keyD (k : List Key) : PyData := .tuple (k.map kD)
section
variable {X : Cx} {pins : List (Addr × Obj)} {σ : L2.St} {H : Hp} {s : Shared}
theorem key_atoms : ∀ {k : List Key} {us : List Value}, Vals (k.map kV) us → ReadsAll s.heap us (k.map kD) []
  | [], _, .nil => .nil
  | x :: k, _, .cons (b := u) r t => by
    have ih := key_atoms (k := k) t
    cases x with
    | inl i =>
      obtain ⟨tk, rfl⟩ := r
      exact ReadsAll.cons (Reads.int i tk) ih
    | inr z =>
      obtain ⟨tk, rfl⟩ := r
      exact ReadsAll.cons (Reads.str z tk) ih
theorem key_reads (I : Inv X pins σ H s) {b : Addr} {k : List Key} (e : H b = some (.tup (k.map kV))) : Reads s.heap (.ref b) (keyD k) [] := by
  obtain ⟨_, its, rv, o, ho, hc, n, hd⟩ := (show ObjOk X.prog X.w H s.heap b (.tup (k.map kV)) from I.hok b _ e)
  exact Reads.tuple ho hc hd (by simpa using key_atoms rv)
theorem each_of {α β : Type} {R : α → β → Prop} (f : β → α) : ∀ (zs : List β), (∀ z ∈ zs, R (f z) z) → PySem.W.EachIs R (zs.map f) zs
  | [], _ => .nil
  | z :: zs, h => .cons (h z List.mem_cons_self) (each_of f zs fun y hy => h y (List.mem_cons_of_mem _ hy))
theorem each_eq {α β : Type} {f : β → α} : ∀ {as : List α} {zs : List β}, PySem.W.EachIs (fun v z => v = f z) as zs → as = zs.map f
  | _, _, .nil => rfl
  | _, _, .cons h t => by rw [List.map_cons, ← each_eq t, h]
/-- sorted(d), d a dict with tuple keys: the key tuples, rising -/
def rSortDT : List V → Hp → VK → Prop := fun xs H Q => ∃ (a : Addr) (kvs : List (List Key × V)), xs = [.ref a] ∧ Rd H a (.dT kvs) ∧ kvs.length ≤ 1000 ∧ PySem.W.AllAlike (kvs.map fun p => keyD p.1) ∧ (∀ p ∈ kvs, p.1 ≠ []) ∧
  ∀ (p : Addr) (bs : List Addr), H p = none → IsKeys H kvs bs → (kvs.map (·.1)).Nodup →
    Q (.ref p) (upd H p (.lst (((bs.zip kvs).mergeSort (PySem.W.dataLe false fun z => keyD z.2.1)).map fun z => V.ref z.1)))
theorem keyD_depth (k : List Key) : (keyD k).depth ≤ 1 := by
  have h : ∀ k : List Key, PyData.depthAll (k.map kD) = 0 := by
    intro k
    induction k with
    | nil => simp [PyData.depthAll]
    | cons x k ih =>
      cases x with
      | inl i => simp [kD, PyData.depthAll, PyData.depth, ih]
      | inr z => simp [kD, PyData.depthAll, PyData.depth, ih]
  unfold keyD
  rw [PyData.depth, h]
  exact Nat.le_refl _
/-- sorted(d.items()), d a dict with tuple keys and ints: the pairs, rising -/
def encC (c : List Key × Int) : PyData := .tuple [keyD c.1, .int c.2]
def sortC (cs : List (List Key × Int)) : List (List Key × Int) := cs.mergeSort (PySem.W.dataLe false encC)
def rSortIC : List V → Hp → VK → Prop := fun xs H Q => ∃ (v a : Addr) (cs : List (List Key × Int)), xs = [.ref v] ∧ H v = some (DX.itemsO v a) ∧ H a = some (.dT (cs.map fun c => (c.1, V.int c.2))) ∧ cs.length ≤ 1000 ∧
  PySem.W.AllAlike (cs.map encC) ∧ (∀ c ∈ cs, c.1 ≠ []) ∧ ∀ (l : Addr) (H' : Hp) (as : List Addr), Same H H' → H l = none → (cs.map (·.1)).Nodup → H' l = some (.lst (as.map V.ref)) →
    Paired (fun b (c : List Key × Int) => ∃ q, H' b = some (.tup [.ref q, .int c.2]) ∧ H' q = some (.tup (c.1.map kV))) as (sortC cs) → Q (.ref l) H'
theorem encC_depth (c : List Key × Int) : (encC c).depth ≤ 2 := by
  have h := keyD_depth c.1
  unfold encC
  simp only [PyData.depth, PyData.depthAll]
  omega
theorem paired_map {α β γ : Type} {F : γ → β → Prop} (f : α → γ) (g : α → β) : ∀ (zs : List α), (∀ z ∈ zs, F (f z) (g z)) → Paired F (zs.map f) (zs.map g)
  | [], _ => .nil
  | z :: zs, h => .cons (h z List.mem_cons_self) (paired_map f g zs fun y hy => h y (List.mem_cons_of_mem _ hy))
theorem cr_sortIC (hc : X.calm = true) (hu : X.A.units + 64 < cLine) : CallR X (.builtin "sorted") rSortIC := by
  intro pins s σ H xs us Q I r h
  obtain ⟨v, a, cs, rfl, hv, ha, hz, hal, hne, q⟩ := h
  obtain rfl := Vals.ref1 r
  have hsl := sizeLine_eq
  have view : s.heap.IsItemsView v a := (show ObjOk X.prog X.w H s.heap v (DX.itemsO v a) from I.hok v _ hv).1
  obtain ⟨_, hd, ks, rel, o, es, ep, ho, hx, hdat, hes, _, hn⟩ := dt_of I.hok ha
  have l1 : cs.length = ks.length := by
    have e := Paired.length rel
    rw [List.length_map] at e
    exact e
  have l2 : es.size = ks.length := size_of_entries hes
  have nk : (cs.map (·.1)).Nodup := by
    have e : ∀ {cs : List (List Key × Int)} {ks : List (List Key × Addr × Value)}, Paired (fun (p : List Key × V) (q : List Key × Addr × Value) => p.1 = q.1 ∧ H q.2.1 = some (.tup (p.1.map kV)) ∧ RelV p.2 q.2.2) (cs.map fun c => (c.1, V.int c.2)) ks → cs.map (·.1) = ks.map (·.1) := by
      intro cs
      induction cs with
      | nil => intro ks r; cases r; rfl
      | cons c cs ih =>
        intro ks r
        cases r with
        | cons h t => rw [List.map_cons, List.map_cons, ih t, h.1]
    rw [e rel]
    exact hn
  refine DT.sortedI (es := es) (ep := ep) (I.ok.hd hc) view ⟨o, ho, hx, hdat⟩ (by omega) fun h' tk as hk hlt hl hG => ?_
  have la : as.length = cs.length := by omega
  have nd : as.Nodup := List.Pairwise.imp (fun h => Nat.ne_of_lt h) hG.rise
  -- the new pairs, with what they hold
  let bs : List (Addr × Addr × (List Key × Int)) := as.zip ((ks.map fun x => x.2.1).zip cs)
  have lz : ((ks.map fun x => x.2.1).zip cs).length = cs.length := by rw [List.length_zip, List.length_map]; omega
  have lb : bs.length = cs.length := by
    show (as.zip _).length = _
    rw [List.length_zip]
    omega
  have bsA : bs.map (·.1) = as := List.map_fst_zip (by omega)
  have bsC : bs.map (·.2.2) = cs := by
    have e : bs.map (·.2.2) = (bs.map (·.2)).map (·.2) := by rw [List.map_map]; rfl
    rw [e, show bs.map (·.2) = (ks.map fun x => x.2.1).zip cs from List.map_snd_zip (by omega), List.map_snd_zip (by rw [List.length_map]; omega)]
  have I1 : Inv X pins σ H { s with heap := h', toks := tk } := I.kept hk
  have facts : ∀ z ∈ bs, H z.2.1 = some (.tup (z.2.2.1.map kV)) ∧ ∃ t, h'.get? z.1 = some { cls := .type "tuple", data := .seq #[Value.ref z.2.1, Value.int z.2.2.2 t] } := by
    intro z hzm
    obtain ⟨j, hj⟩ := List.mem_iff_getElem?.mp hzm
    obtain ⟨j1, j2⟩ := List.getElem?_zip_eq_some.mp hj
    obtain ⟨j3, j4⟩ := List.getElem?_zip_eq_some.mp j2
    obtain ⟨en, he, hg⟩ := hG.pairs j z.1 j1
    rw [entry_at hes j] at he
    rw [List.getElem?_map] at j3
    cases hxj : ks[j]? with
    | none =>
      rw [hxj] at j3
      cases j3
    | some x =>
      rw [hxj] at he j3
      have een : entryOfKey (tupleKind (mixKind X.prog X.w)) x = en := Option.some.inj he
      have ex : x.2.1 = z.2.1 := Option.some.inj j3
      obtain ⟨e0, he0, _, r2, r3⟩ := DX.pget rel hxj
      rw [List.getElem?_map, j4] at he0
      have ee : (z.2.2.1, V.int z.2.2.2) = e0 := Option.some.inj he0
      rw [← ee] at r2 r3
      obtain ⟨t, r3'⟩ := r3
      refine ⟨by rw [← ex]; exact r2, t, ?_⟩
      rw [hg, ← een, ← ex, ← r3']
      rfl
  have hob : (h'.push (seqObj "list" (as.map Value.ref).toArray 0)).get? h'.objs.size = some (seqObj "list" (as.map Value.ref).toArray 0) := Heap.get?_push_size _ rfl
  have eAs : as.map Value.ref = bs.map fun z => Value.ref z.1 := by rw [← bsA, List.map_map]; rfl
  show wpAny (model X.prog X.w) X.A.in1 (call (.builtin "list.sort") [.ref h'.objs.size]) _ _ { s with heap := h'.push (seqObj "list" (as.map Value.ref).toArray 0), toks := tk }
  rw [eAs] at hob ⊢
  have kb : ∀ b o, h'.get? b = some o → (h'.push (seqObj "list" (bs.map fun z => Value.ref z.1).toArray 0)).get? b = some o := fun b o e => Heap.get?_push_of_some _ e
  refine PySem.W.list_sort_data (bs := bs) (enc := fun z => encC z.2.2) (R := fun v z => v = Value.ref z.1) (s := { s with heap := h'.push (seqObj "list" (bs.map fun z => Value.ref z.1).toArray 0), toks := tk }) hob
    (each_of _ _ fun _ _ => rfl) (each_of _ _ fun z hzm => ?_) ?_ (.inl fun x hx => ?_) (by omega) (fun z _ => ?_) fun out ol eo => ?_
  · obtain ⟨f1, t, f2⟩ := facts z hzm
    refine ⟨[], PyProof.Rows.Reads.keeps kb (Reads.tuple (as := []) f2 rfl rfl ?_), by simp⟩
    exact ReadsAll.cons (as := []) (bs := []) (key_reads I1 f1) (ReadsAll.cons (as := []) (bs := []) (Reads.int _ t) ReadsAll.nil)
  · intro x hx y hy
    have e : bs.map (fun z => encC z.2.2) = cs.map encC := by rw [← bsC, List.map_map]; rfl
    rw [e] at hx hy
    exact hal x hx y hy
  · obtain ⟨z, _, rfl⟩ := List.mem_map.mp hx
    exact ⟨_, _, rfl⟩
  · have := encC_depth z.2.2
    show X.A.units + 1 + 1 + (encC z.2.2).depth < cLine
    omega
  · have eout := each_eq (f := fun z : Addr × Addr × (List Key × Int) => Value.ref z.1) eo
    obtain ⟨e', he'⟩ := PyProof.Rows.sortedHeap_at (vs := bs.map fun z => Value.ref z.1) (out := out.toArray) hob
    generalize hzs : bs.mergeSort (PySem.W.dataLe false fun z => encC z.2.2) = zs at eout
    have hperm : zs.Perm bs := by rw [← hzs]; exact List.mergeSort_perm _ _
    have srt : zs.map (·.2.2) = sortC cs := by
      rw [← hzs, PySem.W.sort_maps (r := PySem.W.dataLe false fun z : Addr × Addr × (List Key × Int) => encC z.2.2) (s := PySem.W.dataLe false encC) (fun z : Addr × Addr × (List Key × Int) => z.2.2) (fun a _ b _ => rfl), bsC]
      rfl
    have hlen : ((zs.map (·.1)).map V.ref).length ≤ sizeLine := by
      rw [List.length_map, List.length_map, hperm.length_eq]
      omega
    have ne0 : ∀ b o, h'.get? b = some o → b ≠ h'.objs.size := fun b o e => Nat.ne_of_lt (Heap.lt_size e)
    have kF : ∀ b o, h'.get? b = some o → (sortedHeap (h'.push (seqObj "list" (bs.map fun z => Value.ref z.1).toArray 0)) h'.objs.size (bs.map fun z => Value.ref z.1) out.toArray).get? b = some o := fun b o e => by
      rw [PyProof.Rows.sortedHeap_old (ne0 b o e) (by rw [size_push']; exact Nat.lt_succ_of_lt (Heap.lt_size e))]
      exact kb b o e
    have rv : Vals ((zs.map (·.1)).map V.ref) out := by
      rw [eout]
      have e : ∀ l : List (Addr × Addr × (List Key × Int)), Vals ((l.map (·.1)).map V.ref) (l.map fun z => Value.ref z.1) := by
        intro l
        induction l with
        | nil => exact .nil
        | cons z l ih => exact .cons rfl ih
      exact e _
    have J1 : Inv X pins σ H { s with heap := sortedHeap (h'.push (seqObj "list" (bs.map fun z => Value.ref z.1).toArray 0)) h'.objs.size (bs.map fun z => Value.ref z.1) out.toArray, toks := tk } := I1.kept (t' := tk) kF
    have hn0 : H h'.objs.size = none := I1.hok.fresh (Nat.le_refl _)
    have J2 : Inv X pins σ (upd H h'.objs.size (.lst ((zs.map (·.1)).map V.ref))) { s with heap := sortedHeap (h'.push (seqObj "list" (bs.map fun z => Value.ref z.1).toArray 0)) h'.objs.size (bs.map fun z => Value.ref z.1) out.toArray, toks := tk } :=
      J1.take (t' := tk) (fun b ob _ e => e) (I.fpOk (Nat.le_of_lt hlt) hn0) ⟨hlen, out, e', rv, by simpa using he'⟩
    obtain ⟨H2, J3, g, qt⟩ := DX.takeT (P := fun b vs => ∃ z ∈ bs, z.1 = b ∧ vs = [V.ref z.2.1, V.int z.2.2.2]) I as _ J2 nd fun b hb => by
      rw [← bsA] at hb
      obtain ⟨z, hzm, rfl⟩ := List.mem_map.mp hb
      obtain ⟨f1, t, f2⟩ := facts z hzm
      have hbl : s.heap.objs.size ≤ z.1 := Nat.le_of_lt (hG.above z.1 (by rw [← bsA]; exact List.mem_map.mpr ⟨z, hzm, rfl⟩))
      refine ⟨hbl, ?_, _, ⟨z, hzm, rfl, rfl⟩, fun H3 => ⟨(by show 2 ≤ sizeLine; decide), [Value.ref z.2.1, Value.int z.2.2.2 t], .cons rfl (.cons ⟨t, rfl⟩ .nil), ⟨_, kF _ _ f2, rfl, 0, rfl⟩⟩⟩
      rw [upd_ne (ne0 _ _ f2)]
      exact I.hok.fresh hbl
    have gr : Same H H2 := fun b o e => g b o (by rw [upd_ne (ne_of_none e hn0)]; exact e)
    refine ⟨.ref h'.objs.size, H2, J3, rfl, q h'.objs.size H2 (zs.map (·.1)) gr hn0 nk (g _ _ upd_same) ?_⟩
    rw [← srt]
    refine paired_map (F := fun b (c : List Key × Int) => ∃ q, H2 b = some (.tup [.ref q, .int c.2]) ∧ H2 q = some (.tup (c.1.map kV))) (fun z : Addr × Addr × (List Key × Int) => z.1) (fun z => z.2.2) zs fun z hzm => ?_
    have hzb := hperm.mem_iff.mp hzm
    obtain ⟨vs, ⟨z2, hz2, e1, e2⟩, hH⟩ := qt z.1 (by rw [← bsA]; exact List.mem_map.mpr ⟨z, hzb, rfl⟩)
    have ez : z2 = z := by
      obtain ⟨i, hi⟩ := List.mem_iff_getElem?.mp hz2
      obtain ⟨j, hj⟩ := List.mem_iff_getElem?.mp hzb
      have i1 : as[i]? = some z.1 := by rw [← bsA, List.getElem?_map, hi, ← e1]; rfl
      have j1 : as[j]? = some z.1 := by rw [← bsA, List.getElem?_map, hj]; rfl
      have eij : i = j := (List.getElem?_inj (List.getElem?_eq_some_iff.mp i1).1 nd).mp (i1.trans j1.symm)
      rw [eij, hj] at hi
      exact (Option.some.inj hi).symm
    rw [ez] at e2
    rw [e2] at hH
    exact ⟨z.2.1, hH, gr _ _ (facts z hzb).1⟩
end
end HmS

set_option Elab.async false
set_option maxRecDepth 100000
set_option maxHeartbeats 4000000
namespace HmS
open PySem PySem.Spec PyProof.Rows L2
open AutoSeq1 (wpAny_loadPart')
/-! ### enumerate(t), t a tuple -/
abbrev tupIt (l : Addr) : Obj := { cls := .type "tuple_iterator", data := .fields #[.ref l, .int 0 0] }
abbrev enumOf (it : Addr) : Obj := { cls := .type "enumerate", data := .fields #[.none, .bool false, .ref it, rawInt 0, .none, .none] }
theorem meets_enumT (l : Addr) (items : Array Value) : Meets (Builtin.«enumerate.__new__» ⟨[.type "enumerate", .ref l], []⟩)
    (fun _ R s => s.heap.IsTuple l items ∧ R (.ok (.ret (.ref (s.heap.push (tupIt l)).objs.size))) { s with heap := (s.heap.push (tupIt l)).push (enumOf s.heap.objs.size) }) :=
  .of_wp fun prog w A R s h => by
    obtain ⟨hp, g, d, tk, os⟩ := s
    obtain ⟨h1, h⟩ := h
    have sub := sub_enumerate
    have q1 : ∀ {A' : Around} {E : Value → Shared → Prop} {Q : Value → Shared → Prop}, Q (.ref hp.objs.size) ⟨hp.push (tupIt l), g, d, tk, os⟩ → wpAny (model prog w) A' (pyIter (.ref l)) Q E ⟨hp, g, d, tk, os⟩ :=
      fun q => (begins_tuple l items).iter prog w _ _ ⟨hp, g, d, tk, os⟩ _ h1 q
    wp_walk using q1
    refine wpAny_stack_any fun st => wpAny_pure ?_
    split
    · rename_i c _ _ _ _ _
      cases (c == Value.type "enumerate") <;> (wp_walk using q1; exact ⟨_, rfl, h⟩)
    · wp_walk using q1
      exact ⟨_, rfl, h⟩
theorem call_enumT {prog : Program} {w : World} {A : Around} {E : Value → Shared → Prop} {s : Shared} {l : Addr} {items : Array Value} {Q : Value → Shared → Prop} (hL : s.heap.IsTuple l items)
    (h : ∀ h', IsEnum h' (s.heap.objs.size + 1) s.heap.objs.size 0 .none → h'.IsTupleIter s.heap.objs.size l 0 → (∀ b o, s.heap.get? b = some o → h'.get? b = some o) → Q (.ref (s.heap.objs.size + 1)) { s with heap := h' }) :
    wpAny (model prog w) A (call (.type "enumerate") [.ref l]) Q E s := by
  refine callType_new F.called_enumerate (by decide) (F.typeCall_enumerate_1 _) (F.newCall_enumerate_1 _) (fun obj => F.args_object_init_2 obj _) F.entry_enumerate_new (meets_enumT l items) ⟨hL, ?_⟩
  have hz : (s.heap.push (tupIt l)).objs.size = s.heap.objs.size + 1 := Heap.size_push ..
  show _ ∧ _
  rw [hz]
  have he : ((s.heap.push (tupIt l)).push (enumOf s.heap.objs.size)).get? (s.heap.objs.size + 1) = some (enumOf s.heap.objs.size) := by
    rw [← hz]
    exact Heap.get?_push_size _ rfl
  exact ⟨⟨_, he, rfl⟩, h _ he ⟨_, Heap.get?_push_of_some _ (Heap.get?_push_size _ rfl), rfl, rfl⟩ fun b o x => Heap.get?_push_of_some _ (Heap.get?_push_of_some _ x)⟩
/-- the tuple at a, each item in a new pair with its place -/
def IteT (K : PySem.W.Frag) (a : Addr) : It :=
  ⟨fun i H => ∃ (xs : List V) (x : V), SqT K H a xs ∧ xs[i]? = some x, fun i H v H' => ∃ T x, v = .ref T ∧ H T = none ∧ H' = upd H T (.tup [.int (i : Nat), x]) ∧ ∀ xs, SqT K H a xs → xs[i]? = some x,
    fun i H => ∃ xs : List V, SqT K H a xs ∧ xs.length ≤ i⟩
theorem tup_ne {h : Heap} {a b : Addr} {items : Array Value} {o : Obj} {T : String} (p : h.IsTuple a items) (e : h.get? b = some o) (c : o.cls = .type T) (n : T ≠ "tuple") : a ≠ b := by
  rintro rfl
  obtain ⟨o', e', c', _⟩ := p
  rw [e] at e'
  cases e'
  rw [c] at c'
  injection c' with z
  exact n z
theorem turn_enumT {P : Program} {w : World} {K : PySem.W.Frag} {elts : List Expr} {kk : Nat} {tpos : Pos} (a e it : Addr) :
    Turn P w K (.Tuple elts kk tpos) (IteT K a) [e, it] e (fun i h => (∃ old, IsEnum h e it ((i : Nat) : Int) old) ∧ h.IsTupleIter it a i ∧ e ≠ it) where
  mem := by simp
  obj := fun i h st b hb => by
    obtain ⟨⟨old, he⟩, ⟨o, ho, hc, hd⟩, _⟩ := st
    rcases (show b = e ∨ b = it by simpa using hb) with z | z
    · rw [z]
      exact ⟨_, he, fun v q => nomatch q⟩
    · rw [z]
      exact ⟨o, ho, fun v q => by rw [hd] at q; cases q⟩
  keep := fun i h h' st k => by
    obtain ⟨⟨old, he⟩, hi, hne⟩ := st
    exact ⟨⟨old, k e (by simp) _ he⟩, hi.at fun o q => k it (by simp) o q, hne⟩
  item := by
    intro X hP hw hK hc i pins s σ H E I hf st hg
    subst hP hw hK
    obtain ⟨⟨old, he⟩, hit, hne⟩ := st
    obtain ⟨xs, x, hq, hx⟩ := hg
    obtain ⟨its, rv, p, hz⟩ := I.tuple hq
    have p' : s.heap.IsTuple a its.toArray := p
    obtain ⟨u, hu, ru⟩ := rv.get hx
    have nit : a ≠ it := by
      obtain ⟨o, ho, ch, _⟩ := id hit
      exact tup_ne p' ho ch (by decide)
    have nea : a ≠ e := tup_ne p' he rfl (by decide)
    have hel : e < s.heap.objs.size := Heap.lt_size he
    have hil : it < s.heap.objs.size := by
      obtain ⟨_, q, _⟩ := id hit
      exact Heap.lt_size q
    have hlt : i < its.toArray.size := by
      have := (List.getElem?_eq_some_iff.mp hu).1
      simpa using this
    refine wpAny_pyNext_enum_itemD (Draws.tuple (A := X.A.in1) (show X.A.in1.handled = none from I.ok.hd hc) it a nit its.toArray) he ⟨hit, p'⟩ hlt hne (by simp [hne, Ne.symm nea]) fun v h' tk hv ho hst hT hsz hk => ?_
    have evu : v = u := by
      have e1 : its[i]? = some v := by simpa using hv
      rw [hu] at e1
      exact (Option.some.inj e1).symm
    subst evu
    refine ⟨_, rfl, wpAny_letOwnedTupleGo_enum (s := { s with heap := h', toks := tk + 1 }) ho fun h2 he2 sb => ?_⟩
    have hT2 : h2.get? s.heap.objs.size = some { cls := .type "tuple", data := .seq #[.int i tk, v] } := (sb.2 _ (Nat.ne_of_gt hel)).trans hT
    have new : ObjOk X.prog X.w (upd H s.heap.objs.size (.tup [.int (i : Nat), x])) h2 s.heap.objs.size (.tup [.int (i : Nat), x]) :=
      ⟨by show 2 ≤ sizeLine; decide, [.int i tk, v], .cons ⟨_, rfl⟩ (.cons ru .nil), ⟨_, hT2, rfl, _, rfl⟩⟩
    have I1 : Inv X pins σ (upd H s.heap.objs.size (.tup [.int (i : Nat), x])) { s with heap := h2, toks := tk + 1 } :=
      I.turnedNew (ch := [e, it]) (fun b ob hb q => (sb.2 b (fun z => hb (by simp [z]))).trans (hk b ob (fun z => hb (by simp [z])) (fun z => hb (by simp [z])) q)) hf (Nat.le_refl _) new
    refine ⟨.ref s.heap.objs.size, _, I1, rfl, ⟨_, x, rfl, I.hok.fresh (Nat.le_refl _), rfl, fun ys hy => by rw [I.tuple_inj hy hq]; exact hx⟩, ⟨⟨v, ?_⟩, hst.1.at fun o q => (sb.2 it (Ne.symm hne)).trans q, hne⟩, fun b hb => ?_⟩
    · have e1 : ((i + 1 : Nat) : Int) = (i : Int) + 1 := by omega
      rw [e1]
      exact he2
    · have hb' : b < s.heap.objs.size := by
        rcases (show b = e ∨ b = it by simpa using hb) with z | z
        · rw [z]
          exact hel
        · rw [z]
          exact hil
      rw [upd_ne (Nat.ne_of_lt hb')]
      exact (hf b hb).1
  done := by
    intro X hP hw hK hc i pins s σ H E I hf st hg
    subst hP hw hK
    obtain ⟨⟨old, he⟩, hit, hne⟩ := st
    obtain ⟨xs, hq, hx⟩ := hg
    obtain ⟨its, rv, p, hz⟩ := I.tuple hq
    have p' : s.heap.IsTuple a its.toArray := p
    have nit : a ≠ it := by
      obtain ⟨o, ho, ch, _⟩ := id hit
      exact tup_ne p' ho ch (by decide)
    obtain ⟨f0, f1, f2, f3, f4, f5⟩ := hf it (by simp)
    have hl := rv.length
    have hdone : Draws X.prog X.w X.A.in1 it [it, a] i (fun _ _ => False) (fun j h => j = i ∧ h.IsTupleIter it a i ∧ h.IsTuple a its.toArray) := {
      live := fun _ _ st => let ⟨o, ho, _⟩ := st.2.1; ⟨o, ho⟩
      frame := fun _ _ _ st hk => ⟨st.1, st.2.1.at fun o e => hk it (by simp) o e, st.2.2.at fun o e => hk a (by simp) o e⟩
      item := fun j s Q E hj st _ => absurd hj (by rw [st.1]; exact Nat.lt_irrefl _)
      done := fun s Q E st hE => wpAny_nextOf_tuple_end (show X.A.in1.handled = none from I.ok.hd hc) st.2.1 st.2.2 (by simp; omega) hE }
    exact wpAny_pyNext_enum_endD hdone he ⟨rfl, hit, p'⟩ fun h' eb => ⟨rfl, I.turned (t' := s.toks) (fun b o hb q => eb b o hb q) f0 f1 f3 f4 f5⟩
  self := fun A i s Q E st h => let ⟨⟨_, he⟩, _⟩ := st; wpAny_pyIter_enum he h
def iEnumT (K : PySem.W.Frag) (ta : TA) : TI := fun σ H R => ta σ H fun vs H1 => ∃ a xs, vs = [.ref a] ∧ SqT K H1 a xs ∧ R (IteT K a) H1
theorem pi_enumT {X : Cx} {e : Expr} {ta : TA} {p pos tpos : Pos} {elts : List Expr} {kk : Nat} (hg : Gl X "enumerate") (hm : X.mg "enumerate" = none) (ha : PA X [e] ta) (hs : starEach [e] X.env = [(false, eval e X.env)] := by rfl) :
    PI X (.Tuple elts kk tpos) (.Call (.Name "enumerate" p) [e] [] pos) (iEnumT X.K ta) := by
  refine ⟨fun pins s σ H R I h => ?_⟩
  refine Call_ (ld_blt I hg hm boot_enumerate (PyProof.Rows.callWith_type1 (thn (ha.run pos pins s σ H _ I h) fun us s1 hq1 => ?_) hs rfl))
  obtain ⟨vs, H1, I1, r1, a, xs, rfl, hq, q⟩ := hq1
  cases r1 with
  | cons r rr =>
    cases rr
    cases r
    obtain ⟨its, rv, p', hz⟩ := I1.tuple hq
    refine call_enumT (show s1.heap.IsTuple a its.toArray from p') fun h' he hit hk => wpAny_pyIter_enum he ?_
    have I2 : Inv X pins σ H1 { s1 with heap := h' } := I1.kept (t' := s1.toks) hk
    refine ⟨s1.heap.objs.size + 1, [s1.heap.objs.size + 1, s1.heap.objs.size], _, _, H1, rfl, I2, turn_enumT a (s1.heap.objs.size + 1) s1.heap.objs.size, ⟨⟨.none, he⟩, hit, Nat.succ_ne_self _⟩, fun b hb => ?_, q⟩
    have hle : s1.heap.objs.size ≤ b := by
      rcases (show b = s1.heap.objs.size + 1 ∨ b = s1.heap.objs.size by simpa using hb) with z | z
      · rw [z]
        exact Nat.le_add_right _ _
      · rw [z]
        exact Nat.le_refl _
    exact I1.fpOk hle (I1.hok.fresh hle)
theorem walk_enumT {K : PySem.W.Frag} {a : Addr} {xs : List V} : Walk (IteT K a) xs.length (fun H => SqT K H a xs) (YPair (fun i => some (.int (i : Nat))) (fun i => xs[i]?)) where
  goes := fun i H hi h => ⟨xs, xs[i], h, by simp [hi]⟩
  stops := fun H h => ⟨xs, h, Nat.le_refl _⟩
  yields := fun i H x H' hi h y => by
    obtain ⟨T, z, e1, e2, e3, e4⟩ := y
    exact ⟨T, _, z, e1, e2, e3, rfl, e4 xs h⟩
end HmS

set_option Elab.async false
set_option maxRecDepth 100000
set_option maxHeartbeats 4000000
set_option linter.all false
namespace Da
open PySem PySem.Spec PyProof.Rows L2 RZ HmS
section
variable {K : PySem.W.Frag} [HasT K] {E : XK} {ψ : Value → Prop} {te ta tb tx : TE} {da db dx de : DT} {tt tu : TT} {dtt dtu : DB} {al : TA} {dal : DA} {r : R2} {dr : D → D → (En → Prop) → Prop}
/-! ### iterators -/
theorem itOk_at {J : It} {F1 : Hp} {items : List D} (stop : ∀ H, Same F1 H → J.stop items.length H) (go : ∀ (i : Nat) d H, items[i]? = some d → Same F1 H → J.go i H) (yld : ∀ (i : Nat) d H x H', items[i]? = some d → Same F1 H → J.yld i H x H' → H' = H ∧ Rep F1 x d) : ItOk K F1 J items :=
  fun c F H σ Γ i I s => ⟨fun e => by rw [e]; exact stop H (s.trans I.fh), fun d hd => ⟨go i d H hd (s.trans I.fh), fun x H' y => by
    obtain ⟨rfl, rp⟩ := yld i d H x H' hd (s.trans I.fh) y
    exact ⟨F, I, Same.refl F, rp.mono s⟩⟩⟩
def wt (e : En) (k : List D → Prop) : Prop := match e with
  | .d (.tup xs) => k xs
  | _ => False
def wl (e : En) (k : List D → Prop) : Prop := match e with
  | .d (.lst xs) => k xs
  | .lst xs => k xs
  | _ => False
def dITup (da : DT) : DA := fun Γ φ => da Γ fun e Γ1 => wt e fun xs => φ xs Γ1
def dILst (da : DT) : DA := fun Γ φ => da Γ fun e Γ1 => wl e fun xs => φ xs Γ1
theorem itOk_tup {F1 : Hp} {a : Addr} {vs : List V} {ds : List D} (e : F1 a = some (.tup vs)) (rs : Reps F1 vs ds) : ItOk K F1 (Itt K a) ds :=
  itOk_at (fun H s => ⟨vs, SqT.of (s _ _ e), by rw [rs.length]; exact Nat.le_refl _⟩) (fun i d H hd s => by
    obtain ⟨v, hv, _⟩ := rs.get hd
    exact ⟨vs, v, SqT.of (s _ _ e), hv⟩) (fun i d H x H' hd s y => by
    obtain ⟨v, hv, rp⟩ := rs.get hd
    have := y.2 vs (SqT.of (s _ _ e))
    rw [hv] at this
    cases this
    exact ⟨y.1, rp⟩)
theorem itOk_lst {F1 : Hp} {a : Addr} {vs : List V} {ds : List D} (e : F1 a = some (.lst vs)) (rs : Reps F1 vs ds) : ItOk K F1 (Itl K a) ds :=
  itOk_at (fun H s => ⟨vs, SqL.of (s _ _ e), by rw [rs.length]; exact Nat.le_refl _⟩) (fun i d H hd s => by
    obtain ⟨v, hv, _⟩ := rs.get hd
    exact ⟨vs, v, SqL.of (s _ _ e), hv⟩) (fun i d H x H' hd s y => by
    obtain ⟨v, hv, rp⟩ := rs.get hd
    have := y.2 vs (SqL.of (s _ _ e))
    rw [hv] at this
    cases this
    exact ⟨y.1, rp⟩)
theorem wt_of {e : En} {k : List D → Prop} (h : wt e k) : ∃ xs, e = .d (.tup xs) ∧ k xs := by
  cases e with
  | d x =>
    cases x with
    | tup xs => exact ⟨xs, rfl, h⟩
    | _ => exact h.elim
  | _ => exact h.elim
instance snd_itup [sa : Snd K E ψ ta da] : SndI K E ψ (iTup K ta) (dITup da) := ⟨fun {c F H σ Γ φ R} I eo h q => by
  refine sa.run I eo h fun F1 H1 v e Γ1 I1 s1 r1 h1 => ?_
  obtain ⟨xs, rfl, h1⟩ := wt_of h1
  cases (show Rep F1 v (.tup xs) from r1.1) with
  | tup e rs => exact ⟨_, rfl, ⟨_, SqT.of (I1.fh _ _ e)⟩, q F1 H1 _ xs Γ1 I1 s1 (itOk_tup e rs) h1⟩⟩
theorem wl_frz {e : En} {k : List D → Prop} (h : wl e k) : ∃ xs, e.frz = some (.lst xs) ∧ k xs := by
  cases e with
  | d x =>
    cases x with
    | lst xs => exact ⟨xs, rfl, h⟩
    | _ => exact h.elim
  | lst xs => exact ⟨xs, rfl, h⟩
  | _ => exact h.elim
theorem Res.frzL {c : Ct K} {F H : Hp} {σ : L2.St} {Γ : List En} {v : V} {e : En} (I : Is c F H σ Γ) (r : Res c F H σ Γ v e) {k : List D → Prop} (h : wl e k) : ∃ F' a vs xs, v = .ref a ∧ Is c F' H σ Γ ∧ Same F F' ∧ F' a = some (.lst vs) ∧ Reps F' vs xs ∧ k xs := by
  obtain ⟨xs, hx, h1⟩ := wl_frz h
  obtain ⟨F2, I2, s2, rp⟩ := r.frz I hx
  cases rp with
  | lst e rs => exact ⟨F2, _, _, xs, rfl, I2, s2, e, rs, h1⟩
instance snd_ilst [sa : Snd K E ψ ta da] : SndI K E ψ (iList K ta) (dILst da) := ⟨fun {c F H σ Γ φ R} I eo h q => by
  refine sa.run I eo h fun F1 H1 v e Γ1 I1 s1 r1 h1 => ?_
  obtain ⟨F2, a, vs, xs, rfl, I2, s2, ea, rs, h2⟩ := r1.frzL I1 h1
  exact ⟨a, rfl, ⟨_, SqL.of (I2.fh _ _ ea)⟩, q F2 H1 _ xs Γ1 I2 (s1.trans s2) (itOk_lst ea rs) h2⟩⟩
/-- lo, lo + 1, .. (n of them) -/
def upI (lo : Int) (n : Nat) : List D := (List.range n).map fun i : Nat => D.int (lo + i)
theorem upI_get {lo : Int} {n i : Nat} {d : D} (h : (upI lo n)[i]? = some d) : i < n ∧ d = .int (lo + i) := by
  unfold upI at h
  rw [List.getElem?_map] at h
  cases e : (List.range n)[i]? with
  | none => rw [e] at h; cases h
  | some j =>
    rw [e] at h
    cases h
    obtain ⟨h1, h2⟩ := List.getElem?_eq_some_iff.mp e
    simp at h1 h2
    subst h2
    exact ⟨h1, rfl⟩
theorem upI_len {lo : Int} {n : Nat} : (upI lo n).length = n := by simp [upI]
theorem itOk_range {F1 : Hp} {lo : Int} {n : Nat} : ItOk K F1 (Itr lo n) (upI lo n) :=
  itOk_at (fun H s => by rw [upI_len]; exact Nat.le_refl _) (fun i d H hd s => (upI_get hd).1) (fun i d H x H' hd s y => by
    obtain ⟨_, rfl⟩ := upI_get hd
    obtain ⟨rfl, rfl⟩ := y
    exact ⟨rfl, .int _⟩)
def dIRng1 (dal : DA) : DA := fun Γ φ => dal Γ fun xs Γ1 => match xs with
  | [.int n] => -100000 ≤ n ∧ n ≤ 100000 ∧ φ (upI 0 n.toNat) Γ1
  | _ => False
instance snd_irng1 [sa : SndA K E ψ al dal] : SndI K E ψ (iRng1 al) (dIRng1 dal) := ⟨fun {c F H σ Γ φ R} I eo h q => by
  refine sa.run I eo h fun F1 H1 vs xs Γ1 I1 s1 r1 h1 => ?_
  match xs, r1, h1 with
  | [.int n], .cons (.int _) .nil, h1 => exact ⟨n, rfl, by have := h1.1; omega, by have := h1.2.1; omega, q F1 H1 _ _ Γ1 I1 s1 itOk_range h1.2.2⟩⟩
def dIRng2 (dal : DA) : DA := fun Γ φ => dal Γ fun xs Γ1 => match xs with
  | [.int a, .int b] => -100000 ≤ a ∧ a ≤ 100000 ∧ -100000 ≤ b ∧ b ≤ 100000 ∧ φ (upI a (b - a).toNat) Γ1
  | _ => False
instance snd_irng2 [sa : SndA K E ψ al dal] : SndI K E ψ (iRng2 al) (dIRng2 dal) := ⟨fun {c F H σ Γ φ R} I eo h q => by
  refine sa.run I eo h fun F1 H1 vs xs Γ1 I1 s1 r1 h1 => ?_
  match xs, r1, h1 with
  | [.int a, .int b], .cons (.int _) (.cons (.int _) .nil), h1 =>
    obtain ⟨a0, a1, b0, b1, h1⟩ := h1
    exact ⟨a, b, rfl, ⟨by omega, by omega, by omega, by omega⟩, q F1 H1 _ _ Γ1 I1 s1 itOk_range h1⟩⟩
/-- range(a, -1, -1): a, a - 1, .. , 0 -/
def dnI (a : Int) : List D := (List.range (a + 1).toNat).map fun i : Nat => D.int (a - i)
theorem dnI_get {a : Int} {i : Nat} {d : D} (h : (dnI a)[i]? = some d) : i < (a + 1).toNat ∧ d = .int (a - i) := by
  unfold dnI at h
  rw [List.getElem?_map] at h
  cases e : (List.range (a + 1).toNat)[i]? with
  | none => rw [e] at h; cases h
  | some j =>
    rw [e] at h
    cases h
    obtain ⟨h1, h2⟩ := List.getElem?_eq_some_iff.mp e
    simp at h1 h2
    subst h2
    exact ⟨by omega, rfl⟩
theorem dnI_len {a : Int} : (dnI a).length = (a + 1).toNat := by simp [dnI]
def dIDn (dal : DA) : DA := fun Γ φ => dal Γ fun xs Γ1 => match xs with
  | [.int a, .int b, .int c] => -1 ≤ a ∧ a ≤ 100000 ∧ b = -1 ∧ c = -1 ∧ φ (dnI a) Γ1
  | _ => False
instance snd_irng3 [sa : SndA K E ψ al dal] : SndI K E ψ (iRng3 al) (dIDn dal) := ⟨fun {c F H σ Γ φ R} I eo h q => by
  refine sa.run I eo h fun F1 H1 vs xs Γ1 I1 s1 r1 h1 => ?_
  match xs, r1, h1 with
  | [.int a, .int b, .int c], .cons (.int _) (.cons (.int _) (.cons (.int _) .nil)), h1 =>
    obtain ⟨a0, a1, rfl, rfl, h1⟩ := h1
    refine ⟨a, -1, -1, (a + 1).toNat, rfl, ?_, q F1 H1 _ _ Γ1 I1 s1 (itOk_at (fun H s => by rw [dnI_len]; exact Nat.le_refl _) (fun i d H hd s => (dnI_get hd).1) (fun i d H x H' hd s y => ?_)) h1⟩
    · have z := RgC.neg (i := a) (j := -1) (by omega) (by omega) (by omega) (by omega)
      rw [show a - -1 = a + 1 by omega] at z
      exact z
    · obtain ⟨_, rfl⟩ := dnI_get hd
      obtain ⟨rfl, rfl⟩ := y
      refine ⟨rfl, ?_⟩
      have : a + (i : Int) * -1 = a - i := by omega
      rw [this]
      exact .int _⟩
/-! pairs made on the way -/
theorem itOk_pair {J : It} {F1 : Hp} {items : List D} (stop : ∀ H, Same F1 H → J.stop items.length H) (go : ∀ (i : Nat) d H, items[i]? = some d → Same F1 H → J.go i H)
    (yld : ∀ (i : Nat) d H v H', items[i]? = some d → Same F1 H → J.yld i H v H' → ∃ T x y d1 d2, v = .ref T ∧ H T = none ∧ H' = upd H T (.tup [x, y]) ∧ d = .tup [d1, d2] ∧ Rep F1 x d1 ∧ Rep F1 y d2) : ItOk K F1 J items :=
  fun c F H σ Γ i I s => ⟨fun e => by rw [e]; exact stop H (s.trans I.fh), fun d hd => ⟨go i d H hd (s.trans I.fh), fun v H' y => by
    obtain ⟨T, x, w, d1, d2, rfl, hT, rfl, rfl, r1, r2⟩ := yld i d H v H' hd (s.trans I.fh) y
    obtain ⟨I2, s2, _⟩ := I.new (o := .tup [x, w]) hT
    exact ⟨_, I2, s2, .tup upd_same (.cons (r1.mono (s.trans s2)) (.cons (r2.mono (s.trans s2)) .nil))⟩⟩⟩
def pairsI (i : Nat) : List D → List D
  | [] => []
  | x :: r => .tup [.int i, x] :: pairsI (i + 1) r
theorem pairsI_get : ∀ {ds : List D} {j i : Nat} {d : D}, (pairsI j ds)[i]? = some d → ∃ x, ds[i]? = some x ∧ d = .tup [.int ((j + i : Nat) : Int), x]
  | [], j, i, d, h => by simp [pairsI] at h
  | x :: r, j, 0, d, h => by
    cases h
    exact ⟨x, rfl, rfl⟩
  | x :: r, j, i + 1, d, h => by
    obtain ⟨y, e, rfl⟩ := pairsI_get (ds := r) (j := j + 1) (i := i) (by simpa [pairsI] using h)
    exact ⟨y, by simpa using e, by rw [show j + 1 + i = j + (i + 1) by omega]⟩
theorem pairsI_len : ∀ {ds : List D} {j : Nat}, (pairsI j ds).length = ds.length
  | [], _ => rfl
  | _ :: r, j => by rw [pairsI, List.length_cons, List.length_cons, pairsI_len]
def dIEnT (dal : DA) : DA := fun Γ φ => dal Γ fun xs Γ1 => match xs with
  | [.tup ds] => φ (pairsI 0 ds) Γ1
  | _ => False
instance snd_ienT [sa : SndA K E ψ al dal] : SndI K E ψ (iEnumT K al) (dIEnT dal) := ⟨fun {c F H σ Γ φ R} I eo h q => by
  refine sa.run I eo h fun F1 H1 vs xs Γ1 I1 s1 r1 h1 => ?_
  match xs, r1, h1 with
  | [.tup ds], .cons (.tup (a := a) (vs := us) e rs) .nil, h1 =>
    refine ⟨a, us, rfl, SqT.of (I1.fh _ _ e), q F1 H1 _ _ Γ1 I1 s1 (itOk_pair (fun H s => ?_) (fun i d H hd s => ?_) (fun i d H v H' hd s y => ?_)) h1⟩
    · rw [pairsI_len, ← rs.length]
      exact (walk_enumT (K := K)).stops H (SqT.of (s _ _ e))
    · obtain ⟨x, hx, _⟩ := pairsI_get hd
      obtain ⟨v, hv, _⟩ := rs.get hx
      exact (walk_enumT (K := K)).goes i H (List.getElem?_eq_some_iff.mp hv).1 (SqT.of (s _ _ e))
    · obtain ⟨x, hx, rfl⟩ := pairsI_get hd
      obtain ⟨w, hw, rw'⟩ := rs.get hx
      obtain ⟨T, x1, y1, rfl, hT, rfl, e1, e2⟩ := (walk_enumT (K := K) (a := a) (xs := us)).yields i H v H' (List.getElem?_eq_some_iff.mp hw).1 (SqT.of (s _ _ e)) y
      have e1 : some (V.int (i : Nat)) = some x1 := e1
      cases e1
      have e2 : us[i]? = some y1 := e2
      rw [hw] at e2
      cases e2
      exact ⟨T, _, _, _, _, rfl, hT, rfl, by rw [Nat.zero_add], .int _, rw'⟩⟩
def dIEnL (dal : DA) : DA := fun Γ φ => dal Γ fun xs Γ1 => match xs with
  | [.lst ds] => φ (pairsI 0 ds) Γ1
  | _ => False
instance snd_ienL [sa : SndA K E ψ al dal] : SndI K E ψ (iEnum K al) (dIEnL dal) := ⟨fun {c F H σ Γ φ R} I eo h q => by
  refine sa.run I eo h fun F1 H1 vs xs Γ1 I1 s1 r1 h1 => ?_
  match xs, r1, h1 with
  | [.lst ds], .cons (.lst (a := a) (vs := us) e rs) .nil, h1 =>
    refine ⟨a, us, rfl, SqL.of (I1.fh _ _ e), q F1 H1 _ _ Γ1 I1 s1 (itOk_pair (fun H s => ?_) (fun i d H hd s => ?_) (fun i d H v H' hd s y => ?_)) h1⟩
    · rw [pairsI_len, ← rs.length]
      exact ⟨us, SqL.of (s _ _ e), Nat.le_refl _⟩
    · obtain ⟨x, hx, _⟩ := pairsI_get hd
      obtain ⟨v, hv, _⟩ := rs.get hx
      exact ⟨us, v, SqL.of (s _ _ e), hv⟩
    · obtain ⟨x, hx, rfl⟩ := pairsI_get hd
      obtain ⟨w, hw, rw'⟩ := rs.get hx
      obtain ⟨T, x1, rfl, hT, rfl, e1⟩ := y
      have e1 := e1 us (SqL.of (s _ _ e))
      rw [hw] at e1
      cases e1
      exact ⟨T, _, _, _, _, rfl, hT, rfl, by rw [Nat.zero_add], .int _, rw'⟩⟩
def zipD : List D → List D → List D
  | x :: xs, y :: ys => .tup [x, y] :: zipD xs ys
  | _, _ => []
theorem zipD_get : ∀ {xs ys : List D} {i : Nat} {d : D}, (zipD xs ys)[i]? = some d → ∃ x y, xs[i]? = some x ∧ ys[i]? = some y ∧ d = .tup [x, y]
  | [], _, i, d, h => by simp [zipD] at h
  | _ :: _, [], i, d, h => by simp [zipD] at h
  | x :: xs, y :: ys, 0, d, h => by
    cases h
    exact ⟨x, y, rfl, rfl, rfl⟩
  | x :: xs, y :: ys, i + 1, d, h => by
    obtain ⟨a, b, e1, e2, rfl⟩ := zipD_get (xs := xs) (ys := ys) (i := i) (by simpa [zipD] using h)
    exact ⟨a, b, by simpa using e1, by simpa using e2, rfl⟩
theorem zipD_len : ∀ {xs ys : List D}, (zipD xs ys).length = min xs.length ys.length
  | [], _ => by simp [zipD]
  | _ :: _, [] => by simp [zipD]
  | x :: xs, y :: ys => by rw [zipD, List.length_cons, List.length_cons, List.length_cons, zipD_len]; omega
def dIZip (dal : DA) : DA := fun Γ φ => dal Γ fun xs Γ1 => match xs with
  | [.tup ds, .tup es] => φ (zipD ds es) Γ1
  | [.lst ds, .lst es] => φ (zipD ds es) Γ1
  | _ => False
instance snd_izip [sa : SndA K E ψ al dal] : SndI K E ψ (iZipA K al) (dIZip dal) := ⟨fun {c F H σ Γ φ R} I eo h q => by
  refine sa.run I eo h fun F1 H1 vs xs Γ1 I1 s1 r1 h1 => ?_
  match xs, r1, h1 with
  | [.tup ds, .tup es], .cons (.tup (a := a) (vs := us) e rs) (.cons (.tup (a := b) (vs := ws) e' rs') .nil), h1 =>
    refine ⟨a, b, us, ws, rfl, .inr ⟨SqT.of (I1.fh _ _ e), SqT.of (I1.fh _ _ e'), q F1 H1 _ _ Γ1 I1 s1 (itOk_pair (fun H s => ?_) (fun i d H hd s => ?_) (fun i d H v H' hd s y => ?_)) h1⟩⟩
    · refine ⟨us, ws, SqT.of (s _ _ e), SqT.of (s _ _ e'), ?_⟩
      rw [zipD_len, rs.length, rs'.length]
      omega
    · obtain ⟨x, y, hx, hy, _⟩ := zipD_get hd
      obtain ⟨v, hv, _⟩ := rs.get hx
      obtain ⟨u, hu, _⟩ := rs'.get hy
      exact ⟨us, ws, v, u, SqT.of (s _ _ e), SqT.of (s _ _ e'), hv, hu⟩
    · obtain ⟨x, y', hx, hy, rfl⟩ := zipD_get hd
      obtain ⟨v1, hv, r1⟩ := rs.get hx
      obtain ⟨u1, hu, r2⟩ := rs'.get hy
      obtain ⟨T, x1, y1, rfl, hT, rfl, q1, q2⟩ := y
      have q1 := q1 us (SqT.of (s _ _ e))
      have q2 := q2 ws (SqT.of (s _ _ e'))
      rw [hv] at q1
      rw [hu] at q2
      cases q1
      cases q2
      exact ⟨T, _, _, _, _, rfl, hT, rfl, rfl, r1, r2⟩
  | [.lst ds, .lst es], .cons (.lst (a := a) (vs := us) e rs) (.cons (.lst (a := b) (vs := ws) e' rs') .nil), h1 =>
    refine ⟨a, b, us, ws, rfl, .inl ⟨SqL.of (I1.fh _ _ e), SqL.of (I1.fh _ _ e'), q F1 H1 _ _ Γ1 I1 s1 (itOk_pair (fun H s => ?_) (fun i d H hd s => ?_) (fun i d H v H' hd s y => ?_)) h1⟩⟩
    · refine ⟨us, ws, SqL.of (s _ _ e), SqL.of (s _ _ e'), ?_⟩
      rw [zipD_len, rs.length, rs'.length]
      omega
    · obtain ⟨x, y, hx, hy, _⟩ := zipD_get hd
      obtain ⟨v, hv, _⟩ := rs.get hx
      obtain ⟨u, hu, _⟩ := rs'.get hy
      exact ⟨us, ws, v, u, SqL.of (s _ _ e), SqL.of (s _ _ e'), hv, hu⟩
    · obtain ⟨x, y', hx, hy, rfl⟩ := zipD_get hd
      obtain ⟨v1, hv, r1⟩ := rs.get hx
      obtain ⟨u1, hu, r2⟩ := rs'.get hy
      obtain ⟨T, x1, y1, rfl, hT, rfl, q1, q2⟩ := y
      have q1 := q1 us (SqL.of (s _ _ e))
      have q2 := q2 ws (SqL.of (s _ _ e'))
      rw [hv] at q1
      rw [hu] at q2
      cases q1
      cases q2
      exact ⟨T, _, _, _, _, rfl, hT, rfl, rfl, r1, r2⟩⟩
/-! ### targets -/
instance sndg_name (i : Nat) : SndG K (gName i) [i] (fun d Γ φ => φ (Γ.set i (.d d))) := ⟨fun {c F H σ Γ x d φ Q} I rp h q => q _ _ (I.set (Res.d rp) i) (fun vs hv => wipe_set (hv i (by simp))) h⟩
instance sndgs_nil : SndGs K gNil [] (fun ds Γ φ => ds = [] ∧ φ Γ) := ⟨fun {c F H σ Γ xs ds φ Q} I rp h q => by
  obtain ⟨rfl, h⟩ := h
  cases rp
  exact ⟨rfl, q σ Γ I (fun _ _ => rfl) h⟩⟩
def dgCons (dg : D → List En → (List En → Prop) → Prop) (dgs : List D → List En → (List En → Prop) → Prop) (ds : List D) (Γ : List En) (φ : List En → Prop) : Prop := match ds with
  | d :: r => dg d Γ fun Γ1 => dgs r Γ1 φ
  | [] => False
instance sndgs_cons {g : TG} {gs : TGs} {gv gvs : List Nat} {dg : D → List En → (List En → Prop) → Prop} {dgs : List D → List En → (List En → Prop) → Prop} [sg : SndG K g gv dg] [ss : SndGs K gs gvs dgs] : SndGs K (gCons g gs) (gv ++ gvs) (dgCons dg dgs) := ⟨fun {c F H σ Γ xs ds φ Q} I rp h q => by
  match ds, rp, h with
  | d :: r, .cons a b, h =>
    refine ⟨_, _, rfl, sg.run I a h fun σ1 Γ1 I1 w1 h1 => ss.run I1 b h1 fun σ2 Γ2 I2 w2 h2 => q σ2 Γ2 I2 (fun vs hv => ?_) h2⟩
    rw [w2 vs fun i hi => hv i (List.mem_append_right _ hi), w1 vs fun i hi => hv i (List.mem_append_left _ hi)]⟩
def dgTup (n : Nat) (dgs : List D → List En → (List En → Prop) → Prop) (d : D) (Γ : List En) (φ : List En → Prop) : Prop := match d with
  | .tup xs => xs.length = n ∧ dgs xs Γ φ
  | _ => False
instance sndg_tup {n : Nat} {gs : TGs} {gvs : List Nat} {dgs : List D → List En → (List En → Prop) → Prop} [ss : SndGs K gs gvs dgs] : SndG K (gTup K n gs) gvs (dgTup n dgs) := ⟨fun {c F H σ Γ x d φ Q} I rp h q => by
  match d, rp, h with
  | .tup xs, .tup e rs, h => exact ⟨_, _, rfl, SqT.of (I.fh _ _ e), by rw [rs.length]; exact h.1, ss.run I rs h.2 q⟩⟩
/-! ### comprehensions -/
def dLc (vs gv : List Nat) (di : DA) (dg : D → List En → (List En → Prop) → Prop) (dtt : DB) (de : DT) : DT := fun Γ φ => (gv.all fun i => vs.contains i) = true ∧ di Γ fun items Γ1 => items.length ≤ 100000 ∧ ∃ I : Nat → List D → List En → Prop, I 0 [] (wipeE Γ1 vs) ∧
  ∀ i acc Γ', I i acc Γ' → (i = items.length → φ (.lst acc) Γ') ∧ ∀ d, items[i]? = some d → dg d (wipeE Γ' vs) fun Γ2 => dtt Γ2 fun b Γ3 => if b = true then de Γ3 fun e Γ4 => wf e fun z => I (i + 1) (acc ++ [z]) (wipeE Γ4 vs) else I (i + 1) acc (wipeE Γ3 vs)
theorem EOk.guard {c : Ct K} (eo : EOk c E ψ) {p : Addr} {o : HO} {h : c.H0 p = none} : EOk (c.guard p o h) E ψ := fun C H' h1 h2 h3 => eo C H' (fun a u q e => h1 a u q (by show upd c.H0 p o a = some u; rw [upd_ne (ne_of_none e h)]; exact e)) h2 h3
instance snd_lc {wi : TI} {g : TG} {vs gv : List Nat} {di : DA} {dg : D → List En → (List En → Prop) → Prop} [si : SndI K E ψ wi di] [sg : SndG K g gv dg] [st : SndT K E ψ tt dtt] [se : Snd K E ψ te de] : Snd K E ψ (tLc wi g tt te vs) (dLc vs gv di dg dtt de) := ⟨fun {c F H σ Γ φ Q} I eo h q => by
  obtain ⟨hgv, h⟩ := h
  have hgv' : ∀ i ∈ gv, i ∈ vs := fun i hi => by simpa using List.all_eq_true.mp hgv i hi
  refine si.run I eo h fun F1 H1 J items Γ1 I1 s1 it h1 => ?_
  obtain ⟨hlen, IV, iv0, step⟩ := h1
  intro D hD
  have hF : F1 D = none := I1.unF hD
  have h0 : c.H0 D = none := I1.un hD
  have hpn : c.pn ≠ some D := fun z => (I1.pp D z).2.1.there hD
  have hF0 : c.F0 D = none := I1.f0.free hF
  refine ⟨fun i m H' => m = items.length - i ∧ i ≤ items.length ∧ ∃ F' Γ' us acc, Same F1 F' ∧ H' D = some (.lst us) ∧ Reps F' us acc ∧ acc.length ≤ i ∧ Is (c.guard D (.lst us) h0) F' H' σ Γ' ∧ IV i acc Γ', ⟨_, rfl, Nat.zero_le _, F1, wipeE Γ1 vs, [], [], Same.refl _, upd_same, .nil, Nat.le_refl _, ?_, iv0⟩, ?_⟩
  · have I2 := (I1.newH (o := .lst []) hD).forgets vs
    exact I2.guard ⟨hF, h0, hpn, (I1.fresh hD).forgets vs⟩ upd_same
  · rintro i m H' ⟨rfl, hi, F', Γ', us, acc, sF, hDl, rs, la, IG, iv⟩
    obtain ⟨st1, st2⟩ := step i acc Γ' iv
    by_cases hlt : i < items.length
    · obtain ⟨d, hd⟩ : ∃ d, items[i]? = some d := ⟨_, List.getElem?_eq_getElem hlt⟩
      obtain ⟨go, yl⟩ := (it _ F' H' σ Γ' i IG sF).2 d hd
      refine .inr ⟨go, fun H2 => ∃ F2 Γ2 us acc, Same F1 F2 ∧ H2 D = some (.lst us) ∧ Reps F2 us acc ∧ acc.length ≤ i + 1 ∧ Is (c.guard D (.lst us) h0) F2 H2 σ Γ2 ∧ IV (i + 1) acc Γ2, fun H2 n2 => ⟨items.length - (i + 1), by omega, rfl, hlt, n2⟩, fun x H2 y => ?_⟩
      obtain ⟨F2, I2, sF2, rp⟩ := yl x H2 y
      refine sg.run (I2.wipe vs) rp (st2 d hd) fun σ3 Γ3 I3 w3 h3 => ⟨by rw [w3 vs hgv', wipe_wipe], ?_⟩
      have w3' : wipe σ3 vs = wipe σ vs := by rw [w3 vs hgv', wipe_wipe]
      refine st.run I3 eo.guard h3 fun F4 H4 b Γ4 I4 sF4 h4 => ?_
      cases b with
      | false =>
        refine iteF ⟨F4, wipeE Γ4 vs, us, acc, sF.trans (sF2.trans sF4), I4.guarded hpn, rs.mono (sF2.trans sF4), Nat.le_succ_of_le la, I4.unwipe w3', h4⟩
      | true =>
        refine iteT (se.frz (φ := fun _ _ => True) (k := fun z Γ5 => IV (i + 1) (acc ++ [z]) (wipeE Γ5 vs)) I4 eo.guard h4 fun F5 H5 v z Γ5 I5 sF5 r5 h5 => ?_)
        have hD5 := I5.guarded hpn
        refine ⟨us, hD5, ?_, F5, wipeE Γ5 vs, us ++ [v], acc ++ [z], sF.trans (sF2.trans (sF4.trans sF5)), upd_same, (rs.mono (sF2.trans (sF4.trans sF5))).snoc r5, by rw [List.length_append]; simp; omega, ?_, h5⟩
        · rw [rs.length]
          exact Nat.lt_of_le_of_lt la (Nat.lt_of_lt_of_le (Nat.lt_of_lt_of_le hlt hlen) (by decide))
        · have I6 := I5.unwipe w3'
          have fr := I6.freed hpn hF0 (fun vs z => nomatch z)
          have I7 := (I6.unguard hpn).chg (o := .lst (us ++ [v])) fr hD5 (plain_lst _) (fun vs z => nomatch z)
          exact I7.guard fr upd_same
    · have e : i = items.length := by omega
      refine .inl ⟨(it _ F' H' σ Γ' i IG sF).1 e, ?_⟩
      have fr := IG.freed hpn hF0 (fun vs z => nomatch z)
      exact q F' H' (.ref D) (.lst acc) Γ' (IG.unguard hpn) (s1.trans sF) ⟨⟨D, us, rfl, fr.f, h0, hDl, rs⟩, (fun z => nomatch z), fun a e => by cases e; exact fr.sl⟩ (st1 e)⟩
/-! ### calls of defs -/
theorem Is.unN {c : Ct K} {F H : Hp} {σ : L2.St} {Γ : List En} {a : Addr} (I : Is c F H σ Γ) (h : ntH H a = none) : c.H0 a = none := by
  cases q : c.H0 a with
  | none => rfl
  | some o =>
    have nt := I.hn a o q
    by_cases z : c.pn = some a
    · obtain ⟨u, h1, h2⟩ := (I.pp a z).2.1.pl
      rw [ntH_of h1 h2.1] at h
      cases h
    · rw [ntH_of (I.h0 a o z q) nt] at h
      cases h
theorem Is.called {c : Ct K} {F H F' H' : Hp} {σ : L2.St} {Γ : List En} {v : V} {e : En} (I : Is c F H σ Γ) (sf : Same F F') (sh : NS H H') (tb : TbOk K H') (fh : Same F' H') (fn : FN F') (nw : ∀ a o, F' a = some o → F a = some o ∨ Soft (ntH H) a) (hh : Held (c0 K F H) F' H' e v) (ne : e ≠ .no) : Is c F' H' σ Γ ∧ Res c F' H' σ Γ v e := by
  have I2 := I.growN sf sh tb fh fn nw
  refine ⟨I2, hh.to (fun a x => ⟨fun z => I.unN z, fun z => nomatch z⟩) (fun _ z => nomatch z), ne, fun a x => ?_⟩
  exact I.freshN ((hh.h0 x).resolve_right fun z => nomatch z.2)
def dCall (den : List D → (En → Prop) → (Value → Prop) → Prop) (dvs : List V) (ψ : Value → Prop) (dal : DA) : DT := fun Γ φ => dal Γ fun xs Γ1 => (dvs.all isSc) = true ∧ den (xs ++ dvs.map vD) (fun e => φ e Γ1) ψ
theorem Reps.scs {F : Hp} : ∀ {dvs : List V}, dvs.all isSc = true → Reps F dvs (dvs.map vD)
  | [], _ => .nil
  | v :: r, h => by
    rw [List.all_cons, Bool.and_eq_true] at h
    exact .cons (rep_sc h.1) (Reps.scs h.2)
theorem call_run {c : Ct K} {F H : Hp} {σ : L2.St} {Γ : List En} {xs : List V} {ds : List D} {φ : En → Prop} {ψ' : Value → Prop} {E' : XK} {Q : VK} {den : List D → (En → Prop) → (Value → Prop) → Prop} (I : Is c F H σ Γ) (eo : EOk c E' ψ') (r : Reps F xs ds) (h : den ds φ ψ')
    (q : ∀ F' H' v e, Is c F' H' σ Γ → Same F F' → Res c F' H' σ Γ v e → φ e → Q v H') : spX K den xs H Q E' := by
  refine ⟨F, ds, φ, ψ', I.fh, I.fn, I.tb, r, h, fun F' H' v e sf sh tb fh fn nw hh ne p => ?_, fun C H' sh tb p => eo C H' (fun a o z e => sh _ _ (I.hn a o e) (I.h0 a o z e)) (fun a z => ?_) tb p⟩
  · obtain ⟨I2, r2⟩ := I.called sf sh tb fh fn nw hh ne
    exact q F' H' v e I2 sf r2 p
  · obtain ⟨_, h2, _⟩ := I.pp a z
    obtain ⟨x1, x2, x3, x4, e, rr⟩ := h2
    exact ⟨x1, x2, x3, x4, sh _ _ (fun _ z => nomatch z) e, rr⟩
instance (priority := 900) snd_call {den : List D → (En → Prop) → (Value → Prop) → Prop} {dvs : List V} [sl : SndA K E ψ al dal] : Snd K E ψ (tCall (spX K den) dvs E al) (dCall den dvs ψ dal) := ⟨fun {c F H σ Γ φ Q} I eo h q => by
  refine sl.run I eo h fun F1 H1 vs xs Γ1 I1 s1 r1 h1 => ?_
  exact call_run I1 eo (r1.app (Reps.scs h1.1)) h1.2 fun F2 H2 v e I2 s2 r2 p => q F2 H2 v e Γ1 I2 (s1.trans s2) r2 p⟩
instance snd_call0 {den : List D → (En → Prop) → (Value → Prop) → Prop} {dvs : List V} [sl : SndA K E ψ al dal] : Snd K E ψ (tCall (spX K den) dvs E0 al) (dCall den dvs (fun _ => False) dal) := ⟨fun {c F H σ Γ φ Q} I eo h q => by
  refine sl.run I eo h fun F1 H1 vs xs Γ1 I1 s1 r1 h1 => ?_
  exact call_run (ψ' := fun _ => False) I1 (fun _ _ _ _ _ z => z) (r1.app (Reps.scs h1.1)) h1.2 fun F2 H2 v e I2 s2 r2 p => q F2 H2 v e Γ1 I2 (s1.trans s2) r2 p⟩
/-- with a pen ahead -/
def dCallP (i : Nat) (den : List D → (En → Prop) → Prop) (dvs : List V) (dal : DA) : DT := fun Γ φ => Γ[i]? = some .pen ∧ dal Γ fun xs Γ1 => Γ1[i]? = some .pen ∧ (dvs.all isSc) = true ∧ den (xs ++ dvs.map vD) fun e => φ e Γ1
instance snd_callP {i : Nat} {den : List D → (En → Prop) → Prop} {dvs : List V} {E' : XK} [sl : SndA K E ψ al dal] : Snd K E ψ (tCall (spP K den) dvs E' (tCons (tVar i) al)) (dCallP i den dvs dal) := ⟨fun {c F H σ Γ φ Q} I eo h q => by
  obtain ⟨g, h⟩ := h
  obtain ⟨v, hv, p, rfl, _⟩ := I.at_ i _ g (fun z => nomatch z)
  refine ⟨_, hv, ?_⟩
  refine sl.run I eo h fun F1 H1 vs xs Γ1 I1 s1 r1 h1 => ?_
  obtain ⟨g1, hsc, h1⟩ := h1
  obtain ⟨v', hv', p', ev, fp, h0p, pen⟩ := I1.at_ i _ g1 (fun z => nomatch z)
  rw [hv] at hv'
  cases hv'
  cases ev
  refine ⟨p, vs ++ dvs, F1, xs ++ dvs.map vD, fun e => φ e Γ1, rfl, fp, pen, I1.fh, I1.fn, I1.tb, r1.app (Reps.scs hsc), h1, fun F' H' v e sf k tb pen' fh fn nw hh ne np hp => ?_⟩
  have I2 := I1.growP g1 hv sf k tb pen' fh fn nw
  refine q F' H' v e Γ1 I2 (s1.trans sf) ⟨hh.to (fun a x => ⟨fun z => I1.unN z, fun z => by cases z; exact h0p⟩) (fun _ z => nomatch z), ne, fun a x => ?_⟩ hp
  exact I1.freshN ((hh.h0 x).resolve_right fun z => np z.1)⟩
end
end Da

set_option Elab.async false
set_option maxRecDepth 100000
set_option maxHeartbeats 4000000
set_option linter.all false
namespace Da
open PySem PySem.Spec PyProof.Rows L2 RZ HmS
/-- what is to hold behind a statement -/
structure Po where
  nx : List En → Prop
  rt : En → List En → Prop
  bk : List En → Prop
  ct : List En → Prop
abbrev DSt := List En → Po → Prop
structure Meets {K : PySem.W.Frag} [HasT K] (c : Ct K) (P : Po) (D : Ends) : Prop where
  nx : ∀ F H σ Γ, Is c F H σ Γ → P.nx Γ → D.nx σ H
  rt : ∀ F H σ Γ v e, Is c F H σ Γ → Held c F H e v → e ≠ .no → P.rt e Γ → D.rt v H
  bk : ∀ F H σ Γ, Is c F H σ Γ → P.bk Γ → D.bk σ H
  ct : ∀ F H σ Γ, Is c F H σ Γ → P.ct Γ → D.ct σ H
class SndS (K : PySem.W.Frag) [HasT K] (E : XK) (ψ : Value → Prop) (t : TS) (den : outParam DSt) : Prop where
  run : ∀ {c : Ct K} {F H : Hp} {σ : L2.St} {Γ : List En} {P : Po} {D : Ends}, Is c F H σ Γ → EOk c E ψ → den Γ P → Meets c P D → t D σ H
section
variable {K : PySem.W.Frag} [HasT K] {E : XK} {ψ : Value → Prop} {te ta tb tx : TE} {da db dx de : DT} {tt tu : TT} {dtt dtu : DB} {al : TA} {dal : DA} {t u : TS} {dt du : DSt}
def dNext : DSt := fun Γ P => P.nx Γ
instance snds_next : SndS K E ψ tNext dNext := ⟨fun {c F H σ Γ P D} I eo h m => m.nx _ _ _ _ I h⟩
def dSeq (dt du : DSt) : DSt := fun Γ P => dt Γ { P with nx := fun Γ1 => du Γ1 P }
instance snds_seq [a : SndS K E ψ t dt] [b : SndS K E ψ u du] : SndS K E ψ (tSeq t u) (dSeq dt du) := ⟨fun {c F H σ Γ P D} I eo h m =>
  a.run (P := { P with nx := fun Γ1 => du Γ1 P }) I eo h ⟨fun _ _ _ _ I1 h1 => b.run I1 eo h1 m, m.rt, m.bk, m.ct⟩⟩
def dBreak : DSt := fun Γ P => P.bk Γ
def dCont : DSt := fun Γ P => P.ct Γ
instance snds_break : SndS K E ψ tBreak dBreak := ⟨fun {c F H σ Γ P D} I eo h m => m.bk _ _ _ _ I h⟩
instance snds_cont : SndS K E ψ tCont dCont := ⟨fun {c F H σ Γ P D} I eo h m => m.ct _ _ _ _ I h⟩
def dNever : DSt := fun _ _ => False
instance snds_never : SndS K E ψ tNever dNever := ⟨fun _ _ h _ => h⟩
/-- raise C('..') -/
def tRse (E : XK) (C : Value) : TS := fun _ _ H => E C none H
def dRse (ψ : Value → Prop) (C : Value) : DSt := fun _ _ => ψ C
instance snds_rse {C : Value} : SndS K E ψ (tRse E C) (dRse ψ C) := ⟨fun {c F H σ Γ P D} I eo h m => eo C H I.h0 (fun p hp => (I.pp p hp).2.1) I.tb h⟩
def dDrop (da : DT) : DSt := fun Γ P => da Γ fun _ Γ1 => P.nx Γ1
instance (priority := 900) snds_drop [a : Snd K E ψ ta da] : SndS K E ψ (tDrop ta) (dDrop da) := ⟨fun {c F H σ Γ P D} I eo h m => a.run (φ := fun _ Γ1 => P.nx Γ1) I eo h fun _ _ _ _ _ I1 _ _ h1 => m.nx _ _ _ _ I1 h1⟩
def dRet (da : DT) : DSt := fun Γ P => da Γ fun e Γ1 => P.rt e Γ1
instance (priority := 900) snds_ret [a : Snd K E ψ ta da] : SndS K E ψ (tRet ta) (dRet da) := ⟨fun {c F H σ Γ P D} I eo h m => a.run (φ := fun e Γ1 => P.rt e Γ1) I eo h fun _ _ _ _ _ I1 _ r1 h1 => m.rt _ _ _ _ _ _ I1 r1.1 r1.2.1 h1⟩
/-- what a slot owns is handed on -/
def dRetv (i : Nat) : DSt := fun Γ P => ∃ e, Γ[i]? = some e ∧ e ≠ .no ∧ P.rt e Γ
instance snds_retv (i : Nat) : SndS K E ψ (tRet (tVar i)) (dRetv i) := ⟨fun {c F H σ Γ P D} I eo h m => by
  obtain ⟨e, g, n, h⟩ := h
  obtain ⟨v, hv, hh⟩ := I.at_ i e g n
  exact ⟨v, hv, m.rt _ _ _ _ _ _ I hh n h⟩⟩
def dRetN : DSt := fun Γ P => P.rt (.d .non) Γ
instance snds_retN : SndS K E ψ tRetN dRetN := ⟨fun {c F H σ Γ P D} I eo h m => m.rt _ _ _ _ _ (.d .non) I (.non : Rep F .non .non) (fun z => nomatch z) h⟩
def dIfS (dtt : DB) (dt du : DSt) : DSt := fun Γ P => dtt Γ fun b Γ1 => if b = true then dt Γ1 P else du Γ1 P
instance snds_if [s : SndT K E ψ tt dtt] [a : SndS K E ψ t dt] [b : SndS K E ψ u du] : SndS K E ψ (tIfS tt t u) (dIfS dtt dt du) := ⟨fun {c F H σ Γ P D} I eo h m => by
  refine s.run I eo h fun F1 H1 b Γ1 I1 s1 h1 => ?_
  cases b with
  | true => exact iteT (a.run I1 eo h1 m)
  | false => exact iteF (b.run I1 eo h1 m)⟩
def dAsg (i : Nat) (da : DT) : DSt := fun Γ P => da Γ fun e Γ1 => P.nx (Γ1.set i e)
instance (priority := 900) snds_asg {i : Nat} [a : Snd K E ψ ta da] : SndS K E ψ (tAsg ta (gName i)) (dAsg i da) := ⟨fun {c F H σ Γ P D} I eo h m => a.run (φ := fun e Γ1 => P.nx (Γ1.set i e)) I eo h fun _ _ v e _ I1 _ r1 h1 => m.nx _ _ _ _ (I1.set r1 i) h1⟩
def dAsgT (dg : D → List En → (List En → Prop) → Prop) (da : DT) : DSt := fun Γ P => da Γ fun e Γ1 => wf e fun x => dg x Γ1 P.nx
instance snds_asgT {n : Nat} {gs : TGs} {gv : List Nat} {dg : D → List En → (List En → Prop) → Prop} [s : SndG K (gTup K n gs) gv dg] [a : Snd K E ψ ta da] : SndS K E ψ (tAsg ta (gTup K n gs)) (dAsgT dg da) := ⟨fun {c F H σ Γ P D} I eo h m =>
  a.frz (φ := fun _ _ => True) (k := fun x Γ1 => dg x Γ1 P.nx) I eo h fun F1 H1 v x Γ1 I1 s1 rp h1 => s.run I1 rp h1 fun σ2 Γ2 I2 _ h2 => m.nx _ _ _ _ I2 h2⟩
def dPar (i j : Nat) (da db : DT) : DSt := fun Γ P => da Γ fun e Γ1 => wf e fun x => db Γ1 fun e' Γ2 => P.nx ((Γ2.set i (.d x)).set j e')
instance snds_par {i j : Nat} [a : Snd K E ψ ta da] [b : Snd K E ψ tb db] : SndS K E ψ (tPar i j (tCons ta (tCons tb tNil))) (dPar i j da db) := ⟨fun {c F H σ Γ P D} I eo h m => by
  refine a.frz (φ := fun _ _ => True) (k := fun x Γ1 => db Γ1 fun e' Γ2 => P.nx ((Γ2.set i (.d x)).set j e')) I eo h fun F1 H1 v x Γ1 I1 s1 rp h1 => ?_
  refine b.run I1 eo h1 fun F2 H2 w e Γ2 I2 s2 r2 h2 => ⟨v, w, rfl, ?_⟩
  refine m.nx _ _ _ _ ((I2.set (Res.d (rp.mono s2)) i).set (e := e) ⟨r2.1, r2.2.1, fun a x k e' v' g s' x' => ?_⟩ j) h2
  by_cases z : i = k
  · subst z
    have l : i < Γ2.length := by
      have := (List.getElem?_eq_some_iff.mp g).1
      simpa using this
    rw [List.getElem?_set_self l] at g
    cases g
    exact x'
  · rw [List.getElem?_set_ne z] at g s'
    exact r2.2.2 a x k e' v' g s' x'⟩
/-! ### what a slot owns is changed -/
theorem Is.slot {c : Ct K} {F H : Hp} {σ : L2.St} {Γ : List En} {i : Nat} {a : Addr} {o : HO} {e e' : En} (I : Is c F H σ Γ) (g : Γ[i]? = some e) (s : σ[i]? = some (some (.ref a))) (oe : Adr e (.ref a) a) (h0 : c.H0 a = none)
    (hh : Held c F (upd H a o) e' (.ref a)) (n : e' ≠ .no) (oe' : ∀ b, Adr e' (.ref a) b → Adr e (.ref a) b) : Is c F (upd H a o) σ (Γ.set i e') := by
  obtain ⟨v, hv, I1, r⟩ := I.resOf g (adr_no oe)
  rw [s] at hv
  cases hv
  obtain ⟨fa, hard, u, h3, h4⟩ := r.1.adr oe
  have pn : c.pn ≠ some a := fun z => (I.pp a z).2.2 h0
  have I2 := I1.chg (o := o) ⟨fa, h0, pn, r.2.2 a oe⟩ h3 h4 (fun vs z => hard (soft_nt (.inr ⟨vs, by rw [h3, z]⟩)))
  have I3 := I2.set (v := .ref a) (e := e') ⟨hh, n, fun b x => r.2.2 b (oe' b x)⟩ i
  rw [set_same s, List.set_set] at I3
  exact I3
theorem Is.slotL {c : Ct K} {F H : Hp} {σ : L2.St} {Γ : List En} {i : Nat} {a : Addr} {xs ys : List D} {us : List V} (I : Is c F H σ Γ) (g : Γ[i]? = some (.lst xs)) (s : σ[i]? = some (some (.ref a))) (fa : F a = none) (h0 : c.H0 a = none) (rs : Reps F us ys) :
    Is c F (upd H a (.lst us)) σ (Γ.set i (.lst ys)) := I.slot (e' := .lst ys) g s rfl h0 ⟨a, us, rfl, fa, h0, upd_same, rs⟩ (fun z => nomatch z) fun b x => x
/-- xs.append(e), xs in a slot -/
def dApp (i : Nat) (da : DT) : DSt := fun Γ P => (∃ xs, Γ[i]? = some (.lst xs)) ∧ da Γ fun e Γ1 => wf e fun x => ∃ xs, Γ1[i]? = some (.lst xs) ∧ xs.length ≤ 100000 ∧ P.nx (Γ1.set i (.lst (xs ++ [x])))
instance snds_app {i : Nat} [a : Snd K E ψ ta da] : SndS K E ψ (tDrop (tBM K "list" rAppend (tVar i) (tCons ta tNil))) (dApp i da) := ⟨fun {c F H σ Γ P D} I eo h m => by
  obtain ⟨⟨xs, g⟩, h⟩ := h
  obtain ⟨v, hv, p, vs, rfl, fp, h0, hp, rs⟩ := I.at_ i _ g (fun z => nomatch z)
  refine ⟨_, hv, .inl ⟨rfl, vs, SqL.of hp⟩, ?_⟩
  refine a.frz (φ := fun _ _ => True) (k := fun x Γ1 => ∃ xs, Γ1[i]? = some (.lst xs) ∧ xs.length ≤ 100000 ∧ P.nx (Γ1.set i (.lst (xs ++ [x])))) I eo h fun F1 H1 w x Γ1 I1 s1 rp h1 => ?_
  obtain ⟨ys, g1, l1, h1⟩ := h1
  obtain ⟨v', hv', p', us, ev, fp1, h01, hp1, rs1⟩ := I1.at_ i _ g1 (fun z => nomatch z)
  rw [hv] at hv'
  cases hv'
  cases ev
  refine ⟨p, us, w, rfl, rfl, hp1, by rw [rs1.length]; exact Nat.lt_of_le_of_lt l1 (by decide), ?_⟩
  exact m.nx _ _ _ _ (I1.slotL g1 hv fp1 h01 (rs1.snoc rp)) h1⟩
/-- xs.extend(e) -/
def dExt (i : Nat) (da : DT) : DSt := fun Γ P => (∃ xs, Γ[i]? = some (.lst xs)) ∧ da Γ fun e Γ1 => wl e fun ys => ∃ xs, Γ1[i]? = some (.lst xs) ∧ xs.length + ys.length ≤ 100000 ∧ P.nx (Γ1.set i (.lst (xs ++ ys)))
instance snds_ext {i : Nat} [a : Snd K E ψ ta da] : SndS K E ψ (tDrop (tBM K "list" rExtend (tVar i) (tCons ta tNil))) (dExt i da) := ⟨fun {c F H σ Γ P D} I eo h m => by
  obtain ⟨⟨xs, g⟩, h⟩ := h
  obtain ⟨v, hv, p, vs, rfl, fp, h0, hp, rs⟩ := I.at_ i _ g (fun z => nomatch z)
  refine ⟨_, hv, .inl ⟨rfl, vs, SqL.of hp⟩, ?_⟩
  refine a.run I eo h fun F1 H1 w e Γ1 I1 s1 r1 h1 => ?_
  obtain ⟨F2, b, ws, ys, rfl, I2, s2, eb, rw2, ys1, g1, l1, h2⟩ := r1.frzL I1 h1
  obtain ⟨v', hv', p', us, ev, fp1, h01, hp1, rs1⟩ := I2.at_ i _ g1 (fun z => nomatch z)
  rw [hv] at hv'
  cases hv'
  cases ev
  refine ⟨p, b, us, ws, rfl, rfl, hp1, I2.fh _ _ eb, by rw [rs1.length, rw2.length]; exact Nat.le_trans l1 (by decide), ?_⟩
  exact m.nx _ _ _ _ (I2.slotL g1 hv fp1 h01 (rs1.app rw2)) h2⟩
/-- xs[j] = e -/
def dSetL (i : Nat) (dj da : DT) : DSt := fun Γ P => da Γ fun e Γ1 => wf e fun x => (∃ xs, Γ1[i]? = some (.lst xs)) ∧ dj Γ1 fun e' Γ2 => wi e' fun j => ∃ xs k, Γ2[i]? = some (.lst xs) ∧ ixN xs.length j = some k ∧ P.nx (Γ2.set i (.lst (xs.set k x)))
instance snds_setL {i : Nat} [a : Snd K E ψ ta da] [b : Snd K E ψ tb db] : SndS K E ψ (tAsg ta (gSub (tVar i) tb rSetL)) (dSetL i db da) := ⟨fun {c F H σ Γ P D} I eo h m => by
  refine a.frz (φ := fun _ _ => True) (k := fun x Γ1 => (∃ xs, Γ1[i]? = some (.lst xs)) ∧ db Γ1 fun e' Γ2 => wi e' fun j => ∃ xs k, Γ2[i]? = some (.lst xs) ∧ ixN xs.length j = some k ∧ P.nx (Γ2.set i (.lst (xs.set k x)))) I eo h fun F1 H1 w x Γ1 I1 s1 rp h1 => ?_
  obtain ⟨⟨xs, g⟩, h1⟩ := h1
  obtain ⟨v, hv, p, vs, rfl, fp, h0, hp, rs⟩ := I1.at_ i _ g (fun z => nomatch z)
  refine ⟨_, hv, ?_⟩
  refine b.run I1 eo h1 fun F2 H2 u e Γ2 I2 s2 r2 h2 => ?_
  obtain ⟨j, rfl, ys, k, g2, hk, h2⟩ := wi_of h2
  cases (show Rep F2 u (.int j) from r2.1)
  obtain ⟨v', hv', p', us, ev, fp1, h01, hp1, rs1⟩ := I2.at_ i _ g2 (fun z => nomatch z)
  rw [hv] at hv'
  cases hv'
  cases ev
  refine ⟨p, us, j, k, rfl, rfl, hp1, by rw [rs1.length]; exact hk, ?_⟩
  exact m.nx _ _ _ _ (I2.slotL g2 hv fp1 h01 (rs1.set (rp.mono s2))) h2⟩
/-- xs.pop(j) as a value -/
def dPopAt (i : Nat) (dj : DT) : DT := fun Γ φ => (∃ xs, Γ[i]? = some (.lst xs)) ∧ dj Γ fun e' Γ1 => wi e' fun j => ∃ xs k x, Γ1[i]? = some (.lst xs) ∧ -100000 ≤ j ∧ j ≤ 100000 ∧ seqIndex? j xs.length = some k ∧ xs[k]? = some x ∧ φ (.d x) (Γ1.set i (.lst (xs.eraseIdx k)))
instance snd_popAt {i : Nat} [b : Snd K E ψ tb db] : Snd K E ψ (tBM K "list" rPopAt (tVar i) (tCons tb tNil)) (dPopAt i db) := ⟨fun {c F H σ Γ φ Q} I eo h q => by
  obtain ⟨⟨xs, g⟩, h⟩ := h
  obtain ⟨v, hv, p, vs, rfl, fp, h0, hp, rs⟩ := I.at_ i _ g (fun z => nomatch z)
  refine ⟨_, hv, .inl ⟨rfl, vs, SqL.of hp⟩, ?_⟩
  refine b.run I eo h fun F2 H2 u e Γ2 I2 s2 r2 h2 => ?_
  obtain ⟨j, rfl, ys, k, x, g2, j0, j1, hk, hx, h2⟩ := wi_of h2
  cases (show Rep F2 u (.int j) from r2.1)
  obtain ⟨v', hv', p', us, ev, fp1, h01, hp1, rs1⟩ := I2.at_ i _ g2 (fun z => nomatch z)
  rw [hv] at hv'
  cases hv'
  cases ev
  obtain ⟨w, hw, rw1⟩ := rs1.get hx
  refine ⟨p, us, j, k, w, rfl, rfl, hp1, by omega, by omega, by rw [rs1.length]; exact hk, hw, ?_⟩
  exact q _ _ _ _ _ (I2.slotL g2 hv fp1 h01 (rs1.eraseIdx k)) s2 (Res.d rw1) h2⟩
/-! ### dicts with int and text keys that a slot owns -/
def kD : Key → D
  | .inl i => .int i
  | .inr s => .str s
def keyOf : D → Option Key
  | .int i => some (.inl i)
  | .str s => some (.inr s)
  | _ => none
theorem keyOf_rep {F : Hp} {v : V} {x : D} {k : Key} (r : Rep F v x) (h : keyOf x = some k) : v = kV k := by
  cases r <;> first | (cases h; rfl) | (cases h; done)
def lookD {κ : Type} [DecidableEq κ] : List κ → List D → κ → Option D
  | k :: ks, x :: xs, j => if k = j then some x else lookD ks xs j
  | _, _, _ => none
theorem valV_look {κ : Type} [DecidableEq κ] {F : Hp} {j : κ} : ∀ {kvs : List (κ × V)} {ks : List κ} {ds : List D}, kvs.map (·.1) = ks → Reps F (kvs.map (·.2)) ds →
    (∀ x, lookD ks ds j = some x → ∃ v, valV kvs j = some v ∧ Rep F v x) ∧ (lookD ks ds j = none → valV kvs j = none)
  | [], _, _, rfl, .nil => ⟨(fun x h => nomatch h), (fun _ => rfl)⟩
  | (k, v) :: r, _, _, rfl, .cons a b => by
    obtain ⟨h1, h2⟩ := valV_look (j := j) (kvs := r) rfl b
    by_cases z : k = j
    · refine ⟨fun x h => ?_, fun h => ?_⟩
      · simp only [List.map_cons, lookD, if_pos z] at h
        cases h
        exact ⟨v, valV_pos z, a⟩
      · simp only [List.map_cons, lookD, if_pos z] at h
        cases h
    · refine ⟨fun x h => ?_, fun h => ?_⟩
      · simp only [List.map_cons, lookD, if_neg z] at h
        obtain ⟨w, e, rp⟩ := h1 x h
        exact ⟨w, by rw [valV_neg z]; exact e, rp⟩
      · simp only [List.map_cons, lookD, if_neg z] at h
        rw [valV_neg z]
        exact h2 h
/-- a dict as data, as a slot has it -/
def dkOf (e : En) : Option (List Key × List D) := match e with
  | .d (.dK ks xs) => some (ks, xs)
  | .dK ks xs => some (ks, xs)
  | _ => none
theorem Held.dk {c : Ct K} {F H : Hp} {e : En} {v : V} {ks : List Key} {xs : List D} (fh : Same F H) (h : Held c F H e v) (k : dkOf e = some (ks, xs)) : ∃ a kvs, v = .ref a ∧ H a = some (.dK kvs) ∧ kvs.map (·.1) = ks ∧ Reps F (kvs.map (·.2)) xs := by
  cases e with
  | d x =>
    cases x with
    | dK ks' xs' =>
      cases k
      have h : Rep F v (.dK ks xs) := h
      cases h with
      | dK e1 e2 r => exact ⟨_, _, rfl, fh _ _ e1, e2, r⟩
    | _ => cases k
  | dK ks' xs' =>
    cases k
    obtain ⟨a, kvs, rfl, _, _, h1, h2, h3⟩ := h
    exact ⟨a, kvs, rfl, h1, h2, h3⟩
  | _ => cases k
/-- d[k], d in a slot -/
def dDGet (i : Nat) (db : DT) : DT := fun Γ φ => (∃ e ks xs, Γ[i]? = some e ∧ dkOf e = some (ks, xs)) ∧ db Γ fun e' Γ1 => wf e' fun y => ∃ e ks xs k x, Γ1[i]? = some e ∧ dkOf e = some (ks, xs) ∧ keyOf y = some k ∧ lookD ks xs k = some x ∧ φ (.d x) Γ1
theorem dk_no {e : En} {p : List Key × List D} (h : dkOf e = some p) : e ≠ .no := fun z => by rw [z] at h; cases h
instance snd_dget {i : Nat} [b : Snd K E ψ tb db] : Snd K E ψ (tDGet (tVar i) tb) (dDGet i db) := ⟨fun {c F H σ Γ φ Q} I eo h q => by
  obtain ⟨⟨e, ks, xs, g, hk⟩, h⟩ := h
  obtain ⟨v, hv, hh⟩ := I.at_ i _ g (dk_no hk)
  obtain ⟨a, kvs, rfl, _⟩ := hh.dk I.fh hk
  refine ⟨_, hv, ?_⟩
  refine b.frz (φ := fun _ _ => True) (k := fun y Γ1 => ∃ e ks xs k x, Γ1[i]? = some e ∧ dkOf e = some (ks, xs) ∧ keyOf y = some k ∧ lookD ks xs k = some x ∧ φ (.d x) Γ1) I eo h fun F1 H1 w y Γ1 I1 s1 rp h1 => ?_
  obtain ⟨e1, ks1, xs1, k, x, g1, hk1, hy, hl, h1⟩ := h1
  obtain ⟨v', hv', hh1⟩ := I1.at_ i _ g1 (dk_no hk1)
  rw [hv] at hv'
  cases hv'
  obtain ⟨a', kvs1, ea, ha, ek, rs⟩ := hh1.dk I1.fh hk1
  cases ea
  obtain ⟨u, hu, ru⟩ := (valV_look ek rs).1 x hl
  refine ⟨a, u, rfl, ?_, q F1 H1 u _ Γ1 I1 s1 (Res.d ru) h1⟩
  rw [keyOf_rep rp hy, ← hu]
  exact DGet.k (k := k) ha⟩
/-- k in d, d in a slot -/
def dDIn (neg : Bool) (i : Nat) (db : DT) : DT := fun Γ φ => db Γ fun e' Γ1 => wf e' fun y => ∃ e ks xs k, Γ1[i]? = some e ∧ dkOf e = some (ks, xs) ∧ keyOf y = some k ∧ φ (.d (.bl (if neg then !(lookD ks xs k).isSome else (lookD ks xs k).isSome))) Γ1
theorem look_some {F : Hp} {kvs : List (Key × V)} {ks : List Key} {ds : List D} {k : Key} (ek : kvs.map (·.1) = ks) (rs : Reps F (kvs.map (·.2)) ds) : (valV kvs k).isSome = (lookD ks ds k).isSome := by
  obtain ⟨h1, h2⟩ := valV_look (j := k) ek rs
  cases e : lookD ks ds k with
  | none =>
    rw [h2 e]
    rfl
  | some x =>
    obtain ⟨v, hv, _⟩ := h1 x e
    rw [hv]
    rfl
instance snd_din {i : Nat} [b : Snd K E ψ tb db] : Snd K E ψ (tDIn tb (tVar i)) (dDIn false i db) := ⟨fun {c F H σ Γ φ Q} I eo h q => by
  refine b.frz (φ := fun _ _ => True) (k := fun y Γ1 => ∃ e ks xs k, Γ1[i]? = some e ∧ dkOf e = some (ks, xs) ∧ keyOf y = some k ∧ φ (.d (.bl (if false then !(lookD ks xs k).isSome else (lookD ks xs k).isSome))) Γ1) I eo h fun F1 H1 w y Γ1 I1 s1 rp h1 => ?_
  obtain ⟨e, ks, xs, k, g, hk, hy, h1⟩ := h1
  obtain ⟨v, hv, hh⟩ := I1.at_ i _ g (dk_no hk)
  obtain ⟨a, kvs, rfl, ha, ek, rs⟩ := hh.dk I1.fh hk
  refine ⟨_, hv, a, valV kvs k, rfl, ?_, ?_⟩
  · rw [keyOf_rep rp hy]
    exact DGet.k (k := k) ha
  · rw [look_some ek rs]
    exact q F1 H1 _ _ Γ1 I1 s1 (Res.d (.bl _)) h1⟩
instance snd_dnotin {i : Nat} [b : Snd K E ψ tb db] : Snd K E ψ (tDNotIn tb (tVar i)) (dDIn true i db) := ⟨fun {c F H σ Γ φ Q} I eo h q => by
  refine b.frz (φ := fun _ _ => True) (k := fun y Γ1 => ∃ e ks xs k, Γ1[i]? = some e ∧ dkOf e = some (ks, xs) ∧ keyOf y = some k ∧ φ (.d (.bl (if true then !(lookD ks xs k).isSome else (lookD ks xs k).isSome))) Γ1) I eo h fun F1 H1 w y Γ1 I1 s1 rp h1 => ?_
  obtain ⟨e, ks, xs, k, g, hk, hy, h1⟩ := h1
  obtain ⟨v, hv, hh⟩ := I1.at_ i _ g (dk_no hk)
  obtain ⟨a, kvs, rfl, ha, ek, rs⟩ := hh.dk I1.fh hk
  refine ⟨_, hv, a, valV kvs k, rfl, ?_, ?_⟩
  · rw [keyOf_rep rp hy]
    exact DGet.k (k := k) ha
  · rw [look_some ek rs]
    exact q F1 H1 _ _ Γ1 I1 s1 (Res.d (.bl _)) h1⟩
/-- {} -/
def dNewK : DT := fun Γ φ => φ (.dK [] []) Γ
instance snd_newK : Snd K E ψ tDNewK dNewK := ⟨fun {c F H σ Γ φ Q} I eo h q => fun p hp =>
  q F _ (.ref p) (.dK [] []) Γ (I.newH hp) (Same.refl F) ⟨⟨p, [], rfl, I.unF hp, I.un hp, upd_same, rfl, .nil⟩, (fun z => nomatch z), fun a e => by cases e; exact I.fresh hp⟩ h⟩
/-- d[k] = v, d in a slot -/
def hasK (ks : List Key) (j : Key) : Bool := ks.any fun k => decide (k = j)
def putKs (ks : List Key) (j : Key) : List Key := if hasK ks j = true then ks else ks ++ [j]
def putXs : List Key → List D → Key → D → List D
  | k :: ks, x :: xs, j, y => (if k = j then y else x) :: putXs ks xs j y
  | _, xs, j, y => xs
def putD (ks : List Key) (xs : List D) (j : Key) (y : D) : List D := if hasK ks j = true then putXs ks xs j y else xs ++ [y]
theorem putK_rep {F : Hp} {j : Key} {v : V} {y : D} (ry : Rep F v y) {kvs : List (Key × V)} {ks : List Key} {xs : List D} (ek : kvs.map (·.1) = ks) (rs : Reps F (kvs.map (·.2)) xs) :
    (putK kvs j v).map (·.1) = putKs ks j ∧ Reps F ((putK kvs j v).map (·.2)) (putD ks xs j y) := by
  unfold putK putKs putD
  have ea : (kvs.any fun kv => decide (kv.1 = j)) = hasK ks j := by
    subst ek
    unfold hasK
    rw [List.any_map]
    rfl
  rw [ea]
  by_cases hj : hasK ks j = true
  · rw [if_pos hj, if_pos hj, if_pos hj]
    constructor
    · rw [← ek, List.map_map]
      refine List.map_congr_left fun p _ => ?_
      show (if p.1 = j then (p.1, v) else p).1 = p.1
      split <;> rfl
    · clear ea hj
      subst ek
      induction kvs generalizing xs with
      | nil =>
        cases rs
        exact .nil
      | cons p r ih =>
        cases rs with
        | cons a b =>
          rw [List.map_cons, List.map_cons]
          refine .cons ?_ (ih b)
          show Rep F (if p.1 = j then (p.1, v) else p).2 (if p.1 = j then y else _)
          by_cases z : p.1 = j
          · rw [if_pos z, if_pos z]
            exact ry
          · rw [if_neg z, if_neg z]
            exact a
  · rw [if_neg hj, if_neg hj, if_neg hj]
    exact ⟨by rw [List.map_append, ek]; rfl, by rw [List.map_append]; exact rs.app (.cons ry .nil)⟩
def dDPut (i : Nat) (dj da : DT) : DSt := fun Γ P => da Γ fun e Γ1 => wf e fun x => (∃ ks xs, Γ1[i]? = some (.dK ks xs)) ∧ dj Γ1 fun e' Γ2 => wf e' fun y => ∃ ks xs k, Γ2[i]? = some (.dK ks xs) ∧ keyOf y = some k ∧ ks.length ≤ 100000 ∧ P.nx (Γ2.set i (.dK (putKs ks k) (putD ks xs k x)))
instance snds_dput {i : Nat} [a : Snd K E ψ ta da] [b : Snd K E ψ tb db] : SndS K E ψ (sDPut (tVar i) tb ta) (dDPut i db da) := ⟨fun {c F H σ Γ P D} I eo h m => by
  refine a.frz (φ := fun _ _ => True) (k := fun x Γ1 => (∃ ks xs, Γ1[i]? = some (.dK ks xs)) ∧ db Γ1 fun e' Γ2 => wf e' fun y => ∃ ks xs k, Γ2[i]? = some (.dK ks xs) ∧ keyOf y = some k ∧ ks.length ≤ 100000 ∧ P.nx (Γ2.set i (.dK (putKs ks k) (putD ks xs k x)))) I eo h fun F1 H1 w x Γ1 I1 s1 rp h1 => ?_
  obtain ⟨⟨ks0, xs0, g⟩, h1⟩ := h1
  obtain ⟨v, hv, p, kvs, rfl, fp, h0, hp, ek, rs⟩ := I1.at_ i _ g (fun z => nomatch z)
  refine ⟨_, hv, ?_⟩
  refine b.frz (φ := fun _ _ => True) (k := fun y Γ2 => ∃ ks xs k, Γ2[i]? = some (.dK ks xs) ∧ keyOf y = some k ∧ ks.length ≤ 100000 ∧ P.nx (Γ2.set i (.dK (putKs ks k) (putD ks xs k x)))) I1 eo h1 fun F2 H2 u y Γ2 I2 s2 ry h2 => ?_
  obtain ⟨ks, xs, k, g2, hy, hl, h2⟩ := h2
  obtain ⟨v', hv', p', kvs2, ev, fp1, h01, hp1, ek1, rs1⟩ := I2.at_ i _ g2 (fun z => nomatch z)
  rw [hv] at hv'
  cases hv'
  cases ev
  have ll : kvs2.length = ks.length := by rw [← ek1, List.length_map]
  obtain ⟨k1, k2⟩ := putK_rep (rp.mono s2) ek1 rs1 (j := k)
  refine ⟨p, _, rfl, by rw [keyOf_rep ry hy]; exact DPut.k (k := k) hp1 (by rw [ll]; exact Nat.lt_of_le_of_lt hl (by decide)), ?_⟩
  exact m.nx _ _ _ _ (I2.slot (e' := .dK (putKs ks k) (putD ks xs k x)) g2 hv rfl h01 ⟨p, _, rfl, fp1, h01, upd_same, k1, k2⟩ (fun z => nomatch z) fun b x => x) h2⟩
/-- d.get(k), d in a slot or told by a call -/
def dGet1 (da db : DT) : DT := fun Γ φ => da Γ fun e Γ1 => wf e fun x => (∃ ks xs, x = .dK ks xs) ∧ db Γ1 fun e' Γ2 => wf e' fun y => ∃ ks xs k, x = .dK ks xs ∧ keyOf y = some k ∧ φ (.d ((lookD ks xs k).getD .non)) Γ2
instance snd_get1 [a : Snd K E ψ ta da] [b : Snd K E ψ tb db] : Snd K E ψ (tDGet1 ta tb) (dGet1 da db) := ⟨fun {c F H σ Γ φ Q} I eo h q => by
  refine a.frz (φ := fun _ _ => True) (k := fun x Γ1 => (∃ ks xs, x = .dK ks xs) ∧ db Γ1 fun e' Γ2 => wf e' fun y => ∃ ks xs k, x = .dK ks xs ∧ keyOf y = some k ∧ φ (.d ((lookD ks xs k).getD .non)) Γ2) I eo h fun F1 H1 v x Γ1 I1 s1 r1 h1 => ?_
  obtain ⟨⟨ks, xs, rfl⟩, h1⟩ := h1
  cases r1 with
  | @dK p kvs _ _ ep ek rs =>
    refine ⟨p, rfl, .inl ⟨kvs, .inl (I1.fh _ _ ep)⟩, ?_⟩
    refine b.frz (φ := fun _ _ => True) (k := fun y Γ2 => ∃ ks1 xs1 k, D.dK ks xs = .dK ks1 xs1 ∧ keyOf y = some k ∧ φ (.d ((lookD ks1 xs1 k).getD .non)) Γ2) I1 eo h1 fun F2 H2 u y Γ2 I2 s2 r2 h2 => ?_
    obtain ⟨ks1, xs1, k, e, hy, h2⟩ := h2
    cases e
    refine ⟨valV kvs k, ?_, ?_⟩
    · rw [keyOf_rep r2 hy]
      exact DGet.k (k := k) (I2.fh _ _ (s2 _ _ ep))
    · obtain ⟨z1, z2⟩ := valV_look (j := k) ek (rs.mono s2)
      cases el : lookD ks xs k with
      | none =>
        rw [z2 el]
        rw [el] at h2
        exact q F2 H2 _ _ Γ2 I2 (s1.trans s2) (Res.d .non) h2
      | some x =>
        obtain ⟨w, hw, rw1⟩ := z1 x el
        rw [hw]
        rw [el] at h2
        exact q F2 H2 _ _ Γ2 I2 (s1.trans s2) (Res.d rw1) h2⟩
/-! ### loops -/
def dFor (di : DA) (dg : D → List En → (List En → Prop) → Prop) (dt : DSt) : DSt := fun Γ P => di Γ fun items Γ1 => ∃ I : Nat → List En → Prop, I 0 Γ1 ∧
  ∀ i Γ', I i Γ' → (i = items.length → P.nx Γ') ∧ ∀ d, items[i]? = some d → dg d Γ' fun Γ2 => dt Γ2 { P with nx := I (i + 1), ct := I (i + 1), bk := P.nx }
instance snds_for {wi : TI} {g : TG} {gv : List Nat} {di : DA} {dg : D → List En → (List En → Prop) → Prop} [si : SndI K E ψ wi di] [sg : SndG K g gv dg] [sb : SndS K E ψ t dt] : SndS K E ψ (tFor wi g t) (dFor di dg dt) := ⟨fun {c F H σ Γ P D} I eo h m => by
  refine si.run I eo h fun F1 H1 J items Γ1 I1 s1 it h1 => ?_
  obtain ⟨IV, iv0, step⟩ := h1
  refine ⟨fun i m σ' H' => m = items.length - i ∧ i ≤ items.length ∧ ∃ F' Γ', Same F1 F' ∧ Is c F' H' σ' Γ' ∧ IV i Γ', ⟨_, rfl, Nat.zero_le _, F1, Γ1, Same.refl _, I1, iv0⟩, ?_⟩
  rintro i m' σ' H' ⟨rfl, hi, F', Γ', sF, I', iv⟩
  obtain ⟨st1, st2⟩ := step i Γ' iv
  by_cases hlt : i < items.length
  · obtain ⟨d, hd⟩ : ∃ d, items[i]? = some d := ⟨_, List.getElem?_eq_getElem hlt⟩
    obtain ⟨go, yl⟩ := (it _ F' H' σ' Γ' i I' sF).2 d hd
    refine .inr ⟨go, fun σ2 H2 => ∃ F2 Γ2, Same F1 F2 ∧ Is c F2 H2 σ2 Γ2 ∧ IV (i + 1) Γ2, fun σ2 H2 n2 => ⟨items.length - (i + 1), by omega, rfl, hlt, n2⟩, fun x H2 y => ?_⟩
    obtain ⟨F2, I2, sF2, rp⟩ := yl x H2 y
    refine sg.run I2 rp (st2 d hd) fun σ3 Γ3 I3 _ h3 => ?_
    exact sb.run (P := { P with nx := IV (i + 1), ct := IV (i + 1), bk := P.nx }) (c := ⟨F2, c.H0, c.pn, c.sc, c.hs⟩) ⟨Same.refl _, I3.fh, fun a o e => .inl e, I3.h0, I3.pp, I3.len, I3.at_, I3.dis, I3.fn, I3.tb, I3.hn⟩ eo h3
      ⟨fun Fa Ha σa Γa Ia ha => ⟨Fa, Γa, sF.trans (sF2.trans Ia.f0), ⟨I2.f0.trans Ia.f0, Ia.fh, fun a o e => (Ia.nw a o e).elim (fun z => I2.nw a o z) .inr, Ia.h0, Ia.pp, Ia.len, Ia.at_, Ia.dis, Ia.fn, Ia.tb, Ia.hn⟩, ha⟩,
       fun Fa Ha σa Γa v e Ia hh n ha => m.rt Fa Ha σa Γa v e ⟨I2.f0.trans Ia.f0, Ia.fh, fun a o e => (Ia.nw a o e).elim (fun z => I2.nw a o z) .inr, Ia.h0, Ia.pp, Ia.len, Ia.at_, Ia.dis, Ia.fn, Ia.tb, Ia.hn⟩ hh n ha,
       fun Fa Ha σa Γa Ia ha => m.nx Fa Ha σa Γa ⟨I2.f0.trans Ia.f0, Ia.fh, fun a o e => (Ia.nw a o e).elim (fun z => I2.nw a o z) .inr, Ia.h0, Ia.pp, Ia.len, Ia.at_, Ia.dis, Ia.fn, Ia.tb, Ia.hn⟩ ha,
       fun Fa Ha σa Γa Ia ha => ⟨Fa, Γa, sF.trans (sF2.trans Ia.f0), ⟨I2.f0.trans Ia.f0, Ia.fh, fun a o e => (Ia.nw a o e).elim (fun z => I2.nw a o z) .inr, Ia.h0, Ia.pp, Ia.len, Ia.at_, Ia.dis, Ia.fn, Ia.tb, Ia.hn⟩, ha⟩⟩
  · have e : i = items.length := by omega
    exact .inl ⟨(it _ F' H' σ' Γ' i I' sF).1 e, m.nx _ _ _ _ I' (st1 e)⟩⟩
def dWhile (dtt : DB) (dt : DSt) : DSt := fun Γ P => ∃ I : Nat → List En → Prop, (∃ m, I m Γ) ∧ ∀ m Γ', I m Γ' → dtt Γ' fun b Γ2 => if b = true then dt Γ2 { P with nx := fun Γ3 => ∃ m', m' < m ∧ I m' Γ3, ct := fun Γ3 => ∃ m', m' < m ∧ I m' Γ3, bk := P.nx } else P.nx Γ2
instance snds_while [s : SndT K E ψ tt dtt] [sb : SndS K E ψ t dt] : SndS K E ψ (tWhile tt t) (dWhile dtt dt) := ⟨fun {c F H σ Γ P D} I eo h m => by
  obtain ⟨IV, ⟨m0, iv0⟩, step⟩ := h
  refine ⟨fun n σ' H' => ∃ F' Γ', Is c F' H' σ' Γ' ∧ IV n Γ', ⟨m0, F, Γ, I, iv0⟩, ?_⟩
  rintro n σ' H' ⟨F', Γ', I', iv⟩
  refine s.run I' eo (step n Γ' iv) fun F2 H2 b Γ2 I2 s2 h2 => ?_
  cases b with
  | true =>
    refine iteT ⟨fun σ3 H3 => ∃ m', m' < n ∧ ∃ F3 Γ3, Is c F3 H3 σ3 Γ3 ∧ IV m' Γ3, fun σ3 H3 ⟨m', l, F3, Γ3, I3, iv3⟩ => ⟨m', l, F3, Γ3, I3, iv3⟩, ?_⟩
    exact sb.run (P := { P with nx := fun Γ3 => ∃ m', m' < n ∧ IV m' Γ3, ct := fun Γ3 => ∃ m', m' < n ∧ IV m' Γ3, bk := P.nx }) I2 eo h2
      ⟨fun Fa Ha σa Γa Ia ⟨m', l, iv⟩ => ⟨m', l, Fa, Γa, Ia, iv⟩, m.rt, m.nx, fun Fa Ha σa Γa Ia ⟨m', l, iv⟩ => ⟨m', l, Fa, Γa, Ia, iv⟩⟩
  | false => exact iteF (m.nx _ _ _ _ I2 h2)⟩
/-! ### a def's body -/
def st0 (N : List Str) (ds : List D) : List En := ds.map En.d ++ List.replicate (N.length - ds.length) .no
theorem enter {N : List Str} {F H : Hp} {vs : List V} {ds : List D} (fh : Same F H) (fn : FN F) (tb : TbOk K H) (r : Reps F vs ds) : Is (c0 K F H) F H (L2.start N vs) (st0 N ds) := by
  refine ⟨Same.refl F, fh, fun a o e => .inl e, fun a o _ e => (ntH_some e).1, (fun p e => nomatch e), ?_, fun i e g n => ?_, fun i j a e e' v v' ij g g' s s' o o' => ?_, fn, tb, fun a o e => (ntH_some e).2⟩
  · unfold L2.start st0
    rw [List.length_append, List.length_append, List.length_map, List.length_map, List.length_replicate, List.length_replicate, r.length]
  · unfold st0 at g
    rw [List.getElem?_append] at g
    split at g
    · rename_i hi
      rw [List.length_map] at hi
      rw [List.getElem?_map, List.getElem?_eq_getElem hi] at g
      cases g
      obtain ⟨v, hv, rp⟩ := r.get (List.getElem?_eq_getElem hi)
      refine ⟨v, ?_, rp⟩
      unfold L2.start
      rw [List.getElem?_append_left (by rw [List.length_map, r.length]; exact hi), List.getElem?_map, hv]
      rfl
    · rename_i hi
      exact absurd (List.mem_replicate.mp (List.mem_of_getElem? g)).2 n
  · unfold st0 at g
    rw [List.getElem?_append] at g
    split at g
    · rename_i hi
      rw [List.length_map] at hi
      rw [List.getElem?_map, List.getElem?_eq_getElem hi] at g
      cases g
      exact o
    · have := (List.mem_replicate.mp (List.mem_of_getElem? g)).2
      subst this
      exact o
def po (φ : En → Prop) : Po := ⟨fun _ => φ (.d .non), fun e _ => φ e, fun _ => False, fun _ => False⟩
/-- a def that lets no error out -/
theorem body0 {N : List Str} {vs : List V} {H : Hp} {Q : VK} {E' : XK} {den : List D → (En → Prop) → (Value → Prop) → Prop} [s : SndS K E0 (fun _ => False) t dt] (h : spX K den vs H Q E') (hd : ∀ ds φ ψ, den ds φ ψ → dt (st0 N ds) (po φ)) :
    t { nx := fun _ H' => Q .non H', rt := Q } (L2.start N vs) H := by
  obtain ⟨F, ds, φ, ψ', fh, fn, tb, r, h1, q, _⟩ := h
  refine s.run (enter fh fn tb r) (fun _ _ _ _ _ z => z) (hd ds φ ψ' h1) ⟨fun F' H' σ' Γ' I p => ?_, fun F' H' σ' Γ' v e I hh n p => ?_, fun _ _ _ _ _ z => z.elim, fun _ _ _ _ _ z => z.elim⟩
  · exact q F' H' .non (.d .non) I.f0 (fun a o n e => I.h0 a o (fun z => nomatch z) (ntH_of e n)) I.tb I.fh I.fn I.nw (.non : Rep F' .non .non) (fun z => nomatch z) p
  · exact q F' H' v e I.f0 (fun a o n e => I.h0 a o (fun z => nomatch z) (ntH_of e n)) I.tb I.fh I.fn I.nw hh n p
/-- a def that may raise -/
theorem bodyX {N : List Str} {vs : List V} {H : Hp} {Q : VK} {E' : XK} {den : List D → (En → Prop) → (Value → Prop) → Prop} {dts : (Value → Prop) → DSt} [s : ∀ ψ, SndS K E' ψ t (dts ψ)] (h : spX K den vs H Q E') (hd : ∀ ds φ ψ, den ds φ ψ → dts ψ (st0 N ds) (po φ)) :
    t { nx := fun _ H' => Q .non H', rt := Q } (L2.start N vs) H := by
  obtain ⟨F, ds, φ, ψ', fh, fn, tb, r, h1, q, qx⟩ := h
  refine (s ψ').run (enter fh fn tb r) (fun C H' h2 _ t2 z => qx C H' (fun a o n e => h2 a o (fun w => nomatch w) (ntH_of e n)) t2 z) (hd ds φ ψ' h1) ⟨fun F' H' σ' Γ' I p => ?_, fun F' H' σ' Γ' v e I hh n p => ?_, fun _ _ _ _ _ z => z.elim, fun _ _ _ _ _ z => z.elim⟩
  · exact q F' H' .non (.d .non) I.f0 (fun a o n e => I.h0 a o (fun z => nomatch z) (ntH_of e n)) I.tb I.fh I.fn I.nw (.non : Rep F' .non .non) (fun z => nomatch z) p
  · exact q F' H' v e I.f0 (fun a o n e => I.h0 a o (fun z => nomatch z) (ntH_of e n)) I.tb I.fh I.fn I.nw hh n p
/-- a def with a pen ahead -/
def stP (N : List Str) (ds : List D) : List En := .pen :: (ds.map En.d ++ List.replicate (N.length - (ds.length + 1)) .no)
theorem enterP {N : List Str} {F H : Hp} {p : Addr} {us : List V} {ds : List D} (fh : Same F H) (fn : FN F) (tb : TbOk K H) (fp : F p = none) (pen : PenAt H p) (r : Reps F us ds) : Is (cP K F H p) F H (L2.start N (.ref p :: us)) (stP N ds) := by
  have e1 : L2.start N (.ref p :: us) = some (.ref p) :: (us.map some ++ List.replicate (N.length - (us.length + 1)) none) := by unfold L2.start; rw [List.map_cons, List.length_cons]; rfl
  rw [e1]
  have low : ∀ (j : Nat) (e : En), (ds.map En.d ++ List.replicate (N.length - (ds.length + 1)) .no)[j]? = some e → e ≠ .no → ∃ x, e = .d x ∧ ds[j]? = some x := fun j e g n => by
    rw [List.getElem?_append] at g
    split at g
    · rename_i hi
      rw [List.length_map] at hi
      rw [List.getElem?_map, List.getElem?_eq_getElem hi] at g
      cases g
      exact ⟨_, rfl, List.getElem?_eq_getElem hi⟩
    · exact absurd (List.mem_replicate.mp (List.mem_of_getElem? g)).2 n
  have own0 : ∀ (j : Nat) (e : En) (v : V) (a : Addr), (stP N ds)[j]? = some e → Adr e v a → j = 0 := fun j e v a g o => by
    cases j with
    | zero => rfl
    | succ j =>
      obtain ⟨x, rfl, _⟩ := low j e (by simpa [stP] using g) (adr_no o)
      exact o.elim
  refine ⟨Same.refl F, fh, fun a o e => .inl e, fun a o _ e => (ntH_some e).1, fun q e => ?_, ?_, fun i e g n => ?_, fun i j a e e' v v' ij g g' s s' o o' => ij ((own0 i e v a g o).trans (own0 j e' v' a g' o').symm), fn, tb, fun a o e => (ntH_some e).2⟩
  · cases e
    obtain ⟨u, h1, h2⟩ := pen.pl
    exact ⟨fp, pen, fun z => by rw [show (cP K F H p).H0 p = ntH H p from rfl, ntH_of h1 h2.1] at z; cases z⟩
  · unfold stP
    rw [List.length_cons, List.length_cons, List.length_append, List.length_append, List.length_map, List.length_map, List.length_replicate, List.length_replicate, r.length]
  · cases i with
    | zero =>
      cases g
      exact ⟨_, rfl, p, rfl, fp, .inr rfl, pen⟩
    | succ i =>
      obtain ⟨x, rfl, hx⟩ := low i e (by simpa [stP] using g) n
      obtain ⟨v, hv, rp⟩ := r.get hx
      refine ⟨v, ?_, rp⟩
      rw [List.getElem?_cons_succ, List.getElem?_append_left (by rw [List.length_map]; exact (List.getElem?_eq_some_iff.mp hv).1), List.getElem?_map, hv]
      rfl
def poP (φ : En → Prop) : Po := ⟨fun _ => φ (.d .non), fun e _ => e ≠ .pen ∧ φ e, fun _ => False, fun _ => False⟩
theorem bodyP {N : List Str} {vs : List V} {H : Hp} {Q : VK} {E' : XK} {den : List D → (En → Prop) → Prop} [s : SndS K E0 (fun _ => False) t dt] (h : spP K den vs H Q E') (hd : ∀ ds φ, den ds φ → dt (stP N ds) (poP φ)) :
    t { nx := fun _ H' => Q .non H', rt := Q } (L2.start N vs) H := by
  obtain ⟨p, us, F, ds, φ, rfl, fp, pen, fh, fn, tb, r, h1, q⟩ := h
  have kk : ∀ {F' H' : Hp} {σ' : L2.St} {Γ' : List En}, Is (cP K F H p) F' H' σ' Γ' → ∀ a o, a ≠ p → NT o → H a = some o → H' a = some o := fun I a o n nt e => I.h0 a o (fun z => n (by cases z; rfl)) (ntH_of e nt)
  refine s.run (enterP fh fn tb fp pen r) (fun _ _ _ _ _ z => z) (hd ds φ h1) ⟨fun F' H' σ' Γ' I z => ?_, fun F' H' σ' Γ' v e I hh n z => ?_, fun _ _ _ _ _ z => z.elim, fun _ _ _ _ _ z => z.elim⟩
  · exact q F' H' .non (.d .non) I.f0 (kk I) I.tb (I.pp p rfl).2.1 I.fh I.fn I.nw (.non : Rep F' .non .non) (fun z => nomatch z) (fun z => nomatch z) z
  · exact q F' H' v e I.f0 (kk I) I.tb (I.pp p rfl).2.1 I.fh I.fn I.nw hh n z.1 z.2
end
end Da

set_option Elab.async false
set_option maxRecDepth 100000
set_option maxHeartbeats 4000000
set_option linter.all false
namespace Da
open PySem PySem.Spec PyProof.Rows L2 RZ HmS
/-! ### the script and the pen -/
def spS (K : PySem.W.Frag) [HasT K] (den : List D → (En → Prop) → Prop) : Sp := fun vs H Q _ => ∃ (a : Addr) (ns : List Int) (us : List V) (ds : List D) (φ : En → Prop), vs = .ref a :: us ∧ SqL K H a (ns.map V.int) ∧ us = ds.map (fun x => match x with | .int i => V.int i | _ => .non) ∧ ds.all (fun x => match x with | .int _ => true | _ => false) = true ∧ den ds φ ∧
  ∀ z : Int, φ (.d (.int z)) → Q (.int z) H
def dCallS (i : Nat) (den : List D → (En → Prop) → Prop) (dal : DA) : DT := fun Γ φ => (∃ ns, Γ[i]? = some (.scr ns)) ∧ dal Γ fun xs Γ1 => (∃ ns, Γ1[i]? = some (.scr ns)) ∧ xs.all (fun x => match x with | .int _ => true | _ => false) = true ∧ den xs fun e => φ e Γ1
/-- a new pen -/
def spPen0 : Sp := fun vs H Q _ => ∃ z : Int, vs = [.int z] ∧ ∀ p H', H p = none → PenAt H' p → (∀ b, b ≠ p → H' b = H b) → Q (.ref p) H'
section
variable {K : PySem.W.Frag} [HasT K] {E : XK} {ψ : Value → Prop} {te ta tb tx : TE} {da db dx : DT} {tt tu : TT} {dtt dtu : DB} {al : TA} {dal : DA} {t u : TS} {dt du : DSt}
theorem ints_of {F : Hp} : ∀ {vs : List V} {xs : List D}, Reps F vs xs → xs.all (fun x => match x with | .int _ => true | _ => false) = true → vs = xs.map (fun x => match x with | .int i => V.int i | _ => .non)
  | _, _, .nil, _ => rfl
  | _, _, .cons (d := d) a b, h => by
    rw [List.all_cons, Bool.and_eq_true] at h
    rw [List.map_cons, ← ints_of b h.2]
    cases a <;> first | rfl | exact absurd h.1 Bool.false_ne_true
instance snd_callS {i : Nat} {den : List D → (En → Prop) → Prop} {E' : XK} [sl : SndA K E ψ al dal] : Snd K E ψ (tCall (spS K den) [] E' (tCons (tVar i) al)) (dCallS i den dal) := ⟨fun {c F H σ Γ φ Q} I eo h q => by
  obtain ⟨⟨ns, g⟩, h⟩ := h
  obtain ⟨a, hv, _⟩ := I.script g
  refine ⟨_, hv, ?_⟩
  refine sl.run I eo h fun F1 H1 vs xs Γ1 I1 s1 r1 h1 => ?_
  obtain ⟨⟨ns1, g1⟩, hi, h1⟩ := h1
  obtain ⟨a', hv', hs⟩ := I1.script g1
  rw [hv] at hv'
  cases hv'
  refine ⟨a, ns1, vs ++ [], xs, fun e => φ e Γ1, rfl, hs, ?_, hi, h1, fun z hz => q F1 H1 _ _ Γ1 I1 s1 (Res.d (.int z)) hz⟩
  rw [List.append_nil]
  exact ints_of r1 hi⟩
def dPen0 (dal : DA) : DT := fun Γ φ => dal Γ fun xs Γ1 => ∃ z : Int, xs = [.int z] ∧ φ .pen Γ1
instance snd_pen0 {E' : XK} [sl : SndA K E ψ al dal] : Snd K E ψ (tCall spPen0 [] E' al) (dPen0 dal) := ⟨fun {c F H σ Γ φ Q} I eo h q => by
  refine sl.run I eo h fun F1 H1 vs xs Γ1 I1 s1 r1 h1 => ?_
  obtain ⟨z, rfl, h1⟩ := h1
  obtain ⟨x, rfl, rp⟩ := one_of r1
  cases rp
  refine ⟨z, rfl, fun p H' hp pen bt => ?_⟩
  have sh : Same H1 H' := fun b o e => by rw [bt b (ne_of_none e hp)]; exact e
  have I2 : Is c F1 H' σ Γ1 := I1.grow (Same.refl F1) sh (I1.fh.trans sh) I1.fn fun a o e => .inl e
  exact q F1 H' (.ref p) .pen Γ1 I2 s1 ⟨⟨p, rfl, I1.unF hp, .inl (I1.un hp), pen⟩, (fun z => nomatch z), fun a e => by cases e; exact I1.fresh hp⟩ h1⟩
/-! ### truth -/
theorem pt_tru {X : Cx} {a : Expr} {ta : TE} (ha : PE X a ta) (he : ∀ whole, isTrue a X.env whole = (do let v ← whole; standAt a.pos; holding [v] (truthy v)) := by intro _; rfl) {K : PySem.W.Frag} (hK : X.K = K := by rfl) : PT X a (tTru K ta) := by
  subst hK
  exact pt_truth ha he
def truD : D → Option Bool
  | .non => some false
  | .int i => some (i != 0)
  | .tup xs => some (!xs.isEmpty)
  | .lst xs => some (!xs.isEmpty)
  | _ => none
/-- truth of a name -/
def dTruv (i : Nat) : DB := fun Γ φ => match Γ[i]? with
  | some (.d x) => ∃ b, truD x = some b ∧ φ b Γ
  | some (.lst xs) => φ (!xs.isEmpty) Γ
  | _ => False
theorem reps_empty {F : Hp} {vs : List V} {ds : List D} (r : Reps F vs ds) : vs.isEmpty = ds.isEmpty := by
  cases r <;> rfl
instance snd_truv (i : Nat) : SndT K E ψ (tTru K (tVar i)) (dTruv i) := ⟨fun {c F H σ Γ φ Q} I eo h q => by
  unfold dTruv at h
  cases g : Γ[i]? with
  | none => rw [g] at h; exact h.elim
  | some e =>
    rw [g] at h
    cases e with
    | d x =>
      obtain ⟨v, hv, rp⟩ := I.at_ i _ g (fun z => nomatch z)
      have rp : Rep F v x := rp
      obtain ⟨b, hb, h⟩ := h
      refine ⟨v, hv, b, ?_, q F H b Γ I (Same.refl F) h⟩
      cases rp with
      | non => cases hb; rfl
      | int j => cases hb; rfl
      | tup e r => cases hb; exact .inr (.inl ⟨_, SqT.of (I.fh _ _ e), by rw [reps_empty r]⟩)
      | lst e r => cases hb; exact .inl ⟨_, SqL.of (I.fh _ _ e), by rw [reps_empty r]⟩
      | _ => cases hb
    | lst xs =>
      obtain ⟨v, hv, a, vs, rfl, _, _, hl, rs⟩ := I.at_ i _ g (fun z => nomatch z)
      exact ⟨_, hv, _, .inl ⟨vs, SqL.of hl, by rw [reps_empty rs]⟩, q F H _ Γ I (Same.refl F) h⟩
    | _ => exact h.elim⟩
/-! ### ranges as lists -/
class SndRg (K : PySem.W.Frag) [HasT K] (E : XK) (ψ : Value → Prop) (te : L2.St → Hp → (Int → Int → Hp → Prop) → Prop) (den : outParam (List En → (Int → Int → List En → Prop) → Prop)) : Prop where
  run : ∀ {c : Ct K} {F H : Hp} {σ : L2.St} {Γ : List En} {φ : Int → Int → List En → Prop} {Q : Int → Int → Hp → Prop}, Is c F H σ Γ → EOk c E ψ → den Γ φ → (∀ F' H' a b Γ', Is c F' H' σ Γ' → Same F F' → φ a b Γ' → Q a b H') → te σ H Q
def dRg1 (da : DT) : List En → (Int → Int → List En → Prop) → Prop := fun Γ φ => da Γ fun e Γ1 => wi e fun n => φ 0 n Γ1
def dRg2 (da db : DT) : List En → (Int → Int → List En → Prop) → Prop := fun Γ φ => da Γ fun e Γ1 => wi e fun m => db Γ1 fun e' Γ2 => wi e' fun n => φ m n Γ2
instance snd_rg1 [a : Snd K E ψ ta da] : SndRg K E ψ (tRg1 ta) (dRg1 da) := ⟨fun {c F H σ Γ φ Q} I eo h q => a.run I eo h fun F1 H1 v e Γ1 I1 s1 r1 h1 => by
  obtain ⟨n, rfl, h1⟩ := wi_of h1
  cases (show Rep F1 v (.int n) from r1.1)
  exact ⟨n, rfl, q F1 H1 0 n Γ1 I1 s1 h1⟩⟩
instance snd_rg2 [a : Snd K E ψ ta da] [b : Snd K E ψ tb db] : SndRg K E ψ (tRg2 ta tb) (dRg2 da db) := ⟨fun {c F H σ Γ φ Q} I eo h q => a.run I eo h fun F1 H1 v e Γ1 I1 s1 r1 h1 => by
  obtain ⟨m, rfl, h1⟩ := wi_of h1
  cases (show Rep F1 v (.int m) from r1.1)
  refine b.run I1 eo h1 fun F2 H2 u e Γ2 I2 s2 r2 h2 => ?_
  obtain ⟨n, rfl, h2⟩ := wi_of h2
  cases (show Rep F2 u (.int n) from r2.1)
  exact ⟨m, n, rfl, rfl, q F2 H2 m n Γ2 I2 (s1.trans s2) h2⟩⟩
theorem reps_rg {F : Hp} (a b : Int) : Reps F (rgV a b) (upI a (b - a).toNat) := by
  unfold rgV upI
  generalize List.range (b - a).toNat = l
  induction l with
  | nil => exact .nil
  | cons x r ih => exact .cons (.int _) ih
def dLstRg (dr : List En → (Int → Int → List En → Prop) → Prop) : DT := fun Γ φ => dr Γ fun a b Γ1 => -100000 ≤ a ∧ a ≤ 100000 ∧ -100000 ≤ b ∧ b ≤ 100000 ∧ φ (.lst (upI a (b - a).toNat)) Γ1
def dTupRg (dr : List En → (Int → Int → List En → Prop) → Prop) : DT := fun Γ φ => dr Γ fun a b Γ1 => -100000 ≤ a ∧ a ≤ 100000 ∧ -100000 ≤ b ∧ b ≤ 100000 ∧ φ (.d (.tup (upI a (b - a).toNat))) Γ1
instance snd_lstRg {tr : L2.St → Hp → (Int → Int → Hp → Prop) → Prop} {dr : List En → (Int → Int → List En → Prop) → Prop} [a : SndRg K E ψ tr dr] : Snd K E ψ (tLstRg tr) (dLstRg dr) := ⟨fun {c F H σ Γ φ Q} I eo h q => a.run I eo h fun F1 H1 m n Γ1 I1 s1 h1 => by
  obtain ⟨a0, a1, b0, b1, h1⟩ := h1
  refine ⟨⟨by omega, by omega, by omega, by omega, by omega⟩, fun p hp => ?_⟩
  obtain ⟨I2, r2⟩ := I1.newL hp (reps_rg m n)
  exact q _ _ _ _ _ I2 s1 r2 h1⟩
instance snd_tupRg {tr : L2.St → Hp → (Int → Int → Hp → Prop) → Prop} {dr : List En → (Int → Int → List En → Prop) → Prop} [a : SndRg K E ψ tr dr] : Snd K E ψ (tTupRg tr) (dTupRg dr) := ⟨fun {c F H σ Γ φ Q} I eo h q => a.run I eo h fun F1 H1 m n Γ1 I1 s1 h1 => by
  obtain ⟨a0, a1, b0, b1, h1⟩ := h1
  refine ⟨⟨by omega, by omega, by omega, by omega, by omega⟩, fun p hp => ?_⟩
  obtain ⟨I2, s2, _⟩ := I1.new (o := .tup (rgV m n)) hp
  exact q _ _ _ _ _ I2 (s1.trans s2) (Res.d (.tup upd_same (reps_rg m n))) h1⟩
/-- len(set(xs)), xs ints of which no two are alike -/
def dLenSet (da : DT) : DT := fun Γ φ => da Γ fun e Γ1 => wl e fun xs => ∃ is : List Int, xs = is.map D.int ∧ is.Nodup ∧ is.length ≤ 4000 ∧ φ (.d (.int is.length)) Γ1
instance snd_lenSet [a : Snd K E ψ ta da] : Snd K E ψ (RZ.tLenSetI K ta) (dLenSet da) := ⟨fun {c F H σ Γ φ Q} I eo h q => a.run I eo h fun F1 H1 v e Γ1 I1 s1 r1 h1 => by
  obtain ⟨F2, p, vs, xs, rfl, I2, s2, ep, rs, is, rfl, nd, hl, h2⟩ := r1.frzL I1 h1
  rw [rs.of_ints] at ep
  exact ⟨p, is, rfl, SqL.of (I2.fh _ _ ep), nd, hl, q F2 H1 _ _ Γ1 I2 (s1.trans s2) (Res.d (.int _)) h2⟩⟩
/-! ### min, max of data -/
def rMinD (K : PySem.W.Frag) : List V → Hp → VK → Prop := fun vs H Q => ∃ (a : Addr) (xs : List V) (x : PyData) (ds : List PyData), vs = [.ref a] ∧ SqL K H a xs ∧ DpAll K H xs (x :: ds) ∧ PySem.W.AlikeAll (x :: ds) ∧ PyData.depthAll (x :: ds) ≤ 60 ∧
  ∀ (i : Nat) v, xs[i]? = some v → (x :: ds)[i]? = some (PySem.W.minD x ds) → Q v H
def dMinR (xs : List D) (φ : En → Prop) : Prop := match xs with
  | [.lst (x :: ds)] => flats (x :: ds) = true ∧ PySem.W.AlikeAll (pys (x :: ds)) ∧ PyData.depthAll (pys (x :: ds)) ≤ 60 ∧ ∀ z ∈ x :: ds, z.py = PySem.W.minD x.py (pys ds) → φ (.d z)
  | _ => False
theorem pys_get : ∀ {ds : List D} {i : Nat} {d : PyData}, (pys ds)[i]? = some d → ∃ x, ds[i]? = some x ∧ x.py = d
  | [], i, d, h => by simp [pys] at h
  | x :: r, 0, d, h => by
    simp only [pys] at h
    cases h
    exact ⟨x, rfl, rfl⟩
  | x :: r, i + 1, d, h => by
    simp only [pys] at h
    obtain ⟨y, e, f⟩ := pys_get (ds := r) (i := i) (by simpa using h)
    exact ⟨y, by simpa using e, f⟩
instance snd_minD : SndC K (rMinD K) dMinR := ⟨fun {c F H σ Γ xs ds φ Q} I r h q => by
  match ds, r, h with
  | [.lst (x :: es)], r, h =>
    obtain ⟨h1, h2, h3, h4⟩ := h
    obtain ⟨v, rfl, rp⟩ := one_of r
    cases rp with
    | @lst a vs _ e rs =>
      refine ⟨a, vs, x.py, pys es, rfl, SqL.of (I.fh _ _ e), by simpa only [pys] using rs.dp I.fh h1, by simpa only [pys] using h2, by simpa only [pys] using h3, fun i v hv hm => ?_⟩
      obtain ⟨y, hy, rpy⟩ := rs.getV hv
      obtain ⟨z, hz, ez⟩ := pys_get (ds := x :: es) (i := i) (by simpa only [pys] using hm)
      rw [hy] at hz
      cases hz
      exact q F H v _ I (Same.refl F) (Res.d rpy) (h4 y (List.mem_of_getElem? hy) ez)⟩
/-! ### tuple of a dict's keys -/
end
end Da

set_option Elab.async false
set_option maxRecDepth 100000
set_option maxHeartbeats 4000000
set_option linter.all false
namespace Da
open PySem PySem.Spec PyProof.Rows L2 RZ HmS
theorem hu65_of {k : Nat} {A : Around} (hr : Room k A) : A.units + 65 < cLine := by have := hr.un; omega
theorem ifT {A B : Prop} {b : Bool} (e : b = true) (h : A) : if b = true then A else B := by rw [if_pos e]; exact h
theorem ifF {A B : Prop} {b : Bool} (e : b = false) (h : B) : if b = true then A else B := by rw [e, if_neg Bool.false_ne_true]; exact h
theorem ifB {A B : Prop} {b : Bool} (h1 : b = true → A) (h2 : b = false → B) : if b = true then A else B := by
  cases b with
  | true => rw [if_pos rfl]; exact h1 rfl
  | false => rw [if_neg Bool.false_ne_true]; exact h2 rfl
section
variable {X : Cx} {K : PySem.W.Frag} {tg l e e2 : Expr} {tl : TE} {ta : TA} {p pos tpos : Pos} {elts : List Expr} {kk : Nat}
theorem pi_tupK (hl : PE X l tl) (hK : X.K = K := by rfl) : PI X tg l (iTup K tl) := hK ▸ pi_tup hl
theorem pi_listK (hl : PE X l tl) (hK : X.K = K := by rfl) : PI X tg l (iList K tl) := hK ▸ pi_list hl
theorem pi_enumTK (hg : Gl X "enumerate") (hm : X.mg "enumerate" = none) (ha : PA X [e] ta) (hs : starEach [e] X.env = [(false, eval e X.env)] := by rfl) (hK : X.K = K := by rfl) : PI X (.Tuple elts kk tpos) (.Call (.Name "enumerate" p) [e] [] pos) (iEnumT K ta) := hK ▸ pi_enumT hg hm ha hs
theorem pi_zipAK (hg : Gl X "zip") (hm : X.mg "zip" = none) (ha : PA X [e, e2] ta) (hs : starEach [e, e2] X.env = (false, eval e X.env) :: starEach [e2] X.env := by rfl) (hpl : (backTo pos (starEach [e2] X.env)).any (·.1) = false := by rfl) (hK : X.K = K := by rfl) :
    PI X (.Tuple elts kk tpos) (.Call (.Name "zip" p) [e, e2] [] pos) (iZipA K ta) := hK ▸ pi_zipA hg hm ha hs hpl
theorem pg_tupK {es : List Expr} {k n : Nat} {t : TGs} (hc : X.calm = true) (h : PGs X es t) (hn : (assignEach es X.env).length = n := by rfl) (hst : (assignEach es X.env).findIdx? (·.1) = none := by rfl) (hK : X.K = K := by rfl) : PG X (.Tuple es k pos) (gTup K n t) := hK ▸ pg_tup hc h hn hst
end
/-! ### promises by the number of arguments -/
abbrev DSp := List D → (En → Prop) → (Value → Prop) → Prop
def sp0 (k : (En → Prop) → Prop) : DSp := fun ds φ _ => match ds with | [] => k φ | _ => False
def sp1 (k : D → (En → Prop) → Prop) : DSp := fun ds φ _ => match ds with | [x] => k x φ | _ => False
def sp2 (k : D → D → (En → Prop) → Prop) : DSp := fun ds φ _ => match ds with | [x, y] => k x y φ | _ => False
def sp3 (k : D → D → D → (En → Prop) → Prop) : DSp := fun ds φ _ => match ds with | [x, y, z] => k x y z φ | _ => False
def sp4 (k : D → D → D → D → (En → Prop) → Prop) : DSp := fun ds φ _ => match ds with | [x, y, z, u] => k x y z u φ | _ => False
def sp5 (k : D → D → D → D → D → (En → Prop) → Prop) : DSp := fun ds φ _ => match ds with | [x, y, z, u, v] => k x y z u v φ | _ => False
def pp0 (k : (En → Prop) → Prop) : List D → (En → Prop) → Prop := fun ds φ => match ds with | [] => k φ | _ => False
def pp1 (k : D → (En → Prop) → Prop) : List D → (En → Prop) → Prop := fun ds φ => match ds with | [x] => k x φ | _ => False
def pp2 (k : D → D → (En → Prop) → Prop) : List D → (En → Prop) → Prop := fun ds φ => match ds with | [x, y] => k x y φ | _ => False
def pp3 (k : D → D → D → (En → Prop) → Prop) : List D → (En → Prop) → Prop := fun ds φ => match ds with | [x, y, z] => k x y z φ | _ => False
section
variable {K : PySem.W.Frag} [HasT K] {t : TS} {dt : DSt} {N : List Str} {vs : List V} {H : Hp} {Q : VK} {E' : XK}
theorem lenX {den : DSp} {n : Nat} (h : spX K den vs H Q E') (f : ∀ ds φ ψ, den ds φ ψ → ds.length = n) : vs.length = n := by
  obtain ⟨F, ds, φ, ψ, _, _, _, r, hd, _⟩ := h
  rw [r.length]
  exact f _ _ _ hd
theorem lenP {den : List D → (En → Prop) → Prop} {n : Nat} (h : spP K den vs H Q E') (f : ∀ ds φ, den ds φ → ds.length = n) : vs.length = n + 1 := by
  obtain ⟨p, us, F, ds, φ, rfl, _, _, _, _, _, r, hd, _⟩ := h
  rw [List.length_cons, r.length, f _ _ hd]
theorem len1 {k : D → (En → Prop) → Prop} (h : spX K (sp1 k) vs H Q E') : vs.length = 1 := lenX h fun ds _ _ e => by match ds, e with | [_], _ => rfl
theorem len2 {k : D → D → (En → Prop) → Prop} (h : spX K (sp2 k) vs H Q E') : vs.length = 2 := lenX h fun ds _ _ e => by match ds, e with | [_, _], _ => rfl
theorem len3 {k : D → D → D → (En → Prop) → Prop} (h : spX K (sp3 k) vs H Q E') : vs.length = 3 := lenX h fun ds _ _ e => by match ds, e with | [_, _, _], _ => rfl
theorem lep0 {k : (En → Prop) → Prop} (h : spP K (pp0 k) vs H Q E') : vs.length = 1 := lenP h fun ds _ e => by match ds, e with | [], _ => rfl
theorem lep1 {k : D → (En → Prop) → Prop} (h : spP K (pp1 k) vs H Q E') : vs.length = 2 := lenP h fun ds _ e => by match ds, e with | [_], _ => rfl
abbrev bodyGoal (Q : VK) : Ends := { nx := fun _ H' => Q .non H', rt := Q }
theorem body1 {k : D → (En → Prop) → Prop} [s : SndS K E0 (fun _ => False) t dt] (h : spX K (sp1 k) vs H Q E') (hd : ∀ x φ, k x φ → dt (st0 N [x]) (po φ)) : t (bodyGoal Q) (L2.start N vs) H :=
  body0 (s := s) h fun ds φ _ e => by match ds, e with | [x], e => exact hd x φ e
theorem body2 {k : D → D → (En → Prop) → Prop} [s : SndS K E0 (fun _ => False) t dt] (h : spX K (sp2 k) vs H Q E') (hd : ∀ x y φ, k x y φ → dt (st0 N [x, y]) (po φ)) : t (bodyGoal Q) (L2.start N vs) H :=
  body0 (s := s) h fun ds φ _ e => by match ds, e with | [x, y], e => exact hd x y φ e
theorem body3 {k : D → D → D → (En → Prop) → Prop} [s : SndS K E0 (fun _ => False) t dt] (h : spX K (sp3 k) vs H Q E') (hd : ∀ x y z φ, k x y z φ → dt (st0 N [x, y, z]) (po φ)) : t (bodyGoal Q) (L2.start N vs) H :=
  body0 (s := s) h fun ds φ _ e => by match ds, e with | [x, y, z], e => exact hd x y z φ e
theorem bodp0 {k : (En → Prop) → Prop} [s : SndS K E0 (fun _ => False) t dt] (h : spP K (pp0 k) vs H Q E') (hd : ∀ φ, k φ → dt (stP N []) (poP φ)) : t (bodyGoal Q) (L2.start N vs) H :=
  bodyP (s := s) h fun ds φ e => by match ds, e with | [], e => exact hd φ e
theorem bodp1 {k : D → (En → Prop) → Prop} [s : SndS K E0 (fun _ => False) t dt] (h : spP K (pp1 k) vs H Q E') (hd : ∀ x φ, k x φ → dt (stP N [x]) (poP φ)) : t (bodyGoal Q) (L2.start N vs) H :=
  bodyP (s := s) h fun ds φ e => by match ds, e with | [x], e => exact hd x φ e
/-! ### comprehensions that hang on nothing but the item -/
theorem wf_of {e : En} {x : D} {k : D → Prop} (h : e.frz = some x) (q : k x) : wf e k := by
  cases e <;> first | (cases h; exact q) | (cases h; done)
theorem dLc_pure {vs gv : List Nat} {di : DA} {dg : D → List En → (List En → Prop) → Prop} {de : DT} {Γ Γ1 Γw : List En} {φ : En → List En → Prop} {items : List D} (f : D → D) (hgv : (gv.all fun i => vs.contains i) = true) (hdi : ∀ ψ : List D → List En → Prop, ψ items Γ1 → di Γ ψ)
    (hw1 : wipeE Γ1 vs = Γw) (hw : wipeE Γw vs = Γw) (hl : items.length ≤ 100000) (ev : ∀ d ∈ items, ∀ ψ : En → List En → Prop, (∀ e Γ4, e.frz = some (f d) → wipeE Γ4 vs = Γw → ψ e Γ4) → dg d Γw fun Γ2 => de Γ2 ψ)
    (k : φ (.lst (items.map f)) Γw) : dLc vs gv di dg dYes de Γ φ := by
  refine ⟨hgv, hdi _ ⟨hl, fun i acc Γ' => Γ' = Γw ∧ acc = (items.take i).map f, ⟨hw1, rfl⟩, ?_⟩⟩
  rintro i acc Γ' ⟨rfl, rfl⟩
  refine ⟨fun e => ?_, fun d hd => ?_⟩
  · rw [e, List.take_length]
    exact k
  · rw [hw]
    refine ev d (List.mem_of_getElem? hd) _ fun e Γ4 h1 h2 => ?_
    have et : items.take (i + 1) = items.take i ++ [d] := by rw [List.take_add_one, hd]; rfl
    exact wf_of h1 ⟨h2, by rw [et, List.map_append]; rfl⟩
end
end Da

set_option Elab.async false
set_option maxRecDepth 100000
set_option maxHeartbeats 4000000
set_option linter.all false
namespace PySem
open Sem (wp)
section
variable {prog : Program} {w : World} {A : Around} {E : Value → Shared → Prop} {s : Shared} {T : String} {d : Addr} {n : Nat} {P : Nat → Value → Prop} {OK : Heap → Prop}
end
end PySem
namespace Da
open PySem PySem.Spec PyProof.Rows L2 RZ HmS
/-- tuple(d), d a dict with int and text keys -/
def rTupK : List V → Hp → VK → Prop := fun xs H Q => ∃ p kvs, xs = [.ref p] ∧ H p = some (.dK kvs) ∧ ∀ q, H q = none → Q (.ref q) (upd H q (.tup (kvs.map fun kv => kV kv.1)))
def dTupKR (xs : List D) (φ : En → Prop) : Prop := match xs with
  | [.dK ks _] => φ (.d (.tup (ks.map kD)))
  | _ => False
theorem reps_keys {F : Hp} : ∀ ks : List Key, Reps F (ks.map kV) (ks.map kD)
  | [] => .nil
  | .inl i :: r => .cons (.int i) (reps_keys r)
  | .inr i :: r => .cons (.str i) (reps_keys r)
section
variable {K : PySem.W.Frag} [HasT K] {E : XK} {ψ : Value → Prop} {te ta tb tx : TE} {da db dx : DT} {al : TA} {dal : DA}
instance snd_tupK : SndC K rTupK dTupKR := ⟨fun {c F H σ Γ xs ds φ Q} I r h q => by
  match ds, r, h with
  | [.dK ks es], r, h =>
    obtain ⟨x, rfl, rp⟩ := one_of r
    cases rp with
    | @dK a kvs _ _ e ek rs =>
      refine ⟨a, kvs, rfl, I.fh _ _ e, fun p hp => ?_⟩
      obtain ⟨I2, s2, _⟩ := I.new (o := .tup (kvs.map fun kv => kV kv.1)) hp
      refine q _ _ _ _ I2 s2 (Res.d (.tup upd_same ?_)) h
      have e3 : (kvs.map fun kv => kV kv.1) = ks.map kV := by rw [← ek, List.map_map]; rfl
      rw [e3]
      exact reps_keys ks⟩
/-! ### sorted(set(t)), t a tuple of ints -/
def uqI (is : List Int) : Nat := if is.length ≤ 1000 ∧ ∀ k ∈ is, 0 ≤ k ∧ k < 63 then 0 else 64
def tSortSetT (K : PySem.W.Frag) (ta : TE) : TE := fun σ H Q => ta σ H fun x H1 => ∃ (l : Addr) (ns : List Int), x = .ref l ∧ SqT K H1 l (ns.map V.int) ∧ min ns.length (uqI ns) < 64 ∧ ∀ (ms : List Int) (p : Addr), ms.Pairwise (· < ·) → (∀ k : Int, k ∈ ms ↔ k ∈ ns) → H1 p = none → Q (.ref p) (upd H1 p (.lst (ms.map V.int)))
def dSortSetT (da : DT) : DT := fun Γ φ => da Γ fun e Γ1 => wt e fun xs => ∃ is : List Int, xs = is.map D.int ∧ min is.length (uqI is) < 64 ∧ ∀ ms : List Int, ms.Pairwise (· < ·) → (∀ k : Int, k ∈ ms ↔ k ∈ is) → φ (.lst (ms.map D.int)) Γ1
instance snd_sortSetT [a : Snd K E ψ ta da] : Snd K E ψ (tSortSetT K ta) (dSortSetT da) := ⟨fun {c F H σ Γ φ Q} I eo h q => a.run I eo h fun F1 H1 v e Γ1 I1 s1 r1 h1 => by
  obtain ⟨xs, rfl, is, rfl, hl, h1⟩ := wt_of h1
  cases (show Rep F1 v (.tup (is.map D.int)) from r1.1) with
  | tup e rs =>
    rw [rs.of_ints] at e
    refine ⟨_, is, rfl, SqT.of (I1.fh _ _ e), hl, fun ms p h1' h2 hp => ?_⟩
    obtain ⟨I2, r2⟩ := I1.newL hp (Reps.ints ms)
    exact q _ _ _ _ _ I2 s1 r2 (h1 ms h1' h2)⟩
/-! ### a dict that a slot owns is lent to a def that only reads it -/
mutual
def D.pl : D → Bool
  | .tup xs => pls xs
  | .lst _ => false
  | .dK _ _ => false
  | .dT _ _ => false
  | .ins _ _ _ => false
  | _ => true
def pls : List D → Bool
  | [] => true
  | x :: xs => x.pl && pls xs
end
mutual
theorem Rep.drop {F : Hp} {a : Addr} (ha : ∀ vs, F a ≠ some (.tup vs)) : ∀ {x : D} {v : V}, Rep F v x → x.pl = true → Rep (fun b => if b = a then none else F b) v x
  | .non, _, .non, _ => .non
  | .bl _, _, .bl b, _ => .bl b
  | .int _, _, .int i, _ => .int i
  | .str _, _, .str i, _ => .str i
  | .tup ds, _, .tup (a := b) e r, h => .tup (by
      have : b ≠ a := fun z => by
        rw [z] at e
        exact ha _ e
      show (if b = a then none else F b) = _
      rw [if_neg this]
      exact e) (Reps.dropd ha r h)
theorem Reps.dropd {F : Hp} {a : Addr} (ha : ∀ vs, F a ≠ some (.tup vs)) : ∀ {xs : List D} {vs : List V}, Reps F vs xs → pls xs = true → Reps (fun b => if b = a then none else F b) vs xs
  | [], _, .nil, _ => .nil
  | x :: xs, _, .cons r q, h => by
    unfold pls at h
    rw [Bool.and_eq_true] at h
    exact .cons (Rep.drop ha r h.1) (Reps.dropd ha q h.2)
end
class SndB (K : PySem.W.Frag) [HasT K] (E : XK) (ψ : Value → Prop) (ta : TA) (i : outParam Nat) (den : outParam DA) : Prop where
  run : ∀ {c : Ct K} {F H : Hp} {σ : L2.St} {Γ : List En} {φ : List D → List En → Prop} {Q : List V → Hp → Prop}, Is c F H σ Γ → EOk c E ψ → (∃ ks ds, Γ[i]? = some (.dK ks ds)) → den Γ φ →
    (∀ F' H' vs ds a Γ', Is c F' H' σ Γ' → Same F F' → Reps F' vs ds → σ[i]? = some (some (.ref a)) → φ ds Γ' → Q (vs ++ [.ref a]) H') → ta σ H Q
instance sndb_last (i : Nat) : SndB K E ψ (tCons (tVar i) tNil) i dNil := ⟨fun {c F H σ Γ φ Q} I eo ⟨ks, ds, g⟩ h q => by
  obtain ⟨v, hv, a, kvs, rfl, _⟩ := I.at_ i _ g (fun z => nomatch z)
  exact ⟨_, hv, q F H [] [] a Γ I (Same.refl F) .nil hv h⟩⟩
instance sndb_cons {i : Nat} [s : Snd K E ψ ta da] [sl : SndB K E ψ al i dal] : SndB K E ψ (tCons ta al) i (fun Γ φ => da Γ fun e Γ1 => wf e fun x => (∃ ks ds, Γ1[i]? = some (.dK ks ds)) ∧ dal Γ1 fun xs Γ2 => φ (x :: xs) Γ2) := ⟨fun {c F H σ Γ φ Q} I eo g h q => by
  refine s.frz (φ := fun _ _ => True) (k := fun x Γ1 => (∃ ks ds, Γ1[i]? = some (.dK ks ds)) ∧ dal Γ1 fun xs Γ2 => φ (x :: xs) Γ2) I eo h fun F1 H1 v x Γ1 I1 s1 r1 h1 => ?_
  refine sl.run I1 eo h1.1 h1.2 fun F2 H2 vs xs a Γ2 I2 s2 r2 hv h2 => ?_
  exact q F2 H2 _ _ a Γ2 I2 (s1.trans s2) (.cons (r1.mono s2) r2) hv h2⟩
def dBor (i : Nat) (den : List D → (En → Prop) → (Value → Prop) → Prop) (dal : DA) : DT := fun Γ φ => (∃ ks ds, Γ[i]? = some (.dK ks ds)) ∧ dal Γ fun xs Γ1 => ∃ ks ds, Γ1[i]? = some (.dK ks ds) ∧ den (xs ++ [.dK ks ds]) (fun e => ∃ x, e = .d x ∧ x.pl = true ∧ φ (.d x) Γ1) (fun _ => False)
theorem snd_bor {i : Nat} {den : List D → (En → Prop) → (Value → Prop) → Prop} [sl : SndB K E ψ al i dal] : Snd K E ψ (tCall (spX K den) [] E0 al) (dBor i den dal) := ⟨fun {c F H σ Γ φ Q} I eo h q => by
  refine sl.run I eo h.1 h.2 fun F1 H1 vs xs a Γ1 I1 s1 r1 hv h1 => ?_
  obtain ⟨ks, ds, g, h1⟩ := h1
  obtain ⟨v, hv', a', kvs, ea, fa, h0, ha, ek, rs⟩ := I1.at_ i _ g (fun z => nomatch z)
  rw [hv] at hv'
  cases hv'
  cases ea
  have no : ∀ vs, upd F1 a (.dK kvs) a ≠ some (.tup vs) := fun vs z => by rw [upd_same] at z; cases z
  have sfa : Same F1 (upd F1 a (.dK kvs)) := fun b u e => by rw [upd_ne (ne_of_none e fa)]; exact e
  have fha : Same (upd F1 a (.dK kvs)) H1 := fun b u e => by
    by_cases z : b = a
    · subst z
      rw [upd_same] at e
      cases e
      exact ha
    · rw [upd_ne z] at e
      exact I1.fh b u e
  refine ⟨upd F1 a (.dK kvs), xs ++ [.dK ks ds], fun e => ∃ x, e = .d x ∧ x.pl = true ∧ φ (.d x) Γ1, fun _ => False, fha, fn_upd I1.fn (fun _ z => nomatch z), I1.tb, ?_, h1, ?_, fun _ _ _ _ z => z.elim⟩
  · rw [List.append_nil]
    exact (r1.mono sfa).app (.cons (.dK upd_same ek (rs.mono sfa)) .nil)
  · rintro F' H' v e sf sh tb fh fn nw hh ne ⟨x, rfl, px, hφ⟩
    have hh : Rep F' v x := hh
    have fa' : F' a = some (.dK kvs) := sf _ _ upd_same
    have r2 := hh.drop (a := a) (fun vs z => by rw [fa'] at z; cases z) px
    have sf2 : Same F1 (fun b => if b = a then none else F' b) := fun b u e => by
      have : b ≠ a := ne_of_none e fa
      show (if b = a then none else F' b) = _
      rw [if_neg this]
      exact sf _ _ (sfa _ _ e)
    refine q _ H' v (.d x) Γ1 (I1.growN sf2 sh tb (fun b u e => ?_) (fun b u e => ?_) (fun b u e => ?_)) (s1.trans sf2) (Res.d r2) hφ
    · have e : (if b = a then none else F' b) = some u := e
      split at e
      · cases e
      · exact fh _ _ e
    · have e : (if b = a then none else F' b) = some u := e
      split at e
      · cases e
      · exact fn _ _ e
    · have e : (if b = a then none else F' b) = some u := e
      split at e
      · cases e
      · rename_i z
        rcases nw b u e with w | w
        · rw [upd_ne z] at w
          exact .inl w
        · exact .inr w⟩
end
namespace Bor
scoped instance (priority := 2000) bor {K : PySem.W.Frag} [HasT K] {E : XK} {ψ : Value → Prop} {al : TA} {dal : DA} {i : Nat} {den : List D → (En → Prop) → (Value → Prop) → Prop} [sl : SndB K E ψ al i dal] : Snd K E ψ (tCall (spX K den) [] E0 al) (dBor i den dal) := snd_bor
end Bor
end Da

set_option Elab.async false
set_option maxRecDepth 100000
set_option maxHeartbeats 4000000
set_option linter.all false
namespace Da
open PySem PySem.Spec PyProof.Rows L2 RZ HmS
theorem pe_bmK {X : Cx} {K : PySem.W.Frag} {o e : Expr} {es : List Expr} {to : TE} {t : TA} {name : Str} {apos cpos : Pos} {T id : String} {r : V → List V → Hp → VK → Prop}
    (pa : PlainAttrs T) (slot : Slot T name id) (hty : typeOf (.builtin id) = pure (.type "method_descriptor")) (hm : MtR X id r) (ho : PE X o to) (ha : PA X (e :: es) t)
    (hbase : attributeBase o name X.env (eval o X.env) = eval o X.env := by rfl)
    (hfew : ((backTo cpos (starEach (e :: es) X.env)).all (fun x => !x.1) && (backToKw cpos (keywordEach [] X.env)).all (fun x => x.1.isSome)
      && decide ((e :: es).length + ([] : List Keyword).length + (if ([] : List Keyword).isEmpty then 0 else 1) < 30)) = true := by rfl)
    (hline : (apos.endLine == cpos.line) = true := by rfl) (hs : starEach (e :: es) X.env = (false, eval e X.env) :: starEach es X.env := by rfl) (hplain : (backTo cpos (starEach es X.env)).any (·.1) = false := by rfl)
    (hK : X.K = K := by rfl) : PE X (.Call (.Attribute o name apos) (e :: es) [] cpos) (tBM K T r to t) := hK ▸ pe_bm pa slot hty hm ho ha hbase hfew hline hs hplain
end Da

set_option Elab.async false
set_option maxRecDepth 100000
set_option maxHeartbeats 4000000
set_option linter.all false
namespace Da
open PySem PySem.Spec PyProof.Rows L2 RZ HmS
/-! ### what fits a comparison -/
def D.fitb (k : Nat) (x : D) : Bool := x.flat && (x.py.canLay0 && decide (x.py.depth ≤ k))
theorem fit_of {x : D} {k : Nat} (h : x.fitb k = true) (hk : k ≤ 64) : x.fit = true := by
  unfold D.fitb at h
  unfold D.fit SeqAt.shaped
  rw [Bool.and_eq_true, Bool.and_eq_true, decide_eq_true_eq] at h ⊢
  exact ⟨h.1, h.2.1, Nat.le_trans h.2.2 hk⟩
theorem fitb_int (i : Int) : (D.int i).fitb 1 = true := by simp [D.fitb, D.flat, D.py, PyData.canLay0, PyData.depth]
theorem fitbs {k : Nat} : ∀ {xs : List D}, (∀ x ∈ xs, x.fitb k = true) → flats xs = true ∧ PyData.canLayAll0 (pys xs) = true ∧ PyData.depthAll (pys xs) ≤ k
  | [], _ => ⟨rfl, rfl, Nat.zero_le _⟩
  | x :: r, h => by
    have hx := h x List.mem_cons_self
    obtain ⟨h1, h2, h3⟩ := fitbs fun y hy => h y (List.mem_cons_of_mem _ hy)
    unfold D.fitb at hx
    rw [Bool.and_eq_true, Bool.and_eq_true, decide_eq_true_eq] at hx
    refine ⟨?_, ?_, ?_⟩
    · rw [flats, hx.1, h1]
      rfl
    · rw [pys, PyData.canLayAll0, hx.2.1, h2]
      rfl
    · rw [pys, PyData.depthAll]
      exact Nat.max_le.mpr ⟨hx.2.2, h3⟩
theorem fitb_tup {k : Nat} {xs : List D} (h : ∀ x ∈ xs, x.fitb k = true) : (D.tup xs).fitb (k + 1) = true := by
  obtain ⟨h1, h2, h3⟩ := fitbs h
  unfold D.fitb
  rw [Bool.and_eq_true, Bool.and_eq_true, decide_eq_true_eq]
  refine ⟨by rw [D.flat]; exact h1, by rw [D.py, PyData.canLay0]; exact h2, by rw [D.py, PyData.depth]; omega⟩
theorem fitb_tupm {α : Type} {g : α → D} {k : Nat} {l : List α} (h : ∀ a ∈ l, (g a).fitb k = true) : (D.tup (l.map g)).fitb (k + 1) = true := fitb_tup fun x hx => by
  obtain ⟨a, ha, rfl⟩ := List.mem_map.mp hx
  exact h a ha
theorem fit_lay {x : D} (h : x.fit = true) : x.py.canLay0 = true := by
  unfold D.fit SeqAt.shaped at h
  rw [Bool.and_eq_true, Bool.and_eq_true] at h
  exact h.2.1
theorem eqv_self {x : D} (h : x.fit = true) : x.eqv x = true := SeqAt.eqv_refl _ (fit_lay h)
/-! ### alike just where the same: data of numbers, texts, None -/
mutual
def D.strict : D → Bool
  | .non => true
  | .int _ => true
  | .str _ => true
  | .tup xs => stricts xs
  | .lst xs => stricts xs
  | _ => false
def stricts : List D → Bool
  | [] => true
  | x :: r => x.strict && stricts r
end
mutual
theorem eqv_iff : ∀ {x y : D}, x.strict = true → y.strict = true → (x.eqv y = true ↔ x = y)
  | .non, y, _, hy => by
    cases y <;> first | (exact absurd hy Bool.false_ne_true) | simp [D.eqv, D.py, PyData.eqv]
  | .int i, y, _, hy => by
    cases y <;> first | (exact absurd hy Bool.false_ne_true) | simp [D.eqv, D.py, PyData.eqv]
  | .str s, y, _, hy => by
    cases y <;> first | (exact absurd hy Bool.false_ne_true) | simp [D.eqv, D.py, PyData.eqv]
  | .tup xs, y, hx, hy => by
    cases y with
    | tup ys =>
      have hx : stricts xs = true := by rw [D.strict] at hx; exact hx
      have hy : stricts ys = true := by rw [D.strict] at hy; exact hy
      have := eqv_iffs hx hy
      unfold D.eqv
      rw [D.py, D.py, PyData.eqv, this]
      exact ⟨fun e => by rw [e], fun e => by cases e; rfl⟩
    | non => simp [D.eqv, D.py, PyData.eqv]
    | int i => simp [D.eqv, D.py, PyData.eqv]
    | str s => simp [D.eqv, D.py, PyData.eqv]
    | lst xs => simp [D.eqv, D.py, PyData.eqv]
    | _ => exact absurd hy Bool.false_ne_true
  | .lst xs, y, hx, hy => by
    cases y with
    | lst ys =>
      have hx : stricts xs = true := by rw [D.strict] at hx; exact hx
      have hy : stricts ys = true := by rw [D.strict] at hy; exact hy
      have := eqv_iffs hx hy
      unfold D.eqv
      rw [D.py, D.py, PyData.eqv, this]
      exact ⟨fun e => by rw [e], fun e => by cases e; rfl⟩
    | non => simp [D.eqv, D.py, PyData.eqv]
    | int i => simp [D.eqv, D.py, PyData.eqv]
    | str s => simp [D.eqv, D.py, PyData.eqv]
    | tup xs => simp [D.eqv, D.py, PyData.eqv]
    | _ => exact absurd hy Bool.false_ne_true
theorem eqv_iffs : ∀ {xs ys : List D}, stricts xs = true → stricts ys = true → (PyData.eqvAll (pys xs) (pys ys) = true ↔ xs = ys)
  | [], [], _, _ => by simp [pys, PyData.eqvAll]
  | [], _ :: _, _, _ => by simp [pys, PyData.eqvAll]
  | _ :: _, [], _, _ => by simp [pys, PyData.eqvAll]
  | x :: xs, y :: ys, hx, hy => by
    rw [stricts, Bool.and_eq_true] at hx hy
    have h1 := eqv_iff hx.1 hy.1
    have h2 := eqv_iffs hx.2 hy.2
    unfold D.eqv at h1
    rw [pys, pys, PyData.eqvAll, Bool.and_eq_true, h1, h2]
    exact ⟨fun h => by rw [h.1, h.2], fun h => by cases h; exact ⟨rfl, rfl⟩⟩
end
/-! ### a comprehension without a test, by an invariant -/
/-! ### the law's own body -/
def spLaw (K : PySem.W.Frag) [HasT K] : Sp := fun vs H Q _ => ∃ (a : Addr) (ns : List Int), vs = [.ref a] ∧ TbOk K H ∧ SqL K H a (ns.map V.int) ∧ ns.length ≤ 63 ∧ ∀ H', Q (.bl true) H'
def stS (N : List Str) (ns : List Int) : List En := .scr ns :: List.replicate (N.length - 1) .no
def poL : Po := ⟨fun _ => False, fun e _ => e = .d (.bl true), fun _ => False, fun _ => False⟩
theorem _root_.L2.SqL.nt {K : PySem.W.Frag} {H : Hp} {a : Addr} {xs : List V} (h : SqL K H a xs) : SqL K (ntH H) a xs :=
  h.elim (fun h => .inl (h.elim (fun h => .inl (ntH_of h fun _ z => nomatch z)) fun ⟨o, h⟩ => .inr ⟨o, ntH_of h fun _ z => nomatch z⟩)) fun h => .inr h
theorem bodyS {K : PySem.W.Frag} [HasT K] {t : TS} {dt : DSt} {N : List Str} {H : Hp} {Q : VK} {a : Addr} {ns : List Int} [s : SndS K E0 (fun _ => False) t dt] (tb : TbOk K H) (hS : SqL K H a (ns.map V.int)) (q : ∀ H', Q (.bl true) H') (hd : dt (stS N ns) poL) :
    t { nx := fun _ H' => Q .non H', rt := Q } (L2.start N [.ref a]) H := by
  have I : Is (⟨fun _ => none, ntH H, none, some (a, ns), fun a' ns' e => by cases e; exact ⟨hS.nt, fun z => nomatch z⟩⟩ : Ct K) (fun _ => none) H (L2.start N [.ref a]) (stS N ns) := by
    have low : ∀ (i : Nat) (e : En), (stS N ns)[i]? = some e → e ≠ .no → i = 0 ∧ e = .scr ns := fun i e g n => by
      cases i with
      | zero => cases g; exact ⟨rfl, rfl⟩
      | succ i =>
        have g : (List.replicate (N.length - 1) En.no)[i]? = some e := by simpa [stS] using g
        exact absurd (List.mem_replicate.mp (List.mem_of_getElem? g)).2 n
    refine ⟨Same.refl _, (fun b o e => nomatch e), (fun b o e => nomatch e), (fun b o _ e => (ntH_some e).1), (fun p e => nomatch e), ?_, fun i e g n => ?_, fun i j b e e' v v' ij g g' s s' o o' => ?_, (fun b o e => nomatch e), tb, (fun b o e => (ntH_some e).2)⟩
    · unfold L2.start stS
      simp only [List.map_cons, List.map_nil, List.length_append, List.length_cons, List.length_nil, List.length_replicate]
      omega
    · obtain ⟨rfl, rfl⟩ := low i e g n
      exact ⟨.ref a, rfl, a, rfl, rfl⟩
    · obtain ⟨_, rfl⟩ := low i e g (adr_no o)
      exact o.elim
  refine s.run I (fun _ _ _ _ _ z => z) hd ⟨fun _ _ _ _ _ z => z.elim, fun F' H' σ' Γ' v e I hh n z => ?_, fun _ _ _ _ _ z => z.elim, fun _ _ _ _ _ z => z.elim⟩
  have z : e = .d (.bl true) := z
  subst z
  cases (show Rep F' v (.bl true) from hh)
  exact q H'
theorem wf_d (x : D) (k : D → Prop) : wf (.d x) k = k x := rfl
theorem wf_l (xs : List D) (k : D → Prop) : wf (.lst xs) k = k (.lst xs) := rfl
theorem wb_b (b : Bool) (k : Bool → Prop) : wb (.d (.bl b)) k = k b := rfl
theorem wi_i (i : Int) (k : Int → Prop) : wi (.d (.int i)) k = k i := rfl
theorem wt_t (xs : List D) (k : List D → Prop) : wt (.d (.tup xs)) k = k xs := rfl
theorem wl_l (xs : List D) (k : List D → Prop) : wl (.lst xs) k = k xs := rfl
theorem wl_d (xs : List D) (k : List D → Prop) : wl (.d (.lst xs)) k = k xs := rfl
theorem tupR_t (xs : List D) (φ : En → Prop) : dTupR [.tup xs] φ = φ (.d (.tup xs)) := rfl
theorem tupR_l (xs : List D) (φ : En → Prop) : dTupR [.lst xs] φ = φ (.d (.tup xs)) := rfl
theorem lstR_t (xs : List D) (φ : En → Prop) : dListR [.tup xs] φ = φ (.lst xs) := rfl
theorem lstR_l (xs : List D) (φ : En → Prop) : dListR [.lst xs] φ = φ (.lst xs) := rfl
end Da

set_option Elab.async false
set_option maxRecDepth 100000
set_option maxHeartbeats 4000000
set_option linter.all false
namespace Da
open PySem PySem.Spec PyProof.Rows L2 RZ HmS
/-! ### set(xs), xs a list of ints, with its order known; sorted of it -/
section
variable {P : Program} {w : World} {A : Around} {E : Value → Shared → Prop} {s : Shared}
set_option maxHeartbeats 8000000 in
end
end Da

set_option Elab.async false
set_option maxRecDepth 100000
set_option maxHeartbeats 4000000
set_option linter.all false
namespace Da
open PySem PySem.Spec PyProof.Rows L2 RZ HmS
def tSortSetL (K : PySem.W.Frag) (ta : TE) : TE := fun σ H Q => ta σ H fun x H1 => ∃ (l : Addr) (ns : List Int), x = .ref l ∧ SqL K H1 l (ns.map V.int) ∧ ns.length < 64 ∧ ∀ (ms : List Int) (p : Addr), ms.Pairwise (· < ·) → (∀ k : Int, k ∈ ms ↔ k ∈ ns) → H1 p = none → Q (.ref p) (upd H1 p (.lst (ms.map V.int)))
def dSortSetL (da : DT) : DT := fun Γ φ => da Γ fun e Γ1 => wl e fun xs => ∃ is : List Int, xs = is.map D.int ∧ is.length < 64 ∧ ∀ ms : List Int, ms.Pairwise (· < ·) → (∀ k : Int, k ∈ ms ↔ k ∈ is) → φ (.lst (ms.map D.int)) Γ1
section
variable {K : PySem.W.Frag} [HasT K] {E : XK} {ψ : Value → Prop} {ta : TE} {da : DT}
instance snd_sortSetL [a : Snd K E ψ ta da] : Snd K E ψ (tSortSetL K ta) (dSortSetL da) := ⟨fun {c F H σ Γ φ Q} I eo h q => a.run I eo h fun F1 H1 v e Γ1 I1 s1 r1 h1 => by
  obtain ⟨F2, p, vs, xs, rfl, I2, s2, ep, rs, is, rfl, hl, h2⟩ := r1.frzL I1 h1
  rw [rs.of_ints] at ep
  refine ⟨p, is, rfl, SqL.of (I2.fh _ _ ep), hl, fun ms p h1' h2' hp => ?_⟩
  obtain ⟨I3, r3⟩ := I2.newL hp (Reps.ints ms)
  exact q _ _ _ _ _ I3 (s1.trans s2) r3 (h2 ms h1' h2')⟩
end
end Da

set_option Elab.async false
set_option maxRecDepth 100000
set_option maxHeartbeats 4000000
set_option linter.all false
namespace Da
open PySem PySem.Spec PyProof.Rows L2 RZ HmS
/-! ### t[::-1], t a tuple -/
section
variable {P : Program} {w : World} {A : Around} {E : Value → Shared → Prop} {s : Shared}
end
end Da

set_option Elab.async false
set_option maxRecDepth 100000
set_option maxHeartbeats 4000000
set_option linter.all false
namespace Da
open PySem PySem.Spec PyProof.Rows L2 RZ HmS
def tRevT (K : PySem.W.Frag) (te : TE) : TE := fun σ H Q => te σ H fun x H1 => ∃ a xs, x = .ref a ∧ SqT K H1 a xs ∧ ∀ p, H1 p = none → Q (.ref p) (upd H1 p (.tup xs.reverse))
section
variable {K : PySem.W.Frag} [HasT K] {E : XK} {ψ : Value → Prop} {te ta tb : TE} {da db : DT} {al : TA} {dal : DA}
theorem Reps.rev {F : Hp} {vs : List V} {ds : List D} (r : Reps F vs ds) : Reps F vs.reverse ds.reverse := by
  induction r using Reps.rec (motive_1 := fun _ _ _ => True) with
  | nil => exact .nil
  | cons a b _ ih =>
    rw [List.reverse_cons, List.reverse_cons]
    exact ih.snoc a
  | _ => trivial
def dRevT (da : DT) : DT := fun Γ φ => da Γ fun e Γ1 => wt e fun xs => φ (.d (.tup xs.reverse)) Γ1
instance snd_revT [a : Snd K E ψ ta da] : Snd K E ψ (tRevT K ta) (dRevT da) := ⟨fun {c F H σ Γ φ Q} I eo h q => a.run I eo h fun F1 H1 v e Γ1 I1 s1 r1 h1 => by
  obtain ⟨xs, rfl, h1⟩ := wt_of h1
  cases (show Rep F1 v (.tup xs) from r1.1) with
  | @tup p vs _ e rs =>
    refine ⟨p, vs, rfl, SqT.of (I1.fh _ _ e), fun l hl => ?_⟩
    obtain ⟨I2, s2, _⟩ := I1.new (o := .tup vs.reverse) hl
    exact q _ _ _ _ Γ1 I2 (s1.trans s2) (Res.d (.tup upd_same (rs.rev.mono s2))) h1⟩
/-! ### {'k': e} -/
def dDisp1 (z : Str) (da : DT) : DT := fun Γ φ => da Γ fun e Γ1 => wf e fun x => φ (.dK [.inr z] [x]) Γ1
instance snd_disp1 {z : Str} [s : Snd K E ψ ta da] : Snd K E ψ (tDisp [(tC (.str z), ta)]) (dDisp1 z da) := ⟨fun {c F H σ Γ φ Q} I eo h q => by
  intro p hp
  have pn : c.pn ≠ some p := fun w => (I.pp p w).2.1.there hp
  have f0 : c.F0 p = none := I.f0.free (I.unF hp)
  have fr : Free c F σ Γ p := ⟨I.unF hp, I.un hp, pn, I.fresh hp⟩
  have I' := (I.newH (o := .dK []) hp).guard fr upd_same
  refine s.frz (φ := fun _ _ => True) (k := fun x Γ1 => φ (.dK [.inr z] [x]) Γ1) I' eo.guard h fun F1 H1 v x Γ1 I1 s1 rp h1 => ?_
  have g1 := I1.guarded pn
  have f1 := I1.freed pn f0 (fun vs z => nomatch z)
  refine ⟨g1, [(.inr z, v)], rfl, by simp, ?_⟩
  have e : mergeK [] [((.inr z : Key), v)] = [(.inr z, v)] := rfl
  rw [e]
  exact q F1 _ (.ref p) (.dK [.inr z] [x]) Γ1 ((I1.unguard pn).chg f1 g1 (plain_dK _) (fun vs z => nomatch z)) s1 ⟨⟨p, [(.inr z, v)], rfl, f1.f, f1.h0, upd_same, rfl, .cons rp .nil⟩, (fun w => nomatch w), fun a ea => by cases ea; exact f1.sl⟩ h1⟩
/-! ### texts -/
def rStrI : List V → Hp → VK → Prop := fun xs H Q => ∃ i, xs = [.int i] ∧ i.natAbs.log2 < 1920 ∧ Q (.str (toString i)) H
theorem cl_strI {X : Cx} : CallR X (.type "str") rStrI := call_str_int
def dStrIR (xs : List D) (φ : En → Prop) : Prop := match xs with
  | [.int i] => i.natAbs.log2 < 1920 ∧ φ (.d (.str (toString i)))
  | _ => False
instance snd_strI : SndC K rStrI dStrIR := ⟨fun {c F H σ Γ xs ds φ Q} I r h q => by
  match ds, r, h with
  | [.int i], r, h =>
    obtain ⟨x, rfl, rp⟩ := one_of r
    cases rp
    exact ⟨i, rfl, h.1, q F H _ _ I (Same.refl F) (Res.d (.str _)) h.2⟩⟩
def rAddS : R2 := fun x y H Q => ∃ i j, x = .str i ∧ y = .str j ∧ i.length + j.length ≤ sizeLine ∧ Q (.str (i ++ j)) H
theorem op_addS {X : Cx} : OpR X (binaryOp .Add) rAddS := op_add_str
def dAddS (x y : D) (φ : En → Prop) : Prop := match x, y with
  | .str i, .str j => i.length + j.length ≤ 1000000 ∧ φ (.d (.str (i ++ j)))
  | _, _ => False
instance snd_addS : SndR K rAddS dAddS := ⟨fun {c F H σ Γ x y d e φ Q} I rx ry h q => by
  match d, e, rx, ry, h with
  | .str i, .str j, .str _, .str _, h => exact ⟨i, j, rfl, rfl, Nat.le_trans h.1 (by decide), q F H _ _ I (Same.refl F) (Res.d (.str _)) h.2⟩⟩
def dSlS (da : DT) (dl dh : List En → (Option Int → List En → Prop) → Prop) : DT := fun Γ φ => da Γ fun e Γ1 => wf e fun x => dl Γ1 fun lo Γ2 => dh Γ2 fun hi Γ3 => match x with
  | .str z => z.length ≤ 1000000 ∧ φ (.d (.str (cutS z lo hi))) Γ3
  | _ => False
instance snd_slS {tl th : TO} {dl dh : List En → (Option Int → List En → Prop) → Prop} [sa : Snd K E ψ ta da] [sl : SndO K E ψ tl dl] [sh : SndO K E ψ th dh] : Snd K E ψ (tSl rSlS ta tl th) (dSlS da dl dh) := ⟨fun {c F H σ Γ φ Q} I eo h q => by
  refine sa.frz (φ := fun _ _ => True) (k := fun x Γ1 => dl Γ1 fun lo Γ2 => dh Γ2 fun hi Γ3 => match x with
  | .str z => z.length ≤ 1000000 ∧ φ (.d (.str (cutS z lo hi))) Γ3
  | _ => False) I eo h fun F1 H1 v x Γ1 I1 s1 r1 h1 => ?_
  refine sl.run I1 eo h1 fun F2 H2 lo Γ2 I2 s2 h2 => ?_
  refine sh.run I2 eo h2 fun F3 H3 hi Γ3 I3 s3 h3 => ?_
  cases x with
  | str z =>
    cases r1
    exact ⟨z, rfl, Nat.le_trans h3.1 (by decide), q F3 H3 _ _ Γ3 I3 ((s1.trans s2).trans s3) (Res.d (.str _)) h3.2⟩
  | _ => exact h3.elim⟩
def rUpS : V → List V → Hp → VK → Prop := fun x xs H Q => ∃ a, x = .str a ∧ xs = [] ∧ a.length ≤ 5592405 ∧ Q (.str (Txt.upper a)) H
def dUpS (da : DT) : DT := fun Γ φ => da Γ fun e Γ1 => wf e fun x => match x with
  | .str a => a.length ≤ 1000000 ∧ φ (.d (.str (Txt.upper a))) Γ1
  | _ => False
instance snd_upS [s : Snd K E ψ ta da] : Snd K E ψ (tM0 rUpS ta) (dUpS da) := ⟨fun {c F H σ Γ φ Q} I eo h q => by
  refine s.frz (φ := fun _ _ => True) (k := fun x Γ1 => match x with
  | .str a => a.length ≤ 1000000 ∧ φ (.d (.str (Txt.upper a))) Γ1
  | _ => False) I eo h fun F1 H1 v x Γ1 I1 s1 r1 h1 => ?_
  cases x with
  | str a =>
    cases r1
    exact ⟨⟨a, rfl⟩, a, rfl, rfl, by have := h1.1; omega, q F1 H1 _ _ Γ1 I1 s1 (Res.d (.str _)) h1.2⟩
  | _ => exact h1.elim⟩
/-! ### min(xs, default=d) -/
def rMinDef (K : PySem.W.Frag) : List V → List V → Hp → VK → Prop := fun vs zs H Q => ∃ (a : Addr) (xs : List V) (d : V) (ds : List PyData), vs = [.ref a] ∧ zs = [d] ∧ SqL K H a xs ∧ DpAll K H xs ds ∧ PySem.W.AlikeAll ds ∧ PyData.depthAll ds ≤ 60 ∧
  (ds = [] → Q d H) ∧ ∀ (x : PyData) (es : List PyData), ds = x :: es → ∀ (i : Nat) v, xs[i]? = some v → ds[i]? = some (PySem.W.minD x es) → Q v H
def dMinDefR (xs : List D) (d : D) (φ : En → Prop) : Prop := match xs with
  | [.lst []] => φ (.d d)
  | [.lst (x :: ds)] => dMinR [.lst (x :: ds)] φ
  | _ => False
def dMinDef (da db : DT) : DT := fun Γ φ => da Γ fun e Γ1 => wf e fun x => db Γ1 fun e' Γ2 => wf e' fun d => dMinDefR [x] d fun z => φ z Γ2
instance snd_minDef [sa : Snd K E ψ ta da] [sb : Snd K E ψ tb db] : Snd K E ψ (tCKw (rMinDef K) (tCons ta tNil) (tCons tb tNil)) (dMinDef da db) := ⟨fun {c F H σ Γ φ Q} I eo h q => by
  refine sa.frz (φ := fun _ _ => True) (k := fun x Γ1 => db Γ1 fun e' Γ2 => wf e' fun d => dMinDefR [x] d fun z => φ z Γ2) I eo h fun F1 H1 v x Γ1 I1 s1 r1 h1 => ?_
  refine sb.frz (φ := fun _ _ => True) (k := fun d Γ2 => dMinDefR [x] d fun z => φ z Γ2) I1 eo h1 fun F2 H2 u d Γ2 I2 s2 r2 h2 => ?_
  have r1' := r1.mono s2
  cases x with
  | lst xs =>
    cases r1' with
    | @lst a vs _ e rs =>
      cases xs with
      | nil =>
        cases rs
        exact ⟨a, [], u, [], rfl, rfl, SqL.of (I2.fh _ _ e), .nil, ⟨by simp, by simp⟩, by simp [PyData.depthAll], fun _ => q F2 H2 _ _ Γ2 I2 (s1.trans s2) (Res.d r2) h2, fun x es z => nomatch z⟩
      | cons x es =>
        obtain ⟨h1, h3, h4, h5⟩ := h2
        refine ⟨a, vs, u, pys (x :: es), rfl, rfl, SqL.of (I2.fh _ _ e), rs.dp I2.fh h1, h3, h4, (fun z => by simp [pys] at z), fun y ys e1 i v hv hm => ?_⟩
        obtain ⟨w, hy, rpy⟩ := rs.getV hv
        obtain ⟨z, hz, ez⟩ := pys_get (ds := x :: es) (i := i) hm
        rw [hy] at hz
        cases hz
        rw [pys] at e1
        cases e1
        exact q F2 H2 v _ Γ2 I2 (s1.trans s2) (Res.d rpy) (h5 w (List.mem_of_getElem? hy) ez)
  | _ => exact h2.elim⟩
end
end Da

set_option Elab.async false
set_option maxRecDepth 100000
set_option maxHeartbeats 4000000
set_option linter.all false
namespace Da
open PySem PySem.Spec PyProof.Rows L2 RZ HmS
/-! ### things of whatever kind, as the laws make them -/
mutual
def D.good : D → Bool
  | .tup xs => goods xs && decide (xs.length ≤ 100)
  | .lst xs => goods xs && decide (xs.length ≤ 100)
  | .dK _ xs => goods xs
  | .dT _ _ => false
  | .ins _ _ _ => false
  | .str s => decide (s.length ≤ 1000)
  | _ => true
def goods : List D → Bool
  | [] => true
  | x :: r => x.good && goods r
end
theorem good_ty {x : D} (h : x.good = true) : x.ty.isSome = true := by
  cases x <;> first | rfl | exact absurd h Bool.false_ne_true
theorem goods_mem : ∀ {xs : List D}, goods xs = true → ∀ x ∈ xs, x.good = true
  | [], _, x, h => by simp at h
  | y :: r, g, x, h => by
    rw [goods, Bool.and_eq_true] at g
    rcases List.mem_cons.mp h with z | z
    · rw [z]
      exact g.1
    · exact goods_mem g.2 x z
theorem goods_of : ∀ {xs : List D}, (∀ x ∈ xs, x.good = true) → goods xs = true
  | [], _ => rfl
  | y :: r, h => by
    rw [goods, h y List.mem_cons_self, goods_of fun x hx => h x (List.mem_cons_of_mem _ hx)]
    rfl
theorem good_tup {xs : List D} (h : ∀ x ∈ xs, x.good = true) (l : xs.length ≤ 100) : (D.tup xs).good = true := by
  rw [D.good, goods_of h, Bool.true_and]
  exact decide_eq_true l
theorem tup_good {xs : List D} (h : (D.tup xs).good = true) : (∀ x ∈ xs, x.good = true) ∧ xs.length ≤ 100 := by
  rw [D.good, Bool.and_eq_true, decide_eq_true_eq] at h
  exact ⟨goods_mem h.1, h.2⟩
/-- what is spoilt: numbers, texts, tuples of them, of depth below n -/
def D.base : Nat → D → Bool
  | _, .int i => decide (i.natAbs < 2 ^ 40)
  | _, .str s => decide (s.length ≤ 100) && (D.str s).fitb 1
  | n + 1, .tup xs => decide (xs.length ≤ 40) && xs.all fun x => D.base n x
  | _, _ => false
end Da

set_option Elab.async false
set_option maxRecDepth 100000
set_option maxHeartbeats 4000000
set_option linter.all false
namespace Da
open PySem PySem.Spec PyProof.Rows L2 RZ HmS
/-! ### small steps of reading -/
end Da

set_option Elab.async false
set_option maxRecDepth 100000
set_option maxHeartbeats 4000000
set_option linter.all false
namespace Da
open PySem PySem.Spec PyProof.Rows L2 RZ HmS
/-! ### == and != beside [] and (), whatever the parts are -/
def rEqE (K : PySem.W.Frag) (neg : Bool) : R2 := fun x y H Q => ∃ (a b : Addr) (xs : List V), x = .ref a ∧ y = .ref b ∧ ((SqL K H a xs ∧ SqL K H b []) ∨ (SqT K H a xs ∧ SqT K H b [])) ∧ Q (.bl (if neg then !xs.isEmpty else xs.isEmpty)) H
section
variable {X : Cx}
end
def dEqE (neg : Bool) (x y : D) (φ : En → Prop) : Prop := match x, y with
  | .lst xs, .lst [] => φ (.d (.bl (if neg then !xs.isEmpty else xs.isEmpty)))
  | .tup xs, .tup [] => φ (.d (.bl (if neg then !xs.isEmpty else xs.isEmpty)))
  | _, _ => False
section
variable {K : PySem.W.Frag} [HasT K]
theorem Reps.empty {F : Hp} {vs : List V} {ds : List D} (r : Reps F vs ds) : vs.isEmpty = ds.isEmpty := by cases r <;> rfl
instance snd_eqE (neg : Bool) : SndR K (rEqE K neg) (dEqE neg) := ⟨fun {c F H σ Γ x y d e φ Q} I rx ry h q => by
  match d, e, rx, ry, h with
  | .lst xs, .lst [], @Rep.lst _ a vs _ e1 r1, @Rep.lst _ b us _ e2 r2, h =>
    cases r2
    refine ⟨a, b, vs, rfl, rfl, .inl ⟨SqL.of (I.fh _ _ e1), SqL.of (I.fh _ _ e2)⟩, ?_⟩
    rw [r1.empty]
    exact q F H _ _ I (Same.refl F) (Res.d (.bl _)) h
  | .tup xs, .tup [], @Rep.tup _ a vs _ e1 r1, @Rep.tup _ b us _ e2 r2, h =>
    cases r2
    refine ⟨a, b, vs, rfl, rfl, .inr ⟨SqT.of (I.fh _ _ e1), SqT.of (I.fh _ _ e2)⟩, ?_⟩
    rw [r1.empty]
    exact q F H _ _ I (Same.refl F) (Res.d (.bl _)) h⟩
end
end Da

set_option Elab.async false
set_option maxRecDepth 100000
set_option maxHeartbeats 4000000
set_option linter.all false
namespace Da
open PySem PySem.Spec PyProof.Rows L2 RZ HmS
/-! ### defs that are called where nothing is being shown -/
structure FnG (P : Program) (w : World) (K : PySem.W.Frag) (mg : Str → Option Value) (base : Heap) (k : Nat) (f : Addr) (fd : FuncData) (ps : List Str) (sp : Sp) : Prop where
  ln : ∀ vs H Q E, sp vs H Q E → vs.length = ps.length
  go : ∀ (A : Around) (outer : List Env) (s : Shared) (H : Hp) (args : Args) (us : List Value) (vs : List V) (Q : VK) (E : XK), A.guards = some [] → Room k A → Env0 P w K mg base A outer s H → BindsTo s fd args (ps.zip us) → Vals vs us → sp vs H Q E →
    codeAny (model P w) A (.call (.ref f) args) (CR CX0 outer P w H s Q E) s
section
variable {P : Program} {w : World} {K : PySem.W.Frag} [HasT K] {mg : Str → Option Value} {base : Heap}
end
section
variable {X : Cx} {x : Str} {f : Addr} {fd : FuncData} {ps : List Str} {k : Nat} {sp : Sp} {ds : List Value} {dvs : List V} {E : XK} {p pos : Pos} {e : Expr} {es : List Expr} {t : TA}
/-! ### repr of data -/
def rRepr (K : PySem.W.Frag) : List V → Hp → VK → Prop := fun xs H Q => ∃ (a : Addr) (d : PyData), xs = [.ref a] ∧ Dp K H (.ref a) d ∧ d.showable = true ∧ d.hasDict = false ∧ d.shown.length ≤ sizeLine ∧ d.depth ≤ 60 ∧ Q (.str d.shown) H
/-! ### == and != of texts -/
def rEqS (neg : Bool) : R2 := fun x y H Q => ∃ a b : Str, x = .str a ∧ y = .str b ∧ Q (.bl (if neg then !decide (a = b) else decide (a = b))) H
theorem op_eqS : OpR X (compareOp .Eq) (rEqS false) := by
  intro pins s σ H x y v u Q I rx ry h
  obtain ⟨a, b, rfl, rfl, q⟩ := h
  obtain ⟨t, rfl⟩ := rx
  obtain ⟨t2, rfl⟩ := ry
  refine SeqAt.RcAt.str_str a t b t2 X.prog X.w _ _ ⟨.bl (decide (a = b)), H, I, ?_, q⟩
  show Value.bool (a == b) = .bool (decide (a = b))
  rw [Bool.beq_eq_decide_eq]
theorem op_neS : OpR X (compareOp .NotEq) (rEqS true) := by
  intro pins s σ H x y v u Q I rx ry h
  obtain ⟨a, b, rfl, rfl, q⟩ := h
  obtain ⟨t, rfl⟩ := rx
  obtain ⟨t2, rfl⟩ := ry
  refine SeqAt.RcNeAt.str_str a t b t2 X.prog X.w _ _ ⟨.bl (!decide (a = b)), H, I, ?_, q⟩
  show Value.bool (!(a == b)) = .bool (!decide (a = b))
  rw [Bool.beq_eq_decide_eq]
end
end Da

set_option Elab.async false
set_option maxRecDepth 100000
set_option maxHeartbeats 4000000
set_option linter.all false
namespace Da
open PySem PySem.Spec PyProof.Rows L2 RZ HmS
section
variable {K : PySem.W.Frag} [HasT K]
/-- what is shown: of depth k at most, of weight w at most, its numbers below 10^12 -/
structure RpOk (k w : Nat) (x : D) : Prop where
  fl : x.flat = true
  ly : x.py.canLay0 = true
  dp : x.py.depth ≤ k
  wt : x.py.weight ≤ w
  sh : x.py.intsShort 13 = true
  sw : x.py.showable = true
theorem RpOk.mono {k w k' w' : Nat} {x : D} (h : RpOk k w x) (hk : k ≤ k') (hw : w ≤ w') : RpOk k' w' x := ⟨h.fl, h.ly, Nat.le_trans h.dp hk, Nat.le_trans h.wt hw, h.sh, h.sw⟩
theorem hasDict_of_lay : ∀ {d : PyData}, d.canLay0 = true → d.hasDict = false := by
  intro d h
  refine PyData.rec (motive_1 := fun d => d.canLay0 = true → d.hasDict = false) (motive_2 := fun ds => PyData.canLayAll0 ds = true → PyData.hasDictAll ds = false) (motive_3 := fun _ => True) (motive_4 := fun _ => True) ?_ ?_ ?_ ?_ ?_ ?_ ?_ ?_ ?_ ?_ ?_ ?_ d h
  · intro _; simp only [PyData.hasDict]
  · intro b _; simp only [PyData.hasDict]
  · intro i _; simp only [PyData.hasDict]
  · intro s _; simp only [PyData.hasDict]
  · intro xs ih h; simp only [PyData.hasDict]; exact ih (by simpa only [PyData.canLay0] using h)
  · intro xs ih h; simp only [PyData.hasDict]; exact ih (by simpa only [PyData.canLay0] using h)
  · intro kvs _ h; simp [PyData.canLay0] at h
  · intro _; simp only [PyData.hasDictAll]
  · intro x xs ix ih h
    simp only [PyData.canLayAll0, Bool.and_eq_true] at h
    simp only [PyData.hasDictAll, ix h.1, ih h.2, Bool.or_self]
  · trivial
  · intro _ _ _ _; trivial
  · intro _ _ _ _; trivial
theorem RpOk.int {i : Int} (h : i.natAbs < 10 ^ 12) : RpOk 1 40 (.int i) := by
  have l : i.natAbs.log2 < 40 := by
    by_cases z : i.natAbs = 0
    · rw [z]; decide
    · exact (Nat.log2_lt z).mpr (Nat.lt_of_lt_of_le h (by decide))
  refine ⟨rfl, by simp [D.py, PyData.canLay0], by simp [D.py, PyData.depth], ?_, ?_, ?_⟩
  · simp only [D.py, PyData.weight]
    split <;> omega
  · simp only [D.py, PyData.intsShort, decide_eq_true_eq]
    exact PyData.shown_int_le h
  · simp only [D.py, PyData.showable, decide_eq_true_eq]
    omega
theorem RpOk.non : RpOk 1 0 .non := ⟨rfl, by simp [D.py, PyData.canLay0], by simp [D.py, PyData.depth], by simp [D.py, PyData.weight], by simp [D.py, PyData.intsShort], by simp [D.py, PyData.showable]⟩
theorem RpOk.alls {k w : Nat} : ∀ {xs : List D}, (∀ x ∈ xs, RpOk k w x) → flats xs = true ∧ PyData.canLayAll0 (pys xs) = true ∧ PyData.depthAll (pys xs) ≤ k ∧ PyData.weightAll (pys xs) ≤ xs.length * (w + 1) ∧ PyData.intsShortAll 13 (pys xs) = true ∧ PyData.showableAll (pys xs) = true
  | [], _ => by simp [flats, pys, PyData.canLayAll0, PyData.depthAll, PyData.weightAll, PyData.intsShortAll, PyData.showableAll]
  | x :: r, h => by
    obtain ⟨h1, h2, h3, h4, h5, h6⟩ := RpOk.alls (xs := r) fun y hy => h y (List.mem_cons_of_mem _ hy)
    have hx := h x List.mem_cons_self
    have hd := hx.dp
    have hw := hx.wt
    refine ⟨by rw [flats, hx.fl, h1]; rfl, by simp only [pys, PyData.canLayAll0, hx.ly, h2, Bool.and_self], by simp only [pys, PyData.depthAll]; omega, ?_, by simp only [pys, PyData.intsShortAll, hx.sh, h5, Bool.and_self], by simp only [pys, PyData.showableAll, hx.sw, h6, Bool.and_self]⟩
    simp only [pys, PyData.weightAll, List.length_cons]
    rw [Nat.succ_mul]
    omega
theorem RpOk.tup {k w : Nat} {xs : List D} (h : ∀ x ∈ xs, RpOk k w x) : RpOk (k + 1) (xs.length * (w + 1)) (.tup xs) := by
  obtain ⟨h1, h2, h3, h4, h5, h6⟩ := RpOk.alls h
  exact ⟨h1, by simpa only [D.py, PyData.canLay0] using h2, by simp only [D.py, PyData.depth]; omega, by simpa only [D.py, PyData.weight] using h4, by simpa only [D.py, PyData.intsShort] using h5, by simpa only [D.py, PyData.showable] using h6⟩
theorem RpOk.lst {k w : Nat} {xs : List D} (h : ∀ x ∈ xs, RpOk k w x) : RpOk (k + 1) (xs.length * (w + 1)) (.lst xs) := by
  obtain ⟨h1, h2, h3, h4, h5, h6⟩ := RpOk.alls h
  exact ⟨h1, by simpa only [D.py, PyData.canLay0] using h2, by simp only [D.py, PyData.depth]; omega, by simpa only [D.py, PyData.weight] using h4, by simpa only [D.py, PyData.intsShort] using h5, by simpa only [D.py, PyData.showable] using h6⟩
def D.seq : D → Bool
  | .tup _ => true
  | .lst _ => true
  | _ => false
def dReprR (xs : List D) (φ : En → Prop) : Prop := match xs with
  | [x] => x.seq = true ∧ RpOk 60 1048576 x ∧ φ (.d (.str x.py.shown))
  | _ => False
instance snd_repr : SndC K (rRepr K) dReprR := ⟨fun {c F H σ Γ xs ds φ Q} I r h q => by
  match ds, r, h with
  | [x], r, ⟨hq, ok, h⟩ =>
    obtain ⟨v, rfl, rp⟩ := one_of r
    have dp := rp.dp (K := K) I.fh ok.fl
    have hsz : x.py.shown.length ≤ sizeLine := PyData.shown_fits_of_layable0 (B := 13) (by decide) (by decide) (by
      show (x.py.canLay0 && decide (x.py.depth ≤ 64) && decide (x.py.weight ≤ 2 ^ 20)) = true
      rw [ok.ly, decide_eq_true (Nat.le_trans ok.dp (by decide)), decide_eq_true (Nat.le_trans ok.wt (by decide))]
      rfl) ok.sh
    have fin : ∀ a, v = .ref a → rRepr K [v] H Q := fun a e => by
      subst e
      exact ⟨a, x.py, rfl, dp, ok.sw, hasDict_of_lay ok.ly, hsz, ok.dp, q F H _ _ I (Same.refl F) (Res.d (.str _)) h⟩
    cases x with
    | tup xs =>
      cases rp with
      | @tup a vs _ e rs => exact fin a rfl
    | lst xs =>
      cases rp with
      | @lst a vs _ e rs => exact fin a rfl
    | _ => exact absurd hq Bool.false_ne_true⟩
def dEqS (neg : Bool) (x y : D) (φ : En → Prop) : Prop := match x, y with
  | .str a, .str b => φ (.d (.bl (if neg then !decide (a = b) else decide (a = b))))
  | _, _ => False
instance snd_eqS (neg : Bool) : SndR K (rEqS neg) (dEqS neg) := ⟨fun {c F H σ Γ x y d e φ Q} I rx ry h q => by
  match d, e, rx, ry, h with
  | .str a, .str b, .str _, .str _, h => exact ⟨a, b, rfl, rfl, q F H _ _ I (Same.refl F) (Res.d (.bl _)) h⟩⟩
end
/-! ### the end where something is shown -/
end Da

set_option Elab.async false
set_option maxRecDepth 100000
set_option maxHeartbeats 4000000
set_option linter.all false
namespace Da
open PySem PySem.Spec PyProof.Rows L2 RZ HmS
/-! ### dicts whose keys are tuples -/
def keysL : List D → Option (List Key)
  | [] => some []
  | x :: r => match keyOf x, keysL r with
    | some k, some ks => some (k :: ks)
    | _, _ => none
def keysOf : D → Option (List Key)
  | .tup xs => keysL xs
  | _ => none
def tupD (k : List Key) : D := .tup (k.map Da.kD)
theorem keysL_rep {F : Hp} : ∀ {vs : List V} {xs : List D} {k : List Key}, Reps F vs xs → keysL xs = some k → vs = k.map kV
  | _, [], _, .nil, h => by cases h; rfl
  | v :: vs, x :: r, k, .cons a b, h => by
    unfold keysL at h
    cases e1 : keyOf x with
    | none => rw [e1] at h; cases h
    | some k1 =>
      cases e2 : keysL r with
      | none => rw [e1, e2] at h; cases h
      | some ks =>
        rw [e1, e2] at h
        cases h
        rw [List.map_cons, keyOf_rep a e1, keysL_rep b e2]
theorem keysOf_rep {F : Hp} {v : V} {x : D} {k : List Key} (r : Rep F v x) (h : keysOf x = some k) : ∃ b, v = .ref b ∧ F b = some (.tup (k.map kV)) := by
  cases x with
  | tup xs =>
    cases r with
    | @tup a vs _ e rs => exact ⟨a, rfl, by rw [← keysL_rep rs h]; exact e⟩
  | _ => cases h
theorem rep_keys {F : Hp} : ∀ k : List Key, Reps F (k.map kV) (k.map Da.kD)
  | [] => .nil
  | .inl i :: r => .cons (.int i) (rep_keys r)
  | .inr z :: r => .cons (.str z) (rep_keys r)
theorem rep_tupD {F : Hp} {b : Addr} {k : List Key} (e : F b = some (.tup (k.map kV))) : Rep F (.ref b) (tupD k) := .tup e (rep_keys k)
def dtOf (e : En) : Option (List (List Key) × List D) := match e with
  | .dT ks xs => some (ks, xs)
  | .d (.dT ks xs) => some (ks, xs)
  | _ => none
section
variable {K : PySem.W.Frag} [HasT K]
theorem Held.dt {c : Ct K} {F H : Hp} {e : En} {v : V} {ks : List (List Key)} {xs : List D} (fh : Same F H) (h : Held c F H e v) (k : dtOf e = some (ks, xs)) : ∃ a kvs, v = .ref a ∧ H a = some (.dT kvs) ∧ kvs.map (·.1) = ks ∧ Reps F (kvs.map (·.2)) xs := by
  cases e with
  | dT ks' xs' =>
    cases k
    obtain ⟨a, kvs, rfl, _, _, h1, h2, h3⟩ := h
    exact ⟨a, kvs, rfl, h1, h2, h3⟩
  | d x =>
    cases x with
    | dT ks' xs' =>
      cases k
      cases (show Rep F v (.dT ks xs) from h) with
      | @dT a kvs _ _ e1 e2 r => exact ⟨a, kvs, rfl, fh _ _ e1, e2, r⟩
    | _ => cases k
  | _ => cases k
theorem dt_no {e : En} {p : List (List Key) × List D} (h : dtOf e = some p) : e ≠ .no := fun z => by rw [z] at h; cases h
end
def tDGetT (td ty : TE) : TE := tDGet td ty
def tDInT (ty td : TE) : TE := tDIn ty td
def tDNotInT (ty td : TE) : TE := tDNotIn ty td
def sDPutT (td ty tv : TE) : TS := sDPut td ty tv
def tDGet2T (td ty tx : TE) : TE := tDGet2 td ty tx
section
variable {X : Cx} {o i e f value : Expr} {pos pos' : Pos} {apos cpos : Pos} {td ty tv tx : TE}
theorem pe_dgetT (hu : X.A.units + 1 < cLine) (ho : PE X o td) (hi : PE X i ty) (hs : NoSl i) : PE X (.Subscript o i pos) (tDGetT td ty) := pe_dget hu ho hi hs
theorem ps_dputT (hu : X.A.units + 1 < cLine) (ho : PE X o td) (hi : PE X i ty) (hv : PE X value tv) (hs : swapsWith value (some (.Subscript o i pos')) pos.line X.env = pure false) : PS X (.Assign [.Subscript o i pos'] value pos) (sDPutT td ty tv) := ps_dput hu ho hi hv hs
end
section
variable {K : PySem.W.Frag} [HasT K] {E : XK} {ψ : Value → Prop} {ta tb tx : TE} {da db dx : DT}
/-- {} -/
def dNewT : DT := fun Γ φ => φ (.dT [] []) Γ
instance snd_newT : Snd K E ψ tDNewT dNewT := ⟨fun {c F H σ Γ φ Q} I eo h q => fun p hp =>
  q F _ (.ref p) (.dT [] []) Γ (I.newH hp) (Same.refl F) ⟨⟨p, [], rfl, I.unF hp, I.un hp, upd_same, rfl, .nil⟩, (fun z => nomatch z), fun a e => by cases e; exact I.fresh hp⟩ h⟩
/-- d[k] -/
def dTGet (i : Nat) (db : DT) : DT := fun Γ φ => (∃ e ks xs, Γ[i]? = some e ∧ dtOf e = some (ks, xs)) ∧ db Γ fun e' Γ1 => wf e' fun y => ∃ e ks xs k x, Γ1[i]? = some e ∧ dtOf e = some (ks, xs) ∧ keysOf y = some k ∧ lookD ks xs k = some x ∧ φ (.d x) Γ1
instance snd_tget {i : Nat} [b : Snd K E ψ tb db] : Snd K E ψ (tDGetT (tVar i) tb) (dTGet i db) := ⟨fun {c F H σ Γ φ Q} I eo h q => by
  obtain ⟨⟨e, ks, xs, g, hk⟩, h⟩ := h
  obtain ⟨v, hv, hh⟩ := I.at_ i _ g (dt_no hk)
  obtain ⟨a, kvs, rfl, _⟩ := hh.dt I.fh hk
  refine ⟨_, hv, ?_⟩
  refine b.frz (φ := fun _ _ => True) (k := fun y Γ1 => ∃ e ks xs k x, Γ1[i]? = some e ∧ dtOf e = some (ks, xs) ∧ keysOf y = some k ∧ lookD ks xs k = some x ∧ φ (.d x) Γ1) I eo h fun F1 H1 w y Γ1 I1 s1 rp h1 => ?_
  obtain ⟨e1, ks1, xs1, k, x, g1, hk1, hy, hl, h1⟩ := h1
  obtain ⟨v', hv', hh1⟩ := I1.at_ i _ g1 (dt_no hk1)
  rw [hv] at hv'
  cases hv'
  obtain ⟨a', kvs1, ea, ha, ek, rs⟩ := hh1.dt I1.fh hk1
  cases ea
  obtain ⟨u, hu, ru⟩ := (valV_look ek rs).1 x hl
  obtain ⟨b, rfl, hb⟩ := keysOf_rep rp hy
  refine ⟨a, u, rfl, ?_, q F1 H1 u _ Γ1 I1 s1 (Res.d ru) h1⟩
  rw [← hu]
  exact DGet.t (k := k) ha (I1.fh _ _ hb)⟩
/-- k in d -/
def dTIn (neg : Bool) (i : Nat) (db : DT) : DT := fun Γ φ => db Γ fun e' Γ1 => wf e' fun y => ∃ e ks xs k, Γ1[i]? = some e ∧ dtOf e = some (ks, xs) ∧ keysOf y = some k ∧ φ (.d (.bl (if neg then !(lookD ks xs k).isSome else (lookD ks xs k).isSome))) Γ1
theorem look_someT {F : Hp} {kvs : List (List Key × V)} {ks : List (List Key)} {ds : List D} {k : List Key} (ek : kvs.map (·.1) = ks) (rs : Reps F (kvs.map (·.2)) ds) : (valV kvs k).isSome = (lookD ks ds k).isSome := by
  obtain ⟨h1, h2⟩ := valV_look (j := k) ek rs
  cases e : lookD ks ds k with
  | none => rw [h2 e]; rfl
  | some x =>
    obtain ⟨v, hv, _⟩ := h1 x e
    rw [hv]
    rfl
instance snd_tin {i : Nat} [b : Snd K E ψ tb db] : Snd K E ψ (tDInT tb (tVar i)) (dTIn false i db) := ⟨fun {c F H σ Γ φ Q} I eo h q => by
  refine b.frz (φ := fun _ _ => True) (k := fun y Γ1 => ∃ e ks xs k, Γ1[i]? = some e ∧ dtOf e = some (ks, xs) ∧ keysOf y = some k ∧ φ (.d (.bl (lookD ks xs k).isSome)) Γ1) I eo h fun F1 H1 w y Γ1 I1 s1 rp h1 => ?_
  obtain ⟨e1, ks1, xs1, k, g1, hk1, hy, h1⟩ := h1
  obtain ⟨v', hv', hh1⟩ := I1.at_ i _ g1 (dt_no hk1)
  obtain ⟨a, kvs1, rfl, ha, ek, rs⟩ := hh1.dt I1.fh hk1
  obtain ⟨b, rfl, hb⟩ := keysOf_rep rp hy
  refine ⟨_, hv', a, _, rfl, DGet.t (k := k) ha (I1.fh _ _ hb), ?_⟩
  rw [look_someT ek rs]
  exact q F1 H1 _ _ Γ1 I1 s1 (Res.d (.bl _)) h1⟩
instance snd_tnotin {i : Nat} [b : Snd K E ψ tb db] : Snd K E ψ (tDNotInT tb (tVar i)) (dTIn true i db) := ⟨fun {c F H σ Γ φ Q} I eo h q => by
  refine b.frz (φ := fun _ _ => True) (k := fun y Γ1 => ∃ e ks xs k, Γ1[i]? = some e ∧ dtOf e = some (ks, xs) ∧ keysOf y = some k ∧ φ (.d (.bl (!(lookD ks xs k).isSome))) Γ1) I eo h fun F1 H1 w y Γ1 I1 s1 rp h1 => ?_
  obtain ⟨e1, ks1, xs1, k, g1, hk1, hy, h1⟩ := h1
  obtain ⟨v', hv', hh1⟩ := I1.at_ i _ g1 (dt_no hk1)
  obtain ⟨a, kvs1, rfl, ha, ek, rs⟩ := hh1.dt I1.fh hk1
  obtain ⟨b, rfl, hb⟩ := keysOf_rep rp hy
  refine ⟨_, hv', a, _, rfl, DGet.t (k := k) ha (I1.fh _ _ hb), ?_⟩
  rw [look_someT ek rs]
  exact q F1 H1 _ _ Γ1 I1 s1 (Res.d (.bl _)) h1⟩
/-- d.get(k, x) -/
def dTGet2 (i : Nat) (db dx : DT) : DT := fun Γ φ => (∃ e ks xs, Γ[i]? = some e ∧ dtOf e = some (ks, xs)) ∧ db Γ fun e' Γ1 => wf e' fun y => dx Γ1 fun e2 Γ2 => wf e2 fun z => ∃ e ks xs k, Γ2[i]? = some e ∧ dtOf e = some (ks, xs) ∧ keysOf y = some k ∧ φ (.d ((lookD ks xs k).getD z)) Γ2
instance snd_tget2 {i : Nat} [b : Snd K E ψ tb db] [x : Snd K E ψ tx dx] : Snd K E ψ (tDGet2T (tVar i) tb tx) (dTGet2 i db dx) := ⟨fun {c F H σ Γ φ Q} I eo h q => by
  obtain ⟨⟨e, ks, xs, g, hk⟩, h⟩ := h
  obtain ⟨v, hv, hh⟩ := I.at_ i _ g (dt_no hk)
  obtain ⟨a, kvs, rfl, ha0, _⟩ := hh.dt I.fh hk
  refine ⟨_, hv, a, rfl, .inr ⟨kvs, .inl ha0⟩, ?_⟩
  refine b.frz (φ := fun _ _ => True) (k := fun y Γ1 => dx Γ1 fun e2 Γ2 => wf e2 fun z => ∃ e ks xs k, Γ2[i]? = some e ∧ dtOf e = some (ks, xs) ∧ keysOf y = some k ∧ φ (.d ((lookD ks xs k).getD z)) Γ2) I eo h fun F1 H1 w y Γ1 I1 s1 rp h1 => ?_
  refine x.frz (φ := fun _ _ => True) (k := fun z Γ2 => ∃ e ks xs k, Γ2[i]? = some e ∧ dtOf e = some (ks, xs) ∧ keysOf y = some k ∧ φ (.d ((lookD ks xs k).getD z)) Γ2) I1 eo h1 fun F2 H2 u z Γ2 I2 s2 rz h2 => ?_
  obtain ⟨e1, ks1, xs1, k, g1, hk1, hy, h2⟩ := h2
  obtain ⟨v', hv', hh1⟩ := I2.at_ i _ g1 (dt_no hk1)
  rw [hv] at hv'
  cases hv'
  obtain ⟨a', kvs1, ea, ha, ek, rs⟩ := hh1.dt I2.fh hk1
  cases ea
  obtain ⟨b, rfl, hb⟩ := keysOf_rep rp hy
  refine ⟨_, DGet.t (k := k) ha (I2.fh _ _ (s2 _ _ hb)), ?_⟩
  obtain ⟨z1, z2⟩ := valV_look (j := k) ek rs
  cases el : lookD ks1 xs1 k with
  | none =>
    rw [z2 el]
    rw [el] at h2
    exact q F2 H2 _ _ Γ2 I2 (s1.trans s2) (Res.d rz) h2
  | some y2 =>
    obtain ⟨w2, hw, rw1⟩ := z1 y2 el
    rw [hw]
    rw [el] at h2
    exact q F2 H2 _ _ Γ2 I2 (s1.trans s2) (Res.d rw1) h2⟩
end
/-- d[k] = v -/
def hasT (ks : List (List Key)) (j : List Key) : Bool := ks.any fun k => decide (k = j)
def putTs (ks : List (List Key)) (j : List Key) : List (List Key) := if hasT ks j = true then ks else ks ++ [j]
def putTx : List (List Key) → List D → List Key → D → List D
  | k :: ks, x :: xs, j, y => (if k = j then y else x) :: putTx ks xs j y
  | _, xs, _, _ => xs
def putTD (ks : List (List Key)) (xs : List D) (j : List Key) (y : D) : List D := if hasT ks j = true then putTx ks xs j y else xs ++ [y]
theorem putT_rep {F : Hp} {j : List Key} {v : V} {y : D} (ry : Rep F v y) {kvs : List (List Key × V)} {ks : List (List Key)} {xs : List D} (ek : kvs.map (·.1) = ks) (rs : Reps F (kvs.map (·.2)) xs) :
    (putK kvs j v).map (·.1) = putTs ks j ∧ Reps F ((putK kvs j v).map (·.2)) (putTD ks xs j y) := by
  unfold putK putTs putTD
  have ea : (kvs.any fun kv => decide (kv.1 = j)) = hasT ks j := by
    subst ek
    unfold hasT
    rw [List.any_map]
    rfl
  rw [ea]
  by_cases hj : hasT ks j = true
  · rw [if_pos hj, if_pos hj, if_pos hj]
    constructor
    · rw [← ek, List.map_map]
      refine List.map_congr_left fun p _ => ?_
      show (if p.1 = j then (p.1, v) else p).1 = p.1
      split <;> rfl
    · clear ea hj
      subst ek
      induction kvs generalizing xs with
      | nil =>
        cases rs
        exact .nil
      | cons p r ih =>
        cases rs with
        | cons a b =>
          rw [List.map_cons, List.map_cons]
          refine .cons ?_ (ih b)
          show Rep F (if p.1 = j then (p.1, v) else p).2 (if p.1 = j then y else _)
          by_cases z : p.1 = j
          · rw [if_pos z, if_pos z]
            exact ry
          · rw [if_neg z, if_neg z]
            exact a
  · rw [if_neg hj, if_neg hj, if_neg hj]
    exact ⟨by rw [List.map_append, ek]; rfl, by rw [List.map_append]; exact rs.app (.cons ry .nil)⟩
section
variable {K : PySem.W.Frag} [HasT K] {E : XK} {ψ : Value → Prop} {ta tb : TE} {da db : DT}
def dTPut (i : Nat) (dj da : DT) : DSt := fun Γ P => da Γ fun e Γ1 => wf e fun x => (∃ ks xs, Γ1[i]? = some (.dT ks xs)) ∧ dj Γ1 fun e' Γ2 => wf e' fun y => ∃ ks xs k, Γ2[i]? = some (.dT ks xs) ∧ keysOf y = some k ∧ ks.length ≤ 100000 ∧ P.nx (Γ2.set i (.dT (putTs ks k) (putTD ks xs k x)))
instance snds_tput {i : Nat} [a : Snd K E ψ ta da] [b : Snd K E ψ tb db] : SndS K E ψ (sDPutT (tVar i) tb ta) (dTPut i db da) := ⟨fun {c F H σ Γ P D} I eo h m => by
  refine a.frz (φ := fun _ _ => True) (k := fun x Γ1 => (∃ ks xs, Γ1[i]? = some (.dT ks xs)) ∧ db Γ1 fun e' Γ2 => wf e' fun y => ∃ ks xs k, Γ2[i]? = some (.dT ks xs) ∧ keysOf y = some k ∧ ks.length ≤ 100000 ∧ P.nx (Γ2.set i (.dT (putTs ks k) (putTD ks xs k x)))) I eo h fun F1 H1 w x Γ1 I1 s1 rp h1 => ?_
  obtain ⟨⟨ks0, xs0, g⟩, h1⟩ := h1
  obtain ⟨v, hv, p, kvs, rfl, fp, h0, hp, ek, rs⟩ := I1.at_ i _ g (fun z => nomatch z)
  refine ⟨_, hv, ?_⟩
  refine b.frz (φ := fun _ _ => True) (k := fun y Γ2 => ∃ ks xs k, Γ2[i]? = some (.dT ks xs) ∧ keysOf y = some k ∧ ks.length ≤ 100000 ∧ P.nx (Γ2.set i (.dT (putTs ks k) (putTD ks xs k x)))) I1 eo h1 fun F2 H2 u y Γ2 I2 s2 ry h2 => ?_
  obtain ⟨ks, xs, k, g2, hy, hl, h2⟩ := h2
  obtain ⟨v', hv', p', kvs2, ev, fp1, h01, hp1, ek1, rs1⟩ := I2.at_ i _ g2 (fun z => nomatch z)
  rw [hv] at hv'
  cases hv'
  cases ev
  have ll : kvs2.length = ks.length := by rw [← ek1, List.length_map]
  obtain ⟨k1, k2⟩ := putT_rep (rp.mono s2) ek1 rs1 (j := k)
  obtain ⟨b, rfl, hb⟩ := keysOf_rep ry hy
  refine ⟨p, _, rfl, DPut.t (k := k) hp1 (I2.fh _ _ hb) (by rw [ll]; exact Nat.lt_of_le_of_lt hl (by decide)), ?_⟩
  exact m.nx _ _ _ _ (I2.slot (e' := .dT (putTs ks k) (putTD ks xs k x)) g2 hv rfl h01 ⟨p, _, rfl, fp1, h01, upd_same, k1, k2⟩ (fun z => nomatch z) fun b x => x) h2⟩
/-- sorted(d): the keys, rising -/
def sortKs (ks : List (List Key)) : List (List Key) := ks.mergeSort (PySem.W.dataLe false keyD)
def dSortT (xs : List D) (φ : En → Prop) : Prop := match xs with
  | [.dT ks _] => ks.length ≤ 1000 ∧ PySem.W.AllAlike (ks.map keyD) ∧ (∀ k ∈ ks, k ≠ []) ∧ (ks.Nodup → φ (.lst ((sortKs ks).map tupD)))
  | _ => False
theorem keys_zip {H : Hp} {kvs : List (List Key × V)} {bs : List Addr} (h : IsKeys H kvs bs) : bs.length = kvs.length ∧ ∀ z ∈ bs.zip kvs, H z.1 = some (.tup (z.2.1.map kV)) := by
  unfold IsKeys at h
  induction h with
  | nil => exact ⟨rfl, by simp⟩
  | cons a _ ih =>
    refine ⟨by rw [List.length_cons, List.length_cons, ih.1], fun z hz => ?_⟩
    rw [List.zip_cons_cons] at hz
    rcases List.mem_cons.mp hz with rfl | w
    · exact a
    · exact ih.2 z w
theorem sort_zip {bs : List Addr} {kvs : List (List Key × V)} (hl : bs.length = kvs.length) : (((bs.zip kvs).mergeSort (PySem.W.dataLe false fun z => keyD z.2.1)).map fun z => z.2.1) = sortKs (kvs.map (·.1)) := by
  unfold sortKs
  rw [PySem.W.sort_maps (r := PySem.W.dataLe false fun z : Addr × List Key × V => keyD z.2.1) (s := PySem.W.dataLe false keyD) (fun z : Addr × List Key × V => z.2.1) (fun a _ b _ => rfl)]
  have : (bs.zip kvs).map (fun z => z.2.1) = kvs.map (·.1) := by
    have e := List.map_snd_zip (l₁ := bs) (l₂ := kvs) (by omega)
    have e2 := congrArg (List.map (·.1)) e
    rw [List.map_map] at e2
    exact e2
  rw [this]
theorem reps_of {α : Type} {F : Hp} {g : α → V} {f : α → D} : ∀ {l : List α}, (∀ a ∈ l, Rep F (g a) (f a)) → Reps F (l.map g) (l.map f)
  | [], _ => .nil
  | a :: r, h => .cons (h a List.mem_cons_self) (reps_of fun b hb => h b (List.mem_cons_of_mem _ hb))
instance snd_sortDT : SndC K rSortDT dSortT := ⟨fun {c F H σ Γ xs ds φ Q} I r h q => by
  match ds, r, h with
  | [.dT ks xs], r, h =>
    obtain ⟨h1, h2, h3, h4⟩ := h
    obtain ⟨v, rfl, rp⟩ := one_of r
    cases rp with
    | @dT a kvs _ _ e ek rs =>
      have ha := I.fh _ _ e
      subst ek
      refine ⟨a, kvs, rfl, .inl ha, by simpa using h1, ?_, fun p hp => h3 _ (List.mem_map.mpr ⟨p, hp, rfl⟩), fun p bs hp hik nd => ?_⟩
      · have : (kvs.map fun p => keyD p.1) = (kvs.map (·.1)).map keyD := by rw [List.map_map]; rfl
        rw [this]
        exact h2
      · obtain ⟨hl, hz⟩ := keys_zip hik
        have I2 := I.tups
        have rr : Reps (tupF F H) (((bs.zip kvs).mergeSort (PySem.W.dataLe false fun z => keyD z.2.1)).map fun z => V.ref z.1) ((sortKs (kvs.map (·.1))).map tupD) := by
          rw [← sort_zip hl, List.map_map]
          refine reps_of fun z hzm => ?_
          exact rep_tupD (tupF_at I.fh (hz z ((List.mergeSort_perm _ _).mem_iff.mp hzm)))
        obtain ⟨I3, r3⟩ := I2.newL hp rr
        exact q _ _ _ _ I3 tupF_same r3 (h4 nd)⟩
end
end Da

set_option Elab.async false
set_option maxRecDepth 100000
set_option maxHeartbeats 4000000
set_option linter.all false
namespace Da
open PySem PySem.Spec PyProof.Rows L2 RZ HmS
/-! ### promises of defs that may raise -/
def sx1 (k : D → (En → Prop) → (Value → Prop) → Prop) : DSp := fun ds φ ψ => match ds with | [x] => k x φ ψ | _ => False
def sx2 (k : D → D → (En → Prop) → (Value → Prop) → Prop) : DSp := fun ds φ ψ => match ds with | [x, y] => k x y φ ψ | _ => False
section
variable {K : PySem.W.Frag} [HasT K] {t : TS} {dts : (Value → Prop) → DSt} {N : List Str} {vs : List V} {H : Hp} {Q : VK} {E' : XK}
theorem lex1 {k : D → (En → Prop) → (Value → Prop) → Prop} (h : spX K (sx1 k) vs H Q E') : vs.length = 1 := lenX h fun ds _ _ e => by match ds, e with | [_], _ => rfl
theorem lex2 {k : D → D → (En → Prop) → (Value → Prop) → Prop} (h : spX K (sx2 k) vs H Q E') : vs.length = 2 := lenX h fun ds _ _ e => by match ds, e with | [_, _], _ => rfl
theorem bodx1 {k : D → (En → Prop) → (Value → Prop) → Prop} [s : ∀ ψ, SndS K E' ψ t (dts ψ)] (h : spX K (sx1 k) vs H Q E') (hd : ∀ x φ ψ, k x φ ψ → dts ψ (st0 N [x]) (po φ)) : t (bodyGoal Q) (L2.start N vs) H :=
  bodyX (s := s) h fun ds φ ψ e => by match ds, e with | [x], e => exact hd x φ ψ e
theorem bodx2 {k : D → D → (En → Prop) → (Value → Prop) → Prop} [s : ∀ ψ, SndS K E' ψ t (dts ψ)] (h : spX K (sx2 k) vs H Q E') (hd : ∀ x y φ ψ, k x y φ ψ → dts ψ (st0 N [x, y]) (po φ)) : t (bodyGoal Q) (L2.start N vs) H :=
  bodyX (s := s) h fun ds φ ψ e => by match ds, e with | [x, y], e => exact hd x y φ ψ e
end
/-! ### raise -/
structure ErrT (K : PySem.W.Frag) (mg : Str → Option Value) (n : Str) (C : Addr) : Prop where
  x : PySem.W.excIn K C [.type "ValueError", .type "Exception", .type "BaseException", .type "object"] "ValueError.__new__" = true
  g : mg n = some (.ref C)
  k : PySem.W.keepIn K (.ref C) = true
  b : PySem.W.subIn K (.ref C) (.type "BaseException") = some true
  t : PySem.W.typeIn K (.ref C) = some (.type "type")
theorem ps_rse {X : Cx} {n m : Str} {C : Addr} {E : XK} {j : Nat} {p p2 pos pos' : Pos} (T : ErrT X.K X.mg n C) (hc : X.calm = true) (tk : Takes X (fun cls d _ H => E cls d H)) (hg : Gl X n) (hdb : (n == ("__debug__" : Str)) = false := by decide) :
    PS X (.Raise (some (.Call (.Name n p) [.Constant (.str m) j p2] [] pos)) none pos') (tRse E (.ref C)) :=
  ps_raise hc tk (pmk_own PySem.F.excBase_ValueError T.x T.g T.k (raises_own T.b T.t) hg hdb)
/-! ### x(lambda: body), x a def that tells by a word what the call raised -/
def TTwhy (wo : Value → Str → Prop) (okw : Str) : (XK → Hp → VK → Prop) → Hp → VK → Prop := fun tl H Q => tl (fun cls _ H' => ∃ w, wo cls w ∧ Q (.str w) H') H fun _ H' => Q (.str okw) H'
/-- what a lambda sees: what stays for ever -/
def onlyE : En → En
  | .d x => .d x
  | _ => .no
def dWhy (wo : Value → Str → Prop) (okw : Str) (den : (Value → Prop) → DT) : DT := fun Γ φ => ∃ ψ : Value → Prop, (∀ C, ψ C → ∃ w, wo C w ∧ φ (.d (.str w)) Γ) ∧ den ψ (Γ.map onlyE) fun _ _ => φ (.d (.str okw)) Γ
section
variable {K : PySem.W.Frag} [HasT K]
theorem onlyE_some {e x : En} (h : onlyE e = x) (n : x ≠ .no) : ∃ y, e = .d y ∧ x = .d y := by
  cases e with
  | d y => exact ⟨y, rfl, h.symm⟩
  | _ => exact absurd h.symm n
theorem Is.only {c : Ct K} {F H H1 : Hp} {σ : L2.St} {Γ : List En} (I : Is c F H σ Γ) (sh : NS H H1) (tb : TbOk K H1) : Is (c0 K F H1) F H1 σ (Γ.map onlyE) := by
  have on : ∀ (i : Nat) (e : En), (Γ.map onlyE)[i]? = some e → e ≠ .no → ∃ y, Γ[i]? = some (.d y) ∧ e = .d y := fun i e g n => by
    rw [List.getElem?_map] at g
    cases q : Γ[i]? with
    | none => rw [q] at g; cases g
    | some u =>
      rw [q] at g
      obtain ⟨y, rfl, e2⟩ := onlyE_some (Option.some.inj g) n
      exact ⟨y, rfl, e2⟩
  refine ⟨Same.refl F, fun a o e => sh a o (I.fn a o e) (I.fh a o e), fun a o e => .inl e, fun a o _ e => (ntH_some e).1, (fun p e => nomatch e), by rw [List.length_map]; exact I.len, fun i e g n => ?_, fun i j b e e' v v' ij g g' s s' o o' => ?_, I.fn, tb, fun a o e => (ntH_some e).2⟩
  · obtain ⟨y, g2, rfl⟩ := on i e g n
    obtain ⟨v, hv, r⟩ := I.at_ i _ g2 (fun z => nomatch z)
    exact ⟨v, hv, r⟩
  · obtain ⟨y, _, rfl⟩ := on i e g (adr_no o)
    exact o.elim
instance snd_lam {E : XK} {ψ : Value → Prop} {wo : Value → Str → Prop} {okw : Str} {t : XK → TE} {den : (Value → Prop) → DT} [s : ∀ E' ψ', Snd K E' ψ' (t E') (den ψ')] : Snd K E ψ (LamX.tLam (HasT.T K) (TTwhy wo okw) t) (dWhy wo okw den) := ⟨fun {c F H σ Γ φ Q} I eo h q => by
  obtain ⟨ψ', h1, h2⟩ := h
  refine ⟨I.tb, fun H1 ex tb1 => ?_⟩
  have sh : NS H H1 := fun b o n e => ex b o e n
  have bk : ∀ {H2 : Hp}, NS H1 H2 → TbOk K H2 → Is c F H2 σ Γ := fun {H2} s2 t2 => I.growN (Same.refl F) (sh.trans s2) t2 (fun a o e => s2 a o (I.fn a o e) (sh a o (I.fn a o e) (I.fh a o e))) I.fn fun a o e => .inl e
  refine (s _ ψ').run (I.only sh tb1) (fun C H' k _ t2 z => ?_) h2 fun F2 H2 v e Γ2 I2 _ _ z => ?_
  · obtain ⟨w, hw, hφ⟩ := h1 C z
    exact ⟨w, hw, q F H' _ _ Γ (bk (fun b o n e => k b o (fun z => nomatch z) (ntH_of e n)) t2) (Same.refl F) (Res.d (.str w)) hφ⟩
  · exact q F H2 _ _ Γ (bk (fun b o n e => I2.h0 b o (fun z => nomatch z) (ntH_of e n)) I2.tb) (Same.refl F) (Res.d (.str okw)) z⟩
end
/-! ### a def whose code object is known -/
structure FunL (K : PySem.W.Frag) (x : Str) (st : Stmt) (f : Addr) (fd : FuncData) (c : Addr) : Prop where
  ex : ∃ (oc : Value) (od : Option Addr) (kV doc pm : Value) (an : Option Addr) (ct : Value) (osl : Array (Option Value)),
    fd = PySem.W.fnOf x x (defArgs st) (defBody st) (defScope st) .none kV doc pm an (.ref c) ct ∧ K.lookup f = some ⟨oc, od, .func fd, osl⟩ ∧ PySem.W.codeIn K (.ref c) x = true
section
variable {P : Program} {w : World} {K : PySem.W.Frag} {mg : Str → Option Value} {base : Heap}
end
/-- a law with lambdas within its defs: the tables of the code objects that make them -/
theorem TbOk.start {K : PySem.W.Frag} [t : HasT K] {H : Hp} (h : ∀ p ∈ t.T, H p.1 = some (.tbl #[])) : TbOk K H := fun p hp => LamX.TabS.nil (h p hp)
end Da

set_option Elab.async false
set_option maxRecDepth 100000
set_option maxHeartbeats 4000000
set_option linter.all false
namespace Da
open PySem PySem.Spec PyProof.Rows L2 RZ HmS
/-! ### len(set(xs)), ints of whatever kind -/
def metN (ns : List Int) : Nat := (PyProof.Rows.firstMet (fun i => ns.getD i 0) ns.length).length
def tLenSetN (K : PySem.W.Frag) (ta : TE) : TE := fun σ H Q => ta σ H fun x H1 => ∃ (l : Addr) (ns : List Int), x = .ref l ∧ SqL K H1 l (ns.map V.int) ∧ ns.length ≤ 4000 ∧ Q (.int (metN ns : Nat)) H1
def dLenSetN (da : DT) : DT := fun Γ φ => da Γ fun e Γ1 => wl e fun xs => ∃ is : List Int, xs = is.map D.int ∧ is.length ≤ 4000 ∧ φ (.d (.int (metN is))) Γ1
instance snd_lenSetN {K : PySem.W.Frag} [HasT K] {E : XK} {ψ : Value → Prop} {ta : TE} {da : DT} [a : Snd K E ψ ta da] : Snd K E ψ (tLenSetN K ta) (dLenSetN da) := ⟨fun {c F H σ Γ φ Q} I eo h q => a.run I eo h fun F1 H1 v e Γ1 I1 s1 r1 h1 => by
  obtain ⟨F2, p, vs, xs, rfl, I2, s2, ep, rs, is, rfl, hl, h2⟩ := r1.frzL I1 h1
  rw [rs.of_ints] at ep
  exact ⟨p, is, rfl, SqL.of (I2.fh _ _ ep), hl, q F2 H1 _ _ Γ1 I2 (s1.trans s2) (Res.d (.int _)) h2⟩⟩
end Da

set_option Elab.async false
set_option maxRecDepth 100000
set_option maxHeartbeats 4000000
set_option linter.all false
namespace Da
open PySem PySem.Spec PyProof.Rows L2 RZ HmS
/-! ### a tuple many times -/
def dRepT (x y : D) (φ : En → Prop) : Prop := match x, y with
  | .tup xs, .int k => xs ≠ [] ∧ 2 ≤ k ∧ k ≤ 1000 ∧ xs.length ≤ 1000 ∧ φ (.d (.tup (List.replicate k.toNat xs).flatten))
  | _, _ => False
instance snd_repT {K : PySem.W.Frag} [HasT K] : SndR K (rRepT K) dRepT := ⟨fun {c F H σ Γ x y d e φ Q} I rx ry h q => by
  match d, e, rx, ry, h with
  | .tup ds, .int k, .tup (vs := vs) e1 r1, .int _, h =>
    obtain ⟨h0, h1, h2, h3, h⟩ := h
    refine ⟨_, k, vs, rfl, rfl, SqT.of (I.fh _ _ e1), fun z => h0 ?_, h1, h2, by rw [r1.length]; exact h3, fun p hp => ?_⟩
    · subst z
      cases r1
      rfl
    · obtain ⟨I2, s2, _⟩ := I.new (o := .tup (List.replicate k.toNat vs).flatten) hp
      exact q _ _ _ _ I2 s2 (Res.d (.tup upd_same ((r1.flat k.toNat).mono s2))) h⟩
end Da

set_option Elab.async false
set_option maxRecDepth 100000
set_option maxHeartbeats 4000000
set_option linter.all false
namespace Da
open PySem PySem.Spec PyProof.Rows L2 RZ HmS
/-! ### sorted(xs), xs a list of data that are alike -/
def rSortL (K : PySem.W.Frag) : List V → Hp → VK → Prop := fun xs H Q => ∃ (l : Addr) (zs : List (V × PyData)), xs = [.ref l] ∧ SqL K H l (zs.map (·.1)) ∧ (∀ z ∈ zs, Dp K H z.1 z.2) ∧ zs.length ≤ 100000 ∧ PySem.W.AllAlike (zs.map (·.2)) ∧ PySem.W.Sortable (zs.map (·.2)) ∧ (∀ z ∈ zs, z.2.depth ≤ 60) ∧
  ∀ p, H p = none → Q (.ref p) (upd H p (.lst ((zs.mergeSort (PySem.W.dataLe false fun z => z.2)).map (·.1))))
theorem each_vals {α : Type} {f : α → V} : ∀ {zs : List α} {us : List Value}, Vals (zs.map f) us → PySem.W.EachIs (fun u z => RelV (f z) u) us zs
  | [], _, .nil => .nil
  | _ :: _, _, .cons a b => .cons a (each_vals b)
theorem vals_each {α : Type} {f : α → V} : ∀ {zs : List α} {us : List Value}, PySem.W.EachIs (fun u z => RelV (f z) u) us zs → Vals (zs.map f) us
  | _, _, .nil => .nil
  | _, _, .cons a b => .cons a (vals_each b)
theorem each_mem {α : Type} {R R' : Value → α → Prop} : ∀ {us : List Value} {zs : List α}, PySem.W.EachIs R us zs → (∀ u z, z ∈ zs → R u z → R' u z) → PySem.W.EachIs R' us zs
  | _, _, .nil, _ => .nil
  | _, _, .cons a b, h => .cons (h _ _ List.mem_cons_self a) (each_mem b fun u z m r => h u z (List.mem_cons_of_mem _ m) r)
theorem cr_sortL {X : Cx} (hu : X.A.units + 64 < cLine) : CallR X (.builtin "sorted") (rSortL X.K) := by
  intro pins s σ H vs us Q I r h
  obtain ⟨a, zs, rfl, hs, hn, hz, hal, hsb, hd, q⟩ := h
  obtain ⟨its, rv, hl, hzz⟩ := I.list hs
  rw [Vals.ref1 r]
  have e := each_vals rv
  refine PySem.W.sorted_data (vs := its) (bs := zs) (enc := fun z => z.2) (R := fun u z => RelV z.1 u) hl.isList e (each_mem e fun u z m rz => Dp.reads I z.2 z.1 u (hn z m) rz) hal hsb (by rw [sizeLine_eq]; omega) (fun z m => ?_) fun out ol eo => ?_
  · have := hd z m
    omega
  · obtain ⟨ep, he'⟩ := PyProof.Rows.sortedAll_at s.heap its out.toArray
    have hlen : ((zs.mergeSort (PySem.W.dataLe false fun z => z.2)).map (·.1)).length ≤ sizeLine := by
      rw [List.length_map, (List.mergeSort_perm _ _).length_eq, sizeLine_eq]
      omega
    exact ⟨.ref _, upd H (s.heap.objs.size + 1) (.lst ((zs.mergeSort (PySem.W.dataLe false fun z => z.2)).map (·.1))), I.laid (t' := s.toks) (fun _ _ => PyProof.Rows.sortedAll_old) (Nat.le_succ _) ⟨hlen, out, ep, vals_each eo, he'⟩, rfl, q _ (I.hok.fresh (Nat.le_succ _))⟩
def sortD (xs : List D) : List D := xs.mergeSort (PySem.W.dataLe false D.py)
/-- what may be sorted -/
structure SrtOk (xs : List D) : Prop where
  al : PySem.W.AllAlike (xs.map D.py)
  sb : PySem.W.Sortable (xs.map D.py)
  fl : ∀ x ∈ xs, x.flat = true ∧ x.py.depth ≤ 60
def dSortR (xs : List D) (φ : En → Prop) : Prop := match xs with
  | [.lst xs] => xs.length ≤ 100000 ∧ SrtOk xs ∧ φ (.lst (sortD xs))
  | _ => False
section
variable {K : PySem.W.Frag} [HasT K]
theorem zip_reps {F : Hp} : ∀ {vs : List V} {xs : List D}, Reps F vs xs → (vs.zip xs).map (·.1) = vs ∧ (vs.zip xs).map (·.2) = xs ∧ ∀ z ∈ vs.zip xs, Rep F z.1 z.2
  | _, _, .nil => ⟨rfl, rfl, fun z h => by simp at h⟩
  | v :: _, x :: _, .cons a b => by
    obtain ⟨h1, h2, h3⟩ := zip_reps b
    refine ⟨by rw [List.zip_cons_cons, List.map_cons, h1], by rw [List.zip_cons_cons, List.map_cons, h2], fun z hz => ?_⟩
    rw [List.zip_cons_cons] at hz
    rcases List.mem_cons.mp hz with rfl | w
    · exact a
    · exact h3 z w
theorem reps_of2 {α : Type} {F : Hp} {g : α → V} {f : α → D} : ∀ {l : List α}, (∀ a ∈ l, Rep F (g a) (f a)) → Reps F (l.map g) (l.map f)
  | [], _ => .nil
  | a :: r, h => .cons (h a List.mem_cons_self) (reps_of2 fun b hb => h b (List.mem_cons_of_mem _ hb))
instance snd_sortR : SndC K (rSortL K) dSortR := ⟨fun {c F H σ Γ xs ds φ Q} I r h q => by
  match ds, r, h with
  | [.lst xs], r, h =>
    obtain ⟨h1, h2, h3⟩ := h
    obtain ⟨v, rfl, rp⟩ := one_of r
    cases rp with
    | @lst a vs _ e rs =>
      have ha := I.fh _ _ e
      obtain ⟨z1, z2, z3⟩ := zip_reps rs
      generalize hzs : vs.zip xs = ws at z1 z2 z3
      have m2 : ∀ z ∈ ws, z.2 ∈ xs := fun z hz => by rw [← z2]; exact List.mem_map.mpr ⟨z, hz, rfl⟩
      have p2 : (ws.map fun z => (z.1, z.2.py)).map (·.2) = xs.map D.py := by rw [List.map_map, ← z2, List.map_map]; rfl
      have p1 : (ws.map fun z => (z.1, z.2.py)).map (·.1) = vs := by rw [List.map_map]; exact z1
      have wl : ws.length = xs.length := by rw [← z2, List.length_map]
      refine ⟨a, ws.map fun z => (z.1, z.2.py), rfl, by rw [p1]; exact SqL.of ha, fun z hz => ?_, by rw [List.length_map, wl]; exact h1, by rw [p2]; exact h2.al, by rw [p2]; exact h2.sb, fun z hz => ?_, fun p hp => ?_⟩
      · obtain ⟨y, hy, rfl⟩ := List.mem_map.mp hz
        exact (z3 y hy).dp I.fh (h2.fl _ (m2 y hy)).1
      · obtain ⟨y, hy, rfl⟩ := List.mem_map.mp hz
        exact (h2.fl _ (m2 y hy)).2
      · have e1 : ((ws.map fun z => (z.1, z.2.py)).mergeSort (PySem.W.dataLe false fun z => z.2)).map (·.1) = (ws.mergeSort (PySem.W.dataLe false fun z : V × D => z.2.py)).map (·.1) := by
          rw [← PySem.W.sort_maps (r := PySem.W.dataLe false fun z : V × D => z.2.py) (s := PySem.W.dataLe false fun z : V × PyData => z.2) (fun z : V × D => (z.1, z.2.py)) (fun a _ b _ => rfl), List.map_map]
          rfl
        have e2 : sortD xs = (ws.mergeSort (PySem.W.dataLe false fun z : V × D => z.2.py)).map (·.2) := by
          rw [PySem.W.sort_maps (r := PySem.W.dataLe false fun z : V × D => z.2.py) (s := PySem.W.dataLe false D.py) (fun z : V × D => z.2) (fun a _ b _ => rfl), z2]
          rfl
        rw [e1]
        obtain ⟨I3, r3⟩ := I.newL hp (reps_of2 (g := fun z : V × D => z.1) (f := fun z => z.2) (l := ws.mergeSort (PySem.W.dataLe false fun z : V × D => z.2.py)) fun z hz => z3 z ((List.mergeSort_perm _ _).mem_iff.mp hz))
        rw [e2] at h3
        exact q _ _ _ _ I3 (Same.refl F) r3 h3⟩
/-- list(d), d a dict with tuple keys -/
def rListT : List V → Hp → VK → Prop := fun xs H Q => ∃ d kvs, xs = [V.ref d] ∧ Rd H d (.dT kvs) ∧ ∀ p bs, H p = none → IsKeys H kvs bs → Q (.ref p) (upd H p (.lst (bs.map V.ref)))
theorem cl_listT {X : Cx} (hc : X.calm = true) : CallR X (.type "list") rListT := L2.call_list_dT hc
def dListT (xs : List D) (φ : En → Prop) : Prop := match xs with
  | [.dT ks _] => φ (.lst (ks.map tupD))
  | _ => False
theorem keys_reps {F H : Hp} (fh : Same F H) {kvs : List (List Key × V)} {bs : List Addr} (h : IsKeys H kvs bs) : Reps (tupF F H) (bs.map V.ref) ((kvs.map (·.1)).map tupD) := by
  unfold IsKeys at h
  induction h with
  | nil => exact .nil
  | cons a _ ih => exact .cons (rep_tupD (tupF_at fh a)) ih
instance snd_listT : SndC K rListT dListT := ⟨fun {c F H σ Γ xs ds φ Q} I r h q => by
  match ds, r, h with
  | [.dT ks xs], r, h =>
    obtain ⟨v, rfl, rp⟩ := one_of r
    cases rp with
    | @dT a kvs _ _ e ek rs =>
      have ha := I.fh _ _ e
      subst ek
      refine ⟨a, kvs, rfl, .inl ha, fun p bs hp hik => ?_⟩
      have I2 := I.tups
      obtain ⟨I3, r3⟩ := I2.newL hp (keys_reps I.fh hik)
      exact q _ _ _ _ I3 tupF_same r3 h⟩
end
end Da

set_option Elab.async false
set_option maxRecDepth 100000
set_option maxHeartbeats 4000000
set_option linter.all false
namespace Da
open PySem PySem.Spec PyProof.Rows L2 RZ HmS
/-! ### frozen objects: their fields, calls of their methods -/
def lookN (ns : List Str) (xs : List D) (f : Str) : Option D := (ns.zip xs).lookup f
theorem look_fs {F : Hp} {f : Str} : ∀ {fs : List (Str × V)} {xs : List D}, Reps F (fs.map (·.2)) xs →
    (∀ z, lookN (fs.map (·.1)) xs f = some z → ∃ v, fs.lookup f = some v ∧ Rep F v z) ∧ (lookN (fs.map (·.1)) xs f = none → fs.lookup f = none)
  | [], [], _ => ⟨fun z h => (nomatch h), fun _ => rfl⟩
  | (n, v) :: r, x :: xs, .cons a b => by
    obtain ⟨h1, h2⟩ := look_fs (f := f) b
    show (∀ z, List.lookup f ((n, x) :: ((r.map (·.1)).zip xs)) = some z → ∃ u, List.lookup f ((n, v) :: r) = some u ∧ Rep F u z) ∧ (List.lookup f ((n, x) :: ((r.map (·.1)).zip xs)) = none → List.lookup f ((n, v) :: r) = none)
    rw [List.lookup_cons, List.lookup_cons]
    cases e : (f == n) with
    | true => exact ⟨fun z h => ⟨v, rfl, by cases h; exact a⟩, fun h => (nomatch h)⟩
    | false => exact ⟨h1, h2⟩
theorem pe_fldK {X : Cx} {K : PySem.W.Frag} {e : Expr} {f : Str} {pos : Pos} {ta : TE} (ha : PE X e ta) (hb : attributeBase e f X.env (eval e X.env) = eval e X.env) (hK : X.K = K := by rfl) : PE X (.Attribute e f pos) (tFld K ta f) := by
  subst hK
  exact pe_fld ha hb
theorem pe_items {X : Cx} {K : PySem.W.Frag} {o : Expr} {apos cpos : Pos} {to : TE} (ho : PE X o to) (hbase : attributeBase o "items" X.env (eval o X.env) = eval o X.env := by rfl) (hline : (apos.endLine == cpos.line) = true := by rfl) (hK : X.K = K := by rfl) :
    PE X (.Call (.Attribute o "items" apos) [] [] cpos) (tBM0 K "dict" DX.rItemsT to) := by
  subst hK
  exact pe_bm0 PySem.F.plainAttrs_dict PySem.F.slot_dict_items PySem.F.type_dict_items DX.mt_itemsT ho hbase hline
theorem upd_grow {H : Hp} {p : Addr} {o : HO} (hp : H p = none) : Same H (upd H p o) := fun b u e => by rw [upd_ne (ne_of_none e hp)]; exact e
def dAttr (K : PySem.W.Frag) (da : DT) (f : Str) : DT := fun Γ φ => da Γ fun e Γ1 => wf e fun x => ∃ C ns xs z, x = .ins C ns xs ∧ Cls K C ∧ NoAttr K C f ∧ lookN ns xs f = some z ∧ φ (.d z) Γ1
def dMeth (C : Addr) (m : Str) (den : List D → (En → Prop) → (Value → Prop) → Prop) (dvs : List V) (ψ : Value → Prop) (da : DT) (dal : DA) : DT := fun Γ φ => da Γ fun e Γ1 => wf e fun x => (∃ ns xs, x = .ins C ns xs ∧ lookN ns xs m = none) ∧ dal Γ1 fun ys Γ2 => (dvs.all isSc) = true ∧ den (x :: (ys ++ dvs.map vD)) (fun e => φ e Γ2) ψ
def dInX (neg : Bool) (da db : DT) : DT := fun Γ φ => da Γ fun e Γ1 => wf e fun y => db Γ1 fun e' Γ2 => wf e' fun x => ∃ ks xs k, x = .dT ks xs ∧ keysOf y = some k ∧ φ (.d (.bl (if neg then !(lookD ks xs k).isSome else (lookD ks xs k).isSome))) Γ2
def rowC (c : List Key × Int) : D := .tup [tupD c.1, .int c.2]
def dSortI (da : DT) : DT := fun Γ φ => da Γ fun e Γ1 => wf e fun x => ∃ cs : List (List Key × Int), x = .dT (cs.map Prod.fst) (cs.map fun c => .int c.2) ∧ cs.length ≤ 1000 ∧ PySem.W.AllAlike (cs.map encC) ∧ (∀ c ∈ cs, c.1 ≠ []) ∧ ((cs.map Prod.fst).Nodup → φ (.lst ((sortC cs).map rowC)) Γ1)
section
variable {K : PySem.W.Frag} [HasT K] {E : XK} {ψ : Value → Prop} {ta tb : TE} {da db : DT} {al : TA} {dal : DA}
instance snd_attr {f : Str} [a : Snd K E ψ ta da] : Snd K E ψ (tFld K ta f) (dAttr K da f) := ⟨fun {c F H σ Γ φ Q} I eo h q => by
  refine a.frz (φ := fun _ _ => True) (k := fun x Γ1 => ∃ C ns xs z, x = .ins C ns xs ∧ Cls K C ∧ NoAttr K C f ∧ lookN ns xs f = some z ∧ φ (.d z) Γ1) I eo h fun F1 H1 w x Γ1 I1 s1 rp h1 => ?_
  obtain ⟨C, ns, xs, z, rfl, hC, hN, hl, h1⟩ := h1
  cases rp with
  | @ins a C dx fs _ _ e en rs =>
    subst en
    obtain ⟨v, hv, rv⟩ := (look_fs rs).1 z hl
    exact ⟨a, C, dx, fs, v, rfl, I1.fh _ _ e, hC, hN, hv, q F1 H1 v _ Γ1 I1 s1 (Res.d rv) h1⟩⟩
theorem snd_methX {C : Addr} {m : Str} {den : List D → (En → Prop) → (Value → Prop) → Prop} {dvs : List V} {E' : XK} {ψ' : Value → Prop} [a : Snd K E ψ ta da] [sl : SndA K E ψ al dal] (xx : ∀ {c : Ct K} {H : Hp}, EOk c E ψ → EOk c E' ψ') :
    Snd K E ψ (tMeth C m (spX K den) dvs E' ta al) (dMeth C m den dvs ψ' da dal) := ⟨fun {c F H σ Γ φ Q} I eo h q => by
  refine a.frz (φ := fun _ _ => True) (k := fun x Γ1 => (∃ ns xs, x = .ins C ns xs ∧ lookN ns xs m = none) ∧ dal Γ1 fun ys Γ2 => (dvs.all isSc) = true ∧ den (x :: (ys ++ dvs.map vD)) (fun e => φ e Γ2) ψ') I eo h fun F1 H1 w x Γ1 I1 s1 rp h1 => ?_
  obtain ⟨⟨ns, xs, rfl, hl⟩, h1⟩ := h1
  cases id rp with
  | @ins a _ dx fs _ _ e en rs =>
    subst en
    refine ⟨a, dx, fs, rfl, I1.fh _ _ e, (look_fs rs).2 hl, ?_⟩
    refine sl.run I1 eo h1 fun F2 H2 vs ys Γ2 I2 s2 r2 h2 => ?_
    exact call_run I2 (xx (H := H) eo) (.cons (rp.mono s2) (r2.app (Reps.scs h2.1))) h2.2 fun F3 H3 v e I3 s3 r3 p => q F3 H3 v e Γ2 I3 ((s1.trans s2).trans s3) r3 p⟩
instance (priority := 900) snd_meth {C : Addr} {m : Str} {den : List D → (En → Prop) → (Value → Prop) → Prop} {dvs : List V} [a : Snd K E ψ ta da] [sl : SndA K E ψ al dal] : Snd K E ψ (tMeth C m (spX K den) dvs E ta al) (dMeth C m den dvs ψ da dal) := snd_methX fun {_ _} h => h
instance snd_meth0 {C : Addr} {m : Str} {den : List D → (En → Prop) → (Value → Prop) → Prop} {dvs : List V} [a : Snd K E ψ ta da] [sl : SndA K E ψ al dal] : Snd K E ψ (tMeth C m (spX K den) dvs E0 ta al) (dMeth C m den dvs (fun _ => False) da dal) := snd_methX fun {_ _} _ _ _ _ _ _ z => z
instance (priority := 500) snd_inX [a : Snd K E ψ ta da] [b : Snd K E ψ tb db] : Snd K E ψ (tDIn ta tb) (dInX false da db) := ⟨fun {c F H σ Γ φ Q} I eo h q => by
  refine a.frz (φ := fun _ _ => True) (k := fun y Γ1 => db Γ1 fun e' Γ2 => wf e' fun x => ∃ ks xs k, x = .dT ks xs ∧ keysOf y = some k ∧ φ (.d (.bl (lookD ks xs k).isSome)) Γ2) I eo h fun F1 H1 w y Γ1 I1 s1 ry h1 => ?_
  refine b.frz (φ := fun _ _ => True) (k := fun x Γ2 => ∃ ks xs k, x = .dT ks xs ∧ keysOf y = some k ∧ φ (.d (.bl (lookD ks xs k).isSome)) Γ2) I1 eo h1 fun F2 H2 u x Γ2 I2 s2 rx h2 => ?_
  obtain ⟨ks, xs, k, rfl, hy, h2⟩ := h2
  cases rx with
  | @dT a kvs _ _ e ek rs =>
    obtain ⟨b, rfl, hb⟩ := keysOf_rep ry hy
    refine ⟨a, _, rfl, DGet.t (k := k) (I2.fh _ _ e) (I2.fh _ _ (s2 _ _ hb)), ?_⟩
    rw [look_someT ek rs]
    exact q F2 H2 _ _ Γ2 I2 (s1.trans s2) (Res.d (.bl _)) h2⟩
instance (priority := 500) snd_notInX [a : Snd K E ψ ta da] [b : Snd K E ψ tb db] : Snd K E ψ (tDNotIn ta tb) (dInX true da db) := ⟨fun {c F H σ Γ φ Q} I eo h q => by
  refine a.frz (φ := fun _ _ => True) (k := fun y Γ1 => db Γ1 fun e' Γ2 => wf e' fun x => ∃ ks xs k, x = .dT ks xs ∧ keysOf y = some k ∧ φ (.d (.bl (!(lookD ks xs k).isSome))) Γ2) I eo h fun F1 H1 w y Γ1 I1 s1 ry h1 => ?_
  refine b.frz (φ := fun _ _ => True) (k := fun x Γ2 => ∃ ks xs k, x = .dT ks xs ∧ keysOf y = some k ∧ φ (.d (.bl (!(lookD ks xs k).isSome))) Γ2) I1 eo h1 fun F2 H2 u x Γ2 I2 s2 rx h2 => ?_
  obtain ⟨ks, xs, k, rfl, hy, h2⟩ := h2
  cases rx with
  | @dT a kvs _ _ e ek rs =>
    obtain ⟨b, rfl, hb⟩ := keysOf_rep ry hy
    refine ⟨a, _, rfl, DGet.t (k := k) (I2.fh _ _ e) (I2.fh _ _ (s2 _ _ hb)), ?_⟩
    rw [look_someT ek rs]
    exact q F2 H2 _ _ Γ2 I2 (s1.trans s2) (Res.d (.bl _)) h2⟩
theorem kvs_of {F : Hp} : ∀ {kvs : List (List Key × V)} {cs : List (List Key × Int)}, kvs.map (·.1) = cs.map (·.1) → Reps F (kvs.map (·.2)) (cs.map fun c => .int c.2) → kvs = cs.map fun c => (c.1, V.int c.2)
  | [], [], _, _ => rfl
  | (k, v) :: r, c :: cs, e, .cons a b => by
    rw [List.map_cons, List.map_cons, List.cons.injEq] at e
    cases a
    have e1 : k = c.1 := e.1
    rw [List.map_cons, ← kvs_of e.2 b, e1]
  | [], _ :: _, e, _ => by cases e
theorem rows_reps {F H : Hp} (fh : Same F H) {as : List Addr} {cs : List (List Key × Int)} (h : Paired (fun b (c : List Key × Int) => ∃ q, H b = some (.tup [.ref q, .int c.2]) ∧ H q = some (.tup (c.1.map kV))) as cs) : Reps (tupF F H) (as.map V.ref) (cs.map rowC) := by
  induction h with
  | nil => exact .nil
  | cons a _ ih =>
    obtain ⟨q, h1, h2⟩ := a
    exact .cons (.tup (tupF_at fh h1) (.cons (rep_tupD (tupF_at fh h2)) (.cons (.int _) .nil))) ih
instance snd_sortI [a : Snd K E ψ ta da] : Snd K E ψ (tCB rSortIC (tCons (tBM0 K "dict" DX.rItemsT ta) tNil)) (dSortI da) := ⟨fun {c F H σ Γ φ Q} I eo h q => by
  refine a.frz (φ := fun _ _ => True) (k := fun x Γ1 => ∃ cs : List (List Key × Int), x = .dT (cs.map Prod.fst) (cs.map fun c => .int c.2) ∧ cs.length ≤ 1000 ∧ PySem.W.AllAlike (cs.map encC) ∧ (∀ c ∈ cs, c.1 ≠ []) ∧ ((cs.map Prod.fst).Nodup → φ (.lst ((sortC cs).map rowC)) Γ1)) I eo h fun F1 H1 w x Γ1 I1 s1 rp h1 => ?_
  obtain ⟨cs, rfl, hz, hal, hne, h1⟩ := h1
  cases rp with
  | @dT a kvs _ _ e ek rs =>
    have ekv := kvs_of ek rs
    subst ekv
    have ha := I1.fh _ _ e
    refine ⟨.inr (.inr (.inl ⟨rfl, .inr ⟨_, ha⟩⟩)), a, _, rfl, rfl, ha, fun v hv => ?_⟩
    have sv : Same H1 (upd H1 v (DX.itemsO v a)) := upd_grow hv
    refine ⟨v, a, cs, rfl, upd_same, sv _ _ ha, hz, hal, hne, fun l H' as s' nl nd hl pr => ?_⟩
    have sh : Same H1 H' := sv.trans s'
    have I2 : Is c F1 H' σ Γ1 := I1.grow (Same.refl F1) sh (I1.fh.trans sh) I1.fn fun a o e => .inl e
    have I3 := I2.tups
    have hln : H1 l = none := sv.free nl
    refine q _ H' _ (.lst ((sortC cs).map rowC)) Γ1 I3 (s1.trans tupF_same) ⟨⟨l, _, rfl, ?_, I1.un hln, hl, rows_reps I2.fh pr⟩, (fun z => nomatch z), fun a e => by cases e; exact I1.fresh hln⟩ (h1 nd)
    cases z : tupF F1 H' l with
    | none => rfl
    | some o =>
      rcases tupF_of z with z | ⟨⟨vs, rfl⟩, z⟩
      · rw [I1.unF hln] at z; cases z
      · rw [hl] at z; cases z⟩
end
end Da

set_option Elab.async false
set_option linter.all false
set_option maxRecDepth 100000
set_option maxHeartbeats 4000000
namespace HmQ
open PySem PySem.Spec PyProof.Rows L2 PySem.W
section
variable {prog : Program} {w : World} {K : Type} [DecidableEq K] {knd : HeapKind prog w K} {A : Around} {E : Value → Shared → Prop} {s : Shared}
/-- how == of two dicts goes through the left one -/
inductive Hits {K : Type} [DecidableEq K] (prog : Program) (w : World) (A : Around) (s : Shared) (xb : List (K × Addr × Value)) : List (K × Addr × Value) → Bool → Prop
  | nil : Hits prog w A s xb [] true
  | miss {k : K} {b : Addr} {v : Value} {r : List (K × Addr × Value)} : atKey xb k = none → Hits prog w A s xb ((k, b, v) :: r) false
  | hit {k : K} {b : Addr} {v : Value} {p : Addr × Value} {r : List (K × Addr × Value)} {e t : Bool} : atKey xb k = some p → SeqAt.EqP prog w A s v p.2 e → Hits prog w A s xb r t → Hits prog w A s xb ((k, b, v) :: r) (e && t)
theorem Hits.inv {xb : List (K × Addr × Value)} {k : K} {b : Addr} {v : Value} {r : List (K × Addr × Value)} {t : Bool} (h : Hits prog w A s xb ((k, b, v) :: r) t) :
    (atKey xb k = none ∧ t = false) ∨ ∃ p e t', atKey xb k = some p ∧ SeqAt.EqP prog w A s v p.2 e ∧ Hits prog w A s xb r t' ∧ t = (e && t') := by
  cases h with
  | miss h => exact .inl ⟨h, rfl⟩
  | hit h1 h2 h3 => exact .inr ⟨_, _, _, h1, h2, h3, rfl⟩
theorem pairs_same {nm : String} {a b : Addr} {xa xb : List (K × Addr × Value)} {r : Bool} {Q : Bool → Shared → Prop} (ha : (a == sysModules) = false) (hb : (b == sysModules) = false) (hu : knd.room A)
    (da : s.heap.DictOfH knd a xa) (db : s.heap.DictOfH knd b xb) (hits : xa.length = xb.length → Hits prog w A s xb xa r) (h : Q (xa.length == xb.length && r) s) :
    wpAny (model prog w) A (Builtin.Dict.samePairs nm a b) Q E s := by
  obtain ⟨oa, es, ep, hoa, _, hda, hea, hia, hna⟩ := da
  obtain ⟨ob, fs, ep', hob, _, hdb, heb, hib, hnb⟩ := db
  have la : es.size = xa.length := size_of_entries hea
  have lb : fs.size = xb.length := size_of_entries heb
  unfold Builtin.Dict.samePairs Builtin.Dict.showsAll
  rw [if_neg (by rw [ha]; exact Bool.false_ne_true), if_neg (by rw [hb]; exact Bool.false_ne_true)]
  refine wpAny_bind (wpAny_pure (wpAny_bind (wpAny_pure (wpAny_bind (wpAny_dictEntries hoa hda ?_)))))
  dsimp only
  refine wpAny_bind (wpAny_dictEntries hob hdb ?_)
  by_cases hz : xa.length = xb.length
  · have q : Q r s := by simpa [hz] using h
    rw [if_neg (by rw [la, lb, hz]; simp)]
    refine wpAny_bind (wpAny_dictEpoch hoa hda (wpAny_bind ?_))
    rw [Std.Legacy.Range.forIn_eq_forIn_range']
    simp only [Std.Legacy.Range.size, Nat.sub_zero, Nat.add_sub_cancel, Nat.div_one]
    refine wpAny_forIn_list _ (fun left z s' => s' = s ∧ z = (none, ()) ∧ ∃ i, left = List.range' i (es.size - i) ∧ i ≤ es.size ∧ Hits prog w A s xb (xa.drop i) r) _ ?_ ?_ _ _
      ⟨rfl, rfl, 0, by simp, Nat.zero_le _, hits hz⟩
    · rintro x left z s' ⟨rfl, rfl, i, hl, hi, pre⟩
      have hx : i < es.size := by
        rcases Nat.lt_or_ge i es.size with g | g
        · exact g
        · rw [Nat.sub_eq_zero_of_le g] at hl
          cases hl
      have e1 : es.size - i = (es.size - (i + 1)) + 1 := by omega
      rw [e1, List.range'_succ] at hl
      obtain ⟨rfl, hl⟩ := List.cons.inj hl
      have hxa : x < xa.length := by omega
      obtain ⟨k, c, v, hk⟩ : ∃ k c v, xa[x] = (k, c, v) := ⟨_, _, _, rfl⟩
      have hk' : xa[x]? = some (k, c, v) := by rw [List.getElem?_eq_getElem hxa, hk]
      rw [List.drop_eq_getElem_cons hxa, hk] at pre
      have keyed : knd.is s'.heap k c := hia _ (List.mem_of_getElem? hk')
      refine wpAny_bind (wpAny_dictEntries hoa hda ?_)
      rw [entry_at hea x, hk']
      show wpAny _ _ (holding [Value.ref c, v] _ >>= _) _ _ _
      refine wpAny_bind (wpAny_holding (wpAny_bind (wpAny_dictFind_heap hu keyed hob hdb heb hib hnb (fun no => ?_) fun j p hj => ?_)))
      · have nk : atKey xb k = none := atKey_none_of_get no
        rcases pre.inv with ⟨_, er⟩ | ⟨p, _, _, hp, _⟩
        · rw [er] at q
          refine wpAny_pure ?_
          show wpAny _ _ (if (!false) = true then _ else _) _ _ _
          rw [if_pos (by decide)]
          exact wpAny_pure (wpAny_pure q)
        · rw [nk] at hp
          cases hp
      · have sk : atKey xb k = some p := atKey_of_get hnb hj
        refine wpAny_bind (wpAny_dictEntries hob hdb ?_)
        rw [entry_at heb j, hj]
        rcases pre.inv with ⟨hp, _⟩ | ⟨p', e, t', hp, he, hr, er⟩
        · rw [sk] at hp
          cases hp
        · obtain rfl : p = p' := Option.some.inj (sk.symm.trans hp)
          refine wpAny_holding (he _ _ ?_)
          cases e with
          | false =>
            rw [er, Bool.false_and] at q
            show wpAny _ _ (if (!false) = true then _ else _) _ _ _
            rw [if_pos (by decide)]
            exact wpAny_pure (wpAny_pure q)
          | true =>
            rw [Bool.true_and] at er
            subst er
            show wpAny _ _ (if (!true) = true then _ else _) _ _ _
            rw [if_neg (by decide)]
            refine wpAny_bind (wpAny_dictEpoch hoa hda ?_)
            rw [if_neg (by simp)]
            exact wpAny_pure ⟨rfl, rfl, x + 1, hl, hx, hr⟩
    · rintro z s' ⟨rfl, rfl, i, hl, hi, pre⟩
      have e : i = es.size := by
        rcases Nat.lt_or_ge i es.size with g | g
        · have e1 : es.size - i = (es.size - (i + 1)) + 1 := by omega
          rw [e1, List.range'_succ] at hl
          cases hl
        · exact Nat.le_antisymm hi g
      rw [e, la, List.drop_length] at pre
      cases pre
      exact wpAny_pure q
  · rw [if_pos (by rw [la, lb]; simpa using hz)]
    have f : (xa.length == xb.length) = false := by simpa using hz
    rw [f, Bool.false_and] at h
    exact wpAny_bind (wpAny_rule (wpAny_pure h))
theorem dicts_same {a b : Addr} {xa xb : List (K × Addr × Value)} {r : Bool} (ha : (a == sysModules) = false) (hb : (b == sysModules) = false) (hu : A.units < cLine) (hr : knd.room A.in1)
    (da : s.heap.DictOfH knd a xa) (db : s.heap.DictOfH knd b xb) (hits : xa.length = xb.length → Hits prog w A.in1 s xb xa r) {Q : Value → Shared → Prop} (h : Q (.bool (xa.length == xb.length && r)) s) :
    wpAny (model prog w) A (richCompare .Eq (.ref a) (.ref b)) Q E s := by
  refine wpAny_richCompare_same_room (op := .Eq) da.typeIs db.typeIs PySem.F.slot_dict_eq (wpAny_call_entry PySem.F.slot_dict_eq da.typeIs PySem.F.entry_dict_eq ?_ (PySem.F.args_dict_eq_2 _ _)) hu
  show wpAny _ _ (Builtin.Dict.dictSlotArgs "__eq__" ⟨[.ref a, .ref b], []⟩ >>= _) _ _ s
  unfold Builtin.Dict.dictSlotArgs
  refine wpAny_bind (wpAny_bind (wpAny_notOrdered_dict da.typeIs ?_))
  show wpAny _ _ (pure (Value.ref a, Value.ref b)) _ _ s
  refine wpAny_pure (wpAny_bind (wpAny_isInstance (T := "dict") db.typeIs PySem.F.sub_dict_dict ?_))
  simp only [Bool.not_true, Bool.false_eq_true, if_false]
  refine wpAny_bind (wpAny_pure (wpAny_bind (wpAny_pure (wpAny_bind (pairs_same ha hb hr da db hits (wpAny_pure ⟨_, rfl, fun z => (nomatch z), ?_⟩))))))
  simpa using h
end
section
variable {X : Cx}
abbrev entI (e : List L2.Key × Int) : List L2.Key × V := (e.1, V.int e.2)
/-- == of two dicts of whole numbers by tuples -/
def sameD (ka kb : List (List L2.Key × Int)) : Bool := ka.length == kb.length && ka.all fun e => match (kb.find? fun z => decide (z.1 = e.1)) with
  | some z => e.2 == z.2
  | none => false
def rEqD : R2 := fun x y H Q => ∃ (a b : Addr) (ka kb : List (List L2.Key × Int)), x = .ref a ∧ y = .ref b ∧ H a = some (.dT (ka.map entI)) ∧ H b = some (.dT (kb.map entI)) ∧ Q (.bl (sameD ka kb)) H
theorem find_kt {H : Hp} {k : List L2.Key} : ∀ {kb : List (List L2.Key × Int)} {xb : List (List L2.Key × Addr × Value)}, KT H (kb.map entI) xb →
    (∃ z p t, (kb.find? fun z => decide (z.1 = k)) = some z ∧ atKey xb k = some (p, .int z.2 t)) ∨ ((kb.find? fun z => decide (z.1 = k)) = none ∧ atKey xb k = none)
  | [], _, h => by
    cases h
    exact .inr ⟨rfl, rfl⟩
  | z :: kb, _, h => by
    cases h with
    | @cons _ q _ qs hq t =>
      obtain ⟨e1, _, e3⟩ := hq
      obtain ⟨tk, e3⟩ := (show ∃ t, q.2.2 = Value.int z.2 t from e3)
      have e1 : z.1 = q.1 := e1
      by_cases c : z.1 = k
      · refine .inl ⟨z, q.2.1, tk, by rw [List.find?_cons_of_pos (by simpa using c)], ?_⟩
        unfold atKey
        rw [List.find?_cons_of_pos (by rw [← e1]; simpa using c), ← e3]
        rfl
      · have e2 : atKey (q :: qs) k = atKey qs k := by
          unfold atKey
          rw [List.find?_cons_of_neg (by rw [← e1]; simpa using c)]
        rw [List.find?_cons_of_neg (by simpa using c), e2]
        exact find_kt t
theorem hits_kt {P : Program} {w : World} {A : Around} {s : Shared} {H : Hp} {kb : List (List L2.Key × Int)} {xb : List (List L2.Key × Addr × Value)} (hb : KT H (kb.map entI) xb) : ∀ {ka : List (List L2.Key × Int)} {xa : List (List L2.Key × Addr × Value)}, KT H (ka.map entI) xa →
    Hits P w A s xb xa (ka.all fun e => match (kb.find? fun z => decide (z.1 = e.1)) with
      | some z => e.2 == z.2
      | none => false)
  | [], _, h => by
    cases h
    exact .nil
  | e :: ka, _, h => by
    cases h with
    | @cons _ q _ qs hq t =>
      obtain ⟨k, c, v⟩ := q
      obtain ⟨e1, _, e3⟩ := hq
      obtain ⟨tk, e3⟩ := (show ∃ t, v = Value.int e.2 t from e3)
      have e1 : e.1 = k := e1
      subst e3
      have rest := hits_kt (P := P) (w := w) (A := A) (s := s) hb t
      rw [List.all_cons]
      rcases find_kt (k := e.1) hb with ⟨z, p, tz, hz, hp⟩ | ⟨hz, hp⟩
      · rw [hz]
        rw [e1] at hp
        exact .hit hp (fun E Q q => (SeqAt.EqAt.int_int e.2 tk z.2 tz).eqP E Q q) rest
      · rw [hz]
        rw [e1] at hp
        exact .miss hp
theorem op_eqDi (hu : X.A.units + 64 < cLine) : OpR X (compareOp .Eq) rEqD := by
  intro pins s σ H x y v u Q I rx ry h
  obtain ⟨a, b, ka, kb, rfl, rfl, ha, hb, q⟩ := h
  cases (show v = Value.ref a from rx)
  cases (show u = Value.ref b from ry)
  obtain ⟨_, ya, xa, ra, da⟩ := dt_of I.hok ha
  obtain ⟨_, yb, xb, rb, db⟩ := dt_of I.hok hb
  have l1 : xa.length = ka.length := by rw [← Paired.length ra, List.length_map]
  have l2 : xb.length = kb.length := by rw [← Paired.length rb, List.length_map]
  refine dicts_same ya yb (by omega) (tupleKind_room_in1 (by omega)) da db (fun _ => hits_kt rb ra) ⟨.bl (sameD ka kb), H, I, ?_, q⟩
  rw [l1, l2]
  rfl
/-- del d[k] of a dict by tuples -/
def sDDelT (td ty : TE) : TS := fun D σ H => td σ H fun x H1 => ty σ H1 fun y H2 => ∃ (a b : Addr) (kvs : List (List L2.Key × V)) (k : List L2.Key), x = .ref a ∧ y = .ref b ∧ H2 a = some (.dT kvs) ∧ H2 b = some (.tup (k.map kV)) ∧ (valV kvs k).isSome = true ∧ D.nx σ (upd H2 a (.dT (dropK kvs k)))
end
end HmQ

set_option Elab.async false
set_option linter.all false
set_option maxRecDepth 100000
set_option maxHeartbeats 4000000
namespace HmQ
open PySem PySem.Spec PyProof.Rows L2 PySem.W
section
variable {X : Cx} {td ty : TE} {o i : Expr} {pos tpos : Pos}
end
section
variable {prog : Program} {w : World} {A : Around} {E : Value → Shared → Prop} {s : Shared} {K : Frag} {x C L f : Addr} {ox : Obj} {od : Option Obj} {b : Value}
theorem ifBound_ne {M : Model} {args : List Value} {Q : Option Value → Shared → Prop} (X : K.In s.heap) (I : InstAt s.heap x ox C od) (hs : findIn K (.ref C) "__ne__" = some (some (.builtin "object.__ne__")))
    (h : wpAny M A (call (.builtin "object.__ne__") (.ref x :: args)) (fun v => Q (some v)) E s) : wpAny M A (callSpecialIfBound? (.ref x) "__ne__" args) Q E s := by
  simp only [callSpecialIfBound?, bindSpecialIfBound?]
  refine wpAny_holding (wpAny_bind (wpAny_bind (wpAny_bind (I.type.here ((looks_findIn X hs).here ?_)))))
  simp only [F.cmp_object.ne.bind]
  refine wpAny_bind (wpAny_askSetting (wpAny_ite ?_))
  have fin : wpAny M A (call (.builtin "object.__ne__") ([.ref x] ++ args) >>= fun v => pure (some v)) Q E s :=
    wpAny_bind (wpAny_mono h (fun v s' h' => wpAny_pure h') fun _ _ h' => h')
  split
  · exact wpAny_bind (wpAny_pure (wpAny_pure fin))
  · exact wpAny_tryCatch (wpAny_bind (wpAny_pure (wpAny_pure fin)))
/-- x != b by the own __eq__ -/
theorem ne_body (hu : A.units < cLine) (X : K.In s.heap) (I : InstAt s.heap x ox C od) (he : findIn K (.ref C) "__eq__" = some (some (.ref f))) (hf : isFn K (.ref f) = true) {Q : Fin → Shared → Prop}
    (h : wpAny (model prog w) A (call (.ref f) [.ref x, b]) (fun v s' => ∃ r, v = .bool r ∧ Q (.done (.ret (.bool (!r)))) s') E s) : wpAny (model prog w) A (Builtin.«object.__ne__» ⟨[.ref x, b], []⟩) Q E s := by
  unfold Builtin.«object.__ne__»
  repeat (first
    | with_reducible refine wpAny_cRoomFor hu ?_
    | (refine wpAny_bind (m := callSpecialIfBound? (.ref x) (Str.ofString "__eq__") [b])
        (ifBound_K X I he hf (wpAny_mono h (fun v s' hv => by
          obtain ⟨r, rfl, hq⟩ := hv
          repeat (first | exact hq | exact wpAny_pure hq | exact wpAny_truthy_bool hq | (refine wpAny_bind (m := truthy (.bool _)) (wpAny_truthy_bool ?_)) | wp_step)) fun _ _ e => e)))
    | wp_step)
theorem call_ne (hu : A.units + 1 < cLine) (X : K.In s.heap) (I : InstAt s.heap x ox C od) (hm : mroIn K C (.type "object") = some true) (he : findIn K (.ref C) "__eq__" = some (some (.ref f))) (hf : isFn K (.ref f) = true) {Q : Value → Shared → Prop}
    (h : wpAny (model prog w) A.in1 (call (.ref f) [.ref x, b]) (fun v s' => ∃ r, v = .bool r ∧ Q (.bool (!r)) s') E s) : wpAny (model prog w) A (call (.builtin "object.__ne__") [.ref x, b]) Q E s := by
  refine wpAny_call (codeAny_call_builtin F.cmp_object.ne.plain F.cmpEntry_ne ?_)
  simp only [checkBuiltinCall, F.cmpKind_ne, F.cmpSplit_ne]
  have L0 := I.type (M := model prog w)
  have L1 := looks_mroIn (M := model prog w) X hm
  refine wpAny_bind ?_
  unfold isInstance
  refine wpAny_bind (L0.here (L1.here ?_))
  simp only [Bool.not_true, Bool.false_eq_true, if_false]
  have fin : wpAny (model prog w) A.in1 (Builtin.«object.__ne__» ⟨[.ref x, b], []⟩) (fun fin s' => match fin with
      | .done f => match (Except.ok f : Result) with
        | .ok (.ret v) => Q v s'
        | .ok _ => False
        | .error e => E e s'
      | .again c' => c'.quiet = true ∧ codeAny (model prog w) A c' (fun r s' => match r with
        | .ok (.ret v) => Q v s'
        | .ok _ => False
        | .error e => E e s') s') E s :=
    ne_body (A := A.in1) (by show A.units + 1 < cLine; exact hu) X I he hf h
  have ha := F.cmpArgs_ne (.ref x) b
  cases hsig : Manifest.signature? "object.__ne__" with
  | none => exact wpAny_pure fin
  | some sig =>
    simp only [argsOk, hsig] at ha
    have h2 : Bind.checkArgs "object.__ne__" sig ⟨.ref x :: [b], []⟩ = pure () := ha
    show wpAny (model prog w) A.in1 (Bind.checkArgs "object.__ne__" sig ⟨.ref x :: [b], []⟩) _ E s
    rw [h2]
    exact wpAny_pure fin
theorem ne_own {Q : Value → Shared → Prop} {D : Addr} (hu : A.units + 1 < cLine) (X : K.In s.heap) (I : InstAt s.heap x ox C od) (hb : Looks (model prog w) s.heap (typeOf b) (.ref C)) (hs : findIn K (.ref C) "__ne__" = some (some (.builtin "object.__ne__")))
    (hm : mroIn K C (.type "object") = some true) (he : findIn K (.ref C) "__eq__" = some (some (.ref f))) (hf : isFn K (.ref f) = true)
    (h : wpAny (model prog w) A.in1 (call (.ref f) [.ref x, b]) (fun v s' => ∃ r, v = .bool r ∧ Q (.bool (!r)) s') E s) : wpAny (model prog w) A (richCompare .NotEq (.ref x) b) Q E s := by
  have one : wpAny (model prog w) A (tryCompare (.ref x) "__ne__" b) (fun r s' => ∃ v, r = some v ∧ Q v s') E s := by
    unfold tryCompare
    refine wpAny_bind (ifBound_ne X I hs (call_ne hu X I hm he hf (wpAny_mono h (fun v s' hv => ?_) fun _ _ e => e)))
    obtain ⟨r, rfl, hq⟩ := hv
    exact ⟨r, rfl, wpAny_pure ⟨_, rfl, hq⟩⟩
  unfold richCompare
  simp only [oneThing_ref, cmpInfo_NotEq]
  refine wpAny_holding (wpAny_bind (wpAny_cRoomFor (by omega) ?_))
  refine wpAny_bind (I.type.here (wpAny_bind (hb.here ?_)))
  rw [show (Value.ref C != Value.ref C) = false from by simp]
  simp only [Bool.false_eq_true, if_false]
  refine wpAny_bind (wpAny_pure ?_)
  simp only [Bool.false_eq_true, if_false]
  refine wpAny_bind (wpAny_mono one (fun r s' z => ?_) fun _ _ e => e)
  obtain ⟨v, rfl, hq⟩ := z
  exact wpAny_pure hq
end
section
variable {X : Cx} {CX : CXT} {C f : Addr} {fd : FuncData} {ps : List Str} {n : Nat} {sp : Sp} {E : XK}
/-- what == and != of instances of a class with an own __eq__ ask of the text -/
structure OwnCmp (K : PySem.W.Frag) (C f : Addr) : Prop where
  eq : PySem.W.findIn K (.ref C) "__eq__" = some (some (.ref f))
  fn : PySem.W.isFn K (.ref f) = true
  ne : PySem.W.findIn K (.ref C) "__ne__" = some (some (.builtin "object.__ne__"))
  ob : PySem.W.mroIn K C (.type "object") = some true
def rOwnEq (C : Addr) (sp : Sp) (E : XK) : R2 := fun x y H Q => ∃ (a b dx dy : Addr) (fs gs : List (Str × V)), x = .ref a ∧ y = .ref b ∧ H a = some (.ins C dx fs) ∧ H b = some (.ins C dy gs) ∧ sp [.ref a, .ref b] H Q E
def rOwnNe (C : Addr) (sp : Sp) (E : XK) : R2 := fun x y H Q => ∃ (a b dx dy : Addr) (fs gs : List (Str × V)), x = .ref a ∧ y = .ref b ∧ H a = some (.ins C dx fs) ∧ H b = some (.ins C dy gs) ∧ sp [.ref a, .ref b] H (fun z H' => ∃ r, z = .bl r ∧ Q (.bl (!r)) H') E
theorem run_below {A : Around} {pins : List (Addr × Obj)} {σ : L2.St} {H : Hp} {s : Shared} {Q : VK} {a b : Addr} (F : FnOk X.prog X.w X.K X.mg X.base CX n f fd ps sp) (hr : Room n A) (e0 : Env0 X.prog X.w X.K X.mg X.base A X.stack s H) (hb : Binds X.K fd ps []) (hx : Passes CX X E)
    (I : Inv X pins σ H s) (h : sp [.ref a, .ref b] H Q E) : wpAny (model X.prog X.w) A (call (.ref f) [.ref a, .ref b]) (EP X pins σ Q) X.xe s := by
  have hl := F.len _ _ _ _ h
  have r2 : Vals [V.ref a, V.ref b] [Value.ref a, Value.ref b] := .cons rfl (.cons rfl .nil)
  refine wpAny_call (codeAny_mono (F.run A X.stack s H ⟨[.ref a, .ref b], []⟩ [.ref a, .ref b] [.ref a, .ref b] Q E hr e0 (by
    have := hb s [.ref a, .ref b] I.kIn (by simpa using hl)
    simpa using this) r2 h) fun r s' hq => ?_)
  cases r with
  | error e => exact hx pins σ H s e s' I hq
  | ok fl =>
    cases fl with
    | ret w => exact I.after hq
    | next => exact False.elim hq
    | brk => exact False.elim hq
    | cont => exact False.elim hq
theorem op_ownNe (O : OwnCmp X.K C f) (F : FnOk X.prog X.w X.K X.mg X.base CX n f fd ps sp) (hr : Room (n + 1) X.A) (hb : Binds X.K fd ps []) (hx : Passes CX X E) : OpR X (compareOp .NotEq) (rOwnNe C sp E) := by
  intro pins s σ H x y v u Q I rx ry h
  obtain ⟨a, b, dx, dy, fs, gs, rfl, rfl, ha, hb', q⟩ := h
  cases (show v = Value.ref a from rx)
  cases (show u = Value.ref b from ry)
  obtain ⟨mA, J, _⟩ := ins_get I.hok ha
  obtain ⟨mB, J', _⟩ := ins_get I.hok hb'
  obtain ⟨od, J, _⟩ := J.look
  obtain ⟨od', J', _⟩ := J'.look
  have hr1 : Room n X.A.in1 := hr.in1
  refine ne_own (D := C) (by have := hr1.units0; show X.A.units + 1 < cLine; exact this) I.kIn J J'.type O.ne O.ob O.eq O.fn ?_
  refine wpAny_mono (run_below F hr1 I.env0.in1 hb hx I q) (fun w s' z => ?_) fun _ _ x => x
  obtain ⟨z', H', I', rz, r, er, qz⟩ := z
  subst er
  cases (show w = Value.bool r from rz)
  exact ⟨r, rfl, .bl (!r), H', I', rfl, qz⟩
end
end HmQ

set_option Elab.async false
set_option maxRecDepth 100000
set_option maxHeartbeats 4000000
set_option linter.all false
namespace Da
open PySem PySem.Spec PyProof.Rows L2 RZ HmS
/-! ### defs with an owned instance ahead -/
section
variable {K : PySem.W.Frag} [HasT K]
/-- all but the places S grows -/
theorem Is.growX {c : Ct K} {F F' H H' : Hp} {σ : L2.St} {Γ : List En} {S : List Addr} (I : Is c F H σ Γ) (free : ∀ a ∈ S, c.H0 a = none ∧ Not σ Γ a ∧ ∀ vs, H a ≠ some (.tup vs)) (sf : Same F F') (k : ∀ a u, a ∉ S → NT u → H a = some u → H' a = some u) (tb : TbOk K H') (fh : Same F' H') (fn : FN F')
    (nw : ∀ a u, F' a = some u → F a = some u ∨ a ∈ S ∨ Soft (ntH H) a) : Is c F' H' σ Γ := by
  have pS : ∀ p, c.pn = some p → p ∉ S := fun p h m => (I.pp p h).2.2 (free p m).1
  have nf : ∀ a, a ∉ S → F a = none → ¬ Soft (ntH H) a → F' a = none := fun a n h1 h2 => by
    cases q : F' a with
    | none => rfl
    | some o =>
      rcases nw a o q with z | z | z
      · rw [h1] at z
        cases z
      · exact absurd z n
      · exact absurd z h2
  have same : ∀ a o, a ∉ S → H a = some o → Plainly o → H' a = H a := fun a o n h pl => by
    rw [h]
    exact k a o n pl.1 h
  refine ⟨I.f0.trans sf, fh, fun a o h => ?_, fun a o p h => k _ _ (fun m => by rw [(free a m).1] at h; cases h) (I.hn a o h) (I.h0 a o p h), fun p h => ?_, I.len, fun i e h n => ?_, I.dis, fn, tb, I.hn⟩
  · rcases nw a o h with z | z | z
    · exact I.nw a o z
    · exact .inr (.inl (free a z).1)
    · exact .inr (I.soft z)
  · obtain ⟨h1, h2, h3⟩ := I.pp p h
    obtain ⟨u, h4, h5⟩ := h2.pl
    exact ⟨nf p (pS p h) h1 (fun z => h2.hard (z.elim (fun w => by rw [ntH_of h4 h5.1] at w; cases w) fun ⟨vs, w⟩ => .inr ⟨vs, (ntH_some w).1⟩)), h2.of (same p u (pS p h) h4 h5), h3⟩
  · obtain ⟨v, h1, h2⟩ := I.at_ i e h n
    have nS : ∀ a, Adr e v a → a ∉ S := fun a x m => (free a m).2.1 i e v h h1 x
    refine ⟨v, h1, h2.grow sf (fun a x => ?_) (fun a x => ?_) (fun a vs e => k a _ (fun m => (free a m).2.2 vs e) (nt_tup vs) e)⟩
    · obtain ⟨_, _, u, q, pl⟩ := h2.adr x
      exact .inl (same a u (nS a x) q pl)
    · obtain ⟨q1, q2, _⟩ := h2.adr x
      exact nf a (nS a x) q1 q2
def cO (K : PySem.W.Frag) (F H : Hp) (S : List Addr) : Ct K := ⟨F, fun a => if a ∈ S then none else ntH H a, none, none, fun _ _ e => nomatch e⟩
/-- an instance ahead that is changed; nothing is told, nothing raised -/
def spO (K : PySem.W.Frag) [HasT K] (C : Addr) (den : List Str → List O → List D → (List Str → List O → Prop) → Prop) : Sp := fun vs H Q _ => ∃ (p : Addr) (us : List V) (F : Hp) (T : List Addr) (ns : List Str) (os : List O) (ds : List D) (φ : List Str → List O → Prop),
  vs = .ref p :: us ∧ Ow F H (p :: T) (.ref p) (.ins C ns os) ∧ (p :: T).Nodup ∧ Same F H ∧ FN F ∧ TbOk K H ∧ Reps F us ds ∧ den ns os ds φ ∧
  ∀ F' H' ns' os' T', Same F F' → (∀ a u, a ∉ (p :: T) → NT u → H a = some u → H' a = some u) → TbOk K H' → Same F' H' → FN F' → (∀ a u, F' a = some u → F a = some u ∨ Soft (cO K F H (p :: T)).H0 a) → Held (cO K F H (p :: T)) F' H' (.ow (.ins C ns' os') (p :: T')) (.ref p) → φ ns' os' → Q .non H'
def stO (N : List Str) (o : O) (S : List Addr) (ds : List D) : List En := .ow o S :: (ds.map En.d ++ List.replicate (N.length - (ds.length + 1)) .no)
theorem enterO {N : List Str} {F H : Hp} {v : V} {us : List V} {ds : List D} {o : O} {S : List Addr} (h : Ow F H S v o) (nd : S.Nodup) (fh : Same F H) (fn : FN F) (tb : TbOk K H) (r : Reps F us ds) : Is (cO K F H S) F H (L2.start N (v :: us)) (stO N o S ds) := by
  have e1 : L2.start N (v :: us) = some v :: (us.map some ++ List.replicate (N.length - (us.length + 1)) none) := by unfold L2.start; rw [List.map_cons, List.length_cons]; rfl
  rw [e1]
  have low : ∀ (j : Nat) (e : En), (ds.map En.d ++ List.replicate (N.length - (ds.length + 1)) .no)[j]? = some e → e ≠ .no → ∃ x, e = .d x ∧ ds[j]? = some x := fun j e g n => by
    rw [List.getElem?_append] at g
    split at g
    · rename_i hi
      rw [List.length_map] at hi
      rw [List.getElem?_map, List.getElem?_eq_getElem hi] at g
      cases g
      exact ⟨_, rfl, List.getElem?_eq_getElem hi⟩
    · exact absurd (List.mem_replicate.mp (List.mem_of_getElem? g)).2 n
  have own0 : ∀ (j : Nat) (e : En) (v : V) (a : Addr), (stO N o S ds)[j]? = some e → Adr e v a → j = 0 := fun j e v a g x => by
    cases j with
    | zero => rfl
    | succ j =>
      obtain ⟨x', rfl, _⟩ := low j e (by simpa [stO] using g) (adr_no x)
      exact x.elim
  have hs : ∀ a u, (cO K F H S).H0 a = some u → ntH H a = some u := fun a u e => by
    have e : (if a ∈ S then none else ntH H a) = some u := e
    split at e
    · cases e
    · exact e
  refine ⟨Same.refl F, fh, fun a o e => .inl e, fun a u _ e => (ntH_some (hs a u e)).1, (fun q e => nomatch e), ?_, fun i e g n => ?_, fun i j a e e' v v' ij g g' s s' o o' => ij ((own0 i e v a g o).trans (own0 j e' v' a g' o').symm), fn, tb, fun a u e => (ntH_some (hs a u e)).2⟩
  · unfold stO
    rw [List.length_cons, List.length_cons, List.length_append, List.length_append, List.length_map, List.length_map, List.length_replicate, List.length_replicate, r.length]
  · cases i with
    | zero =>
      cases g
      refine ⟨v, rfl, h, nd, fun a m => ?_⟩
      show (if a ∈ S then none else ntH H a) = none
      rw [if_pos m]
    | succ i =>
      obtain ⟨x, rfl, hx⟩ := low i e (by simpa [stO] using g) n
      obtain ⟨w, hv, rp⟩ := r.get hx
      refine ⟨w, ?_, rp⟩
      rw [List.getElem?_cons_succ, List.getElem?_append_left (by rw [List.length_map]; exact (List.getElem?_eq_some_iff.mp hv).1), List.getElem?_map, hv]
      rfl
def poO (C p : Addr) (φ : List Str → List O → Prop) : Po := ⟨fun Γ => ∃ ns os T, Γ[0]? = some (.ow (.ins C ns os) (p :: T)) ∧ φ ns os, fun _ _ => False, fun _ => False, fun _ => False⟩
theorem ow_ins {F H : Hp} {p : Addr} {T : List Addr} {v : V} {C : Addr} {ns : List Str} {os : List O} (h : Ow F H (p :: T) v (.ins C ns os)) : v = .ref p := by
  cases h with
  | ins _ _ _ _ => rfl
theorem ow_hd {F H : Hp} {S : List Addr} {v : V} {C : Addr} {ns : List Str} {os : List O} (h : Ow F H S v (.ins C ns os)) : ∃ p T, S = p :: T ∧ v = .ref p := by
  cases h with
  | ins _ _ _ _ => exact ⟨_, _, rfl, rfl⟩
theorem bodyO {t : TS} {dt : DSt} {N : List Str} {vs : List V} {H : Hp} {Q : VK} {E' : XK} {C : Addr} {den : List Str → List O → List D → (List Str → List O → Prop) → Prop} [s : SndS K E0 (fun _ => False) t dt] (h : spO K C den vs H Q E')
    (hd : ∀ ns os ds φ p T, den ns os ds φ → dt (stO N (.ins C ns os) (p :: T) ds) (poO C p φ)) : t { nx := fun _ H' => Q .non H', rt := Q } (L2.start N vs) H := by
  obtain ⟨p, us, F, T, ns, os, ds, φ, rfl, ow, nd, fh, fn, tb, r, h1, q⟩ := h
  refine s.run (enterO ow nd fh fn tb r) (fun _ _ _ _ _ z => z) (hd ns os ds φ p T h1) ⟨fun F' H' σ' Γ' I z => ?_, fun F' H' σ' Γ' v e I hh n z => z.elim, fun _ _ _ _ _ z => z.elim, fun _ _ _ _ _ z => z.elim⟩
  obtain ⟨ns', os', T', g, hφ⟩ := z
  obtain ⟨v, _, hh⟩ := I.at_ 0 _ g (fun z => nomatch z)
  cases ow_ins hh.1
  exact q F' H' ns' os' T' I.f0 (fun a u n nt e => I.h0 a u (fun z => nomatch z) (by show (if a ∈ (p :: T) then none else ntH H a) = some u; rw [if_neg n]; exact ntH_of e nt)) I.tb I.fh I.fn I.nw hh hφ
theorem lenO {C : Addr} {den : List Str → List O → List D → (List Str → List O → Prop) → Prop} {n : Nat} {vs : List V} {H : Hp} {Q : VK} {E' : XK} (h : spO K C den vs H Q E') (f : ∀ ns os ds φ, den ns os ds φ → ds.length = n) : vs.length = n + 1 := by
  obtain ⟨p, us, F, T, ns, os, ds, φ, rfl, _, _, _, _, _, r, h1, _⟩ := h
  rw [List.length_cons, r.length, f ns os ds φ h1]
theorem Is.unNt {c : Ct K} {F H : Hp} {σ : L2.St} {Γ : List En} {a : Addr} {S : List Addr} (I : Is c F H σ Γ) (hS : ∀ a ∈ S, c.H0 a = none ∧ Not σ Γ a) (h : (cO K F H S).H0 a = none) : c.H0 a = none ∧ Not σ Γ a := by
  have h : (if a ∈ S then none else ntH H a) = none := h
  split at h
  · rename_i m
    exact hS a m
  · exact ⟨I.unN h, I.freshN h⟩
/-- behind a call that changed what slot i owns -/
theorem Is.calledO {c : Ct K} {F H F' H' : Hp} {σ : L2.St} {Γ : List En} {i : Nat} {v : V} {o o' : O} {S S' : List Addr} (I : Is c F H σ Γ) (g : Γ[i]? = some (.ow o S)) (s : σ[i]? = some (some v)) (sf : Same F F') (k : ∀ a u, a ∉ S → NT u → H a = some u → H' a = some u) (tb : TbOk K H') (fh : Same F' H') (fn : FN F')
    (nw : ∀ a u, F' a = some u → F a = some u ∨ Soft (cO K F H S).H0 a) (hh : Held (cO K F H S) F' H' (.ow o' S') v) : Is c F' H' σ (Γ.set i (.ow o' S')) := by
  obtain ⟨v', hv, I1, r⟩ := I.resOf g (fun z => nomatch z)
  rw [s] at hv
  cases hv
  have free : ∀ a ∈ S, c.H0 a = none ∧ Not σ (Γ.set i .no) a := fun a m => ⟨r.1.2.2 a m, r.2.2 a m⟩
  have I2 := I1.growX (S := S) (fun a m => ⟨(free a m).1, (free a m).2, fun vs e => by
    obtain ⟨_, u, e2, _, n⟩ := r.1.1.at a m
    rw [e2] at e
    cases e
    exact n vs rfl⟩) sf k tb fh fn (fun a u e => (nw a u e).imp id fun z => by
      by_cases m : a ∈ S
      · exact .inl m
      · refine .inr ?_
        rcases z with z | ⟨vs, z⟩
        · have z : (if a ∈ S then none else ntH H a) = none := z
          rw [if_neg m] at z
          exact .inl z
        · have z : (if a ∈ S then none else ntH H a) = some (.tup vs) := z
          rw [if_neg m] at z
          exact .inr ⟨vs, z⟩)
  have I3 := I2.set (v := v) (e := .ow o' S') ⟨⟨hh.1, hh.2.1, fun a m => (I1.unNt free (hh.2.2 a m)).1⟩, (fun z => nomatch z), fun a m => (I1.unNt free (hh.2.2 a m)).2⟩ i
  rw [set_same s, List.set_set] at I3
  exact I3
variable {E : XK} {ψ : Value → Prop} {te ta tb tx : TE} {da db dx : DT} {al : TA} {dal : DA}
/-- x.m(..), x a slot that owns an instance which m changes -/
def dMethO (C : Addr) (m : Str) (i : Nat) (den : List Str → List O → List D → (List Str → List O → Prop) → Prop) (dvs : List V) (dal : DA) : DT := fun Γ φ => (∃ ns os S, Γ[i]? = some (.ow (.ins C ns os) S) ∧ m ∉ ns) ∧ dal Γ fun xs Γ1 => (dvs.all isSc) = true ∧
  ∃ ns os S, Γ1[i]? = some (.ow (.ins C ns os) S) ∧ den ns os (xs ++ dvs.map vD) fun ns2 os2 => ∀ p T2, φ (.d .non) (Γ1.set i (.ow (.ins C ns2 os2) (p :: T2)))
theorem lookup_none {f : Str} : ∀ {fs : List (Str × V)}, f ∉ fs.map (·.1) → fs.lookup f = none
  | [], _ => rfl
  | (g, v) :: r, h => by
    rw [List.map_cons, List.mem_cons, not_or] at h
    rw [List.lookup_cons]
    have e : (f == g) = false := by
      cases q : f == g with
      | false => rfl
      | true => exact absurd (beq_iff_eq.mp q) h.1
    rw [e]
    exact lookup_none h.2
instance snd_methO {C : Addr} {m : Str} {i : Nat} {den : List Str → List O → List D → (List Str → List O → Prop) → Prop} {dvs : List V} {E' : XK} [sl : SndA K E ψ al dal] : Snd K E ψ (tMeth C m (spO K C den) dvs E' (tVar i) al) (dMethO C m i den dvs dal) := ⟨fun {c F H σ Γ φ Q} I eo h q => by
  obtain ⟨⟨ns0, os0, S0, g0, hm⟩, h⟩ := h
  obtain ⟨v, hv, hh0⟩ := I.at_ i _ g0 (fun z => nomatch z)
  obtain ⟨p, T0, eS, ev⟩ := ow_hd hh0.1
  subst ev eS
  refine ⟨_, hv, ?_⟩
  obtain ⟨dx, fs, hp, hl⟩ : ∃ dx fs, H p = some (.ins C dx fs) ∧ fs.lookup m = none := by
    have z := hh0.1
    cases z with
    | ins _ e1 e2 _ => exact ⟨_, _, e1, lookup_none (by rw [e2]; exact hm)⟩
  refine ⟨p, dx, fs, rfl, hp, hl, ?_⟩
  refine sl.run I eo h fun F1 H1 vs xs Γ1 I1 s1 r1 h1 => ?_
  obtain ⟨hsc, ns, os, S, g, h1⟩ := h1
  obtain ⟨v', hv', hh⟩ := I1.at_ i _ g (fun z => nomatch z)
  rw [hv] at hv'
  cases hv'
  obtain ⟨p', T, eS, ev⟩ := ow_hd hh.1
  cases ev
  subst eS
  refine ⟨p, vs ++ dvs, F1, T, ns, os, xs ++ dvs.map vD, _, rfl, hh.1, hh.2.1, I1.fh, I1.fn, I1.tb, r1.app (Reps.scs hsc), h1, fun F' H' ns' os' T' sf k tb fh fn nw h2 hφ => ?_⟩
  exact q F' H' .non (.d .non) _ (I1.calledO g hv sf k tb fh fn nw h2) (s1.trans sf) (Res.d .non) (hφ p T')⟩
/-- C(..) -/
def dMake (C : Addr) (den : List Str → List O → List D → (List Str → List O → Prop) → Prop) (dvs : List V) (dal : DA) : DT := fun Γ φ => dal Γ fun xs Γ1 => (dvs.all isSc) = true ∧ den [] [] (xs ++ dvs.map vD) fun ns2 os2 => ∀ p T2, φ (.ow (.ins C ns2 os2) (p :: T2)) Γ1
instance snd_make {C : Addr} {den : List Str → List O → List D → (List Str → List O → Prop) → Prop} {dvs : List V} {E' : XK} [sl : SndA K E ψ al dal] : Snd K E ψ (tMake C (spO K C den) dvs E' al) (dMake C den dvs dal) := ⟨fun {c F H σ Γ φ Q} I eo h q => by
  refine sl.run I eo h fun F1 H1 vs xs Γ1 I1 s1 r1 h1 => ?_
  obtain ⟨hsc, h1⟩ := h1
  intro x dx hx hdx nx
  have I2 : Is c F1 (upd H1 dx (.own x)) σ Γ1 := I1.newH hdx
  have hx2 : (upd H1 dx (.own x)) x = none := by rw [upd_ne nx.symm]; exact hx
  have I3 : Is c F1 (upd (upd H1 dx (.own x)) x (.ins C dx [])) σ Γ1 := I2.newH hx2
  have hat : (upd (upd H1 dx (.own x)) x (.ins C dx [])) x = some (.ins C dx []) := upd_same
  refine ⟨x, vs ++ dvs, F1, [], [], [], xs ++ dvs.map vD, _, rfl, .ins (I1.unF hx) hat rfl .nil, (by simp), I3.fh, I3.fn, I3.tb, r1.app (Reps.scs hsc), h1, fun F' H' ns' os' T' sf k tb fh fn nw h2 hφ => ⟨rfl, ?_⟩⟩
  have free : ∀ a ∈ [x], c.H0 a = none ∧ Not σ Γ1 a := fun a m => by
    cases List.mem_singleton.mp m
    exact ⟨I1.un hx, I1.fresh hx⟩
  have I4 : Is c F' H' σ Γ1 := I3.growX (S := [x]) (fun a m => ⟨(free a m).1, (free a m).2, fun vs e => by
    cases List.mem_singleton.mp m
    rw [hat] at e
    cases e⟩) sf k tb fh fn (fun a u e => (nw a u e).imp id fun z => by
      by_cases m : a ∈ [x]
      · exact .inl m
      · refine .inr ?_
        rcases z with z | ⟨vs, z⟩
        · have z : (if a ∈ [x] then none else ntH _ a) = none := z
          rw [if_neg m] at z
          exact .inl z
        · have z : (if a ∈ [x] then none else ntH _ a) = some (.tup vs) := z
          rw [if_neg m] at z
          exact .inr ⟨vs, z⟩)
  exact q F' H' (.ref x) (.ow (.ins C ns' os') (x :: T')) Γ1 I4 (s1.trans sf) ⟨⟨h2.1, h2.2.1, fun a m => (I3.unNt free (h2.2.2 a m)).1⟩, (fun z => nomatch z), fun a m => (I3.unNt free (h2.2.2 a m)).2⟩ (hφ x T')⟩
end
end Da

set_option Elab.async false
set_option maxRecDepth 100000
set_option maxHeartbeats 4000000
set_option linter.all false
namespace Da
open PySem PySem.Spec PyProof.Rows L2 RZ HmS
/-! ### looking at what a slot owns -/
mutual
def D.imm : D → Bool
  | .tup xs => imms xs
  | .lst _ => false
  | .dK _ _ => false
  | .dT _ _ => false
  | .ins _ _ _ => false
  | _ => true
def imms : List D → Bool
  | [] => true
  | x :: r => x.imm && imms r
end
mutual
theorem Rep.im {F F' : Hp} (k : ∀ a vs, F a = some (.tup vs) → F' a = some (.tup vs)) : ∀ {x : D} {v : V}, Rep F v x → x.imm = true → Rep F' v x
  | .non, _, .non, _ => .non
  | .bl b, _, .bl _, _ => .bl b
  | .int i, _, .int _, _ => .int i
  | .str s, _, .str _, _ => .str s
  | .tup xs, _, .tup e r, h => .tup (k _ _ e) (Reps.im k r h)
  | .lst _, _, _, h => absurd h Bool.false_ne_true
  | .dK _ _, _, _, h => absurd h Bool.false_ne_true
  | .dT _ _, _, _, h => absurd h Bool.false_ne_true
  | .ins _ _ _, _, _, h => absurd h Bool.false_ne_true
theorem Reps.im {F F' : Hp} (k : ∀ a vs, F a = some (.tup vs) → F' a = some (.tup vs)) : ∀ {xs : List D} {vs : List V}, Reps F vs xs → imms xs = true → Reps F' vs xs
  | [], _, .nil, _ => .nil
  | x :: xs, _, .cons a b, h => by
    have h : (x.imm && imms xs) = true := h
    rw [Bool.and_eq_true] at h
    exact .cons (Rep.im k a h.1) (Reps.im k b h.2)
end
def immE (e : En) (k : En → Prop) : Prop := match e with
  | .d z => z.imm = true ∧ k (.d z)
  | .lst xs => imms xs = true ∧ k (.lst xs)
  | _ => False
def tBrw (_ : Nat) (te : TE) : TE := te
theorem pe_brw {X : Cx} {e : Expr} {te : TE} (i : Nat) (h : PE X e te) : PE X e (tBrw i te) := h
def dBrw (i : Nat) (da : DT) : DT := fun Γ φ => ∃ o S, Γ[i]? = some (.ow o S) ∧ da ((Γ.map onlyE).set i (.d o.dt)) fun e _ => immE e fun e' => φ e' Γ
section
variable {K : PySem.W.Frag} [HasT K] {E : XK} {ψ : Value → Prop} {te ta tb tx : TE} {da db dx : DT}
theorem EOk.low {c : Ct K} {F F1 H : Hp} {σ : L2.St} {Γ : List En} (I : Is c F H σ Γ) (eo : EOk c E ψ) : EOk (c0 K F1 H) E ψ := fun C H' k1 _ tb' z => eo C H' (fun a u q e => k1 a u (fun z => nomatch z) (ntH_of (I.h0 a u q e) (I.hn a u e))) (fun p hp => by
  obtain ⟨_, h2, _⟩ := I.pp p hp
  obtain ⟨x1, x2, x3, x4, e, rr⟩ := h2
  exact ⟨x1, x2, x3, x4, k1 _ _ (fun z => nomatch z) (ntH_of e fun _ z => nomatch z), rr⟩) tb' z
instance snd_brw {i : Nat} [sa : Snd K E ψ ta da] : Snd K E ψ (tBrw i ta) (dBrw i da) := ⟨fun {c F H σ Γ φ Q} I eo h q => by
  obtain ⟨o, S, g, h⟩ := h
  obtain ⟨v, hv, I0, r⟩ := I.resOf g (fun z => nomatch z)
  obtain ⟨I1, s1, rep⟩ := I0.moreS r.1.1 r.1.2.2 r.2.2
  have nS : ∀ a u, frzF F H S a = some u → a ∉ S → F a = some u ∨ Soft (ntH H) a := fun a u e m => by
    unfold frzF at e
    rw [if_neg m] at e
    exact (tupF_of e).imp id fun ⟨⟨vs, z⟩, e2⟩ => by
      subst z
      exact soft_nt (.inr ⟨vs, e2⟩)
  have J := (I1.only (NS.refl H) I1.tb).set (v := v) (e := .d o.dt) (Res.d rep) i
  rw [set_same hv, List.map_set, List.set_set] at J
  refine sa.run J (EOk.low I eo) h fun F2 H2 w e Γ2 I2 s2 r2 z => ?_
  have hS : ∀ a ∈ S, F2 a = H a := fun a m => by
    obtain ⟨_, u, e2, _, _⟩ := r.1.1.at a m
    rw [e2]
    refine s2 a u ?_
    unfold frzF
    rw [if_pos m]
    exact e2
  have tS : ∀ a vs, F2 a = some (.tup vs) → a ∉ S := fun a vs e2 m => by
    obtain ⟨_, u, e3, _, n⟩ := r.1.1.at a m
    rw [hS a m, e3] at e2
    cases e2
    exact n vs rfl
  have sf : Same F (fun a => if a ∈ S then none else F2 a) := fun a u e2 => by
    show (if a ∈ S then none else F2 a) = some u
    rw [if_neg fun m => by rw [(r.1.1.at a m).1] at e2; cases e2]
    exact s2 a u (s1 a u e2)
  have low : ∀ a u, (fun a => if a ∈ S then none else F2 a) a = some u → F2 a = some u ∧ a ∉ S := fun a u e2 => by
    have e2 : (if a ∈ S then none else F2 a) = some u := e2
    split at e2
    · cases e2
    · rename_i m
      exact ⟨e2, m⟩
  have sh : NS H H2 := fun b u n e2 => I2.h0 b u (fun z => nomatch z) (ntH_of e2 n)
  have I3 : Is c (fun a => if a ∈ S then none else F2 a) H2 σ Γ := I.growN sf sh I2.tb (fun a u e2 => I2.fh a u (low a u e2).1) (fun a u e2 => I2.fn a u (low a u e2).1) fun a u e2 => by
    obtain ⟨e3, m⟩ := low a u e2
    rcases I2.nw a u e3 with z | z
    · exact nS a u z m
    · exact .inr z
  have kt : ∀ a vs, F2 a = some (.tup vs) → (fun a => if a ∈ S then none else F2 a) a = some (.tup vs) := fun a vs e2 => by
    show (if a ∈ S then none else F2 a) = _
    rw [if_neg (tS a vs e2)]
    exact e2
  cases e with
  | d x => exact q _ H2 w (.d x) Γ I3 sf (Res.d (Rep.im kt r2.1 z.1)) z.2
  | lst xs =>
    obtain ⟨a, vs, rfl, f2, h0, ha, rs⟩ := r2.1
    refine q _ H2 _ (.lst xs) Γ I3 sf ⟨⟨a, vs, rfl, ?_, I.unN h0, ha, Reps.im kt rs z.1⟩, (fun z => nomatch z), fun b x => by cases x; exact I.freshN h0⟩ z.2
    show (if a ∈ S then none else F2 a) = none
    split
    · rfl
    · exact f2
  | _ => exact z.elim⟩
/-! ### changing an instance that a slot owns -/
theorem Ows.app {F H : Hp} : ∀ {S T : List Addr} {vs us : List V} {os ps : List O}, Ows F H S vs os → Ows F H T us ps → Ows F H (S ++ T) (vs ++ us) (os ++ ps)
  | _, _, _, _, _, _, .nil, h => h
  | _, _, _, _, _, _, .cons a b, h => by
    rw [List.append_assoc]
    exact .cons a (Ows.app b h)
theorem Ows.one {F H : Hp} {S : List Addr} {v : V} {o : O} (h : Ow F H S v o) : Ows F H S [v] [o] := by
  have z : Ows F H (S ++ []) [v] [o] := .cons h .nil
  rw [List.append_nil] at z
  exact z
theorem Ows.split {F H : Hp} : ∀ {os ps : List O} {S : List Addr} {vs : List V}, Ows F H S vs (os ++ ps) → ∃ S1 S2 vs1 vs2, S = S1 ++ S2 ∧ vs = vs1 ++ vs2 ∧ Ows F H S1 vs1 os ∧ Ows F H S2 vs2 ps
  | [], _, S, vs, h => ⟨[], S, [], vs, rfl, rfl, .nil, h⟩
  | o :: os, ps, _, _, .cons a b => by
    obtain ⟨S1, S2, vs1, vs2, e1, e2, h1, h2⟩ := Ows.split b
    subst e1 e2
    exact ⟨_ ++ S1, S2, _ :: vs1, vs2, (List.append_assoc ..).symm, rfl, .cons a h1, h2⟩
theorem Ows.un1 {F H : Hp} {S : List Addr} {vs : List V} {o : O} (h : Ows F H S vs [o]) : ∃ v, vs = [v] ∧ Ow F H S v o := by
  cases h with
  | cons a b =>
    cases b with
    | nil =>
      rw [List.append_nil]
      exact ⟨_, rfl, a⟩
theorem Ows.ds {F H : Hp} : ∀ {ds : List D} {S : List Addr} {vs : List V}, Ows F H S vs (ds.map O.d) → S = [] ∧ Reps F vs ds
  | [], _, _, .nil => ⟨rfl, .nil⟩
  | d :: ds, _, _, .cons a b => by
    obtain ⟨e, r⟩ := Ows.ds b
    subst e
    cases a with
    | d r1 => exact ⟨rfl, .cons r1 r⟩
theorem Ows.of {F H : Hp} : ∀ {ds : List D} {vs : List V}, Reps F vs ds → Ows F H [] vs (ds.map O.d)
  | _, _, .nil => .nil
  | _, _, .cons a b => .cons (S := []) (.d a) (Ows.of b)
/-- a place of the slot's changes, places may be added -/
theorem Is.chgO {c : Ct K} {F H : Hp} {σ : L2.St} {Γ : List En} {i : Nat} {v : V} {o o' : O} {S S' : List Addr} {m : Addr} {u : HO} (I : Is c F H σ Γ) (g : Γ[i]? = some (.ow o S)) (s : σ[i]? = some (some v)) (hm : m ∈ S) (new : Ow F (upd H m u) S' v o') (nd : S'.Nodup)
    (sub : ∀ a ∈ S', a ∈ S ∨ (c.H0 a = none ∧ Not σ Γ a)) : Is c F (upd H m u) σ (Γ.set i (.ow o' S')) := by
  obtain ⟨v', hv, I1, r⟩ := I.resOf g (fun z => nomatch z)
  rw [s] at hv
  cases hv
  obtain ⟨fm, u0, e0, p0, n0⟩ := r.1.1.at m hm
  have h0 := r.1.2.2 m hm
  have I2 := I1.chg (o := u) ⟨fm, h0, fun z => (I.pp m z).2.2 h0, r.2.2 m hm⟩ e0 p0 n0
  have sb : ∀ a ∈ S', c.H0 a = none ∧ Not σ (Γ.set i .no) a := fun a h => (sub a h).elim (fun z => ⟨r.1.2.2 a z, r.2.2 a z⟩) fun z => ⟨z.1, z.2.forget i⟩
  have I3 := I2.set (v := v) (e := .ow o' S') ⟨⟨new, nd, fun a h => (sb a h).1⟩, (fun z => nomatch z), fun a h => (sb a h).2⟩ i
  rw [set_same s, List.set_set] at I3
  exact I3
/-- what an expression told, as a part of a tree -/
def asO (e : En) (k : O → List Addr → Prop) : Prop := match e with
  | .d x => k (.d x) []
  | .lst xs => ∀ m, k (.lst (xs.map .d)) [m]
  | .dK ks xs => ∀ m, k (.dK ks (xs.map .d)) [m]
  | .dT ks xs => ∀ m, k (.dT ks (xs.map .d)) [m]
  | .ow o S => k o S
  | _ => False
theorem asO_of {c : Ct K} {F H : Hp} {e : En} {v : V} {k : O → List Addr → Prop} (h : Held c F H e v) (z : asO e k) : ∃ o S, Ow F H S v o ∧ S.Nodup ∧ (∀ a ∈ S, c.H0 a = none ∧ Adr e v a) ∧ k o S := by
  cases e with
  | d x => exact ⟨_, _, .d h, List.nodup_nil, (fun _ m => nomatch m), z⟩
  | lst xs =>
    obtain ⟨a, vs, rfl, f, h0, ha, rs⟩ := h
    exact ⟨_, [a], .lst f ha (.of rs), (by simp), (fun b m => by cases List.mem_singleton.mp m; exact ⟨h0, rfl⟩), z a⟩
  | dK ks xs =>
    obtain ⟨a, vs, rfl, f, h0, ha, ek, rs⟩ := h
    exact ⟨_, [a], .dK f ha ek (.of rs), (by simp), (fun b m => by cases List.mem_singleton.mp m; exact ⟨h0, rfl⟩), z a⟩
  | dT ks xs =>
    obtain ⟨a, vs, rfl, f, h0, ha, ek, rs⟩ := h
    exact ⟨_, [a], .dT f ha ek (.of rs), (by simp), (fun b m => by cases List.mem_singleton.mp m; exact ⟨h0, rfl⟩), z a⟩
  | ow o S => exact ⟨o, S, h.1, h.2.1, fun a m => ⟨h.2.2 a m, m⟩, z⟩
  | _ => exact z.elim
theorem putF_new {f : Str} {y : V} : ∀ {fs : List (Str × V)}, f ∉ fs.map (·.1) → putF f y fs = fs ++ [(f, y)]
  | [], _ => rfl
  | (g, w) :: r, h => by
    rw [List.map_cons, List.mem_cons, not_or] at h
    show (if g = f then _ else (g, w) :: putF f y r) = _
    rw [if_neg fun z => h.1 z.symm, putF_new h.2]
    rfl
/-- x.f = e, a new field -/
def dFSet (K : PySem.W.Frag) (i : Nat) (f : Str) (da : DT) : DSt := fun Γ P => da Γ fun e Γ1 => asO e fun o T2 => ∃ C ns os p T, Γ1[i]? = some (.ow (.ins C ns os) (p :: T)) ∧ Cls K C ∧ NoAttr K C f ∧ f ∉ ns ∧ ns.length < 1000 ∧ P.nx (Γ1.set i (.ow (.ins C (ns ++ [f]) (os ++ [o])) (p :: (T ++ T2))))
instance snds_fset {i : Nat} {f : Str} [a : Snd K E ψ ta da] : SndS K E ψ (sFld K (tVar i) ta f) (dFSet K i f da) := ⟨fun {c F H σ Γ P D} I eo h m => by
  refine a.run I eo h fun F1 H1 y e Γ1 I1 s1 r1 h1 => ?_
  obtain ⟨o, T2, ow2, nd2, ad2, C, ns, os, p, T, g, cl, na, nf, nl, h1⟩ := asO_of r1.1 h1
  obtain ⟨v, hv, hh⟩ := I1.at_ i _ g (fun z => nomatch z)
  cases ow_ins hh.1
  have oo := hh.1
  have nd := hh.2.1
  cases oo with
  | @ins _ _ _ dx fs _ _ fp ep en er =>
    refine ⟨_, hv, p, C, dx, fs, rfl, ep, cl, na, by rw [← en, List.length_map] at nl; exact nl, ?_⟩
    have pT := (List.nodup_cons.mp nd).1
    have n2 : ∀ a ∈ T2, a ∉ p :: T := fun a h2 h3 => r1.2.2 a (ad2 a h2).2 i _ _ g hv h3
    have p2 : p ∉ T2 := fun h2 => n2 p h2 List.mem_cons_self
    have kt : ∀ {u : HO} a vs, H1 a = some (.tup vs) → (upd H1 p u) a = some (.tup vs) := fun a vs e2 => by
      rw [upd_ne fun z => by rw [z, ep] at e2; cases e2]
      exact e2
    refine m.nx _ _ _ _ (I1.chgO (o' := .ins C (ns ++ [f]) (os ++ [o])) (S' := p :: (T ++ T2)) g hv List.mem_cons_self ?_ ?_ fun a h2 => ?_) h1
    · rw [putF_new (by rw [en]; exact nf)]
      refine .ins fp upd_same (by rw [List.map_append, en]; rfl) ?_
      rw [List.map_append]
      exact (er.grow (Same.refl F1) kt fun a h2 => ⟨upd_ne fun z => pT (by rw [← z]; exact h2), (er.at a h2).1⟩).app (.one (ow2.grow (Same.refl F1) kt fun a h2 => ⟨upd_ne fun z => p2 (by rw [← z]; exact h2), (ow2.at a h2).1⟩))
    · refine List.nodup_cons.mpr ⟨fun h2 => (List.mem_append.mp h2).elim pT p2, List.nodup_append.mpr ⟨(List.nodup_cons.mp nd).2, nd2, fun a h2 b h3 z => ?_⟩⟩
      subst z
      exact n2 a h3 (List.mem_cons_of_mem _ h2)
    · rcases List.mem_cons.mp h2 with z | z
      · exact .inl (by rw [z]; exact List.mem_cons_self)
      · rcases List.mem_append.mp z with z | z
        · exact .inl (List.mem_cons_of_mem _ z)
        · exact .inr ⟨(ad2 a z).1, r1.2.2 a (ad2 a z).2⟩⟩
/-- the last field of an owned instance is a dict -/
theorem ow_last {F H : Hp} {S : List Addr} {v : V} {C : Addr} {ns : List Str} {f : Str} {os : List O} {ks : List (List Key)} {ds : List D} (h : Ow F H S v (.ins C (ns ++ [f]) (os ++ [.dT ks (ds.map .d)]))) :
    ∃ p S1 m dx fs kvs, S = p :: (S1 ++ [m]) ∧ v = .ref p ∧ F p = none ∧ H p = some (.ins C dx (fs ++ [(f, .ref m)])) ∧ fs.map (·.1) = ns ∧ Ows F H S1 (fs.map (·.2)) os ∧ F m = none ∧ H m = some (.dT kvs) ∧ kvs.map (·.1) = ks ∧ Reps F (kvs.map (·.2)) ds := by
  cases h with
  | @ins S0 p _ dx fs _ _ fp ep en er =>
    obtain ⟨S1, S2, vs1, vs2, e1, e2, h1, h2⟩ := er.split
    obtain ⟨w, e3, h3⟩ := h2.un1
    subst e1 e3
    cases h3 with
    | @dT S3 m kvs _ _ fm em ek er2 =>
      obtain ⟨e4, r⟩ := er2.ds
      subst e4
      have hn : fs ≠ [] := fun z => by
        rw [z] at en
        simp at en
      obtain ⟨fs1, q, rfl⟩ : ∃ fs1 q, fs = fs1 ++ [q] := ⟨fs.dropLast, fs.getLast hn, (List.dropLast_concat_getLast hn).symm⟩
      rw [List.map_append] at en e2
      obtain ⟨en1, en2⟩ := List.append_inj' en rfl
      obtain ⟨ev1, ev2⟩ := List.append_inj' e2 rfl
      have eq : q = (f, .ref m) := by
        cases q with
        | mk q1 q2 =>
          have x1 : [q1] = [f] := en2
          have x2 : [q2] = [.ref m] := ev2
          cases x1
          cases x2
          rfl
      subst eq
      rw [← ev1] at h1
      exact ⟨p, S1, m, dx, fs1, kvs, rfl, rfl, fp, ep, en1, h1, fm, em, ek, r⟩
theorem look_last {f : Str} {y : V} : ∀ {fs : List (Str × V)}, f ∉ fs.map (·.1) → (fs ++ [(f, y)]).lookup f = some y
  | [], _ => by
    show List.lookup f [(f, y)] = some y
    rw [List.lookup_cons, beq_self_eq_true]
  | (g, w) :: r, h => by
    rw [List.map_cons, List.mem_cons, not_or] at h
    rw [List.cons_append, List.lookup_cons]
    have e : (f == g) = false := by
      cases q : f == g with
      | false => rfl
      | true => exact absurd (beq_iff_eq.mp q) h.1
    rw [e]
    exact look_last h.2
/-- x.f[k] = e, the last field -/
def fputK (K : PySem.W.Frag) (i j : Nat) (f : Str) (N : List En → Prop) (x : D) (Γ1 : List En) : Prop := ∃ (C : Addr) (ns : List Str) (os : List O) (ks : List (List Key)) (ds : List D) (S : List Addr) (y : D) (k : List Key), Γ1[i]? = some (.ow (.ins C (ns ++ [f]) (os ++ [O.dT ks (ds.map O.d)])) S) ∧ f ∉ ns ∧ Cls K C ∧ NoAttr K C f ∧ Γ1[j]? = some (.d y) ∧ keysOf y = some k ∧ ks.length ≤ 100000 ∧
  N (Γ1.set i (.ow (.ins C (ns ++ [f]) (os ++ [O.dT (putTs ks k) ((putTD ks ds k x).map O.d)])) S))
def dFPut (K : PySem.W.Frag) (i j : Nat) (f : Str) (da : DT) : DSt := fun Γ P => da Γ fun e Γ1 => wf e fun x => fputK K i j f P.nx x Γ1
theorem new_last {F H : Hp} {C p m dx : Addr} {S1 : List Addr} {ns : List Str} {f : Str} {os : List O} {fs : List (Str × V)} {kvs : List (List Key × V)} {ks : List (List Key)} {ds : List D} {u : HO} (nd : (p :: (S1 ++ [m])).Nodup) (fp : F p = none) (ep : H p = some (.ins C dx (fs ++ [(f, .ref m)]))) (en : fs.map (·.1) = ns) (h1 : Ows F H S1 (fs.map (·.2)) os) (fm : F m = none)
    (em : H m = some u) (nu : ∀ vs, u ≠ .tup vs) (ek : kvs.map (·.1) = ks) (r : Reps F (kvs.map (·.2)) ds) : Ow F (upd H m (.dT kvs)) (p :: (S1 ++ [m])) (.ref p) (.ins C (ns ++ [f]) (os ++ [.dT ks (ds.map .d)])) := by
  have pm : p ≠ m := fun z => (List.nodup_cons.mp nd).1 (by rw [z]; simp)
  have sm : ∀ a ∈ S1, a ≠ m := fun a h2 z => (List.nodup_append.mp (List.nodup_cons.mp nd).2).2.2 a h2 m (by simp) z
  refine .ins fp (by rw [upd_ne pm]; exact ep) (by rw [List.map_append, en]; rfl) ?_
  rw [List.map_append]
  exact (h1.grow (Same.refl F) (fun a vs e2 => by
    rw [upd_ne fun z => by rw [z, em] at e2; cases e2; exact nu vs rfl]
    exact e2) fun a h2 => ⟨upd_ne (sm a h2), (h1.at a h2).1⟩).app (.one (.dT fm upd_same ek (.of r)))
instance snds_fput {i j : Nat} {f : Str} [a : Snd K E ψ ta da] : SndS K E ψ (sDPut (tFld K (tVar i) f) (tVar j) ta) (dFPut K i j f da) := ⟨fun {c F H σ Γ P DD} I eo h m => by
  refine a.frz (φ := fun _ _ => True) (k := fun x Γ1 => fputK K i j f P.nx x Γ1) I eo h fun F1 H1 w x Γ1 I1 s1 rx h1 => ?_
  obtain ⟨C, ns, os, ks, ds, S, y, k, g, nf, cl, na, gj, hy, kl, h1⟩ := h1
  obtain ⟨v, hv, hh⟩ := I1.at_ i _ g (fun z => nomatch z)
  obtain ⟨w2, hw, ry⟩ := I1.at_ j _ gj (fun z => nomatch z)
  obtain ⟨p, S1, d, dx, fs, kvs, eS, ev, fp, ep, en, h3, fm, em, ek, r⟩ := ow_last hh.1
  subst ev eS
  obtain ⟨b, rfl, hb⟩ := keysOf_rep ry hy
  refine ⟨_, hv, p, C, dx, _, _, rfl, ep, cl, na, look_last (by rw [en]; exact nf), _, hw, d, _, rfl, DPut.t (k := k) em (I1.fh _ _ hb) (by rw [← ek, List.length_map] at kl; exact Nat.lt_of_le_of_lt kl (by decide)), ?_⟩
  obtain ⟨k1, k2⟩ := putT_rep (j := k) rx ek r
  exact m.nx _ _ _ _ (I1.chgO (S' := p :: (S1 ++ [d])) g hv (by simp) (new_last hh.2.1 fp ep en h3 fm em (fun vs z => nomatch z) k1 k2) hh.2.1 fun a h2 => .inl h2) h1⟩
def dropTs (ks : List (List Key)) (j : List Key) : List (List Key) := ks.filter fun k => decide (k ≠ j)
def dropTD : List (List Key) → List D → List Key → List D
  | k :: ks, x :: xs, j => if k ≠ j then x :: dropTD ks xs j else dropTD ks xs j
  | _, _, _ => []
theorem dropT_rep {F : Hp} {j : List Key} : ∀ {kvs : List (List Key × V)} {ks : List (List Key)} {xs : List D}, kvs.map (·.1) = ks → Reps F (kvs.map (·.2)) xs → (dropK kvs j).map (·.1) = dropTs ks j ∧ Reps F ((dropK kvs j).map (·.2)) (dropTD ks xs j)
  | [], _, _, e, .nil => by
    cases e
    exact ⟨rfl, .nil⟩
  | (k, v) :: r, _, x :: xs, e, .cons a b => by
    cases e
    obtain ⟨h1, h2⟩ := dropT_rep (j := j) rfl b
    have e1 : dropTD (k :: r.map (·.1)) (x :: xs) j = if k ≠ j then x :: dropTD (r.map (·.1)) xs j else dropTD (r.map (·.1)) xs j := rfl
    by_cases z : k ≠ j
    · have f1 : dropK ((k, v) :: r) j = (k, v) :: dropK r j := by
        unfold dropK
        rw [List.filter_cons, if_pos (by simpa using z)]
      have f2 : dropTs (k :: r.map (·.1)) j = k :: dropTs (r.map (·.1)) j := by
        unfold dropTs
        rw [List.filter_cons, if_pos (by simpa using z)]
      rw [f1]
      refine ⟨by show k :: (dropK r j).map (·.1) = dropTs (k :: r.map (·.1)) j; rw [f2, h1], ?_⟩
      show Reps F (v :: (dropK r j).map (·.2)) (dropTD (k :: r.map (·.1)) (x :: xs) j)
      rw [e1, if_pos z]
      exact .cons a h2
    · have f1 : dropK ((k, v) :: r) j = dropK r j := by
        unfold dropK
        rw [List.filter_cons, if_neg (by simpa using z)]
      have f2 : dropTs (k :: r.map (·.1)) j = dropTs (r.map (·.1)) j := by
        unfold dropTs
        rw [List.filter_cons, if_neg (by simpa using z)]
      rw [f1]
      refine ⟨by show (dropK r j).map (·.1) = dropTs (k :: r.map (·.1)) j; rw [f2, h1], ?_⟩
      show Reps F ((dropK r j).map (·.2)) (dropTD (k :: r.map (·.1)) (x :: xs) j)
      rw [e1, if_neg z]
      exact h2
/-- del x.f[k], the last field -/
def dFDel (K : PySem.W.Frag) (i j : Nat) (f : Str) : DSt := fun Γ P => ∃ C ns os ks ds S y k, Γ[i]? = some (.ow (.ins C (ns ++ [f]) (os ++ [.dT ks (ds.map .d)])) S) ∧ f ∉ ns ∧ Cls K C ∧ NoAttr K C f ∧ Γ[j]? = some (.d y) ∧ keysOf y = some k ∧ (lookD ks ds k).isSome = true ∧
  P.nx (Γ.set i (.ow (.ins C (ns ++ [f]) (os ++ [.dT (dropTs ks k) ((dropTD ks ds k).map .d)])) S))
instance snds_fdel {i j : Nat} {f : Str} : SndS K E ψ (HmQ.sDDelT (tFld K (tVar i) f) (tVar j)) (dFDel K i j f) := ⟨fun {c F H σ Γ P D} I eo h m => by
  obtain ⟨C, ns, os, ks, ds, S, y, k, g, nf, cl, na, gj, hy, hs, h1⟩ := h
  obtain ⟨v, hv, hh⟩ := I.at_ i _ g (fun z => nomatch z)
  obtain ⟨w2, hw, ry⟩ := I.at_ j _ gj (fun z => nomatch z)
  obtain ⟨p, S1, d, dx, fs, kvs, eS, ev, fp, ep, en, h3, fm, em, ek, r⟩ := ow_last hh.1
  subst ev eS
  obtain ⟨b, rfl, hb⟩ := keysOf_rep ry hy
  refine ⟨_, hv, p, C, dx, _, _, rfl, ep, cl, na, look_last (by rw [en]; exact nf), _, hw, d, b, kvs, k, rfl, rfl, em, I.fh _ _ hb, by rw [look_someT ek r]; exact hs, ?_⟩
  obtain ⟨k1, k2⟩ := dropT_rep (j := k) ek r
  exact m.nx _ _ _ _ (I.chgO (S' := p :: (S1 ++ [d])) g hv (by simp) (new_last hh.2.1 fp ep en h3 fm em (fun vs z => nomatch z) k1 k2) hh.2.1 fun a h2 => .inl h2) h1⟩
/-- d.get(k, x), d[k], d frozen -/
def dGet2X (da db dx : DT) : DT := fun Γ φ => da Γ fun e Γ1 => wf e fun x => (∃ ks xs, x = .dT ks xs) ∧ db Γ1 fun e' Γ2 => wf e' fun y => dx Γ2 fun e2 Γ3 => wf e2 fun z => ∃ ks xs k, x = .dT ks xs ∧ keysOf y = some k ∧ φ (.d ((lookD ks xs k).getD z)) Γ3
instance (priority := 500) snd_get2X [a : Snd K E ψ ta da] [b : Snd K E ψ tb db] [x : Snd K E ψ tx dx] : Snd K E ψ (tDGet2 ta tb tx) (dGet2X da db dx) := ⟨fun {c F H σ Γ φ Q} I eo h q => by
  refine a.frz (φ := fun _ _ => True) (k := fun x Γ1 => (∃ ks xs, x = .dT ks xs) ∧ db Γ1 fun e' Γ2 => wf e' fun y => dx Γ2 fun e2 Γ3 => wf e2 fun z => ∃ ks xs k, x = .dT ks xs ∧ keysOf y = some k ∧ φ (.d ((lookD ks xs k).getD z)) Γ3) I eo h fun F1 H1 w d Γ1 I1 s1 rd h1 => ?_
  obtain ⟨⟨ks0, xs0, ed⟩, h1⟩ := h1
  have isd : ∃ p, w = .ref p ∧ IsD H1 p := by
    rw [ed] at rd
    cases rd with
    | @dT p kvs _ _ e _ _ => exact ⟨p, rfl, .inr ⟨kvs, .inl (I1.fh _ _ e)⟩⟩
  obtain ⟨p, rfl, isd⟩ := isd
  refine ⟨p, rfl, isd, ?_⟩
  refine b.frz (φ := fun _ _ => True) (k := fun y Γ2 => dx Γ2 fun e2 Γ3 => wf e2 fun z => ∃ ks xs k, d = .dT ks xs ∧ keysOf y = some k ∧ φ (.d ((lookD ks xs k).getD z)) Γ3) I1 eo h1 fun F2 H2 u y Γ2 I2 s2 ry h2 => ?_
  refine x.frz (φ := fun _ _ => True) (k := fun z Γ3 => ∃ ks xs k, d = .dT ks xs ∧ keysOf y = some k ∧ φ (.d ((lookD ks xs k).getD z)) Γ3) I2 eo h2 fun F3 H3 t z Γ3 I3 s3 rz h3 => ?_
  obtain ⟨ks, xs, k, rfl, hy, h3⟩ := h3
  cases rd with
  | @dT _ kvs _ _ e ek rs =>
    obtain ⟨b, rfl, hb⟩ := keysOf_rep ry hy
    have s13 := s2.trans s3
    refine ⟨_, DGet.t (k := k) (I3.fh _ _ (s13 _ _ e)) (I3.fh _ _ (s3 _ _ hb)), ?_⟩
    obtain ⟨z1, z2⟩ := valV_look (j := k) ek (rs.mono s13)
    cases el : lookD ks xs k with
    | none =>
      rw [z2 el]
      rw [el] at h3
      exact q F3 H3 _ _ Γ3 I3 (s1.trans s13) (Res.d rz) h3
    | some y2 =>
      obtain ⟨w2, hw, rw1⟩ := z1 y2 el
      rw [hw]
      rw [el] at h3
      exact q F3 H3 _ _ Γ3 I3 (s1.trans s13) (Res.d rw1) h3⟩
end
end Da

set_option Elab.async false
set_option maxRecDepth 100000
set_option maxHeartbeats 4000000
set_option linter.all false
namespace Da
open PySem PySem.Spec PyProof.Rows L2 RZ HmS
/-! ### comprehensions of more clauses -/
abbrev DY := List En → List D → (List D → List En → Prop) → Prop
class SndY (K : PySem.W.Frag) [HasT K] (E : XK) (ψ : Value → Prop) (Y : Addr → L2.St → Hp → (Hp → Prop) → Prop) (den : outParam DY) : Prop where
  run : ∀ {c : Ct K} {D : Addr} {us : List V} {h0 : c.H0 D = none} {F H : Hp} {σ : L2.St} {Γ : List En} {acc : List Da.D} {φ : List Da.D → List En → Prop} {N : Hp → Prop}, c.pn ≠ some D → c.F0 D = none → Is (c.guard D (.lst us) h0) F H σ Γ → Reps F us acc → EOk c E ψ → den Γ acc φ →
    (∀ F' H' us' acc' Γ', Is (c.guard D (.lst us') h0) F' H' σ Γ' → Same F F' → Reps F' us' acc' → φ acc' Γ' → N H') → Y D σ H N
/-- a clause with a test, behind it Y -/
def tClT (wi : TI) (g : TG) (vs : List Nat) (tt : TT) (Y : Addr → L2.St → Hp → (Hp → Prop) → Prop) (D : Addr) : L2.St → Hp → (Hp → Prop) → Prop := fun σ H N => wi σ H fun J H1 => ∃ W : Nat → Nat → Hp → Prop, (∃ m, W 0 m H1) ∧ ∀ i m H, W i m H →
  (J.stop i H ∧ N H) ∨ (J.go i H ∧ ∃ N' : Hp → Prop, (∀ H', N' H' → ∃ m', m' < m ∧ W (i + 1) m' H') ∧ ∀ x H', J.yld i H x H' → g x (wipe σ vs) H' fun σ2 H2 => wipe σ2 vs = wipe σ vs ∧ tt σ2 H2 fun b H3 => if b = true then Y D σ2 H3 N' else N' H3)
def tApY (te : TE) (D : Addr) : L2.St → Hp → (Hp → Prop) → Prop := fun σ H N => te σ H fun y H1 => ∃ acc, H1 D = some (.lst acc) ∧ acc.length < sizeLine ∧ N (upd H1 D (.lst (acc ++ [y])))
def tLcY (wi : TI) (g : TG) (tt : TT) (Y : Addr → L2.St → Hp → (Hp → Prop) → Prop) (vs : List Nat) : TE := fun σ H Q => wi σ H fun J H1 => ∀ D, H1 D = none → ∃ W : Nat → Nat → Hp → Prop, (∃ m, W 0 m (upd H1 D (.lst []))) ∧ ∀ i m H, W i m H →
  (J.stop i H ∧ Q (.ref D) H) ∨ (J.go i H ∧ ∃ N' : Hp → Prop, (∀ H', N' H' → ∃ m', m' < m ∧ W (i + 1) m' H') ∧ ∀ x H', J.yld i H x H' → g x (wipe σ vs) H' fun σ2 H2 => wipe σ2 vs = wipe σ vs ∧ tt σ2 H2 fun b H3 => if b = true then Y D σ2 H3 N' else N' H3)
def dApY (de : DT) : DY := fun Γ acc φ => acc.length ≤ 100000 ∧ de Γ fun e Γ1 => wf e fun z => φ (acc ++ [z]) Γ1
def dClT (vs gv : List Nat) (di : DA) (dg : D → List En → (List En → Prop) → Prop) (dtt : DB) (dy : DY) : DY := fun Γ acc φ => (gv.all fun i => vs.contains i) = true ∧ di Γ fun items Γ1 => ∃ J : Nat → List D → List En → Prop, J 0 acc Γ1 ∧
  ∀ j acc1 Γ2, J j acc1 Γ2 → (j = items.length → φ acc1 Γ2) ∧ ∀ d, items[j]? = some d → dg d (wipeE Γ2 vs) fun Γ3 => dtt Γ3 fun b Γ4 => if b = true then dy Γ4 acc1 fun acc2 Γ5 => J (j + 1) acc2 (wipeE Γ5 vs) else J (j + 1) acc1 (wipeE Γ4 vs)
def dLcY (vs gv : List Nat) (di : DA) (dg : D → List En → (List En → Prop) → Prop) (dtt : DB) (dy : DY) : DT := fun Γ φ => (gv.all fun i => vs.contains i) = true ∧ di Γ fun items Γ1 => ∃ J : Nat → List D → List En → Prop, J 0 [] (wipeE Γ1 vs) ∧
  ∀ j acc1 Γ2, J j acc1 Γ2 → (j = items.length → φ (.lst acc1) Γ2) ∧ ∀ d, items[j]? = some d → dg d (wipeE Γ2 vs) fun Γ3 => dtt Γ3 fun b Γ4 => if b = true then dy Γ4 acc1 fun acc2 Γ5 => J (j + 1) acc2 (wipeE Γ5 vs) else J (j + 1) acc1 (wipeE Γ4 vs)
section
variable {K : PySem.W.Frag} [HasT K] {E : XK} {ψ : Value → Prop} {te ta tb : TE} {de da db : DT} {tt tt1 : TT} {dtt dtt1 : DB} {wi wi1 wi2 : TI} {g g1 g2 : TG} {vs vs1 vs2 gv gv1 gv2 : List Nat} {di di1 di2 : DA} {dg dg1 dg2 : D → List En → (List En → Prop) → Prop}
instance snd_apY [se : Snd K E ψ te de] : SndY K E ψ (tApY te) (dApY de) := ⟨fun {c D us h0 F H σ Γ acc φ N} pn f0 I rs eo h q => by
  obtain ⟨hl, h⟩ := h
  refine se.frz (φ := fun _ _ => True) (k := fun z Γ5 => φ (acc ++ [z]) Γ5) I eo.guard h fun F5 H5 v z Γ5 I5 sF5 r5 h5 => ?_
  have hD5 := I5.guarded pn
  have fr := I5.freed pn f0 (fun vs z => nomatch z)
  have I7 := (I5.unguard pn).chg (o := .lst (us ++ [v])) fr hD5 (plain_lst _) (fun vs z => nomatch z)
  exact ⟨us, hD5, by rw [rs.length]; exact Nat.lt_of_le_of_lt hl (by decide), q F5 _ (us ++ [v]) (acc ++ [z]) Γ5 (I7.guard fr upd_same) sF5 ((rs.mono sF5).snoc r5) h5⟩⟩
instance snd_clT {Y : Addr → L2.St → Hp → (Hp → Prop) → Prop} {dy : DY} [si : SndI K E ψ wi di] [sg : SndG K g gv dg] [st : SndT K E ψ tt dtt] [sy : SndY K E ψ Y dy] : SndY K E ψ (tClT wi g vs tt Y) (dClT vs gv di dg dtt dy) := ⟨fun {c D us h0 F H σ Γ acc φ N} pn f0 I rs eo h q => by
  obtain ⟨hgv, h⟩ := h
  have hgv' : ∀ i ∈ gv, i ∈ vs := fun i hi => by simpa using List.all_eq_true.mp hgv i hi
  refine si.run I eo.guard h fun F1 H1 J items Γ1 I1 s1 it h1 => ?_
  obtain ⟨JV, jv0, step⟩ := h1
  refine ⟨fun i m H' => m = items.length - i ∧ i ≤ items.length ∧ ∃ F' Γ' us acc, Same F1 F' ∧ Reps F' us acc ∧ Is (c.guard D (.lst us) h0) F' H' σ Γ' ∧ JV i acc Γ', ⟨_, rfl, Nat.zero_le _, F1, Γ1, us, acc, Same.refl _, rs.mono s1, I1, jv0⟩, ?_⟩
  rintro i m H' ⟨rfl, hi, F', Γ', us', acc', sF, rs', IG, jv⟩
  obtain ⟨st1, st2⟩ := step i acc' Γ' jv
  by_cases hlt : i < items.length
  · obtain ⟨d, hd⟩ : ∃ d, items[i]? = some d := ⟨_, List.getElem?_eq_getElem hlt⟩
    obtain ⟨go, yl⟩ := (it _ F' H' σ Γ' i IG sF).2 d hd
    refine .inr ⟨go, fun H2 => ∃ F2 Γ2 us acc, Same F1 F2 ∧ Reps F2 us acc ∧ Is (c.guard D (.lst us) h0) F2 H2 σ Γ2 ∧ JV (i + 1) acc Γ2, fun H2 n2 => ⟨items.length - (i + 1), by omega, rfl, hlt, n2⟩, fun x H2 y => ?_⟩
    obtain ⟨F2, I2, sF2, rp⟩ := yl x H2 y
    refine sg.run (I2.wipe vs) rp (st2 d hd) fun σ3 Γ3 I3 w3 h3 => ⟨by rw [w3 vs hgv', wipe_wipe], ?_⟩
    have w3' : wipe σ3 vs = wipe σ vs := by rw [w3 vs hgv', wipe_wipe]
    refine st.run I3 eo.guard h3 fun F4 H4 b Γ4 I4 sF4 h4 => ?_
    cases b with
    | false => exact iteF ⟨F4, wipeE Γ4 vs, us', acc', sF.trans (sF2.trans sF4), rs'.mono (sF2.trans sF4), I4.unwipe w3', h4⟩
    | true => exact iteT (sy.run pn f0 I4 (rs'.mono (sF2.trans sF4)) eo h4 fun F5 H5 us5 acc5 Γ5 I5 sF5 r5 h5 => ⟨F5, wipeE Γ5 vs, us5, acc5, sF.trans (sF2.trans (sF4.trans sF5)), r5, I5.unwipe w3', h5⟩)
  · have e : i = items.length := by omega
    exact .inl ⟨(it _ F' H' σ Γ' i IG sF).1 e, q F' H' us' acc' Γ' IG (s1.trans sF) rs' (st1 e)⟩⟩
theorem snd_lcY {Y : Addr → L2.St → Hp → (Hp → Prop) → Prop} {dy : DY} [si : SndI K E ψ wi di] [sg : SndG K g gv dg] [st : SndT K E ψ tt dtt] [sy : SndY K E ψ Y dy] : Snd K E ψ (tLcY wi g tt Y vs) (dLcY vs gv di dg dtt dy) := ⟨fun {c F H σ Γ φ Q} I eo h q => by
  obtain ⟨hgv, h⟩ := h
  have hgv' : ∀ i ∈ gv, i ∈ vs := fun i hi => by simpa using List.all_eq_true.mp hgv i hi
  refine si.run I eo h fun F1 H1 J items Γ1 I1 s1 it h1 => ?_
  obtain ⟨JV, jv0, step⟩ := h1
  intro D hD
  have hF : F1 D = none := I1.unF hD
  have h0 : c.H0 D = none := I1.un hD
  have hpn : c.pn ≠ some D := fun z => (I1.pp D z).2.1.there hD
  have hF0 : c.F0 D = none := I1.f0.free hF
  refine ⟨fun i m H' => m = items.length - i ∧ i ≤ items.length ∧ ∃ F' Γ' us acc, Same F1 F' ∧ Reps F' us acc ∧ Is (c.guard D (.lst us) h0) F' H' σ Γ' ∧ JV i acc Γ', ⟨_, rfl, Nat.zero_le _, F1, wipeE Γ1 vs, [], [], Same.refl _, .nil, ?_, jv0⟩, ?_⟩
  · exact ((I1.newH (o := .lst []) hD).forgets vs).guard ⟨hF, h0, hpn, (I1.fresh hD).forgets vs⟩ upd_same
  · rintro i m H' ⟨rfl, hi, F', Γ', us', acc', sF, rs', IG, jv⟩
    obtain ⟨st1, st2⟩ := step i acc' Γ' jv
    by_cases hlt : i < items.length
    · obtain ⟨d, hd⟩ : ∃ d, items[i]? = some d := ⟨_, List.getElem?_eq_getElem hlt⟩
      obtain ⟨go, yl⟩ := (it _ F' H' σ Γ' i IG sF).2 d hd
      refine .inr ⟨go, fun H2 => ∃ F2 Γ2 us acc, Same F1 F2 ∧ Reps F2 us acc ∧ Is (c.guard D (.lst us) h0) F2 H2 σ Γ2 ∧ JV (i + 1) acc Γ2, fun H2 n2 => ⟨items.length - (i + 1), by omega, rfl, hlt, n2⟩, fun x H2 y => ?_⟩
      obtain ⟨F2, I2, sF2, rp⟩ := yl x H2 y
      refine sg.run (I2.wipe vs) rp (st2 d hd) fun σ3 Γ3 I3 w3 h3 => ⟨by rw [w3 vs hgv', wipe_wipe], ?_⟩
      have w3' : wipe σ3 vs = wipe σ vs := by rw [w3 vs hgv', wipe_wipe]
      refine st.run I3 eo.guard h3 fun F4 H4 b Γ4 I4 sF4 h4 => ?_
      cases b with
      | false => exact iteF ⟨F4, wipeE Γ4 vs, us', acc', sF.trans (sF2.trans sF4), rs'.mono (sF2.trans sF4), I4.unwipe w3', h4⟩
      | true => exact iteT (sy.run hpn hF0 I4 (rs'.mono (sF2.trans sF4)) eo h4 fun F5 H5 us5 acc5 Γ5 I5 sF5 r5 h5 => ⟨F5, wipeE Γ5 vs, us5, acc5, sF.trans (sF2.trans (sF4.trans sF5)), r5, I5.unwipe w3', h5⟩)
    · have e : i = items.length := by omega
      refine .inl ⟨(it _ F' H' σ Γ' i IG sF).1 e, ?_⟩
      have fr := IG.freed hpn hF0 (fun vs z => nomatch z)
      exact q F' H' (.ref D) (.lst acc') Γ' (IG.unguard hpn) (s1.trans sF) ⟨⟨D, us', rfl, fr.f, h0, IG.guarded hpn, rs'⟩, (fun z => nomatch z), fun a e => by cases e; exact fr.sl⟩ (st1 e)⟩
instance snd_lc2 [si : SndI K E ψ wi di] [sg : SndG K g gv dg] [st : SndT K E ψ tt dtt] [si1 : SndI K E ψ wi1 di1] [sg1 : SndG K g1 gv1 dg1] [st1 : SndT K E ψ tt1 dtt1] [se : Snd K E ψ te de] : Snd K E ψ (tLc2 wi g tt wi1 g1 tt1 te vs vs1) (dLcY vs gv di dg dtt (dClT vs1 gv1 di1 dg1 dtt1 (dApY de))) :=
  show Snd K E ψ (tLcY wi g tt (tClT wi1 g1 vs1 tt1 (tApY te)) vs) _ from snd_lcY
instance snd_lc3 [si : SndI K E ψ wi di] [sg : SndG K g gv dg] [si1 : SndI K E ψ wi1 di1] [sg1 : SndG K g1 gv1 dg1] [si2 : SndI K E ψ wi2 di2] [sg2 : SndG K g2 gv2 dg2] [se : Snd K E ψ te de] : Snd K E ψ (C3.tLc3 wi g wi1 g1 wi2 g2 te vs vs1 vs2) (dLcY vs gv di dg dYes (dClT vs1 gv1 di1 dg1 dYes (dClT vs2 gv2 di2 dg2 dYes (dApY de)))) :=
  show Snd K E ψ (tLcY wi g tYes (tClT wi1 g1 vs1 tYes (tClT wi2 g2 vs2 tYes (tApY te))) vs) _ from snd_lcY
end
end Da

set_option Elab.async false
set_option maxRecDepth 100000
set_option maxHeartbeats 4000000
set_option linter.all false
namespace Da
open PySem PySem.Spec PyProof.Rows L2 RZ HmS
section
variable {K : PySem.W.Frag} [HasT K] {E : XK} {ψ : Value → Prop} {te ta tb : TE} {de da db : DT}
/-! ### signs of a text -/
def sgD (c : Nat) : D := .str ⟨#[c]⟩
def sgs (z : Str) : List D := z.cps.toList.map sgD
def dIStr (da : DT) : DA := fun Γ φ => da Γ fun e Γ1 => wf e fun x => match x with
  | .str z => φ (sgs z) Γ1
  | _ => False
theorem itOk_str {F1 : Hp} (z : Str) : ItOk K F1 (Its z) (sgs z) := by
  refine itOk_at (fun H s => ?_) (fun i d H hd s => ?_) (fun i d H x H' hd s y => ?_)
  · show z.cps.size ≤ (sgs z).length
    unfold sgs
    rw [List.length_map, Array.length_toList]
    exact Nat.le_refl _
  · have := (List.getElem?_eq_some_iff.mp hd).1
    unfold sgs at this
    rw [List.length_map, Array.length_toList] at this
    exact this
  · obtain ⟨rfl, c, hc, rfl⟩ := y
    refine ⟨rfl, ?_⟩
    unfold sgs at hd
    rw [List.getElem?_map, Array.getElem?_toList, hc] at hd
    cases hd
    exact .str _
instance snd_iStr [a : Snd K E ψ ta da] : SndI K E ψ (iStr ta) (dIStr da) := ⟨fun {c F H σ Γ φ R} I eo h q => by
  refine a.frz (φ := fun _ _ => True) (k := fun x Γ1 => match x with | .str z => φ (sgs z) Γ1 | _ => False) I eo h fun F1 H1 v x Γ1 I1 s1 rp h1 => ?_
  cases x with
  | str z =>
    cases rp
    exact ⟨z, rfl, q F1 H1 _ (sgs z) Γ1 I1 s1 (itOk_str z) h1⟩
  | _ => exact h1.elim⟩
def rLeStr : R2 := fun x y H Q => ∃ i j, x = .str i ∧ y = .str j ∧ Q (.bl (!decide (j.cps.toList < i.cps.toList))) H
theorem op_leStr {X : Cx} : OpR X (compareOp .LtE) rLeStr := op_le_str
def dLeStr (x y : D) (φ : En → Prop) : Prop := match x, y with
  | .str i, .str j => φ (.d (.bl (!decide (j.cps.toList < i.cps.toList))))
  | _, _ => False
instance snd_leStr : SndR K rLeStr dLeStr := ⟨fun {c F H σ Γ x y d e φ Q} I rx ry h q => by
  cases d <;> cases e <;> first | exact h.elim | skip
  cases rx
  cases ry
  exact ⟨_, _, rfl, rfl, q F H _ _ I (Same.refl F) (Res.d (.bl _)) h⟩⟩
def dInSg (neg : Bool) (x y : D) (φ : En → Prop) : Prop := ∃ c z, x = sgD c ∧ y = .str z ∧ φ (.d (.bl (if neg then !decide (c ∈ z.cps.toList) else decide (c ∈ z.cps.toList))))
instance snd_inSg : SndR K rInS (dInSg false) := ⟨fun {c F H σ Γ x y d e φ Q} I rx ry h q => by
  obtain ⟨s, z, rfl, rfl, h⟩ := h
  cases rx
  cases ry
  exact ⟨s, z, rfl, rfl, q F H _ _ I (Same.refl F) (Res.d (.bl _)) h⟩⟩
instance snd_notInSg : SndR K rNotInS (dInSg true) := ⟨fun {c F H σ Γ x y d e φ Q} I rx ry h q => by
  obtain ⟨s, z, rfl, rfl, h⟩ := h
  cases rx
  cases ry
  exact ⟨s, z, rfl, rfl, q F H _ _ I (Same.refl F) (Res.d (.bl _)) h⟩⟩
/-! ### < on data -/
def rLtD (K : PySem.W.Frag) : R2 := fun x y H Q => ∃ d e, Dp K H x d ∧ Dp K H y e ∧ PySem.W.alike d e = true ∧ d ≠ .none ∧ d.depth ≤ 60 ∧ Q (.bl (PySem.W.dataLt d e)) H
theorem op_ltD {X : Cx} (hu : X.A.units + 64 < cLine) : OpR X (compareOp .Lt) (rLtD X.K) := by
  intro pins s σ H x y v u Q I rx ry h
  obtain ⟨d, e, hd, he, al, nn, dp, q⟩ := h
  obtain ⟨as, r1⟩ := Dp.reads I d x v hd rx
  obtain ⟨bs, r2⟩ := Dp.reads I e y u he ry
  exact PySem.W.lt_data r1 r2 al nn (by omega) ⟨.bl _, H, I, rfl, q⟩
def dLtD (x y : D) (φ : En → Prop) : Prop := x.flat = true ∧ y.flat = true ∧ PySem.W.alike x.py y.py = true ∧ x.py ≠ .none ∧ x.py.depth ≤ 60 ∧ φ (.d (.bl (PySem.W.dataLt x.py y.py)))
instance snd_ltD : SndR K (rLtD K) dLtD := ⟨fun {c F H σ Γ x y d e φ Q} I rx ry h q => by
  obtain ⟨f1, f2, al, nn, dp, h⟩ := h
  exact ⟨_, _, rx.dp I.fh f1, ry.dp I.fh f2, al, nn, dp, q F H _ _ I (Same.refl F) (Res.d (.bl _)) h⟩⟩
/-! ### x or y -/
def dOrT (da db : DT) : DT := fun Γ φ => da Γ fun e Γ1 => wf e fun x => ∃ b, truD x = some b ∧ if b = true then φ (.d x) Γ1 else db Γ1 φ
instance snd_orT [a : Snd K E ψ ta da] [b : Snd K E ψ tb db] : Snd K E ψ (tOrT K ta tb) (dOrT da db) := ⟨fun {c F H σ Γ φ Q} I eo h q => by
  refine a.frz (φ := fun _ _ => True) (k := fun x Γ1 => ∃ b, truD x = some b ∧ if b = true then φ (.d x) Γ1 else db Γ1 φ) I eo h fun F1 H1 v x Γ1 I1 s1 rp h1 => ?_
  obtain ⟨k, hk, h1⟩ := h1
  have tv : TruV K v H1 k := by
    cases rp with
    | non => cases hk; rfl
    | bl b => cases hk
    | int i => cases hk; rfl
    | str s => cases hk
    | tup e r =>
      cases hk
      exact .inr (.inl ⟨_, SqT.of (I1.fh _ _ e), by rw [reps_empty r]⟩)
    | lst e r =>
      cases hk
      exact .inl ⟨_, SqL.of (I1.fh _ _ e), by rw [reps_empty r]⟩
    | dK _ _ _ => cases hk
    | dT _ _ _ => cases hk
    | ins _ _ _ => cases hk
  refine ⟨k, tv, ?_⟩
  cases k with
  | true => exact iteT (q F1 H1 v (.d x) Γ1 I1 s1 (Res.d rp) h1)
  | false => exact iteF (b.run I1 eo h1 fun F2 H2 w e Γ2 I2 s2 r2 h2 => q F2 H2 w e Γ2 I2 (s1.trans s2) r2 h2)⟩
end
end Da

set_option Elab.async false
set_option maxRecDepth 100000
set_option maxHeartbeats 4000000
set_option linter.all false
namespace Da
open PySem PySem.Spec PyProof.Rows L2 RZ HmS
/-! ### methods that change their instance, by the number of their arguments -/
abbrev DSO := List Str → List O → List D → (List Str → List O → Prop) → Prop
def mo0 (k : List Str → List O → (List Str → List O → Prop) → Prop) : DSO := fun ns os ds φ => match ds with | [] => k ns os φ | _ => False
def mo1 (k : List Str → List O → D → (List Str → List O → Prop) → Prop) : DSO := fun ns os ds φ => match ds with | [x] => k ns os x φ | _ => False
def mo2 (k : List Str → List O → D → D → (List Str → List O → Prop) → Prop) : DSO := fun ns os ds φ => match ds with | [x, y] => k ns os x y φ | _ => False
def mo3 (k : List Str → List O → D → D → D → (List Str → List O → Prop) → Prop) : DSO := fun ns os ds φ => match ds with | [x, y, z] => k ns os x y z φ | _ => False
section
variable {K : PySem.W.Frag} [HasT K] {t : TS} {dt : DSt} {N : List Str} {vs : List V} {H : Hp} {Q : VK} {E' : XK} {C : Addr}
theorem lemo2 {k : List Str → List O → D → D → (List Str → List O → Prop) → Prop} (h : spO K C (mo2 k) vs H Q E') : vs.length = 3 := lenO (n := 2) h fun ns os ds φ h => match ds, h with | [_, _], _ => rfl
theorem lemo3 {k : List Str → List O → D → D → D → (List Str → List O → Prop) → Prop} (h : spO K C (mo3 k) vs H Q E') : vs.length = 4 := lenO (n := 3) h fun ns os ds φ h => match ds, h with | [_, _, _], _ => rfl
theorem bodmo2 {k : List Str → List O → D → D → (List Str → List O → Prop) → Prop} [s : SndS K E0 (fun _ => False) t dt] (h : spO K C (mo2 k) vs H Q E') (hd : ∀ ns os x y φ p T, k ns os x y φ → dt (stO N (.ins C ns os) (p :: T) [x, y]) (poO C p φ)) : t (bodyGoal Q) (L2.start N vs) H :=
  bodyO h fun ns os ds φ p T h => match ds, h with | [x, y], h => hd ns os x y φ p T h
theorem bodmo3 {k : List Str → List O → D → D → D → (List Str → List O → Prop) → Prop} [s : SndS K E0 (fun _ => False) t dt] (h : spO K C (mo3 k) vs H Q E') (hd : ∀ ns os x y z φ p T, k ns os x y z φ → dt (stO N (.ins C ns os) (p :: T) [x, y, z]) (poO C p φ)) : t (bodyGoal Q) (L2.start N vs) H :=
  bodyO h fun ns os ds φ p T h => match ds, h with | [x, y, z], h => hd ns os x y z φ p T h
end
/-- a def with defaults that lets nothing out -/
theorem _root_.L2.FunD.ok0D {P : Program} {w : World} {K : PySem.W.Frag} {mg : Str → Option Value} {base : Heap} {x qual : Str} {params : Arguments} {body : List Stmt} {scope : Scope} {dvs : List V} {kws : List (Str × V)} {f : Addr} {fd : FuncData} {N ps : List Str} {k : Nat} {sp : Sp} (F : FunD K x qual params body scope dvs kws f fd) (S : FnScope N ps scope) (len : ∀ vs H Q E, sp vs H Q E → vs.length = ps.length)
    (hbody : ∀ (cdv : Value) (A : Around) (outer : List Env) (s : Shared) (H : Hp) (vs : List V) (Q : VK) (E : XK), Room k (A.deeper (envOfC qual scope s.heap.objs.size f cdv)) → sp vs H Q E →
      ∃ t, PSs (cxOf CX0 P w K mg base N qual scope f cdv A outer s H E).nox body t ∧ t { nx := fun _ H' => Q .non H', rt := Q } (L2.start N vs) H) : FnOk P w K mg base CX0 (k + 1) f fd ps sp :=
  FunD.ok F S len fun cdv A outer s H vs Q E hr hsp => by
    obtain ⟨t, h, q⟩ := hbody cdv A outer s H vs Q E hr hsp
    exact ⟨t, h.nox, q⟩
theorem ps_fldK {X : Cx} {K : PySem.W.Frag} {o value : Expr} {f : Str} {pos pos' : Pos} {ta tv : TE} (ha : PE X o ta) (hv : PE X value tv) (hs : swapsWith value (some (.Attribute o f pos')) pos.line X.env = pure false) (hK : X.K = K := by rfl) : PS X (.Assign [.Attribute o f pos'] value pos) (sFld K ta tv f) := by
  subst hK
  exact ps_fld ha hv hs
theorem pe_orTK {X : Cx} {K : PySem.W.Frag} {a b : Expr} {rest : List Expr} {pos : Pos} {ta tb : TE} (ha : PE X a ta) (hb : PE X (.BoolOp .Or (b :: rest) pos) tb) (hK : X.K = K := by rfl) : PE X (.BoolOp .Or (a :: b :: rest) pos) (tOrT K ta tb) := by
  subst hK
  exact pe_orT ha hb
/-! ### a tree as data -/
theorem dts_d : ∀ xs : List D, dts (xs.map O.d) = xs
  | [] => rfl
  | x :: r => by
    show x :: dts (r.map O.d) = x :: r
    rw [dts_d r]
/-! ### comprehensions of two clauses that hang on the items alone -/
def pp4 (k : D → D → D → D → (En → Prop) → Prop) : List D → (En → Prop) → Prop := fun ds φ => match ds with | [x, y, z, u] => k x y z u φ | _ => False
section
variable {K : PySem.W.Frag} [HasT K] {t : TS} {dt : DSt} {N : List Str} {vs : List V} {H : Hp} {Q : VK} {E' : XK}
end
end Da

set_option Elab.async false
set_option maxRecDepth 100000
set_option maxHeartbeats 4000000
set_option linter.all false
namespace Da
open PySem PySem.Spec PyProof.Rows L2 RZ HmS
/-! ### a, b = x, y where y doesn't look at a: what x made stays owned -/
def Ign (i : Nat) (t : TE) : Prop := ∀ σ x H Q, t (List.set σ i (some x)) H Q → t σ H Q
def IgnM (i : Nat) (t : TE) : Prop := ∀ σ x H Q Q', t (List.set σ i (some x)) H Q → (∀ v H1, Q v H1 → Q' v H1) → t σ H Q'
def IgnA (i : Nat) (t : TA) : Prop := ∀ σ x H Q, t (List.set σ i (some x)) H Q → t σ H Q
theorem ignM_var {i j : Nat} (h : i ≠ j) : IgnM i (tVar j) := fun σ x H Q Q' q k => by
  obtain ⟨v, hv, q⟩ := q
  exact ⟨v, by rwa [List.getElem?_set_ne h] at hv, k _ _ q⟩
theorem ignA_nil {i : Nat} : IgnA i tNil := fun _ _ _ _ q => q
theorem ignA_cons {i : Nat} {ta : TE} {tr : TA} (a : IgnM i ta) (r : IgnA i tr) : IgnA i (tCons ta tr) := fun σ x H Q q => a σ x H _ _ q fun v H1 z => r σ x H1 _ z
theorem ign_call {i : Nat} {sp : Sp} {dvs : List V} {E' : XK} {tr : TA} (r : IgnA i tr) : Ign i (tCall sp dvs E' tr) := fun σ x H Q q => r σ x H _ q
theorem ign_sl {i : Nat} {r : V → Option Int → Option Int → Hp → VK → Prop} {te : TE} {tl th : TO} (h : Ign i te) (hl : ∀ σ σ', tl σ = tl σ') (hh : ∀ σ σ', th σ = th σ') : Ign i (tSl r te tl th) := fun σ x H Q q => by
  have q : te (List.set σ i (some x)) H fun y H1 => tl (List.set σ i (some x)) H1 fun l H2 => th (List.set σ i (some x)) H2 fun u H3 => r y l u H3 Q := q
  rw [hl (List.set σ i (some x)) σ, hh (List.set σ i (some x)) σ] at q
  exact h σ x H _ q
def tParS (i j : Nat) (ta tb : TE) (g : Ign i tb) : TS := tPar i j (tCons ta (tCons tb tNil))
theorem ps_parS {X : Cx} {st : Stmt} {i j : Nat} {ta tb : TE} (g : Ign i tb) (h : PS X st (tPar i j (tCons ta (tCons tb tNil)))) : PS X st (tParS i j ta tb g) := h
def dParS (i j : Nat) (da db : DT) : DSt := fun Γ P => da Γ fun e Γ1 => db (Γ1.set i e) fun e' Γ2 => P.nx (Γ2.set j e')
section
variable {K : PySem.W.Frag} [HasT K] {E : XK} {ψ : Value → Prop} {ta tb : TE} {da db : DT}
instance snds_parS {i j : Nat} {g : Ign i tb} [a : Snd K E ψ ta da] [b : Snd K E ψ tb db] : SndS K E ψ (tParS i j ta tb g) (dParS i j da db) := ⟨fun {c F H σ Γ P D} I eo h m => by
  refine a.run (φ := fun e Γ1 => db (Γ1.set i e) fun e' Γ2 => P.nx (Γ2.set j e')) I eo h fun F1 H1 v e Γ1 I1 s1 r1 h1 => ?_
  refine g σ v H1 _ ?_
  exact b.run (φ := fun e' Γ2 => P.nx (Γ2.set j e')) (I1.set r1 i) eo h1 fun F2 H2 w e' Γ2 I2 s2 r2 h2 => ⟨v, w, rfl, m.nx _ _ _ _ (I2.set r2 j) h2⟩⟩
end
end Da

set_option Elab.async false
set_option maxRecDepth 100000
set_option maxHeartbeats 4000000
set_option linter.all false
namespace Da
open PySem PySem.Spec PyProof.Rows L2 RZ HmS
section
variable {X : Cx}
/-! ### len(set(xs)), tuples of ints -/
def tLenSetT (K : PySem.W.Frag) (ta : TE) : TE := fun σ H Q => ta σ H fun x H1 => ∃ (l : Addr) (ks : List (Addr × List Int)), x = V.ref l ∧ SqL K H1 l (ks.map fun p => V.ref p.1) ∧ (∀ p ∈ ks, SqT K H1 p.1 (p.2.map V.int)) ∧ ks.length < 64 ∧
  ∀ L : List (Addr × List Int), (L.map (·.2)).Nodup → (∀ p ∈ L, p ∈ ks) → (∀ p ∈ ks, p.2 ∈ L.map (·.2)) → Q (.int L.length) H1
end
theorem Reps.refs {F : Hp} : ∀ {vs : List V} {ks : List (List Int)}, Reps F vs (ks.map fun k => D.tup (k.map .int)) → ∃ ps : List (Addr × List Int), vs = ps.map (fun p => V.ref p.1) ∧ ks = ps.map (·.2) ∧ ∀ p ∈ ps, F p.1 = some (.tup (p.2.map V.int))
  | _, [], .nil => ⟨[], rfl, rfl, fun _ z => nomatch z⟩
  | _, k :: ks, .cons (.tup e r) rs => by
    obtain ⟨ps, rfl, rfl, h⟩ := Reps.refs rs
    refine ⟨(_, k) :: ps, rfl, rfl, fun p hp => ?_⟩
    rcases List.mem_cons.mp hp with rfl | hp
    · rw [r.of_ints] at e
      exact e
    · exact h p hp
/-- how many unlike ones there are -/
def Uniq (ks : List (List Int)) (n : Nat) : Prop := ∃ L : List (List Int), L.Nodup ∧ (∀ k ∈ L, k ∈ ks) ∧ (∀ k ∈ ks, k ∈ L) ∧ n = L.length
def dLenSetT (da : DT) : DT := fun Γ φ => da Γ fun e Γ1 => wl e fun xs => ∃ ks : List (List Int), xs = (ks.map fun k => D.tup (k.map .int)) ∧ ks.length < 64 ∧ ∀ n : Nat, Uniq ks n → φ (.d (.int n)) Γ1
section
variable {K : PySem.W.Frag} [HasT K] {E : XK} {ψ : Value → Prop} {ta : TE} {da : DT}
instance snd_lenSetT [a : Snd K E ψ ta da] : Snd K E ψ (tLenSetT K ta) (dLenSetT da) := ⟨fun {c F H σ Γ φ Q} I eo h q => a.run I eo h fun F1 H1 v e Γ1 I1 s1 r1 h1 => by
  obtain ⟨F2, p, vs, xs, rfl, I2, s2, ep, rs, ks, rfl, hl, h2⟩ := r1.frzL I1 h1
  obtain ⟨ps, rfl, rfl, hp⟩ := rs.refs
  refine ⟨p, ps, rfl, SqL.of (I2.fh _ _ ep), fun p' hp' => SqT.of (I2.fh _ _ (hp p' hp')), by simpa using hl, fun L nd h3 h4 => ?_⟩
  refine q F2 H1 _ _ Γ1 I2 (s1.trans s2) (Res.d (.int _)) (h2 L.length ⟨L.map (·.2), nd, fun k hk => ?_, fun k hk => ?_, (List.length_map _).symm⟩)
  · obtain ⟨z, hz, rfl⟩ := List.mem_map.mp hk
    exact List.mem_map.mpr ⟨z, h3 z hz, rfl⟩
  · obtain ⟨z, hz, rfl⟩ := List.mem_map.mp hk
    exact h4 z hz⟩
/-! ### divmod -/
def rDivm : List V → Hp → VK → Prop := fun xs H Q => ∃ i j, xs = [.int i, .int j] ∧ CDiv i j ∧ ∀ p, H p = none → Q (.ref p) (upd H p (.tup [.int (i / j), .int (i % j)]))
def dDivmR (xs : List D) (φ : En → Prop) : Prop := match xs with
  | [.int i, .int j] => CDiv i j ∧ φ (.d (.tup [.int (i / j), .int (i % j)]))
  | _ => False
instance snd_divm : SndC K rDivm dDivmR := ⟨fun {c F H σ Γ xs ds φ Q} I r h q => by
  match ds, r, h with
  | [.int i, .int j], .cons (.int _) (.cons (.int _) .nil), h =>
    refine ⟨i, j, rfl, h.1, fun p hp => ?_⟩
    obtain ⟨I2, s2, _⟩ := I.new (o := .tup [V.int (i / j), V.int (i % j)]) hp
    exact q _ _ _ _ I2 s2 (Res.d (.tup upd_same (.cons (.int _) (.cons (.int _) .nil)))) h.2⟩
end
end Da

set_option Elab.async false
set_option maxRecDepth 100000
set_option maxHeartbeats 4000000
set_option linter.all false
namespace Da
open PySem PySem.Spec PyProof.Rows L2 RZ HmS
def rMaxD (K : PySem.W.Frag) : List V → Hp → VK → Prop := fun vs H Q => ∃ (a : Addr) (xs : List V) (x : PyData) (ds : List PyData), vs = [.ref a] ∧ SqL K H a xs ∧ DpAll K H xs (x :: ds) ∧ PySem.W.AlikeAll (x :: ds) ∧ PyData.depthAll (x :: ds) ≤ 60 ∧
  ∀ (i : Nat) v, xs[i]? = some v → (x :: ds)[i]? = some (PySem.W.maxD x ds) → Q v H
def dMaxR (xs : List D) (φ : En → Prop) : Prop := match xs with
  | [.lst (x :: ds)] => flats (x :: ds) = true ∧ PySem.W.AlikeAll (pys (x :: ds)) ∧ PyData.depthAll (pys (x :: ds)) ≤ 60 ∧ ∀ z ∈ x :: ds, z.py = PySem.W.maxD x.py (pys ds) → φ (.d z)
  | _ => False
section
variable {K : PySem.W.Frag} [HasT K] {E : XK} {ψ : Value → Prop} {te ta tb tx : TE} {da db dx : DT} {tt tu : TT} {dtt dtu : DB} {al : TA} {dal : DA} {t u : TS} {dt du : DSt}
instance snd_maxD : SndC K (rMaxD K) dMaxR := ⟨fun {c F H σ Γ xs ds φ Q} I r h q => by
  match ds, r, h with
  | [.lst (x :: es)], r, h =>
    obtain ⟨h1, h2, h3, h4⟩ := h
    obtain ⟨v, rfl, rp⟩ := one_of r
    cases rp with
    | @lst a vs _ e rs =>
      refine ⟨a, vs, x.py, pys es, rfl, SqL.of (I.fh _ _ e), by simpa only [pys] using rs.dp I.fh h1, by simpa only [pys] using h2, by simpa only [pys] using h3, fun i v hv hm => ?_⟩
      obtain ⟨y, hy, rpy⟩ := rs.getV hv
      obtain ⟨z, hz, ez⟩ := pys_get (ds := x :: es) (i := i) (by simpa only [pys] using hm)
      rw [hy] at hz
      cases hz
      exact q F H v _ I (Same.refl F) (Res.d rpy) (h4 y (List.mem_of_getElem? hy) ez)⟩
/-! ### tuple of a dict's keys -/
end
def rMaxDef (K : PySem.W.Frag) : List V → List V → Hp → VK → Prop := fun vs zs H Q => ∃ (a : Addr) (xs : List V) (d : V) (ds : List PyData), vs = [.ref a] ∧ zs = [d] ∧ SqL K H a xs ∧ DpAll K H xs ds ∧ PySem.W.AlikeAll ds ∧ PyData.depthAll ds ≤ 60 ∧
  (ds = [] → Q d H) ∧ ∀ (x : PyData) (es : List PyData), ds = x :: es → ∀ (i : Nat) v, xs[i]? = some v → ds[i]? = some (PySem.W.maxD x es) → Q v H
section
variable {K : PySem.W.Frag} [HasT K] {E : XK} {ψ : Value → Prop} {te ta tb tx : TE} {da db dx : DT} {tt tu : TT} {dtt dtu : DB} {al : TA} {dal : DA} {t u : TS} {dt du : DSt}
def dMaxDefR (xs : List D) (d : D) (φ : En → Prop) : Prop := match xs with
  | [.lst []] => φ (.d d)
  | [.lst (x :: ds)] => dMaxR [.lst (x :: ds)] φ
  | _ => False
def dMaxDef (da db : DT) : DT := fun Γ φ => da Γ fun e Γ1 => wf e fun x => db Γ1 fun e' Γ2 => wf e' fun d => dMaxDefR [x] d fun z => φ z Γ2
instance snd_maxDef [sa : Snd K E ψ ta da] [sb : Snd K E ψ tb db] : Snd K E ψ (tCKw (rMaxDef K) (tCons ta tNil) (tCons tb tNil)) (dMaxDef da db) := ⟨fun {c F H σ Γ φ Q} I eo h q => by
  refine sa.frz (φ := fun _ _ => True) (k := fun x Γ1 => db Γ1 fun e' Γ2 => wf e' fun d => dMaxDefR [x] d fun z => φ z Γ2) I eo h fun F1 H1 v x Γ1 I1 s1 r1 h1 => ?_
  refine sb.frz (φ := fun _ _ => True) (k := fun d Γ2 => dMaxDefR [x] d fun z => φ z Γ2) I1 eo h1 fun F2 H2 u d Γ2 I2 s2 r2 h2 => ?_
  have r1' := r1.mono s2
  cases x with
  | lst xs =>
    cases r1' with
    | @lst a vs _ e rs =>
      cases xs with
      | nil =>
        cases rs
        exact ⟨a, [], u, [], rfl, rfl, SqL.of (I2.fh _ _ e), .nil, ⟨by simp, by simp⟩, by simp [PyData.depthAll], fun _ => q F2 H2 _ _ Γ2 I2 (s1.trans s2) (Res.d r2) h2, fun x es z => nomatch z⟩
      | cons x es =>
        obtain ⟨h1, h3, h4, h5⟩ := h2
        refine ⟨a, vs, u, pys (x :: es), rfl, rfl, SqL.of (I2.fh _ _ e), rs.dp I2.fh h1, h3, h4, (fun z => by simp [pys] at z), fun y ys e1 i v hv hm => ?_⟩
        obtain ⟨w, hy, rpy⟩ := rs.getV hv
        obtain ⟨z, hz, ez⟩ := pys_get (ds := x :: es) (i := i) hm
        rw [hy] at hz
        cases hz
        rw [pys] at e1
        cases e1
        exact q F2 H2 v _ Γ2 I2 (s1.trans s2) (Res.d rpy) (h5 w (List.mem_of_getElem? hy) ez)
  | _ => exact h2.elim⟩
end
end Da

set_option Elab.async false
set_option maxRecDepth 100000
set_option maxHeartbeats 4000000
set_option linter.all false
/-! a list comprehension whose element may let an exception out -/
namespace CQ
open PySem PySem.Spec PyProof.Rows L2
section
variable {X : Cx} {pins : List (Addr × Obj)} {σ : L2.St} {H : Hp} {sI s' : Shared} {C : Addr} {ce : Env} {m : Str → Option Value} {u : Value} {W : WX} {E : XK}
theorem frames_but {B h h' : Heap} {C : Addr} (hk : ∀ b o, b ≠ C → h.get? b = some o → h'.get? b = some o) : ∀ {l : List Env}, C ∉ frs l → h.FunFrames B l → h'.FunFrames B l
  | [], _, _ => trivial
  | env :: l, hn, h => by
    obtain ⟨k, ⟨L, o, hf, hb, ho, hd⟩, r⟩ := h
    have nL : L ≠ C := fun q => hn (q ▸ List.mem_filterMap.mpr ⟨env, List.mem_cons_self, hf⟩)
    exact ⟨k, ⟨L, o, hf, hb, hk L o nL ho, hd⟩, frames_but hk (fun q => hn (by
      obtain ⟨e, he, w⟩ := List.mem_filterMap.mp q
      exact List.mem_filterMap.mpr ⟨e, List.mem_cons_of_mem _ he, w⟩)) r⟩
theorem frames_sub {B B' h : Heap} (hk : ∀ b, B.get? b = none → B'.get? b = none) : ∀ {l : List Env}, h.FunFrames B l → h.FunFrames B' l
  | [], _ => trivial
  | _ :: _, ⟨k, ⟨L, o, hf, hb, r⟩, t⟩ => ⟨k, ⟨L, o, hf, hk L hb, r⟩, frames_sub hk t⟩
/-- out of a call in the element: noted, the block let go, held by the def's frame -/
theorem noted_call (tk : Takes X W) (hW : ∀ cls d σ H, E cls d H → W cls d σ H) (hs : X.stack = X.env :: X.outer) (hf : X.env.frame = some X.env.locals) (J : Inv X pins σ H sI) (fp : FpOk X pins H C) (hC : sI.heap.Ns C m)
    (hce : ce.frame = X.env.frame) (hcl : ce.locals = C) (c : CX X.prog X.w X.stack H sI E u s') : notedBy (model X.prog X.w) X.A ce (CompFails (model X.prog X.w) X.A X.xe ce) u s' := by
  have nst : C ∉ frs X.stack := fun q => (List.mem_cons.mp (J.stkSub C q)).elim fp.2.1 fp.2.2.1
  have c' : CX X.prog X.w X.stack H sI (fun cls d H => E cls d H ∧ H C = none) u s' := by
    obtain ⟨a, B, H', cls, d, e, fl, hok, ub, na, os, ag, hE⟩ := c
    obtain ⟨o, es, ep, ho, r⟩ := hC
    exact ⟨a, B, H', cls, d, e, fl, hok, ub, na, os, ag, hE, ub.free C o ho fp.1⟩
  have hC1 : s'.heap.Ns C m := by
    obtain ⟨a, B, H', cls, d, e, fl, hok, ub, na, os, ag, hE⟩ := c
    exact hC.at fun o e => fl.1 C o (ub.keep C o e fp.1 nst)
  obtain ⟨a, B, s2, pins2, σ2, H2, cls, d, rfl, I2, nb, up, sky, na, os, ag, w⟩ := XE.of_call (W := fun cls d _ H => E cls d H ∧ H C = none) J (fun _ _ _ h => h) c'
  have I3 : Inv X [] σ2 H2 s2 := (show Inv X ([] ++ pins2) σ2 H2 s2 from I2).unpinned
  have I4 : Inv X [] σ2 H2 { s2 with heap := PySem.W.hideAll s2.heap [C] } := I3.turned (t' := s2.toks) (fun b o hb e => PySem.W.hideAll_get _ e (by simpa using hb)) w.2 fp.2.1 fp.2.2.2.1 fp.2.2.2.2.1
    (fun p hp => fp.2.2.2.2.2 p (List.mem_append_left _ (by simpa using hp)))
  have key : ∀ h1, HandSPX.HeldZ B X.stack a (Zc cls d) X.env.locals h1 → s'.heap.UpToSlots h1 → CompFails (model X.prog X.w) X.A X.xe ce (.ref a) { s' with heap := h1 } := by
    intro h1 hh up1
    have hn1 : h1.Ns C m := hC1.upToSlots up1
    refine ⟨m, hcl ▸ hn1, fun h2 m2 hn2 sb => ?_⟩
    rw [hcl] at hn2 sb
    obtain ⟨k1, k2, k3, oe, vs, T, oT, ts, he, hz, hd, hv, hnT, hTe, hT, hdT, h3⟩ := hh
    obtain ⟨oC, es, ep, hoC, hdC, _⟩ := hn1
    have naC : a ≠ C := fun q => by
      rw [q, hoC] at he
      cases he
      rw [hdC] at hd
      cases hd
    have nTC : T ≠ C := fun q => by
      rw [q, hoC] at hT
      cases hT
      rw [hdC] at hdT
      cases hdT
    have hk : ∀ b o, b ≠ C → h1.get? b = some o → h2.get? b = some o := fun b o hb e => (sb.2 b hb).trans e
    have nB : ∀ b, B.get? b = none → (PySem.W.hideAll B [C]).get? b = none := fun b e => by
      cases q : (PySem.W.hideAll B [C]).get? b with
      | none => rfl
      | some o =>
        have z := PySem.W.of_hideAll [C] q
        rw [e] at z
        cases z
    have nC : ∀ {b o}, (PySem.W.hideAll B [C]).get? b = some o → b ≠ C ∧ B.get? b = some o := fun {b o} e => by
      refine ⟨fun q => ?_, PySem.W.of_hideAll [C] e⟩
      rw [q, PySem.W.hideAll_none [C] (by simp)] at e
      cases e
    have f2 : h2.FunFrames (PySem.W.hideAll B [C]) X.stack := frames_sub nB (frames_but hk nst k3)
    have b2 : (PySem.W.hideAll B [C]).StaysIn h2 := fun b o e => hk b o (nC e).1 (k1 b o (nC e).2)
    have he2 := hk _ _ naC he
    unfold PySem.passOn
    refine wpAny_bind (wpAny_field he2 hd hv ?_)
    rw [if_neg (show ¬ ((Value.ref T == Value.none) = true) from by simp)]
    rw [hce, hf]
    refine wpAny_bind (HandSPX.setFlight_onZ (s := { s' with heap := h2 }) (L := X.env.locals) ⟨b2, nB _ k2, f2, oe, vs, T, oT, ts, he2, hz, hd, hv, nB _ hnT, hTe, hk _ _ nTC hT, hdT, h3⟩ fun h4 hh4 up4 => ?_)
    refine wpAny_throw (tk _ _ ⟨a, PySem.W.hideAll B [C], { s2 with heap := PySem.W.hideAll s2.heap [C] }, [], σ2, H2, cls, d, rfl, I4, fun b o e hb => ?_, fun b o e hnf => ?_, .inr (.inr hh4), na, os, ag, hW _ _ _ _ w.1⟩)
    · have e' : (PySem.W.hideAll s2.heap [C]).get? b = some o := e
      have hbC : b ≠ C := fun q => by
        rw [q, PySem.W.hideAll_none [C] (by simp)] at e'
        cases e'
      exact PySem.W.hideAll_get [C] (nb b o (PySem.W.of_hideAll [C] e') hb) (by simpa using hbC)
    · have e' : (PySem.W.hideAll s2.heap [C]).get? b = some o := e
      have hbC : b ≠ C := fun q => by
        rw [q, PySem.W.hideAll_none [C] (by simp)] at e'
        cases e'
      obtain ⟨s1, e1⟩ := up b o (PySem.W.of_hideAll [C] e') hnf
      obtain ⟨s2, e2⟩ := up1 b _ e1 hnf
      obtain ⟨s3, e3⟩ := up4 b _ (hk b _ hbC e2) hnf
      exact ⟨s3, e3⟩
  have hfr : X.A.frames = some (X.env :: X.outer) := by rw [I2.ok.frames, hs]
  show wpAny _ _ (noteFrame (.ref a) ce) _ _ s'
  rw [noteFrame_env _ hce]
  rw [hs] at sky key
  rcases sky with ⟨hB, hn, hl, oe, vs, he, hz, hd, h1⟩ | fl | hh
  · exact HandSPX.look_newZ Zc.steady hfr hl hf he hB hn hd h1 hz key
  · exact HandSPX.looks_onZ Zc.steady hfr hf fl key
  · exact HandSPX.againZ hf hh.2.2.2 (key _ hh (Heap.UpToSlots.refl _))
/-- what the callees of the block's element may let out is taken by the wish xe -/
def Lets (B : Cx) (E : XK) : Prop := ∀ (pins : List (Addr × Obj)) (σ : L2.St) (H : Hp) (s : Shared) (e : Value) (s' : Shared), Inv B pins σ H s → CX B.prog B.w B.stack H s E e s' → B.xe e s'
theorem pe_lcX {elt tg iter : Expr} {ifs : List Expr} {scope : Scope} {own : List (Str × Nat)} {pos : Pos} {wi : TI} {g : TG} {tt : TT} {te : TE} (tk : Takes X W) (hW : ∀ cls d σ H, E cls d H → W cls d σ H) (hst : X.stack = X.env :: X.outer) (hf : X.env.frame = some X.env.locals)
    (hc : X.calm = true) (hN : X.N.Nodup) (hi : PI X tg iter wi) (ok : BlkOk X.N X.env.scope scope own)
    (hg : ∀ (s : Shared) (H : Hp) (C : Addr) (cl : List (Str × Addr)) (fp : List Addr), PG (X.blk s H scope (compEnvC scope cl C X.env) fp) tg g) (ht : ∀ (s : Shared) (H : Hp) (C : Addr) (cl : List (Str × Addr)) (fp : List Addr), PTs (X.blk s H scope (compEnvC scope cl C X.env) fp) ifs tt)
    (he : ∀ (s : Shared) (H : Hp) (C : Addr) (cl : List (Str × Addr)) (fp : List Addr) (xe : Value → Shared → Prop), Lets ((X.blk s H scope (compEnvC scope cl C X.env) fp).wish xe) E → PE ((X.blk s H scope (compEnvC scope cl C X.env) fp).wish xe) elt te) (hs : ∀ x, foldedSetIterable iter X.env x = pure x := by intro _; rfl) :
    PE X (.ListComp elt [⟨tg, iter, ifs, 0⟩] scope pos) (tLc wi g tt te (own.map (·.2))) := by
  refine ⟨fun pins s σ H Q I h => ?_⟩
  rw [eval_ListComp]
  have hfree : ∀ y ∈ scope.names, y.2 = .free → ∃ c, X.env.cells.lookup y.1 = some c := fun y hy e => (ok.free y hy e).elim (fun k => I.ok.has _ (.inl k)) fun k => I.ok.has _ (.inr k)
  refine comprehension_at (use := none) rfl hs (closure_ok hfree) ok.kind (fun y hy e => by rw [ok.uniq y hy, e]) (thn (hi.run pins s σ H _ I h) fun xv s1 hx => thn hx fun itv s2 h2 => ?_)
  obtain ⟨it, fp, tn, J, H2, rfl, I2, T, st2, f2, q⟩ := h2
  refine wpAny_newObj_type (newEnv_comp ?_) (by show 0 ≤ sizeLine; decide)
  have hDn : H2 s2.heap.objs.size = none := I2.hok.fresh (Nat.le_refl _)
  obtain ⟨V, ⟨m0, w0⟩, tr⟩ := q _ hDn
  generalize hD : s2.heap.objs.size = D at hDn w0 tr ⊢
  generalize hs3 : ({ s2 with heap := s2.heap.push { cls := .type "list", data := .seq ([] : List Value).toArray } } : Shared) = s3
  have h3 : s3.heap = s2.heap.push { cls := .type "list", data := .seq ([] : List Value).toArray } := by rw [← hs3]
  have I3 : Inv X pins σ (upd H2 D (.lst [])) s3 := by
    rw [← hs3]
    exact I2.laid (t' := s2.toks) (fun b o e => Heap.get?_push_of_some _ e) (Nat.le_of_eq hD) ⟨Nat.zero_le _, [], 0, .nil, by rw [← hD]; exact Heap.get?_push_size _ rfl⟩
  have f3 : ∀ b ∈ fp, FpOk X pins (upd H2 D (.lst [])) b ∧ b < s3.heap.objs.size := fun b hb => by
    obtain ⟨o, e, _⟩ := T.obj _ _ st2 b hb
    have hlt : b < s2.heap.objs.size := Heap.lt_size e
    refine ⟨⟨?_, (f2 b hb).2⟩, ?_⟩
    · rw [upd_ne (show b ≠ D from hD ▸ Nat.ne_of_lt hlt)]
      exact (f2 b hb).1
    · rw [h3, Heap.size_push]
      exact Nat.lt_succ_of_lt hlt
  have I4 := block_start I3 ok hN f3
  have pg := hg s3 (upd H2 D (.lst [])) s3.heap.objs.size (cellsFrom (s3.heap.objs.size + 1) scope.names (cloFrom X.env.cells scope.names [])) fp
  have pt := ht s3 (upd H2 D (.lst [])) s3.heap.objs.size (cellsFrom (s3.heap.objs.size + 1) scope.names (cloFrom X.env.cells scope.names [])) fp
  have pe := he s3 (upd H2 D (.lst [])) s3.heap.objs.size (cellsFrom (s3.heap.objs.size + 1) scope.names (cloFrom X.env.cells scope.names [])) fp
  show codeAny _ _ (.compStart (.ListComp elt [⟨tg, iter, ifs, 0⟩] scope pos) 0 (.ref it) (.ref D) (compEnvC scope (cellsFrom (s3.heap.objs.size + 1) scope.names (cloFrom X.env.cells scope.names [])) s3.heap.objs.size X.env)) (compEnds (model X.prog X.w) X.A X.xe none _ (.ref D) (compEnvC scope (cellsFrom (s3.heap.objs.size + 1) scope.names (cloFrom X.env.cells scope.names [])) s3.heap.objs.size X.env)) { s3 with heap := pushCells (s3.heap.push { cls := .type "dict", data := .dict #[] }) scope.names }
  have nfp : ∀ b ∈ fp, (upd H2 D (.lst [])) b = none := fun b hb => (f3 b hb).1.1
  generalize hce : compEnvC scope (cellsFrom (s3.heap.objs.size + 1) scope.names (cloFrom X.env.cells scope.names [])) s3.heap.objs.size X.env = ce at I4 pg pt pe ⊢
  have cL : ce.locals = s3.heap.objs.size := by rw [← hce]; rfl
  have cF : ce.frame = X.env.frame := by rw [← hce]; rfl
  generalize hH3 : upd H2 D (.lst []) = H3 at I3 I4 pg pt pe w0 nfp f3
  generalize hs4 : ({ s3 with heap := pushCells (s3.heap.push { cls := .type "dict", data := .dict #[] }) scope.names } : Shared) = s4 at I4 ⊢
  have st3 : tn 0 s3.heap := T.keep _ _ _ st2 fun b _ o e => by rw [h3]; exact Heap.get?_push_of_some _ e
  have st4 : tn 0 s4.heap := T.keep _ _ _ st3 fun b _ o e => by rw [← hs4]; exact pushCells_keeps _ _ _ _ (Heap.get?_push_of_some _ e)
  -- from the block's context back to the def's
  have back : ∀ {p : List (Addr × Obj)} {σ' : L2.St} {H' : Hp} {s' : Shared}, Inv (X.blk s3 H3 scope ce fp) p σ' H' s' → Inv X pins σ H' s' ∧ FpOk X pins H' s3.heap.objs.size ∧ ∃ m, s'.heap.Ns s3.heap.objs.size m := fun {p σ' H' s'} I' => by
    have nC : H' ce.locals = none := I'.free
    obtain ⟨m, hn, _⟩ := I'.loc
    have hn : s'.heap.Ns ce.locals m := hn
    rw [cL] at hn nC
    exact ⟨I3.call' (ch := fp) I'.os I'.base I'.hok I'.bare fun b hb => ⟨(f3 b hb).1.2.2.2.1, (f3 b hb).1.2.1, (f3 b hb).1.2.2.2.2.1, (f3 b hb).1.2.2.2.2.2⟩, I3.fpOk (Nat.le_refl _) nC, m, hn⟩
  have stat : ∀ {σ' : L2.St} {H' : Hp} {s' : Shared}, Inv (X.blk s3 H3 scope ce fp) [] σ' H' s' → (∀ b ∈ fp, H' b = none) → ∀ b ∈ fp, FpOk (X.blk s3 H3 scope ce fp) [] H' b := fun {σ' H' s'} I' hn b hb =>
    ⟨hn b hb, (I'.ok.exf b hb).1, I'.ok.exfs b hb, .inl hb, fun x c e => (I'.ok.exf b hb).2 x c e, fun p hp => absurd (show p ∈ ([] : List (Addr × Obj)) ++ [] from hp) (by simp)⟩
  have lp : codeAny (model X.prog X.w) X.A (.compLoop (.ListComp elt [⟨tg, iter, ifs, 0⟩] scope pos) 0 (.ref it) (.ref D) ce) (compEnds (model X.prog X.w) X.A X.xe none (EP X pins σ Q) (.ref D) ce) s4 := by
    refine compLoop_any (fun n s' => ∃ i H', Inv (X.blk s3 H3 scope ce fp) [] (wipe σ (own.map (·.2))) H' s' ∧ tn i s'.heap ∧ (∀ b ∈ fp, H' b = none) ∧ V i n H') ?_ m0 ⟨0, H3, I4, st4, nfp, w0⟩
    rintro n s5 ⟨i, H5, I5, st5, n5, w5⟩
    rcases tr i n H5 w5 with ⟨stop, qq⟩ | ⟨go, Nx, hNx, step⟩
    · refine thnF (T.done (X.blk s3 H3 scope ce fp) rfl rfl rfl hc i [] s5 _ H5 (fun _ _ => False) I5 (stat I5 n5) st5 stop) fun r s6 ⟨hr, I6⟩ => ?_
      subst hr
      obtain ⟨I7, ⟨f0, f1, f2', f5, f6, f7⟩, m, hn⟩ := back I6
      refine ⟨m, cL ▸ hn, fun h'' sb => ?_⟩
      rw [cL] at sb
      exact ⟨.ref D, H5, I7.turned (t' := s6.toks) (fun b o hb e => (sb.2 b hb).trans e) f0 f1 f5 f6 f7, rfl, qq⟩
    · refine thnF (T.item (X.blk s3 H3 scope ce fp) rfl rfl rfl hc i [] s5 _ H5 (fun _ _ => False) I5 (stat I5 n5) st5 go) fun r s6 ⟨y, hr, h6⟩ => ?_
      subst hr
      refine thnF h6 fun _ s7 ⟨x, H7, I7, r7, y7, st7, n7⟩ => ?_
      refine thnF (pg.run _ s7 _ H7 x y _ (I7.pinned (stat I7 n7) (T.obj _ _ st7)) r7 (step x H7 y7)) fun _ s8 ⟨σ8, H8, I8, hw8, q8⟩ => ?_
      refine thnF (pt.run _ s8 σ8 H8 _ I8 q8) fun b s9 ⟨H9, I9, q9⟩ => ?_
      have fin : ∀ {s' : Shared} {H' : Hp}, Inv (X.blk s3 H3 scope ce fp) ([] ++ pinsAt fp s7.heap) σ8 H' s' → Nx H' → ∃ m, m < n ∧ ∃ i H', Inv (X.blk s3 H3 scope ce fp) [] (wipe σ (own.map (·.2))) H' s' ∧ tn i s'.heap ∧ (∀ b ∈ fp, H' b = none) ∧ V i m H' := fun {s' H'} I' nx => by
        obtain ⟨m', hm, w'⟩ := hNx H' nx
        have kept : ∀ b ∈ fp, ∀ o, s7.heap.get? b = some o → s'.heap.get? b = some o ∧ H' b = none := fun b hb o eo =>
          have z := I'.pin (b, o) (List.mem_append_right _ (List.mem_append_right _ (mem_pinsAt hb eo)))
          ⟨z.1, z.2.1⟩
        refine ⟨m', hm, i + 1, H', (I'.unpinned (pins := [])).weak (by rw [← hw8, wipe_length]) (fun j v ev => ?_), T.keep _ _ _ st7 fun b hb o eo => (kept b hb o eo).1, fun b hb => ?_, w'⟩
        · rw [← hw8] at ev
          exact (wipe_some ev).1
        · obtain ⟨o, eo, _⟩ := T.obj _ _ st7 b hb
          exact (kept b hb o eo).2
      cases b with
      | false =>
        rw [if_neg (by decide)] at q9 ⊢
        exact fin I9 q9
      | true =>
        rw [if_pos rfl] at q9 ⊢
        let xe : Value → Shared → Prop := fun e s' => ∃ (p : List (Addr × Obj)) (σ' : L2.St) (H' : Hp) (sI : Shared), Inv (X.blk s3 H3 scope ce fp) p σ' H' sI ∧ CX X.prog X.w X.stack H' sI E e s'
        have pe' := (pe xe fun p σ' H' s' e s'' I' c => ⟨p, σ', H', s', Inv.unwish I', c⟩).run _ s9 σ8 H9 _ (I9.wish xe) q9
        refine wpAny_mono pe' (fun z s10 h10 => ?_) fun e s10 h10 => ?_
        · obtain ⟨yv, H10, I10, r10, acc, hD10, hz10, nx⟩ := h10
          exact wpAny_mono (app_ok (X := X.blk s3 H3 scope ce fp) (E := fun _ _ => False) (Inv.unwish I10) hD10 hz10 r10 fun s11 I11 => fin I11 nx) (fun _ _ q => q) fun _ _ q => q.elim
        · obtain ⟨p, σ', H', sI, I', c⟩ := h10
          obtain ⟨J7, fc, m, hn⟩ := back I'
          exact noted_call tk hW hst hf J7 fc hn cF cL c
  exact codeAny_compStart_list lp (T.self X.A 0 _ _ _ st4 lp)
end
end CQ

set_option Elab.async false
set_option maxRecDepth 100000
set_option maxHeartbeats 4000000
set_option linter.all false
/-! a lambda of a frame whose slots are frozen first -/
namespace Da
open PySem PySem.Spec PyProof.Rows L2
def dFz : List Nat → List En → (List En → Prop) → Prop
  | [], Γ, φ => φ Γ
  | i :: r, Γ, φ => ∃ e x, Γ[i]? = some e ∧ e.frz = some x ∧ dFz r (Γ.set i (.d x)) φ
theorem fz_is {K : PySem.W.Frag} [HasT K] {c : Ct K} {H : Hp} {σ : L2.St} : ∀ {fs : List Nat} {F : Hp} {Γ : List En} {φ : List En → Prop}, Is c F H σ Γ → dFz fs Γ φ → ∃ F1 Γ0, Is c F1 H σ Γ0 ∧ Same F F1 ∧ φ Γ0
  | [], F, Γ, _, I, h => ⟨F, Γ, I, Same.refl F, h⟩
  | i :: r, F, Γ, _, I, ⟨e, x, g, z, h⟩ => by
    obtain ⟨F1, v, hv, I1, s1, rp⟩ := I.frzSlot g z
    obtain ⟨F2, Γ0, I2, s2, h2⟩ := fz_is I1 h
    exact ⟨F2, Γ0, I2, s1.trans s2, h2⟩
def dWhyF (wo : Value → Str → Prop) (okw : Str) (den : (Value → Prop) → DT) : DT := fun Γ φ => ∃ fs : List Nat, dFz fs Γ fun Γ0 => dWhy wo okw den Γ0 φ
instance (priority := high) snd_lamF {K : PySem.W.Frag} [HasT K] {E : XK} {ψ : Value → Prop} {wo : Value → Str → Prop} {okw : Str} {t : XK → TE} {den : (Value → Prop) → DT} [s : ∀ E' ψ', Snd K E' ψ' (t E') (den ψ')] : Snd K E ψ (LamX.tLam (HasT.T K) (TTwhy wo okw) t) (dWhyF wo okw den) := ⟨fun {c F H σ Γ φ Q} I eo h q => by
  obtain ⟨fs, h⟩ := h
  obtain ⟨F1, Γ0, I1, s1, h1⟩ := fz_is I h
  exact (snd_lam (E := E) (ψ := ψ)).run I1 eo h1 fun F2 H2 v e Γ2 I2 s2 r2 z => q F2 H2 v e Γ2 I2 (s1.trans s2) r2 z⟩
end Da

set_option Elab.async false
set_option maxRecDepth 100000
set_option maxHeartbeats 4000000
set_option linter.all false
/-! a constructor, a method of an owned instance, that may raise -/
namespace Da
open PySem PySem.Spec PyProof.Rows L2 RZ HmS
section
variable {K : PySem.W.Frag} [HasT K]
abbrev DSOX := List Str → List O → List D → (List Str → List O → Prop) → (Value → Prop) → Prop
def spOX (K : PySem.W.Frag) [HasT K] (C : Addr) (den : DSOX) : Sp := fun vs H Q E => ∃ (p : Addr) (us : List V) (F : Hp) (T : List Addr) (ns : List Str) (os : List O) (ds : List D) (φ : List Str → List O → Prop) (ψ : Value → Prop),
  vs = .ref p :: us ∧ Ow F H (p :: T) (.ref p) (.ins C ns os) ∧ (p :: T).Nodup ∧ Same F H ∧ FN F ∧ TbOk K H ∧ Reps F us ds ∧ den ns os ds φ ψ ∧
  (∀ F' H' ns' os' T', Same F F' → (∀ a u, a ∉ (p :: T) → NT u → H a = some u → H' a = some u) → TbOk K H' → Same F' H' → FN F' → (∀ a u, F' a = some u → F a = some u ∨ Soft (cO K F H (p :: T)).H0 a) → Held (cO K F H (p :: T)) F' H' (.ow (.ins C ns' os') (p :: T')) (.ref p) → φ ns' os' → Q .non H') ∧
  ∀ C' H', (∀ a u, a ∉ (p :: T) → NT u → H a = some u → H' a = some u) → TbOk K H' → ψ C' → E C' none H'
variable {E : XK} {ψ : Value → Prop} {al : TA} {dal : DA}
/-- C(..), which may raise -/
def dMakeX (C : Addr) (den : DSOX) (dvs : List V) (ψ : Value → Prop) (dal : DA) : DT := fun Γ φ => dal Γ fun xs Γ1 => (dvs.all isSc) = true ∧ den [] [] (xs ++ dvs.map vD) (fun ns2 os2 => ∀ p T2, φ (.ow (.ins C ns2 os2) (p :: T2)) Γ1) ψ
instance snd_makeX {C : Addr} {den : DSOX} {dvs : List V} [sl : SndA K E ψ al dal] : Snd K E ψ (tMake C (spOX K C den) dvs E al) (dMakeX C den dvs ψ dal) := ⟨fun {c F H σ Γ φ Q} I eo h q => by
  refine sl.run I eo h fun F1 H1 vs xs Γ1 I1 s1 r1 h1 => ?_
  obtain ⟨hsc, h1⟩ := h1
  intro x dx hx hdx nx
  have I2 : Is c F1 (upd H1 dx (.own x)) σ Γ1 := I1.newH hdx
  have hx2 : (upd H1 dx (.own x)) x = none := by rw [upd_ne nx.symm]; exact hx
  have I3 : Is c F1 (upd (upd H1 dx (.own x)) x (.ins C dx [])) σ Γ1 := I2.newH hx2
  have hat : (upd (upd H1 dx (.own x)) x (.ins C dx [])) x = some (.ins C dx []) := upd_same
  have old : ∀ {a : Addr} {u : HO}, H1 a = some u → a ∉ [x] ∧ (upd (upd H1 dx (.own x)) x (.ins C dx [])) a = some u := fun {a u} e => by
    have n1 : a ≠ x := fun z => by rw [z, hx] at e; cases e
    have n2 : a ≠ dx := fun z => by rw [z, hdx] at e; cases e
    exact ⟨by simpa using n1, by rw [upd_ne n1, upd_ne n2]; exact e⟩
  refine ⟨x, vs ++ dvs, F1, [], [], [], xs ++ dvs.map vD, _, ψ, rfl, .ins (I1.unF hx) hat rfl .nil, (by simp), I3.fh, I3.fn, I3.tb, r1.app (Reps.scs hsc), h1, fun F' H' ns' os' T' sf k tb fh fn nw h2 hφ => ⟨rfl, ?_⟩, fun C' H' k t2 z => eo C' H' (fun a u np e => ?_) (fun p e => ?_) t2 z⟩
  rotate_left
  · exact k a u (old (I1.h0 a u np e)).1 (I1.hn a u e) (old (I1.h0 a u np e)).2
  · obtain ⟨_, ⟨i1, i2, i3, i4, hp, b⟩, _⟩ := I1.pp p e
    exact ⟨i1, i2, i3, i4, k p _ (old hp).1 (fun _ z => nomatch z) (old hp).2, b⟩
  have free : ∀ a ∈ [x], c.H0 a = none ∧ Not σ Γ1 a := fun a m => by
    cases List.mem_singleton.mp m
    exact ⟨I1.un hx, I1.fresh hx⟩
  have I4 : Is c F' H' σ Γ1 := I3.growX (S := [x]) (fun a m => ⟨(free a m).1, (free a m).2, fun vs e => by
    cases List.mem_singleton.mp m
    rw [hat] at e
    cases e⟩) sf k tb fh fn (fun a u e => (nw a u e).imp id fun z => by
      by_cases m : a ∈ [x]
      · exact .inl m
      · refine .inr ?_
        rcases z with z | ⟨vs, z⟩
        · have z : (if a ∈ [x] then none else ntH _ a) = none := z
          rw [if_neg m] at z
          exact .inl z
        · have z : (if a ∈ [x] then none else ntH _ a) = some (.tup vs) := z
          rw [if_neg m] at z
          exact .inr ⟨vs, z⟩)
  exact q F' H' (.ref x) (.ow (.ins C ns' os') (x :: T')) Γ1 I4 (s1.trans sf) ⟨⟨h2.1, h2.2.1, fun a m => (I3.unNt free (h2.2.2 a m)).1⟩, (fun z => nomatch z), fun a m => (I3.unNt free (h2.2.2 a m)).2⟩ (hφ x T')⟩
variable {t : TS} {dts : (Value → Prop) → DSt} {N : List Str} {vs : List V} {H : Hp} {Q : VK} {E' : XK} {C : Addr}
end
end Da

set_option Elab.async false
set_option maxRecDepth 100000
set_option maxHeartbeats 4000000
set_option linter.all false
/-! a def that gives back what the lambda gives, or a word where one exception comes -/
namespace Da
open PySem PySem.Spec PyProof.Rows L2
section
variable {K : PySem.W.Frag} [HasT K]
def dTold (K : PySem.W.Frag) (CS : Addr) (ret : Str) (den : (Value → Prop) → DT) : DT := fun Γ φ => PySem.W.exmOne K (.ref CS) (.ref CS) = some true ∧ ∃ fs : List Nat, dFz fs Γ fun Γ0 =>
  ∃ ψ : Value → Prop, (∀ C, ψ C → C = .ref CS ∧ φ (.d (.str ret)) Γ0) ∧ den ψ (Γ0.map onlyE) fun e _ => ∃ x, e = .d x ∧ φ (.d x) Γ0
instance snd_told {E : XK} {ψ : Value → Prop} {CS : Addr} {ret : Str} {t : XK → TE} {den : (Value → Prop) → DT} [s : ∀ E' ψ', Snd K E' ψ' (t E') (den ψ')] : Snd K E ψ (LamX.tLam (HasT.T K) (LamX.TTold K CS ret) t) (dTold K CS ret den) := ⟨fun {c F H σ Γ φ Q} I eo h q => by
  obtain ⟨ex1, fs, h⟩ := h
  obtain ⟨F1, Γ0, I1, s1, ψ', h1, h2⟩ := fz_is I h
  refine ⟨I1.tb, fun H1 ex tb1 => ?_⟩
  have sh : NS H H1 := fun b o n e => ex b o e n
  have bk : ∀ {H2 : Hp}, NS H1 H2 → TbOk K H2 → Is c F1 H2 σ Γ0 := fun {H2} s2 t2 => I1.growN (Same.refl F1) (sh.trans s2) t2 (fun a o e => s2 a o (I1.fn a o e) (sh a o (I1.fn a o e) (I1.fh a o e))) I1.fn fun a o e => .inl e
  refine (s _ ψ').run (I1.only sh tb1) (fun C H' k _ t2 z => ?_) h2 fun F2 H2 v e Γ2 I2 s2 r2 z => ?_
  · obtain ⟨rfl, hφ⟩ := h1 C z
    exact ⟨true, ex1, fun _ => q F1 H' _ _ Γ0 (bk (fun b o n e => k b o (fun z => nomatch z) (ntH_of e n)) t2) s1 (Res.d (.str ret)) hφ, fun z => by cases z⟩
  · obtain ⟨x, rfl, hφ⟩ := z
    have sh2 : NS H1 H2 := fun b o n e => I2.h0 b o (fun z => nomatch z) (ntH_of e n)
    have soft : ∀ {a : Addr}, Soft (ntH H1) a → Soft (ntH H) a := fun {a} w => by
      cases e : ntH H a with
      | none => exact .inl e
      | some o =>
        obtain ⟨e1, n1⟩ := ntH_some e
        have e2 := ntH_of (sh a o n1 e1) n1
        rcases w with w | ⟨vs, w⟩
        · rw [e2] at w; cases w
        · rw [e2] at w
          cases w
          exact .inr ⟨vs, e⟩
    have I3 : Is c F2 H2 σ Γ0 := I1.growN s2 (sh.trans sh2) I2.tb I2.fh I2.fn fun a o e => (I2.nw a o e).imp id soft
    exact q F2 H2 v (.d x) Γ0 I3 (s1.trans s2) (Res.d r2.1) hφ⟩
end
end Da

set_option Elab.async false
set_option maxRecDepth 100000
set_option maxHeartbeats 4000000
set_option linter.all false
/-! the end of a law with lambdas where something is shown -/
namespace Da
open PySem PySem.Spec PyProof.Rows L2
end Da

set_option Elab.async false
set_option maxRecDepth 100000
set_option maxHeartbeats 4000000
set_option linter.all false
/-! a law with lambdas that shows something; repr of whatever data -/
namespace Da
open PySem PySem.Spec PyProof.Rows L2 RZ HmS
section
variable {P : Program} {w : World} {K : PySem.W.Frag} {mg : Str → Option Value} {base : Heap}
end
section
variable {X : Cx} {K : PySem.W.Frag} [HasT K]
def rReprV (K : PySem.W.Frag) : List V → Hp → VK → Prop := fun xs H Q => rRepr K xs H Q ∨ ∃ z : Str, xs = [.str z] ∧ (reprText z).length ≤ sizeLine ∧ Q (.str (reprText z)) H
def dReprV (xs : List D) (φ : En → Prop) : Prop := match xs with
  | [.str z] => (reprText z).length ≤ sizeLine ∧ φ (.d (.str (reprText z)))
  | xs => dReprR xs φ
instance snd_reprV : SndC K (rReprV K) dReprV := ⟨fun {c F H σ Γ xs ds φ Q} I r h q => by
  have gen : dReprR ds φ → rReprV K xs H Q := fun h => .inl ((snd_repr (K := K)).run I r h q)
  match ds, r, h with
  | [.str z], r, ⟨h1, h2⟩ =>
    obtain ⟨v, rfl, rp⟩ := one_of r
    cases rp
    exact .inr ⟨z, rfl, h1, q F H _ _ I (Same.refl F) (Res.d (.str _)) h2⟩
  | [], r, h => exact gen h
  | [.tup _], r, h => exact gen h
  | [.lst _], r, h => exact gen h
  | [.int _], r, h => exact gen h
  | [.bl _], r, h => exact gen h
  | [.non], r, h => exact gen h
  | [.dK _ _], r, h => exact gen h
  | [.dT _ _], r, h => exact gen h
  | [.ins _ _ _], r, h => exact gen h
  | a :: b :: l, r, h =>
    have h : dReprR (a :: b :: l) φ := by cases a <;> exact h
    exact gen h⟩
end
end Da

set_option Elab.async false
set_option maxRecDepth 100000
set_option maxHeartbeats 4000000
set_option linter.all false
/-! calls by names -/
namespace Da
open PySem PySem.Spec PyProof.Rows L2
section
variable {K : PySem.W.Frag} [HasT K] {E : XK} {ψ : Value → Prop} {al tk : TA} {dal dkw : DA}
/-- what puts arguments in order does so with data as with values -/
class Puts (gV : List V → List V → List V) (gD : outParam (List D → List D → List D)) : Prop where
  rep : ∀ {F : Hp} {vs zs : List V} {xs ys : List D}, Reps F vs xs → Reps F zs ys → Reps F (gV vs zs) (gD xs ys)
def dCallK (den : List D → (En → Prop) → (Value → Prop) → Prop) (gD : List D → List D → List D) (ψ : Value → Prop) (dal dkw : DA) : DT := fun Γ φ => dal Γ fun xs Γ1 => dkw Γ1 fun ys Γ2 => den (gD xs ys) (fun e => φ e Γ2) ψ
instance snd_callK {den : List D → (En → Prop) → (Value → Prop) → Prop} {gV : List V → List V → List V} {gD : List D → List D → List D} [p : Puts gV gD] [sl : SndA K E ψ al dal] [sk : SndA K E ψ tk dkw] : Snd K E ψ (tCallK (spX K den) gV E al tk) (dCallK den gD ψ dal dkw) := ⟨fun {c F H σ Γ φ Q} I eo h q => by
  refine sl.run I eo h fun F1 H1 vs xs Γ1 I1 s1 r1 h1 => ?_
  refine sk.run I1 eo h1 fun F2 H2 zs ys Γ2 I2 s2 r2 h2 => ?_
  exact call_run I2 eo (p.rep (Reps.mono s2 r1) r2) h2 fun F3 H3 v e I3 s3 r3 z => q F3 H3 v e Γ2 I3 (s1.trans (s2.trans s3)) r3 z⟩
end
section
variable {X : Cx} {CX : CXT} {k : Nat} {f : Addr} {fd : FuncData} {ps ks : List Str} {sp : Sp} {E : XK} {x : Str} {p pos : Pos} {kws : List Keyword} {tk : TA} {g : List Value → List Value → List Value} {gV : List V → List V → List V}
end
end Da

set_option Elab.async false
set_option maxRecDepth 100000
set_option maxHeartbeats 4000000
set_option linter.all false
/-! == and != of instances by an own __eq__, isinstance of an own class -/
namespace Da
open PySem PySem.Spec PyProof.Rows L2 RZ HmS
section
variable {K : PySem.W.Frag} [HasT K] {E : XK} {ψ : Value → Prop} {ta : TE} {da : DT}
def D.isIns (C : Addr) (x : D) : Prop := ∃ ns xs, x = .ins C ns xs
def dOwnEq (C : Addr) (k : D → D → (En → Prop) → Prop) (x y : D) (φ : En → Prop) : Prop := x.isIns C ∧ y.isIns C ∧ k x y φ
def dOwnNe (C : Addr) (k : D → D → (En → Prop) → Prop) (x y : D) (φ : En → Prop) : Prop := x.isIns C ∧ y.isIns C ∧ k x y fun e => ∃ b, e = .d (.bl b) ∧ φ (.d (.bl (!b)))
theorem rep_ins {F H : Hp} {v : V} {x : D} {C : Addr} (fh : Same F H) (r : Rep F v x) (h : x.isIns C) : ∃ a dx fs, v = .ref a ∧ H a = some (.ins C dx fs) := by
  obtain ⟨ns, xs, rfl⟩ := h
  cases r with
  | ins e _ _ => exact ⟨_, _, _, rfl, fh _ _ e⟩
instance snd_ownEq {C : Addr} {k : D → D → (En → Prop) → Prop} : SndR K (HmQ.rOwnEq C (spX K (sp2 k)) E0) (dOwnEq C k) := ⟨fun {c F H σ Γ x y d e φ Q} I rx ry h q => by
  obtain ⟨h1, h2, h3⟩ := h
  obtain ⟨a, dx, fs, rfl, ha⟩ := rep_ins I.fh rx h1
  obtain ⟨b, dy, gs, rfl, hb⟩ := rep_ins I.fh ry h2
  refine ⟨a, b, dx, dy, fs, gs, rfl, rfl, ha, hb, ?_⟩
  exact call_run (ψ' := fun _ => False) (φ := φ) I (fun _ _ _ _ _ z => z) (.cons rx (.cons ry .nil)) h3 fun F2 H2 v e I2 s2 r2 p => q F2 H2 v e I2 s2 r2 p⟩
instance snd_ownNe {C : Addr} {k : D → D → (En → Prop) → Prop} : SndR K (HmQ.rOwnNe C (spX K (sp2 k)) E0) (dOwnNe C k) := ⟨fun {c F H σ Γ x y d e φ Q} I rx ry h q => by
  obtain ⟨h1, h2, h3⟩ := h
  obtain ⟨a, dx, fs, rfl, ha⟩ := rep_ins I.fh rx h1
  obtain ⟨b, dy, gs, rfl, hb⟩ := rep_ins I.fh ry h2
  refine ⟨a, b, dx, dy, fs, gs, rfl, rfl, ha, hb, ?_⟩
  refine call_run (ψ' := fun _ => False) (φ := fun e => ∃ b, e = .d (.bl b) ∧ φ (.d (.bl (!b)))) I (fun _ _ _ _ _ z => z) (.cons rx (.cons ry .nil)) h3 fun F2 H2 v e I2 s2 r2 p => ?_
  obtain ⟨r, rfl, p⟩ := p
  cases (show Rep F2 v (.bl r) from r2.1)
  exact ⟨r, rfl, q F2 H2 _ _ I2 s2 (Res.d (.bl (!r))) p⟩⟩
/-- == of dicts of whole numbers by tuples -/
def dEqDi (x y : D) (φ : En → Prop) : Prop := ∃ ka kb : List (List Key × Int), x = .dT (ka.map Prod.fst) (ka.map fun c => .int c.2) ∧ y = .dT (kb.map Prod.fst) (kb.map fun c => .int c.2) ∧ φ (.d (.bl (HmQ.sameD ka kb)))
instance snd_eqDi : SndR K HmQ.rEqD dEqDi := ⟨fun {c F H σ Γ x y d e φ Q} I rx ry h q => by
  obtain ⟨ka, kb, rfl, rfl, h⟩ := h
  cases rx with
  | @dT a kvs _ _ e1 k1 r1 =>
    cases ry with
    | @dT b kws _ _ e2 k2 r2 =>
      have z1 := kvs_of k1 r1
      have z2 := kvs_of k2 r2
      subst z1 z2
      exact ⟨a, b, ka, kb, rfl, rfl, I.fh _ _ e1, I.fh _ _ e2, q F H _ _ I (Same.refl F) (Res.d (.bl _)) h⟩⟩
/-- what isinstance asks of the class -/
structure OwnIsi (K : PySem.W.Frag) (C : Addr) : Prop where
  cl : Cls K C
  ca : PySem.W.findIn K (.ref C) "__class__" = some (some (.builtin "object.__class__"))
  cn : PySem.W.specialIn K (.builtin "object.__class__") "__get__" = some (some (.builtin "getset_descriptor.__get__"))
  ct : PySem.W.takesIn K (.builtin "object.__class__") = some true
  cm : PySem.W.mroIn K C (.type "object") = some true
  ki : PySem.W.kitOne K (.ref C) (.ref C) = some true
def dIsiO (K : PySem.W.Frag) (C : Addr) (da : DT) : DT := fun Γ φ => OwnIsi K C ∧ da Γ fun e Γ1 => wf e fun x => x.isIns C ∧ φ (.d (.bl true)) Γ1
instance snd_isiO {C : Addr} [sa : Snd K E ψ ta da] : Snd K E ψ (tCB (rIsi K) (tCons ta (tCons (tC (.ref C)) tNil))) (dIsiO K C da) := ⟨fun {c F H σ Γ φ Q} I eo h q => by
  obtain ⟨O, h⟩ := h
  refine sa.frz (φ := fun _ _ => True) (k := fun x Γ1 => x.isIns C ∧ φ (.d (.bl true)) Γ1) I eo h fun F1 H1 v x Γ1 I1 s1 r1 h1 => ?_
  obtain ⟨hx, h1⟩ := h1
  obtain ⟨a, dx, fs, rfl, ha⟩ := rep_ins I1.fh r1 hx
  exact ⟨_, .ref C, .ref C, .ref C, true, rfl, .own C, .base (.ins ha O.cl O.ca O.cn O.ct O.cm), O.ki, q F1 H1 _ _ Γ1 I1 s1 (Res.d (.bl _)) h1⟩⟩
end
end Da

set_option Elab.async false
set_option maxRecDepth 100000
set_option maxHeartbeats 4000000
set_option linter.all false
/-! a lambda that calls a method of an owned instance: it raises and nothing is changed, or it changes the instance -/
namespace Da
open PySem PySem.Spec PyProof.Rows L2 RZ HmS
section
variable {P : Program} {w : World} {K : PySem.W.Frag} [HasT K] {mg : Str → Option Value} {base : Heap} {CX : CXT} {n : Nat} {f : Addr} {fd : FuncData} {ps : List Str} {C : Addr}
abbrev DXp := List D → (En → Prop) → (Value → Prop) → Prop
/-- a method told twice: by the frozen instance (which may raise), by the owned one (which is changed) -/
abbrev DOp := List Str → List O → List D → (List Str → List O → Prop) → Prop
def spB (K : PySem.W.Frag) [HasT K] (C : Addr) (dx : DXp) (dow : DOp) : Sp := fun vs H Q E => spX K dx vs H Q E ∨ spO K C dow vs H Q E
end
section
variable {K : PySem.W.Frag} [HasT K] {E : XK} {ψ : Value → Prop} {al : TA} {dal : DA}
def dMethB (C : Addr) (m : Str) (i : Nat) (dx : DXp) (dow : DOp) (dvs : List V) (ψ : Value → Prop) (dal : DA) : DT := fun Γ φ =>
  dMeth C m dx dvs ψ (dVar i) dal Γ φ ∨ dMethO C m i dow dvs dal Γ φ
instance snd_methB {C : Addr} {m : Str} {i : Nat} {dx : DXp} {dow : DOp} {dvs : List V} [a : Snd K E ψ (tVar i) (dVar i)] [sl : SndA K E ψ al dal] : Snd K E ψ (tMeth C m (spB K C dx dow) dvs E (tVar i) al) (dMethB C m i dx dow dvs ψ dal) := ⟨fun {c F H σ Γ φ Q} I eo h q => by
  rcases h with h | h
  · refine a.frz (φ := fun _ _ => True) (k := fun x Γ1 => (∃ ns xs, x = .ins C ns xs ∧ lookN ns xs m = none) ∧ dal Γ1 fun ys Γ2 => (dvs.all isSc) = true ∧ dx (x :: (ys ++ dvs.map vD)) (fun e => φ e Γ2) ψ) I eo h fun F1 H1 w x Γ1 I1 s1 rp h1 => ?_
    obtain ⟨⟨ns, xs, rfl, hl⟩, h1⟩ := h1
    cases id rp with
    | @ins a _ dx fs _ _ e en rs =>
      subst en
      refine ⟨a, dx, fs, rfl, I1.fh _ _ e, (look_fs rs).2 hl, ?_⟩
      refine sl.run I1 eo h1 fun F2 H2 vs ys Γ2 I2 s2 r2 h2 => ?_
      exact .inl (call_run I2 eo (.cons (rp.mono s2) (r2.app (Reps.scs h2.1))) h2.2 fun F3 H3 v e I3 s3 r3 p => q F3 H3 v e Γ2 I3 ((s1.trans s2).trans s3) r3 p)
  · obtain ⟨⟨ns0, os0, S0, g0, hm⟩, h⟩ := h
    obtain ⟨v, hv, hh0⟩ := I.at_ i _ g0 (fun z => nomatch z)
    obtain ⟨p, T0, eS, ev⟩ := ow_hd hh0.1
    subst ev eS
    refine ⟨_, hv, ?_⟩
    obtain ⟨dx, fs, hp, hl⟩ : ∃ dx fs, H p = some (.ins C dx fs) ∧ fs.lookup m = none := by
      have z := hh0.1
      cases z with
      | ins _ e1 e2 _ => exact ⟨_, _, e1, lookup_none (by rw [e2]; exact hm)⟩
    refine ⟨p, dx, fs, rfl, hp, hl, ?_⟩
    refine sl.run I eo h fun F1 H1 vs xs Γ1 I1 s1 r1 h1 => ?_
    obtain ⟨hsc, ns, os, S, g, h1⟩ := h1
    obtain ⟨v', hv', hh⟩ := I1.at_ i _ g (fun z => nomatch z)
    rw [hv] at hv'
    cases hv'
    obtain ⟨p', T, eS, ev⟩ := ow_hd hh.1
    cases ev
    subst eS
    refine .inr ⟨p, vs ++ dvs, F1, T, ns, os, xs ++ dvs.map vD, _, rfl, hh.1, hh.2.1, I1.fh, I1.fn, I1.tb, r1.app (Reps.scs hsc), h1, fun F' H' ns' os' T' sf k tb fh fn nw h2 hφ => ?_⟩
    exact q F' H' .non (.d .non) _ (I1.calledO g hv sf k tb fh fn nw h2) (s1.trans sf) (Res.d .non) (hφ p T')⟩
/-! ### the lambda -/
theorem Is.onlyO {c : Ct K} {F H : Hp} {σ : L2.St} {Γ : List En} {i : Nat} {o : O} {S : List Addr} (I : Is c F H σ Γ) (g : Γ[i]? = some (.ow o S)) : Is (cO K F H S) F H σ ((Γ.map onlyE).set i (.ow o S)) := by
  have il : i < Γ.length := (List.getElem?_eq_some_iff.mp g).1
  have low : ∀ (j : Nat) (e : En), j ≠ i → ((Γ.map onlyE).set i (.ow o S))[j]? = some e → e ≠ .no → ∃ y, Γ[j]? = some (.d y) ∧ e = .d y := fun j e ji h n => by
    rw [List.getElem?_set_ne (fun z => ji z.symm), List.getElem?_map] at h
    cases q : Γ[j]? with
    | none => rw [q] at h; cases h
    | some u =>
      rw [q] at h
      obtain ⟨y, rfl, e2⟩ := onlyE_some (Option.some.inj h) n
      exact ⟨y, rfl, e2⟩
  have here : ((Γ.map onlyE).set i (.ow o S))[i]? = some (.ow o S) := List.getElem?_set_self (by rw [List.length_map]; exact il)
  have own0 : ∀ (j : Nat) (e : En) (v : V) (a : Addr), ((Γ.map onlyE).set i (.ow o S))[j]? = some e → Adr e v a → j = i := fun j e v a h x => Classical.byContradiction fun ji => by
    obtain ⟨y, _, rfl⟩ := low j e ji h (adr_no x)
    exact x.elim
  have hs : ∀ a u, (cO K F H S).H0 a = some u → ntH H a = some u := fun a u e => by
    have e : (if a ∈ S then none else ntH H a) = some u := e
    split at e
    · cases e
    · exact e
  refine ⟨Same.refl F, I.fh, fun a o e => .inl e, fun a u _ e => (ntH_some (hs a u e)).1, (fun q e => nomatch e), by rw [List.length_set, List.length_map]; exact I.len, fun j e h n => ?_, fun j k a e e' v v' jk h h' s s' o o' => jk ((own0 j e v a h o).trans (own0 k e' v' a h' o').symm), I.fn, I.tb, fun a u e => (ntH_some (hs a u e)).2⟩
  by_cases ji : j = i
  · subst ji
    rw [here] at h
    cases h
    obtain ⟨v, hv, hh⟩ := I.at_ j _ g (fun z => nomatch z)
    exact ⟨v, hv, hh.1, hh.2.1, fun a m => if_pos m⟩
  · obtain ⟨y, g2, rfl⟩ := low j e ji h n
    obtain ⟨v, hv, r⟩ := I.at_ j _ g2 (fun z => nomatch z)
    exact ⟨v, hv, r⟩
/-- a test that looks at what slot i owns -/
def tBrwT (_ : Nat) (tt : TT) : TT := tt
theorem pt_brw {X : Cx} {e : Expr} {tt : TT} (i : Nat) (h : PT X e tt) : PT X e (tBrwT i tt) := h
def dBrwT (i : Nat) (dtt : DB) : DB := fun Γ φ => ∃ o S, Γ[i]? = some (.ow o S) ∧ dtt ((Γ.map onlyE).set i (.d o.dt)) fun b _ => φ b Γ
instance snd_brwT {i : Nat} {tt : TT} {dtt : DB} [s : SndT K E ψ tt dtt] : SndT K E ψ (tBrwT i tt) (dBrwT i dtt) := ⟨fun {c F H σ Γ φ Q} I eo h q => by
  obtain ⟨o, S, g, h⟩ := h
  obtain ⟨v, hv, I0, r⟩ := I.resOf g (fun z => nomatch z)
  obtain ⟨I1, s1, rep⟩ := I0.moreS r.1.1 r.1.2.2 r.2.2
  have J := (I1.only (NS.refl H) I1.tb).set (v := v) (e := .d o.dt) (Res.d rep) i
  rw [set_same hv, List.map_set, List.set_set] at J
  refine s.run J (EOk.low I eo) h fun F2 H2 b Γ2 I2 _ z => ?_
  have sh : NS H H2 := fun b u n e2 => I2.h0 b u (fun z => nomatch z) (ntH_of e2 n)
  exact q F H2 b Γ (I.growN (Same.refl F) sh I2.tb (fun a o e => sh a o (I.fn a o e) (I.fh a o e)) I.fn fun a o e => .inl e) (Same.refl F) z⟩
def tLamB (_ : Nat) (te : TE) : TE := te
/-- a lambda that looks at what slot i owns, or changes it -/
def dWhyB (i : Nat) (wo : Value → Str → Prop) (okw : Str) (den : (Value → Prop) → DT) : DT := fun Γ φ => ∃ o S, Γ[i]? = some (.ow o S) ∧
  ((∃ ψ : Value → Prop, (∀ C, ψ C → ∃ w, wo C w ∧ φ (.d (.str w)) Γ) ∧ den ψ ((Γ.map onlyE).set i (.d o.dt)) fun _ _ => φ (.d (.str okw)) Γ) ∨
    den (fun _ => False) ((Γ.map onlyE).set i (.ow o S)) fun _ Γ2 => ∃ o2 S2, Γ2[i]? = some (.ow o2 S2) ∧ φ (.d (.str okw)) (Γ.set i (.ow o2 S2)))
instance snd_lamB {i : Nat} {wo : Value → Str → Prop} {okw : Str} {t : XK → TE} {den : (Value → Prop) → DT} [s : ∀ E' ψ', Snd K E' ψ' (t E') (den ψ')] : Snd K E ψ (tLamB i (LamX.tLam (HasT.T K) (TTwhy wo okw) t)) (dWhyB i wo okw den) := ⟨fun {c F H σ Γ φ Q} I eo h q => by
  obtain ⟨o, S, g, h⟩ := h
  refine ⟨I.tb, fun H1 ex tb1 => ?_⟩
  have sh : NS H H1 := fun b o n e => ex b o e n
  have bk : ∀ {H2 : Hp}, NS H1 H2 → TbOk K H2 → Is c F H2 σ Γ := fun {H2} s2 t2 => I.growN (Same.refl F) (sh.trans s2) t2 (fun a o e => s2 a o (I.fn a o e) (sh a o (I.fn a o e) (I.fh a o e))) I.fn fun a o e => .inl e
  have I1 : Is c F H1 σ Γ := bk (NS.refl H1) tb1
  rcases h with ⟨ψ', h1, h2⟩ | h2
  · obtain ⟨v, hv, I0, r⟩ := I1.resOf g (fun z => nomatch z)
    obtain ⟨I2, s1, rep⟩ := I0.moreS r.1.1 r.1.2.2 r.2.2
    have J := (I2.only (NS.refl H1) I2.tb).set (v := v) (e := .d o.dt) (Res.d rep) i
    rw [set_same hv, List.map_set, List.set_set] at J
    refine (s _ ψ').run J (fun C H' k _ t2 z => ?_) h2 fun F2 H2 v e Γ2 I3 _ _ z => ?_
    · obtain ⟨w, hw, hφ⟩ := h1 C z
      exact ⟨w, hw, q F H' _ _ Γ (bk (fun b o n e => k b o (fun z => nomatch z) (ntH_of e n)) t2) (Same.refl F) (Res.d (.str w)) hφ⟩
    · exact q F H2 _ _ Γ (bk (fun b o n e => I3.h0 b o (fun z => nomatch z) (ntH_of e n)) I3.tb) (Same.refl F) (Res.d (.str okw)) z
  · obtain ⟨v, hv, hh⟩ := I1.at_ i _ g (fun z => nomatch z)
    refine (s _ fun _ => False).run (I1.onlyO g) (fun _ _ _ _ _ z => z.elim) h2 fun F2 H2 v2 e Γ2 I3 s3 _ z => ?_
    obtain ⟨o2, S2, g2, z⟩ := z
    obtain ⟨v3, hv3, hh3⟩ := I3.at_ i _ g2 (fun z => nomatch z)
    rw [hv] at hv3
    cases hv3
    exact q F2 H2 _ _ _ (I1.calledO g hv s3 (fun a u n nt e => I3.h0 a u (fun z => nomatch z) (by show (if a ∈ S then none else ntH H1 a) = some u; rw [if_neg n]; exact ntH_of e nt)) I3.tb I3.fh I3.fn I3.nw hh3) s3 (Res.d (.str okw)) z⟩
end
end Da

set_option Elab.async false
set_option maxRecDepth 100000
set_option maxHeartbeats 4000000
set_option linter.all false
/-! calls by names, of defs, of methods, of classes -/
namespace Da
open PySem PySem.Spec PyProof.Rows L2 RZ HmS
/-- arguments put in order: (0, i) the i-th by place, (1, i) the i-th default, (2, i) the i-th by name -/
def gpick {α : Type} (us its ws : List α) (q : Nat × Nat) : Option α := match q.1 with
  | 0 => us[q.2]?
  | 1 => its[q.2]?
  | _ => ws[q.2]?
def gsel {α : Type} (sq : List (Nat × Nat)) (us its ws : List α) : List α := sq.filterMap (gpick us its ws)
def gqM {α : Type} (sq : List (Nat × Nat)) (its us ws : List α) : List α := match us with
  | u :: r => u :: gsel sq r its ws
  | [] => []
theorem reps_opt {F : Hp} {vs : List V} {xs : List D} (r : Reps F vs xs) (i : Nat) : (vs[i]? = none ∧ xs[i]? = none) ∨ ∃ v x, vs[i]? = some v ∧ xs[i]? = some x ∧ Rep F v x := by
  cases q : xs[i]? with
  | none => exact .inl ⟨by rw [List.getElem?_eq_none_iff] at q ⊢; rw [r.length]; exact q, rfl⟩
  | some x =>
    obtain ⟨v, h1, h2⟩ := r.get q
    exact .inr ⟨v, x, h1, rfl, h2⟩
theorem reps_sel {F : Hp} : ∀ (sq : List (Nat × Nat)) {vs ds zs : List V} {us its ws : List D}, Reps F vs us → Reps F ds its → Reps F zs ws → Reps F (gsel sq vs ds zs) (gsel sq us its ws)
  | [], _, _, _, _, _, _, _, _, _ => .nil
  | q :: sq, vs, ds, zs, us, its, ws, a, b, c => by
    have ih := reps_sel sq a b c
    have pk : (gpick vs ds zs q = none ∧ gpick us its ws q = none) ∨ ∃ v u, gpick vs ds zs q = some v ∧ gpick us its ws q = some u ∧ Rep F v u := by
      obtain ⟨k, i⟩ := q
      match k with
      | 0 => exact reps_opt a i
      | 1 => exact reps_opt b i
      | k + 2 => exact reps_opt c i
    rcases pk with ⟨e1, e2⟩ | ⟨v, u, e1, e2, r⟩
    · show Reps F (List.filterMap _ (q :: sq)) (List.filterMap _ (q :: sq))
      rw [List.filterMap_cons_none e1, List.filterMap_cons_none e2]
      exact ih
    · show Reps F (List.filterMap _ (q :: sq)) (List.filterMap _ (q :: sq))
      rw [List.filterMap_cons_some e1, List.filterMap_cons_some e2]
      exact .cons r ih
/-- the orders, as the rules name them -/
def gVq (sq : List (Nat × Nat)) (dvs : List V) : List V → List V → List V := fun vs zs => gsel sq vs dvs zs
def gVM (sq : List (Nat × Nat)) (dvs : List V) : List V → List V → List V := fun vs zs => gqM sq dvs vs zs
section
variable {K : PySem.W.Frag} {x qual : Str} {params : Arguments} {body : List Stmt} {scope : Scope} {dvs : List V} {kws : List (Str × V)} {f : Addr} {fd : FuncData} {ps : List Str} {st : Stmt}
end
section
variable {X : Cx} {CX : CXT} {k n : Nat} {f C : Addr} {fd : FuncData} {ps ks : List Str} {sp : Sp} {E : XK} {x m : Str} {p pos apos : Pos} {e o : Expr} {es : List Expr} {kws : List Keyword} {ta : TE} {t tk : TA} {g : List Value → List Value → List Value} {gV : List V → List V → List V}
/-- o.m(e, .., k = v, ..) -/
def tMethN (C : Addr) (m : Str) (n nk : Nat) (sp : Sp) (gV : List V → List V → List V) (E : XK) (ta : TE) (t tk : TA) : TE := fun σ H Q => ta σ H fun x H1 => ∃ a dx fs, x = .ref a ∧ H1 a = some (.ins C dx fs) ∧ fs.lookup m = none ∧
  t σ H1 fun vs H2 => tk σ H2 fun zs H3 => vs.length = n ∧ zs.length = nk ∧ sp (gV (x :: vs) zs) H3 Q E
end
/-! ### readings -/
section
variable {K : PySem.W.Frag} [HasT K] {E : XK} {ψ : Value → Prop} {te ta : TE} {da : DT} {al tk : TA} {dal dkw : DA}
def dCallN (n m : Nat) (den : List D → (En → Prop) → (Value → Prop) → Prop) (sq : List (Nat × Nat)) (dvs : List V) (ψ : Value → Prop) (dal dkw : DA) : DT := fun Γ φ => dal Γ fun xs Γ1 => dkw Γ1 fun ys Γ2 => xs.length = n ∧ ys.length = m ∧ (dvs.all isSc) = true ∧ den (gsel sq xs (dvs.map vD) ys) (fun e => φ e Γ2) ψ
theorem snd_callNX {n m : Nat} {den : List D → (En → Prop) → (Value → Prop) → Prop} {sq : List (Nat × Nat)} {dvs : List V} {E' : XK} {ψ' : Value → Prop} [sl : SndA K E ψ al dal] [sk : SndA K E ψ tk dkw] (xx : ∀ {c : Ct K}, EOk c E ψ → EOk c E' ψ') :
    Snd K E ψ (tCallN n m (spX K den) (gVq sq dvs) E' al tk) (dCallN n m den sq dvs ψ' dal dkw) := ⟨fun {c F H σ Γ φ Q} I eo h q => by
  refine sl.run I eo h fun F1 H1 vs xs Γ1 I1 s1 r1 h1 => ?_
  refine sk.run I1 eo h1 fun F2 H2 zs ys Γ2 I2 s2 r2 h2 => ?_
  obtain ⟨l1, l2, hs, h2⟩ := h2
  refine ⟨r1.length.trans l1, r2.length.trans l2, ?_⟩
  exact call_run I2 (xx eo) (reps_sel sq (Reps.mono s2 r1) (Reps.scs hs) r2) h2 fun F3 H3 v e I3 s3 r3 z => q F3 H3 v e Γ2 I3 (s1.trans (s2.trans s3)) r3 z⟩
instance (priority := 900) snd_callN {n m : Nat} {den : List D → (En → Prop) → (Value → Prop) → Prop} {sq : List (Nat × Nat)} {dvs : List V} [sl : SndA K E ψ al dal] [sk : SndA K E ψ tk dkw] : Snd K E ψ (tCallN n m (spX K den) (gVq sq dvs) E al tk) (dCallN n m den sq dvs ψ dal dkw) := snd_callNX fun h => h
instance snd_callN0 {n m : Nat} {den : List D → (En → Prop) → (Value → Prop) → Prop} {sq : List (Nat × Nat)} {dvs : List V} [sl : SndA K E ψ al dal] [sk : SndA K E ψ tk dkw] : Snd K E ψ (tCallN n m (spX K den) (gVq sq dvs) E0 al tk) (dCallN n m den sq dvs (fun _ => False) dal dkw) := snd_callNX fun _ _ _ _ _ _ z => z
def dMethN (C : Addr) (m : Str) (n nk : Nat) (den : List D → (En → Prop) → (Value → Prop) → Prop) (sq : List (Nat × Nat)) (dvs : List V) (ψ : Value → Prop) (da : DT) (dal dkw : DA) : DT := fun Γ φ => da Γ fun e Γ1 => wf e fun x => (∃ ns xs, x = .ins C ns xs ∧ lookN ns xs m = none) ∧
  dal Γ1 fun ys Γ2 => dkw Γ2 fun zs Γ3 => ys.length = n ∧ zs.length = nk ∧ (dvs.all isSc) = true ∧ den (x :: gsel sq ys (dvs.map vD) zs) (fun e => φ e Γ3) ψ
theorem snd_methNX {C : Addr} {m : Str} {n nk : Nat} {den : List D → (En → Prop) → (Value → Prop) → Prop} {sq : List (Nat × Nat)} {dvs : List V} {E' : XK} {ψ' : Value → Prop} [a : Snd K E ψ ta da] [sl : SndA K E ψ al dal] [sk : SndA K E ψ tk dkw] (xx : ∀ {c : Ct K}, EOk c E ψ → EOk c E' ψ') :
    Snd K E ψ (tMethN C m n nk (spX K den) (gVM sq dvs) E' ta al tk) (dMethN C m n nk den sq dvs ψ' da dal dkw) := ⟨fun {c F H σ Γ φ Q} I eo h q => by
  refine a.frz (φ := fun _ _ => True) (k := fun x Γ1 => (∃ ns xs, x = .ins C ns xs ∧ lookN ns xs m = none) ∧ dal Γ1 fun ys Γ2 => dkw Γ2 fun zs Γ3 => ys.length = n ∧ zs.length = nk ∧ (dvs.all isSc) = true ∧ den (x :: gsel sq ys (dvs.map vD) zs) (fun e => φ e Γ3) ψ') I eo h fun F1 H1 w x Γ1 I1 s1 rp h1 => ?_
  obtain ⟨⟨ns, xs, rfl, hl⟩, h1⟩ := h1
  cases id rp with
  | @ins a _ dx fs _ _ e en rs =>
    subst en
    refine ⟨a, dx, fs, rfl, I1.fh _ _ e, (look_fs rs).2 hl, ?_⟩
    refine sl.run I1 eo h1 fun F2 H2 vs ys Γ2 I2 s2 r2 h2 => ?_
    refine sk.run I2 eo h2 fun F3 H3 us zs Γ3 I3 s3 r3 h3 => ?_
    obtain ⟨l1, l2, hs, h3⟩ := h3
    refine ⟨r2.length.trans l1, r3.length.trans l2, ?_⟩
    exact call_run I3 (xx eo) (.cons (rp.mono (s2.trans s3)) (reps_sel sq (Reps.mono s3 r2) (Reps.scs hs) r3)) h3 fun F4 H4 v e I4 s4 r4 p => q F4 H4 v e Γ3 I4 (((s1.trans s2).trans s3).trans s4) r4 p⟩
instance (priority := 900) snd_methN {C : Addr} {m : Str} {n nk : Nat} {den : List D → (En → Prop) → (Value → Prop) → Prop} {sq : List (Nat × Nat)} {dvs : List V} [a : Snd K E ψ ta da] [sl : SndA K E ψ al dal] [sk : SndA K E ψ tk dkw] : Snd K E ψ (tMethN C m n nk (spX K den) (gVM sq dvs) E ta al tk) (dMethN C m n nk den sq dvs ψ da dal dkw) := snd_methNX fun h => h
instance snd_methN0 {C : Addr} {m : Str} {n nk : Nat} {den : List D → (En → Prop) → (Value → Prop) → Prop} {sq : List (Nat × Nat)} {dvs : List V} [a : Snd K E ψ ta da] [sl : SndA K E ψ al dal] [sk : SndA K E ψ tk dkw] : Snd K E ψ (tMethN C m n nk (spX K den) (gVM sq dvs) E0 ta al tk) (dMethN C m n nk den sq dvs (fun _ => False) da dal dkw) := snd_methNX fun _ _ _ _ _ _ z => z
def dMethON (C : Addr) (m : Str) (i n nk : Nat) (den : List Str → List O → List D → (List Str → List O → Prop) → Prop) (sq : List (Nat × Nat)) (dvs : List V) (dal dkw : DA) : DT := fun Γ φ => (∃ ns os S, Γ[i]? = some (.ow (.ins C ns os) S) ∧ m ∉ ns) ∧
  dal Γ fun xs Γ1 => dkw Γ1 fun ys Γ2 => xs.length = n ∧ ys.length = nk ∧ (dvs.all isSc) = true ∧ ∃ ns os S, Γ2[i]? = some (.ow (.ins C ns os) S) ∧ den ns os (gsel sq xs (dvs.map vD) ys) fun ns2 os2 => ∀ p T2, φ (.d .non) (Γ2.set i (.ow (.ins C ns2 os2) (p :: T2)))
instance snd_methON {C : Addr} {m : Str} {i n nk : Nat} {den : List Str → List O → List D → (List Str → List O → Prop) → Prop} {sq : List (Nat × Nat)} {dvs : List V} {E' : XK} [sl : SndA K E ψ al dal] [sk : SndA K E ψ tk dkw] : Snd K E ψ (tMethN C m n nk (spO K C den) (gVM sq dvs) E' (tVar i) al tk) (dMethON C m i n nk den sq dvs dal dkw) := ⟨fun {c F H σ Γ φ Q} I eo h q => by
  obtain ⟨⟨ns0, os0, S0, g0, hm⟩, h⟩ := h
  obtain ⟨v, hv, hh0⟩ := I.at_ i _ g0 (fun z => nomatch z)
  obtain ⟨p, T0, eS, ev⟩ := ow_hd hh0.1
  subst ev eS
  refine ⟨_, hv, ?_⟩
  obtain ⟨dx, fs, hp, hl⟩ : ∃ dx fs, H p = some (.ins C dx fs) ∧ fs.lookup m = none := by
    have z := hh0.1
    cases z with
    | ins _ e1 e2 _ => exact ⟨_, _, e1, lookup_none (by rw [e2]; exact hm)⟩
  refine ⟨p, dx, fs, rfl, hp, hl, ?_⟩
  refine sl.run I eo h fun F1 H1 vs xs Γ1 I1 s1 r1 h1 => ?_
  refine sk.run I1 eo h1 fun F2 H2 us ys Γ2 I2 s2 r2 h2 => ?_
  obtain ⟨l1, l2, hsc, ns, os, S, g, h2⟩ := h2
  refine ⟨r1.length.trans l1, r2.length.trans l2, ?_⟩
  obtain ⟨v', hv', hh⟩ := I2.at_ i _ g (fun z => nomatch z)
  rw [hv] at hv'
  cases hv'
  obtain ⟨p', T, eS, ev⟩ := ow_hd hh.1
  cases ev
  subst eS
  refine ⟨p, _, F2, T, ns, os, _, _, rfl, hh.1, hh.2.1, I2.fh, I2.fn, I2.tb, reps_sel sq (Reps.mono s2 r1) (Reps.scs hsc) r2, h2, fun F' H' ns' os' T' sf k tb fh fn nw h3 hφ => ?_⟩
  exact q F' H' .non (.d .non) _ (I2.calledO g hv sf k tb fh fn nw h3) ((s1.trans s2).trans sf) (Res.d .non) (hφ p T')⟩
def dMakeN (C : Addr) (n nk : Nat) (den : List Str → List O → List D → (List Str → List O → Prop) → Prop) (sq : List (Nat × Nat)) (dvs : List V) (dal dkw : DA) : DT := fun Γ φ => dal Γ fun xs Γ1 => dkw Γ1 fun ys Γ2 => xs.length = n ∧ ys.length = nk ∧ (dvs.all isSc) = true ∧
  den [] [] (gsel sq xs (dvs.map vD) ys) fun ns2 os2 => ∀ p T2, φ (.ow (.ins C ns2 os2) (p :: T2)) Γ2
instance snd_makeN {C : Addr} {n nk : Nat} {den : List Str → List O → List D → (List Str → List O → Prop) → Prop} {sq : List (Nat × Nat)} {dvs : List V} {E' : XK} [sl : SndA K E ψ al dal] [sk : SndA K E ψ tk dkw] : Snd K E ψ (tMakeK C n nk (spO K C den) (gVM sq dvs) E' al tk) (dMakeN C n nk den sq dvs dal dkw) := ⟨fun {c F H σ Γ φ Q} I eo h q => by
  refine sl.run I eo h fun F0 H0 vs xs Γ0 I0 s0 r0 h0 => ?_
  refine sk.run I0 eo h0 fun F1 H1 us ys Γ1 I1 s1 r1 h1 => ?_
  obtain ⟨l1, l2, hsc, h1⟩ := h1
  refine ⟨r0.length.trans l1, r1.length.trans l2, ?_⟩
  intro x dx hx hdx nx
  have I2 : Is c F1 (upd H1 dx (.own x)) σ Γ1 := I1.newH hdx
  have hx2 : (upd H1 dx (.own x)) x = none := by rw [upd_ne nx.symm]; exact hx
  have I3 : Is c F1 (upd (upd H1 dx (.own x)) x (.ins C dx [])) σ Γ1 := I2.newH hx2
  have hat : (upd (upd H1 dx (.own x)) x (.ins C dx [])) x = some (.ins C dx []) := upd_same
  refine ⟨x, _, F1, [], [], [], _, _, rfl, .ins (I1.unF hx) hat rfl .nil, (by simp), I3.fh, I3.fn, I3.tb, reps_sel sq (Reps.mono s1 r0) (Reps.scs hsc) r1, h1, fun F' H' ns' os' T' sf k tb fh fn nw h2 hφ => ⟨rfl, ?_⟩⟩
  have free : ∀ a ∈ [x], c.H0 a = none ∧ Not σ Γ1 a := fun a m => by
    cases List.mem_singleton.mp m
    exact ⟨I1.un hx, I1.fresh hx⟩
  have I4 : Is c F' H' σ Γ1 := I3.growX (S := [x]) (fun a m => ⟨(free a m).1, (free a m).2, fun vs e => by
    cases List.mem_singleton.mp m
    rw [hat] at e
    cases e⟩) sf k tb fh fn (fun a u e => (nw a u e).imp id fun z => by
      by_cases m : a ∈ [x]
      · exact .inl m
      · refine .inr ?_
        rcases z with z | ⟨vs, z⟩
        · have z : (if a ∈ [x] then none else ntH _ a) = none := z
          rw [if_neg m] at z
          exact .inl z
        · have z : (if a ∈ [x] then none else ntH _ a) = some (.tup vs) := z
          rw [if_neg m] at z
          exact .inr ⟨vs, z⟩)
  exact q F' H' (.ref x) (.ow (.ins C ns' os') (x :: T')) Γ1 I4 ((s0.trans s1).trans sf) ⟨⟨h2.1, h2.2.1, fun a m => (I3.unNt free (h2.2.2 a m)).1⟩, (fun z => nomatch z), fun a m => (I3.unNt free (h2.2.2 a m)).2⟩ (hφ x T')⟩
end
end Da

set_option Elab.async false
set_option maxRecDepth 100000
set_option maxHeartbeats 4000000
set_option linter.all false
/-! len and truth of instances by an own __len__ -/
namespace Da
open PySem PySem.Spec PyProof.Rows L2 RZ HmS
section
variable {prog : Program} {w : World} {A : Around} {E : Value → Shared → Prop} {s : Shared} {K : PySem.W.Frag} {a C f : Addr} {ox : Obj} {od : Option Obj}
end
section
variable {X : Cx} {CX : CXT} {C f : Addr} {fd : FuncData} {ps : List Str} {n : Nat} {sp : Sp} {E : XK}
structure OwnLen (K : PySem.W.Frag) (C f : Addr) : Prop where
  len : PySem.W.findIn K (.ref C) "__len__" = some (some (.ref f))
  fn : PySem.W.isFn K (.ref f) = true
  nb : PySem.W.findIn K (.ref C) "__bool__" = some none
theorem run_belowL {A : Around} {pins : List (Addr × Obj)} {σ : L2.St} {H : Hp} {s : Shared} {Q : VK} {vs : List V} {us : List Value} (F : FnOk X.prog X.w X.K X.mg X.base CX n f fd ps sp) (hr : Room n A) (e0 : Env0 X.prog X.w X.K X.mg X.base A X.stack s H) (hb : Binds X.K fd ps []) (hx : Passes CX X E)
    (I : Inv X pins σ H s) (r2 : Vals vs us) (h : sp vs H Q E) : wpAny (model X.prog X.w) A (call (.ref f) us) (EP X pins σ Q) X.xe s := by
  have hl := F.len _ _ _ _ h
  refine wpAny_call (codeAny_mono (F.run A X.stack s H ⟨us, []⟩ us vs Q E hr e0 (by
    have := hb s us I.kIn (by simpa [← r2.length] using hl)
    simpa using this) r2 h) fun r s' hq => ?_)
  cases r with
  | error e => exact hx pins σ H s e s' I hq
  | ok fl =>
    cases fl with
    | ret w => exact I.after hq
    | next => exact False.elim hq
    | brk => exact False.elim hq
    | cont => exact False.elim hq
def lenK (Q : Nat → Hp → Prop) : VK := fun z H2 => ∃ n : Nat, z = .int n ∧ (n : Int) < 2 ^ 63 ∧ Q n H2
def rLenO (C : Addr) (sp : Sp) (E : XK) : List V → Hp → VK → Prop := fun xs H Q => ∃ (a dx : Addr) (fs : List (Str × V)), xs = [.ref a] ∧ H a = some (.ins C dx fs) ∧ sp [.ref a] H (lenK fun n H2 => Q (.int n) H2) E
def tTruO (C : Addr) (sp : Sp) (E : XK) (ta : TE) : TT := fun σ H Q => ta σ H fun x H1 => ∃ (a dx : Addr) (fs : List (Str × V)), x = .ref a ∧ H1 a = some (.ins C dx fs) ∧ sp [.ref a] H1 (lenK fun n H2 => Q (decide (n ≠ 0)) H2) E
end
section
variable {K : PySem.W.Frag} [HasT K] {E : XK} {ψ : Value → Prop} {ta : TE} {da : DT}
def lenE (φ : Nat → Prop) : En → Prop := fun e => ∃ n : Nat, e = .d (.int n) ∧ (n : Int) < 2 ^ 63 ∧ φ n
def dLenO (C : Addr) (k : D → (En → Prop) → Prop) (xs : List D) (φ : En → Prop) : Prop := match xs with
  | [x] => x.isIns C ∧ k x (lenE fun n => φ (.d (.int n)))
  | _ => False
instance snd_lenO {C : Addr} {k : D → (En → Prop) → Prop} : SndC K (rLenO C (spX K (sp1 k)) E0) (dLenO C k) := ⟨fun {c F H σ Γ xs ds φ Q} I r h q => by
  match ds, r, h with
  | [x], .cons rx .nil, h =>
    obtain ⟨h1, h2⟩ := h
    obtain ⟨a, dx, fs, rfl, ha⟩ := rep_ins I.fh rx h1
    refine ⟨a, dx, fs, rfl, ha, ?_⟩
    refine call_run (ψ' := fun _ => False) (φ := lenE fun n => φ (.d (.int n))) I (fun _ _ _ _ _ z => z) (.cons rx .nil) h2 fun F2 H2 v e I2 s2 r2 p => ?_
    obtain ⟨n, rfl, hn, p⟩ := p
    cases (show Rep F2 v (.int n) from r2.1)
    exact ⟨n, rfl, hn, q F2 H2 _ _ I2 s2 (Res.d (.int n)) p⟩⟩
def dTruO (C : Addr) (k : D → (En → Prop) → Prop) (da : DT) : DB := fun Γ φ => da Γ fun e Γ1 => wf e fun x => x.isIns C ∧ k x (lenE fun n => φ (decide (n ≠ 0)) Γ1)
instance snd_truO {C : Addr} {k : D → (En → Prop) → Prop} [a : Snd K E ψ ta da] : SndT K E ψ (tTruO C (spX K (sp1 k)) E0 ta) (dTruO C k da) := ⟨fun {c F H σ Γ φ Q} I eo h q => by
  refine a.frz (φ := fun _ _ => True) (k := fun x Γ1 => x.isIns C ∧ k x (lenE fun n => φ (decide (n ≠ 0)) Γ1)) I eo h fun F1 H1 w x Γ1 I1 s1 rx h1 => ?_
  obtain ⟨h1, h2⟩ := h1
  obtain ⟨a, dx, fs, rfl, ha⟩ := rep_ins I1.fh rx h1
  refine ⟨a, dx, fs, rfl, ha, ?_⟩
  refine call_run (ψ' := fun _ => False) (φ := lenE fun n => φ (decide (n ≠ 0)) Γ1) I1 (fun _ _ _ _ _ z => z) (.cons rx .nil) h2 fun F2 H2 v e I2 s2 r2 p => ?_
  obtain ⟨n, rfl, hn, p⟩ := p
  cases (show Rep F2 v (.int n) from r2.1)
  exact ⟨n, rfl, hn, q F2 H2 _ Γ1 I2 (s1.trans s2) p⟩⟩
end
end Da

set_option Elab.async false
set_option maxRecDepth 100000
set_option maxHeartbeats 4000000
set_option linter.all false
/-! == and != of lists of instances that have an own __eq__ -/
namespace Da
open PySem PySem.Spec PyProof.Rows L2 RZ HmS
open PySem.SeqAt
open AutoSeq1 (wpAny_loadPart')
open MeetsSeq MeetsSeq2 MeetsSeq3 SeqRoads2
section
variable {prog : Program} {w : World}
structure TwoL (pa pb : Addr) (xs ys : Array Value) (s : Shared) : Prop where
  a : s.heap.IsList pa xs
  b : s.heap.IsList pb ys
end
end Da

set_option Elab.async false
set_option maxRecDepth 100000
set_option maxHeartbeats 4000000
set_option linter.all false
/-! == and != of lists of instances, over the heap and over data -/
namespace Da
open PySem PySem.Spec PyProof.Rows L2 RZ HmS
mutual
theorem Rep.det {F : Hp} : ∀ {d e : D} {v : V}, Rep F v d → Rep F v e → d = e
  | .non, _, _, .non, .non => rfl
  | .bl _, _, _, .bl _, .bl _ => rfl
  | .int _, _, _, .int _, .int _ => rfl
  | .str _, _, _, .str _, .str _ => rfl
  | .tup xs, e, _, .tup h r, r2 => by
    cases r2 with
    | tup h2 q => rw [h] at h2; cases h2; rw [Reps.det r q]
    | lst h2 q => rw [h] at h2; cases h2
    | dK h2 _ q => rw [h] at h2; cases h2
    | dT h2 _ q => rw [h] at h2; cases h2
    | ins h2 _ q => rw [h] at h2; cases h2
  | .lst xs, e, _, .lst h r, r2 => by
    cases r2 with
    | tup h2 q => rw [h] at h2; cases h2
    | lst h2 q => rw [h] at h2; cases h2; rw [Reps.det r q]
    | dK h2 _ q => rw [h] at h2; cases h2
    | dT h2 _ q => rw [h] at h2; cases h2
    | ins h2 _ q => rw [h] at h2; cases h2
  | .dK ks xs, e, _, .dK h k r, r2 => by
    cases r2 with
    | tup h2 q => rw [h] at h2; cases h2
    | lst h2 q => rw [h] at h2; cases h2
    | dK h2 k2 q => rw [h] at h2; cases h2; subst k; subst k2; rw [Reps.det r q]
    | dT h2 _ q => rw [h] at h2; cases h2
    | ins h2 _ q => rw [h] at h2; cases h2
  | .dT ks xs, e, _, .dT h k r, r2 => by
    cases r2 with
    | tup h2 q => rw [h] at h2; cases h2
    | lst h2 q => rw [h] at h2; cases h2
    | dK h2 k2 q => rw [h] at h2; cases h2
    | dT h2 k2 q => rw [h] at h2; cases h2; subst k; subst k2; rw [Reps.det r q]
    | ins h2 _ q => rw [h] at h2; cases h2
  | .ins C ns xs, e, _, .ins h k r, r2 => by
    cases r2 with
    | tup h2 q => rw [h] at h2; cases h2
    | lst h2 q => rw [h] at h2; cases h2
    | dK h2 k2 q => rw [h] at h2; cases h2
    | dT h2 k2 q => rw [h] at h2; cases h2
    | ins h2 k2 q => rw [h] at h2; cases h2; subst k; subst k2; rw [Reps.det r q]
theorem Reps.det {F : Hp} : ∀ {ds es : List D} {vs : List V}, Reps F vs ds → Reps F vs es → ds = es
  | [], _, _, .nil, .nil => rfl
  | d :: ds, _, _, .cons a b, .cons a2 b2 => by rw [Rep.det a a2, Reps.det b b2]
end
/-! ### over the heap -/
def runH (C : Addr) (sp : Sp) (pa pb : Addr) (oa ob : HO) : List (Addr × Addr) → Hp → (Bool → Hp → Prop) → Prop
  | [], H, Q => Q true H
  | p :: r, H, Q => (p.1 = p.2 ∧ runH C sp pa pb oa ob r H Q) ∨ (p.1 ≠ p.2 ∧ (∃ dx fs, H p.1 = some (.ins C dx fs)) ∧ (∃ dx fs, H p.2 = some (.ins C dx fs)) ∧
      sp [.ref p.1, .ref p.2] H (fun z H' => ∃ t, z = .bl t ∧ (H' pa = some oa ∧ H' pb = some ob) ∧ if t = true then runH C sp pa pb oa ob r H' Q else Q false H') E0)
section
variable {X : Cx} {C f : Addr} {fd : FuncData} {ps : List Str} {n : Nat} {sp : Sp}
def rListO (C : Addr) (sp : Sp) (neg : Bool) : R2 := fun x y H Q => ∃ (pa pb : Addr) (as bs : List Addr), x = .ref pa ∧ y = .ref pb ∧ H pa = some (.lst (as.map V.ref)) ∧ H pb = some (.lst (bs.map V.ref)) ∧
  if as.length = bs.length then runH C sp pa pb (.lst (as.map V.ref)) (.lst (bs.map V.ref)) (as.zip bs) H fun t H' => Q (.bl (if neg then !t else t)) H' else Q (.bl neg) H
end
/-! ### over data -/
section
variable {K : PySem.W.Frag} [HasT K]
def eqsD (f : D → D → Bool) (xs ys : List D) : Bool := decide (xs.length = ys.length) && (xs.zip ys).all fun p => f p.1 p.2
def dListO (C : Addr) (k : D → D → (En → Prop) → Prop) (neg : Bool) (x y : D) (φ : En → Prop) : Prop := ∃ xs ys, x = .lst xs ∧ y = .lst ys ∧ (∀ a ∈ xs, a.isIns C) ∧ (∀ b ∈ ys, b.isIns C) ∧ ∃ f : D → D → Bool, (∀ a ∈ xs, f a a = true) ∧ (∀ a ∈ xs, ∀ b ∈ ys, ∀ ψ : En → Prop, ψ (.d (.bl (f a b))) → k a b ψ) ∧
  φ (.d (.bl (if neg then !eqsD f xs ys else eqsD f xs ys)))
theorem reps_ins {F H : Hp} {C : Addr} (fh : Same F H) : ∀ {vs : List V} {xs : List D}, Reps F vs xs → (∀ a ∈ xs, a.isIns C) → ∃ as : List Addr, vs = as.map V.ref
  | _, [], .nil, _ => ⟨[], rfl⟩
  | _, x :: xs, .cons r rs, h => by
    obtain ⟨a, _, _, rfl, _⟩ := rep_ins fh r (h x List.mem_cons_self)
    obtain ⟨as, rfl⟩ := reps_ins fh rs fun y hy => h y (List.mem_cons_of_mem _ hy)
    exact ⟨a :: as, rfl⟩
theorem runH_data {C : Addr} {k : D → D → (En → Prop) → Prop} {f : D → D → Bool} {c : Ct K} {σ : L2.St} {Γ : List En} {pa pb : Addr} {oa ob : HO} {Q : Bool → Hp → Prop} :
    ∀ {as bs : List Addr} {xs ys : List D} {F H : Hp}, Is c F H σ Γ → F pa = some oa → F pb = some ob → Reps F (as.map V.ref) xs → Reps F (bs.map V.ref) ys → as.length = bs.length → (∀ a ∈ xs, a.isIns C) → (∀ b ∈ ys, b.isIns C) → (∀ a ∈ xs, f a a = true) → (∀ a ∈ xs, ∀ b ∈ ys, ∀ ψ : En → Prop, ψ (.d (.bl (f a b))) → k a b ψ) →
      (∀ F' H', Is c F' H' σ Γ → Same F F' → Q ((xs.zip ys).all fun p => f p.1 p.2) H') → runH C (spX K (sp2 k)) pa pb oa ob (as.zip bs) H Q
  | [], [], xs, ys, F, H, I, _, _, r1, r2, _, _, _, _, _, q => by
    cases r1
    cases r2
    exact q F H I (Same.refl F)
  | a :: as, b :: bs, xs, ys, F, H, I, fa, fb, r1, r2, hl, hx, hy, hs, hk, q => by
    cases r1 with
    | @cons _ _ x xs ra r1 =>
    cases r2 with
    | @cons _ _ y ys rb r2 =>
    have hl : as.length = bs.length := by simpa using hl
    have rest : ∀ F' H', Is c F' H' σ Γ → Same F F' → f x y = true → runH C (spX K (sp2 k)) pa pb oa ob (as.zip bs) H' Q := fun F' H' I' s' e => by
      refine runH_data I' (s' _ _ fa) (s' _ _ fb) (Reps.mono s' r1) (Reps.mono s' r2) hl (fun a h => hx a (List.mem_cons_of_mem _ h)) (fun a h => hy a (List.mem_cons_of_mem _ h)) (fun a h => hs a (List.mem_cons_of_mem _ h)) (fun a h b h' => hk a (List.mem_cons_of_mem _ h) b (List.mem_cons_of_mem _ h')) fun F2 H2 I2 s2 => ?_
      have q := q F2 H2 I2 (s'.trans s2)
      rw [List.zip_cons_cons, List.all_cons] at q
      have q : Q (f x y && _) H2 := q
      rw [e, Bool.true_and] at q
      exact q
    show (a = b ∧ _) ∨ (a ≠ b ∧ _)
    by_cases e : a = b
    · subst e
      refine .inl ⟨rfl, rest F H I (Same.refl F) ?_⟩
      rw [← Rep.det ra rb]
      exact hs x List.mem_cons_self
    · obtain ⟨a', dx, fs, ea, ha⟩ := rep_ins I.fh ra (hx x List.mem_cons_self)
      obtain ⟨b', dy, gs, eb, hb⟩ := rep_ins I.fh rb (hy y List.mem_cons_self)
      cases ea
      cases eb
      refine .inr ⟨e, ⟨dx, fs, ha⟩, ⟨dy, gs, hb⟩, ?_⟩
      refine call_run (ψ' := fun _ => False) (φ := fun e => e = .d (.bl (f x y))) I (fun _ _ _ _ _ z => z) (.cons ra (.cons rb .nil)) (hk x List.mem_cons_self y List.mem_cons_self _ rfl) fun F2 H2 v e2 I2 s2 r3 p => ?_
      subst p
      cases (show Rep F2 v (.bl (f x y)) from r3.1)
      refine ⟨f x y, rfl, ⟨I2.fh _ _ (s2 _ _ fa), I2.fh _ _ (s2 _ _ fb)⟩, ?_⟩
      cases ef : f x y with
      | true =>
        rw [if_pos rfl]
        exact rest F2 H2 I2 s2 ef
      | false =>
        rw [if_neg Bool.false_ne_true]
        have q := q F2 H2 I2 s2
        rw [List.zip_cons_cons, List.all_cons] at q
        have q : Q (f x y && _) H2 := q
        rw [ef, Bool.false_and] at q
        exact q
instance snd_listO {C : Addr} {k : D → D → (En → Prop) → Prop} {neg : Bool} : SndR K (rListO C (spX K (sp2 k)) neg) (dListO C k neg) := ⟨fun {c F H σ Γ x y d e φ Q} I rx ry h q => by
  obtain ⟨xs, ys, rfl, rfl, hx, hy, f, hs, hk, h⟩ := h
  cases rx with
  | @lst pa vs _ ea ra =>
  cases ry with
  | @lst pb us _ eb rb =>
  obtain ⟨as, rfl⟩ := reps_ins I.fh ra hx
  obtain ⟨bs, rfl⟩ := reps_ins I.fh rb hy
  have la : as.length = xs.length := by simpa using ra.length
  have lb : bs.length = ys.length := by simpa using rb.length
  refine ⟨pa, pb, as, bs, rfl, rfl, I.fh _ _ ea, I.fh _ _ eb, ?_⟩
  by_cases hz : as.length = bs.length
  · rw [if_pos hz]
    refine runH_data I ea eb ra rb hz hx hy hs hk fun F' H' I' s' => ?_
    have e : eqsD f xs ys = (xs.zip ys).all fun p => f p.1 p.2 := by
      unfold eqsD
      rw [decide_eq_true (by omega), Bool.true_and]
    rw [← e]
    exact q F' H' _ _ I' s' (Res.d (.bl _)) h
  · rw [if_neg hz]
    have e : eqsD f xs ys = false := by
      unfold eqsD
      rw [decide_eq_false (by omega), Bool.false_and]
    rw [e] at h
    have h : φ (.d (.bl neg)) := by cases neg <;> exact h
    exact q F H _ _ I (Same.refl F) (Res.d (.bl neg)) h⟩
end
end Da

set_option Elab.async false
set_option maxRecDepth 100000
set_option maxHeartbeats 4000000
set_option linter.all false
/-! len of dicts by tuples -/
namespace Da
open PySem PySem.Spec PyProof.Rows L2 RZ HmS
section
variable {K : PySem.W.Frag} [HasT K]
def dLenDT (xs : List D) (φ : En → Prop) : Prop := match xs with
  | [.dT ks _] => φ (.d (.int ks.length))
  | _ => False
instance snd_lenDT : SndC K rLenT dLenDT := ⟨fun {c F H σ Γ xs ds φ Q} I r h q => by
  match ds, r, h with
  | [.dT ks es], r, h =>
    obtain ⟨x, rfl, rp⟩ := one_of r
    cases rp with
    | @dT a kvs _ _ e ek rs =>
      have el : ks.length = kvs.length := by rw [← ek, List.length_map]
      have h : φ (.d (.int ks.length)) := h
      rw [el] at h
      exact ⟨a, kvs, rfl, I.fh _ _ e, q F H _ _ I (Same.refl F) (Res.d (.int _)) h⟩⟩
end
end Da

set_option Elab.async false
set_option maxRecDepth 100000
set_option maxHeartbeats 4000000
namespace HmT
open PySem PyProof.Rows L2
def p0 : Pos := ⟨0, 0, 0, 0⟩
end HmT

set_option Elab.async false
set_option maxRecDepth 100000
set_option maxHeartbeats 4000000
set_option linter.all false
/-! an exception that carries a number: how it leaves a method, how a def tells it -/
namespace Da
open PySem PySem.Spec PyProof.Rows L2 RZ HmS
/-- the number that leaves -/
def mkN (n : Int) : Value := .int n 0
def EC (CS : Addr) (E : XK) : XK := fun C d H => match C, d with
  | .int n _, none => ∀ dd H2, Same H H2 → H2 dd = some (.xd [("by", .int n)]) → E (.ref CS) (some dd) H2
  | C, d => E C d H
/-- x.__init__(self, by): the field by is kept in the error's own new dict -/
def spShort (C : Addr) : Sp := fun vs H Q _ => ∃ (a : Addr) (n : Int), vs = [.ref a, .int n] ∧ H a = some (exo a C none) ∧ 0 ≤ n ∧ n < 10 ^ 60 ∧
  ∀ H' dx, (∀ b o, b ≠ a → H b = some o → H' b = some o) → H dx = none → H' a = some (exo a C (some dx)) → H' dx = some (exd dx [("by", .int n)]) → Q .non H'
structure TxtSh (K : PySem.W.Frag) (mg : Str → Option Value) (CS fI : Addr) : Prop where
  oex : OexC K CS
  iC : PySem.W.findIn K (.ref CS) "__init__" = some (some (.ref fI))
  tI : PySem.W.typeIn K (.ref fI) = some (.type "function")
  g : mg "Short" = some (.ref CS)
def tRsh (E : XK) (CS : Addr) (ta : TE) : TS := fun _ σ H => tMkO CS (spShort CS) [] (tCons ta tNil) σ H fun cls d H' => E cls d H'
def dRsh (ψ : Value → Prop) (da : DT) : DSt := fun Γ _ => da Γ fun e _ => match e with
  | .d (.int n) => 0 ≤ n ∧ n < 10 ^ 60 ∧ ψ (mkN n)
  | _ => False
section
variable {K : PySem.W.Frag} [HasT K] {E : XK} {ψ : Value → Prop} {te ta tb tx : TE} {da db dx : DT} {al : TA} {dal : DA}
instance snds_rsh {CS : Addr} [a : Snd K (EC CS E) ψ ta da] : SndS K (EC CS E) ψ (tRsh E CS ta) (dRsh ψ da) := ⟨fun {c F H σ Γ P D} I eo h m => by
  refine a.run I eo h fun F1 H1 v e Γ1 I1 s1 r1 h1 => ?_
  cases e with
  | d x =>
    cases x with
    | int n =>
      cases (show Rep F1 v (.int n) from r1.1)
      obtain ⟨h0, h6, h1⟩ := h1
      have w : ∀ dd H2, Same H1 H2 → H2 dd = some (.xd [("by", .int n)]) → E (.ref CS) (some dd) H2 := eo (mkN n) H1 I1.h0 (fun p hp => (I1.pp p hp).2.1) I1.tb h1
      refine ⟨by show 1 ≤ 1000; decide, fun ea hea => ⟨ea, n, rfl, upd_same, h0, h6, fun H3 dd k3 hdd e1 e2 => ⟨rfl, dd, _, e1, e2, ?_, ?_⟩⟩⟩
      · have ne : dd ≠ ea := fun z => by
          rw [z, upd_same] at hdd
          cases hdd
        rw [upd_ne ne] at hdd
        exact hdd
      · have ne : dd ≠ ea := fun z => by
          rw [z, upd_same] at hdd
          cases hdd
        rw [upd_ne ne] at hdd
        refine w dd _ (fun c o e => ?_) upd_same
        have n1 : c ≠ ea := ne_of_none e hea
        have n2 : c ≠ dd := ne_of_none e hdd
        rw [upd_ne n2, del_ne n1]
        exact k3 _ _ n1 (by rw [upd_ne n1]; exact e)
    | _ => exact h1.elim
  | _ => exact h1.elim⟩
/-! ### a method told by the frozen instance (which may raise, or leave by a number), by the owned one (which is changed, its place kept) -/
def spBS (K : PySem.W.Frag) [HasT K] (C CS : Addr) (dx : DXp) (dow : DOp) : Sp := fun vs H Q E => spX K dx vs H Q (EC CS E) ∨ spO K C dow vs H Q E
def dMethOR (C : Addr) (m : Str) (i : Nat) (den : DOp) (dvs : List V) (dal : DA) : DT := fun Γ φ => (∃ ns os S, Γ[i]? = some (.ow (.ins C ns os) S) ∧ m ∉ ns) ∧ dal Γ fun xs Γ1 => (dvs.all isSc) = true ∧
  ∃ ns os p T, Γ1[i]? = some (.ow (.ins C ns os) (p :: T)) ∧ den ns os (xs ++ dvs.map vD) fun ns2 os2 => ∀ T2, φ (.d .non) (Γ1.set i (.ow (.ins C ns2 os2) (p :: T2)))
def dMethBS (C : Addr) (m : Str) (i : Nat) (dx : DXp) (dow : DOp) (dvs : List V) (ψ : Value → Prop) (dal : DA) : DT := fun Γ φ =>
  dMeth C m dx dvs ψ (dVar i) dal Γ φ ∨ dMethOR C m i dow dvs dal Γ φ
instance snd_methBS {C CS : Addr} {m : Str} {i : Nat} {dx : DXp} {dow : DOp} {dvs : List V} [a : Snd K (EC CS E) ψ (tVar i) (dVar i)] [sl : SndA K (EC CS E) ψ al dal] : Snd K (EC CS E) ψ (tMeth C m (spBS K C CS dx dow) dvs E (tVar i) al) (dMethBS C m i dx dow dvs ψ dal) := ⟨fun {c F H σ Γ φ Q} I eo h q => by
  rcases h with h | h
  · refine a.frz (φ := fun _ _ => True) (k := fun x Γ1 => (∃ ns xs, x = .ins C ns xs ∧ lookN ns xs m = none) ∧ dal Γ1 fun ys Γ2 => (dvs.all isSc) = true ∧ dx (x :: (ys ++ dvs.map vD)) (fun e => φ e Γ2) ψ) I eo h fun F1 H1 w x Γ1 I1 s1 rp h1 => ?_
    obtain ⟨⟨ns, xs, rfl, hl⟩, h1⟩ := h1
    cases id rp with
    | @ins a _ dx fs _ _ e en rs =>
      subst en
      refine ⟨a, dx, fs, rfl, I1.fh _ _ e, (look_fs rs).2 hl, ?_⟩
      refine sl.run I1 eo h1 fun F2 H2 vs ys Γ2 I2 s2 r2 h2 => ?_
      exact .inl (call_run I2 eo (.cons (rp.mono s2) (r2.app (Reps.scs h2.1))) h2.2 fun F3 H3 v e I3 s3 r3 p => q F3 H3 v e Γ2 I3 ((s1.trans s2).trans s3) r3 p)
  · obtain ⟨⟨ns0, os0, S0, g0, hm⟩, h⟩ := h
    obtain ⟨v, hv, hh0⟩ := I.at_ i _ g0 (fun z => nomatch z)
    obtain ⟨p, T0, eS, ev⟩ := ow_hd hh0.1
    subst ev eS
    refine ⟨_, hv, ?_⟩
    obtain ⟨dx, fs, hp, hl⟩ : ∃ dx fs, H p = some (.ins C dx fs) ∧ fs.lookup m = none := by
      have z := hh0.1
      cases z with
      | ins _ e1 e2 _ => exact ⟨_, _, e1, lookup_none (by rw [e2]; exact hm)⟩
    refine ⟨p, dx, fs, rfl, hp, hl, ?_⟩
    refine sl.run I eo h fun F1 H1 vs xs Γ1 I1 s1 r1 h1 => ?_
    obtain ⟨hsc, ns, os, p1, T1, g, h1⟩ := h1
    obtain ⟨v', hv', hh⟩ := I1.at_ i _ g (fun z => nomatch z)
    rw [hv] at hv'
    cases hv'
    cases ow_ins hh.1
    refine .inr ⟨p, vs ++ dvs, F1, T1, ns, os, xs ++ dvs.map vD, _, rfl, hh.1, hh.2.1, I1.fh, I1.fn, I1.tb, r1.app (Reps.scs hsc), h1, fun F' H' ns' os' T' sf k tb fh fn nw h2 hφ => ?_⟩
    exact q F' H' .non (.d .non) _ (I1.calledO g hv sf k tb fh fn nw h2) (s1.trans sf) (Res.d .non) (hφ T')⟩
/-! ### x(lambda: body), x a def that tells by a word what the call raised, and the number with it -/
def TTs (CS : Addr) (okw : Str) : (XK → Hp → VK → Prop) → Hp → VK → Prop := fun tl H Q => tl (fun cls d H' => cls = .ref CS ∧ ∃ (dd : Addr) (n : Int), d = some dd ∧ H' dd = some (.xd [("by", .int n)]) ∧ ∀ t H'', Same H' H'' → H'' t = some (.tup [.str "short", .int n]) → Q (.ref t) H'') H (fun _ H' => Q (.str okw) H')
def TTwhyS (wo : Value → Str → Prop) (okw : Str) (CS : Addr) : (XK → Hp → VK → Prop) → Hp → VK → Prop := fun tl H Q => TTwhy wo okw tl H Q ∨ TTs CS okw tl H Q
class WoRef (wo : Value → Str → Prop) : Prop where
  r : ∀ C w, wo C w → ∃ a, C = .ref a
def dWhyS (i : Nat) (wo : Value → Str → Prop) (okw : Str) (den : (Value → Prop) → DT) : DT := fun Γ φ => ∃ o S, Γ[i]? = some (.ow o S) ∧
  ((∃ ψ : Value → Prop, (∀ C, ψ C → ∃ w, wo C w ∧ φ (.d (.str w)) Γ) ∧ den ψ ((Γ.map onlyE).set i (.d o.dt)) fun _ _ => φ (.d (.str okw)) Γ) ∨
    (den (fun _ => False) ((Γ.map onlyE).set i (.ow o S)) fun _ Γ2 => ∃ o2 S2, Γ2[i]? = some (.ow o2 S2) ∧ φ (.d (.str okw)) (Γ.set i (.ow o2 S2))) ∨
    ∃ n, (den (fun C => C = mkN n) ((Γ.map onlyE).set i (.d o.dt)) fun _ _ => False) ∧ φ (.d (.tup [.str "short", .int n])) Γ)
theorem EC_ref {CS a : Addr} {E : XK} {H : Hp} (h : E (.ref a) none H) : EC CS E (.ref a) none H := h
instance snd_lamS {i : Nat} {wo : Value → Str → Prop} {okw : Str} {CS : Addr} {t : XK → TE} {den : (Value → Prop) → DT} [wr : WoRef wo] [s : ∀ E' ψ', Snd K (EC CS E') ψ' (t E') (den ψ')] : Snd K E ψ (tLamB i (LamX.tLam (HasT.T K) (TTwhyS wo okw CS) t)) (dWhyS i wo okw den) := ⟨fun {c F H σ Γ φ Q} I eo h q => by
  obtain ⟨o, S, g, h⟩ := h
  refine ⟨I.tb, fun H1 ex tb1 => ?_⟩
  have sh : NS H H1 := fun b o n e => ex b o e n
  have bk : ∀ {H2 : Hp}, NS H1 H2 → TbOk K H2 → Is c F H2 σ Γ := fun {H2} s2 t2 => I.growN (Same.refl F) (sh.trans s2) t2 (fun a o e => s2 a o (I.fn a o e) (sh a o (I.fn a o e) (I.fh a o e))) I.fn fun a o e => .inl e
  have I1 : Is c F H1 σ Γ := bk (NS.refl H1) tb1
  rcases h with ⟨ψ', h1, h2⟩ | h2 | ⟨n, h2, h3⟩
  · refine .inl ?_
    obtain ⟨v, hv, I0, r⟩ := I1.resOf g (fun z => nomatch z)
    obtain ⟨I2, s1, rep⟩ := I0.moreS r.1.1 r.1.2.2 r.2.2
    have J := (I2.only (NS.refl H1) I2.tb).set (v := v) (e := .d o.dt) (Res.d rep) i
    rw [set_same hv, List.map_set, List.set_set] at J
    refine (s _ ψ').run J (fun C H' k _ t2 z => ?_) h2 fun F2 H2 v e Γ2 I3 _ _ z => ?_
    · obtain ⟨w, hw, hφ⟩ := h1 C z
      obtain ⟨a, rfl⟩ := wr.r C w hw
      exact EC_ref ⟨w, hw, q F H' _ _ Γ (bk (fun b o n e => k b o (fun z => nomatch z) (ntH_of e n)) t2) (Same.refl F) (Res.d (.str w)) hφ⟩
    · exact q F H2 _ _ Γ (bk (fun b o n e => I3.h0 b o (fun z => nomatch z) (ntH_of e n)) I3.tb) (Same.refl F) (Res.d (.str okw)) z
  · refine .inl ?_
    obtain ⟨v, hv, hh⟩ := I1.at_ i _ g (fun z => nomatch z)
    refine (s _ fun _ => False).run (I1.onlyO g) (fun _ _ _ _ _ z => z.elim) h2 fun F2 H2 v2 e Γ2 I3 s3 _ z => ?_
    obtain ⟨o2, S2, g2, z⟩ := z
    obtain ⟨v3, hv3, hh3⟩ := I3.at_ i _ g2 (fun z => nomatch z)
    rw [hv] at hv3
    cases hv3
    exact q F2 H2 _ _ _ (I1.calledO g hv s3 (fun a u n nt e => I3.h0 a u (fun z => nomatch z) (by show (if a ∈ S then none else ntH H1 a) = some u; rw [if_neg n]; exact ntH_of e nt)) I3.tb I3.fh I3.fn I3.nw hh3) s3 (Res.d (.str okw)) z
  · refine .inr ?_
    obtain ⟨v, hv, I0, r⟩ := I1.resOf g (fun z => nomatch z)
    obtain ⟨I2, s1, rep⟩ := I0.moreS r.1.1 r.1.2.2 r.2.2
    have J := (I2.only (NS.refl H1) I2.tb).set (v := v) (e := .d o.dt) (Res.d rep) i
    rw [set_same hv, List.map_set, List.set_set] at J
    refine (s _ _).run J (fun C H' k _ t2 z => ?_) h2 fun F2 H2 v e Γ2 I3 _ _ z => z.elim
    subst z
    intro dd H3 sm e3
    refine ⟨rfl, dd, n, rfl, e3, fun t H4 sm4 e4 => ?_⟩
    have sm5 := sm.trans sm4
    have I5 : Is c F H4 σ Γ := bk (fun b o n e => sm5 b o (k b o (fun z => nomatch z) (ntH_of e n))) (t2.ext sm5)
    exact q _ H4 (.ref t) (.d (.tup [.str "short", .int n])) Γ I5.tups tupF_same (Res.d (.tup (tupF_at I5.fh e4) (.cons (.str _) (.cons (.int _) .nil)))) h3⟩
end
end Da
namespace HmT
open PySem PySem.Spec PyProof.Rows L2
section
variable {X : Cx} {x n : Str} {c : Value} {i : Nat} {body suite : List Stmt} {b₀ : Stmt} {np pos pos' : Pos} {rest : List ExceptHandler} {tb : WX → TS} {ts : Addr → Value → Option Addr → TS}
end
end HmT

set_option Elab.async false
set_option maxRecDepth 100000
set_option maxHeartbeats 4000000
set_option linter.all false
/-! a def that is given a pen, an instance and a dict, and changes all three -/
namespace Da
open PySem PySem.Spec PyProof.Rows L2 RZ HmS
section
variable {K : PySem.W.Frag} [HasT K]
def cZ (K : PySem.W.Frag) (F H : Hp) (p : Addr) (S : List Addr) : Ct K := ⟨F, fun a => if a ∈ S then none else ntH H a, some p, none, fun _ _ e => nomatch e⟩
/-- what is told: a truth value; the instance, the dict as they stand then -/
abbrev DZp := List Str → List O → List (List Key) → List D → D → (Bool → List Str → List O → List (List Key) → List D → Prop) → Prop
def spZ (K : PySem.W.Frag) [HasT K] (C : Addr) (den : DZp) : Sp := fun vs H Q _ => ∃ (p q m : Addr) (v : V) (F : Hp) (T : List Addr) (ns : List Str) (os : List O) (ks : List (List Key)) (ds : List D) (x : D) (φ : Bool → List Str → List O → List (List Key) → List D → Prop),
  vs = [.ref p, .ref q, .ref m, v] ∧ F p = none ∧ PenAt H p ∧ p ∉ m :: q :: T ∧ Ow F H (q :: T) (.ref q) (.ins C ns os) ∧ (m :: q :: T).Nodup ∧ Ow F H [m] (.ref m) (.dT ks (ds.map .d)) ∧ Same F H ∧ FN F ∧ TbOk K H ∧ Rep F v x ∧ den ns os ks ds x φ ∧
  ∀ F' H' b ns' os' T' ks' ds', Same F F' → (∀ a u, a ∉ m :: q :: T → a ≠ p → NT u → H a = some u → H' a = some u) → PenAt H' p → F' p = none → TbOk K H' → Same F' H' → FN F' → (∀ a u, F' a = some u → F a = some u ∨ Soft (cZ K F H p (m :: q :: T)).H0 a) →
    Held (cZ K F H p (m :: q :: T)) F' H' (.ow (.ins C ns' os') (q :: T')) (.ref q) → Held (cZ K F H p (m :: q :: T)) F' H' (.ow (.dT ks' (ds'.map .d)) [m]) (.ref m) → m ∉ q :: T' → φ b ns' os' ks' ds' → Q (.bl b) H'
theorem ow_dT {F H : Hp} {m : Addr} {v : V} {ks : List (List Key)} {os : List O} (h : Ow F H [m] v (.dT ks os)) : v = .ref m := by
  cases h with
  | dT _ _ _ _ => rfl
/-- all but the places S and the pen grows -/
theorem Is.growZ {c : Ct K} {F F' H H' : Hp} {σ : L2.St} {Γ : List En} {S : List Addr} {i : Nat} {p : Addr} (I : Is c F H σ Γ) (gi : Γ[i]? = some .pen) (si : σ[i]? = some (some (.ref p))) (free : ∀ a ∈ S, c.H0 a = none ∧ Not σ Γ a ∧ ∀ vs, H a ≠ some (.tup vs)) (sf : Same F F') (k : ∀ a u, a ∉ S → a ≠ p → NT u → H a = some u → H' a = some u) (tb : TbOk K H') (pen : PenAt H' p)
    (fh : Same F' H') (fn : FN F') (nw : ∀ a u, F' a = some u → F a = some u ∨ a ∈ S ∨ Soft (ntH H) a) : Is c F' H' σ Γ := by
  obtain ⟨v, hv, p', ev, pf, ph0, pp⟩ := I.at_ i .pen gi (fun z => nomatch z)
  rw [si] at hv
  cases hv
  cases ev
  have pS : p ∉ S := fun m => (free p m).2.1 i .pen _ gi si rfl
  have qS : ∀ q, c.pn = some q → q ∉ S := fun q h m => (I.pp q h).2.2 (free q m).1
  have nf : ∀ a, a ∉ S → F a = none → ¬ Soft (ntH H) a → F' a = none := fun a n h1 h2 => by
    cases q : F' a with
    | none => rfl
    | some o =>
      rcases nw a o q with z | z | z
      · rw [h1] at z
        cases z
      · exact absurd z n
      · exact absurd z h2
  have same : ∀ a o, a ∉ S → a ≠ p → H a = some o → Plainly o → H' a = H a := fun a o n n2 h pl => by
    rw [h]
    exact k a o n n2 pl.1 h
  refine ⟨I.f0.trans sf, fh, fun a o h => ?_, fun a o q h => ?_, fun q h => ?_, I.len, fun j e h n => ?_, I.dis, fn, tb, I.hn⟩
  · rcases nw a o h with z | z | z
    · exact I.nw a o z
    · exact .inr (.inl (free a z).1)
    · exact .inr (I.soft z)
  · by_cases z : a = p
    · subst z
      rcases ph0 with w | w
      · rw [w] at h
        cases h
      · exact absurd w q
    · exact k a o (fun m => by rw [(free a m).1] at h; cases h) z (I.hn a o h) (I.h0 a o q h)
  · obtain ⟨h1, h2, h3⟩ := I.pp q h
    obtain ⟨u, h4, h5⟩ := h2.pl
    refine ⟨nf q (qS q h) h1 (fun z => h2.hard (z.elim (fun w => by rw [ntH_of h4 h5.1] at w; cases w) fun ⟨vs, w⟩ => .inr ⟨vs, (ntH_some w).1⟩)), ?_, h3⟩
    by_cases z : q = p
    · rw [z]
      exact pen
    · exact h2.of (same q u (qS q h) z h4 h5)
  · obtain ⟨v, h1, h2⟩ := I.at_ j e h n
    have nS : ∀ a, Adr e v a → a ∉ S := fun a x m => (free a m).2.1 j e v h h1 x
    refine ⟨v, h1, h2.grow sf (fun a x => ?_) (fun a x => ?_) (fun a vs e => k a _ (fun m => (free a m).2.2 vs e) (fun z => pp.hard (.inr ⟨vs, by rw [← z]; exact e⟩)) (nt_tup vs) e)⟩
    · obtain ⟨_, _, u, q, pl⟩ := h2.adr x
      by_cases z : a = p
      · subst z
        by_cases ij : j = i
        · subst ij
          rw [gi] at h
          cases h
          exact .inr ⟨rfl, pen⟩
        · exact (I.dis j i a e .pen v _ ij h gi h1 si x rfl).elim
      · exact .inl (same a u (nS a x) z q pl)
    · obtain ⟨q1, q2, _⟩ := h2.adr x
      exact nf a (nS a x) q1 q2
/-- a dict of a slot's own, as a tree -/
theorem Is.asT {c : Ct K} {F H : Hp} {σ : L2.St} {Γ : List En} {i : Nat} {ks : List (List Key)} {ds : List D} (I : Is c F H σ Γ) (g : Γ[i]? = some (.dT ks ds)) : ∃ m, σ[i]? = some (some (.ref m)) ∧ F m = none ∧ c.H0 m = none ∧ Ow F H [m] (.ref m) (.dT ks (ds.map .d)) ∧ Is c F H σ (Γ.set i .no) ∧ Not σ (Γ.set i .no) m := by
  obtain ⟨v, hv, I1, r⟩ := I.resOf g (fun z => nomatch z)
  obtain ⟨a, kvs, rfl, f, h0, ha, ek, rs⟩ := r.1
  exact ⟨a, hv, f, h0, .dT f ha ek (.of rs), I1, r.2.2 a rfl⟩
/-- f(pen, instance, dict, x) -/
def dCallZ (C : Addr) (ip iq im ix : Nat) (den : DZp) : DT := fun Γ φ => ip ≠ iq ∧ ip ≠ im ∧ iq ≠ im ∧ Γ[ip]? = some .pen ∧ ∃ ns os S ks ds x, Γ[iq]? = some (.ow (.ins C ns os) S) ∧ Γ[im]? = some (.dT ks ds) ∧ Γ[ix]? = some (.d x) ∧ den ns os ks ds x fun b ns2 os2 ks2 ds2 => ∀ q T2, φ (.d (.bl b)) ((Γ.set iq (.ow (.ins C ns2 os2) (q :: T2))).set im (.dT ks2 ds2))
variable {E : XK} {ψ : Value → Prop}
instance snd_callZ {C : Addr} {ip iq im ix : Nat} {den : DZp} {E' : XK} : Snd K E ψ (tCall (spZ K C den) [] E' (tCons (tVar ip) (tCons (tVar iq) (tCons (tVar im) (tCons (tVar ix) tNil))))) (dCallZ C ip iq im ix den) := ⟨fun {c F H σ Γ φ Q} I eo h q => by
  obtain ⟨n1, n2, n3, gp, ns, os, S, ks, ds, x, gq, gm, gx, h⟩ := h
  obtain ⟨v, hvp, p, rfl, fp, h0p, pa⟩ := I.at_ ip _ gp (fun z => nomatch z)
  obtain ⟨vx, hvx, rx⟩ := I.at_ ix _ gx (fun z => nomatch z)
  obtain ⟨vq, hvq, I1, r⟩ := I.resOf gq (fun z => nomatch z)
  obtain ⟨a, T, eS, ev⟩ := ow_hd r.1.1
  subst eS ev
  have gm1 : (Γ.set iq .no)[im]? = some (.dT ks ds) := by rw [List.getElem?_set_ne n3]; exact gm
  obtain ⟨m, hvm, fm, h0m, od, I2, nm⟩ := I1.asT gm1
  have gp2 : ((Γ.set iq .no).set im .no)[ip]? = some .pen := by rw [List.getElem?_set_ne n2.symm, List.getElem?_set_ne n1.symm]; exact gp
  have mT : m ∉ a :: T := fun z => r.2.2 m z im _ _ gm1 hvm rfl
  have free : ∀ b ∈ m :: a :: T, c.H0 b = none ∧ Not σ ((Γ.set iq .no).set im .no) b := fun b z => by
    rcases List.mem_cons.mp z with z | z
    · rw [z]
      exact ⟨h0m, nm⟩
    · exact ⟨r.1.2.2 b z, (r.2.2 b z).forget im⟩
  have np : p ∉ m :: a :: T := fun z => (free p z).2 ip _ _ gp2 hvp rfl
  refine ⟨_, hvp, _, hvq, _, hvm, _, hvx, ?_⟩
  refine ⟨p, a, m, vx, F, T, ns, os, ks, ds, x, _, rfl, fp, pa, np, r.1.1, List.nodup_cons.mpr ⟨mT, r.1.2.1⟩, od, I.fh, I.fn, I.tb, rx, h, fun F' H' b ns' os' T' ks' ds' sf k pen' fp' tb fh fn nw hh1 hh2 nm' hφ => ?_⟩
  have H0n : ∀ {b : Addr}, (cZ K F H p (m :: a :: T)).H0 b = none → c.H0 b = none ∧ Not σ ((Γ.set iq .no).set im .no) b := fun {b} z => by
    have z : (if b ∈ (m :: a :: T) then none else ntH H b) = none := z
    split at z
    · rename_i w
      exact free b w
    · exact ⟨I2.unN z, I2.freshN z⟩
  have I3 := I2.growZ (S := m :: a :: T) gp2 hvp (fun b z => ⟨(free b z).1, (free b z).2, fun vs e => by
    have : ∃ u, H b = some u ∧ ∀ vs, u ≠ .tup vs := by
      rcases List.mem_cons.mp z with z | z
      · obtain ⟨_, u, e2, _, n⟩ := od.at b (by rw [z]; exact List.mem_cons_self)
        exact ⟨u, e2, n⟩
      · obtain ⟨_, u, e2, _, n⟩ := r.1.1.at b z
        exact ⟨u, e2, n⟩
    obtain ⟨u, e2, n⟩ := this
    rw [e2] at e
    cases e
    exact n vs rfl⟩) sf k tb pen' fh fn (fun b u e => (nw b u e).imp id fun z => by
      by_cases w : b ∈ m :: a :: T
      · exact .inl w
      · refine .inr ?_
        rcases z with z | ⟨vs, z⟩
        · have z : (if b ∈ m :: a :: T then none else ntH H b) = none := z
          rw [if_neg w] at z
          exact .inl z
        · have z : (if b ∈ m :: a :: T then none else ntH H b) = some (.tup vs) := z
          rw [if_neg w] at z
          exact .inr ⟨vs, z⟩)
  have I4 := I3.set (v := .ref a) (e := .ow (.ins C ns' os') (a :: T')) ⟨⟨hh1.1, hh1.2.1, fun b w => (H0n (hh1.2.2 b w)).1⟩, (fun z => nomatch z), fun b w => (H0n (hh1.2.2 b w)).2⟩ iq
  rw [set_same hvq] at I4
  have gq4 : ∀ {e : En}, (((Γ.set iq .no).set im .no).set iq (.ow (.ins C ns' os') (a :: T')))[iq]? = some e → e = .ow (.ins C ns' os') (a :: T') := fun {e} g => by
    rw [List.getElem?_set] at g
    rw [if_pos rfl] at g
    split at g
    · exact (Option.some.inj g).symm
    · cases g
  have hm : ∃ kvs : List (List Key × V), F' m = none ∧ H' m = some (.dT kvs) ∧ kvs.map (·.1) = ks' ∧ Reps F' (kvs.map (·.2)) ds' := by
    have z := hh2.1
    cases z with
    | @dT S3 _ kvs _ _ f2 em ek er => exact ⟨kvs, f2, em, ek, (Ows.ds er).2⟩
  obtain ⟨kvs, f2, em, ek, er⟩ := hm
  have I5 := I4.set (v := .ref m) (e := .dT ks' ds') ⟨⟨m, kvs, rfl, f2, h0m, em, ek, er⟩, (fun z => nomatch z), fun b w => by
    have w : V.ref m = V.ref b := w
    cases w
    intro j e' v' g s x
    by_cases ji : j = iq
    · subst ji
      have := gq4 g
      subst this
      exact nm' x
    · rw [List.getElem?_set_ne (fun z => ji z.symm)] at g
      exact (free m List.mem_cons_self).2 j e' v' g s x⟩ im
  rw [set_same hvm, List.set_comm _ _ (fun z => n3 z.symm), List.set_set, List.set_set] at I5
  exact q F' H' (.bl b) (.d (.bl b)) _ I5 sf (Res.d (.bl b)) (hφ a T')⟩
/-! ### a dict that a slot owns as a tree: d[k] = e -/
def sDPutO (i : Nat) (ty tv : TE) : TS := sDPut (tVar i) ty tv
def dOPut (i : Nat) (dj da : DT) : DSt := fun Γ P => da Γ fun e Γ1 => wf e fun x => (∃ (ks : List (List Key)) (ds : List D) (m : Addr), Γ1[i]? = some (.ow (.dT ks (ds.map O.d)) [m])) ∧ dj Γ1 fun e' Γ2 => wf e' fun y => ∃ (ks : List (List Key)) (ds : List D) (m : Addr) (k : List Key), Γ2[i]? = some (.ow (.dT ks (ds.map O.d)) [m]) ∧ keysOf y = some k ∧ ks.length ≤ 100000 ∧ P.nx (Γ2.set i (.ow (.dT (putTs ks k) ((putTD ks ds k x).map O.d)) [m]))
variable {ta tb : TE} {da db : DT}
instance snds_oput {i : Nat} [a : Snd K E ψ ta da] [b : Snd K E ψ tb db] : SndS K E ψ (sDPutO i tb ta) (dOPut i db da) := ⟨fun {c F H σ Γ P DD} I eo h m => by
  refine a.frz (φ := fun _ _ => True) (k := fun x Γ1 => (∃ (ks : List (List Key)) (ds : List D) (m : Addr), Γ1[i]? = some (.ow (.dT ks (ds.map O.d)) [m])) ∧ db Γ1 fun e' Γ2 => wf e' fun y => ∃ (ks : List (List Key)) (ds : List D) (m : Addr) (k : List Key), Γ2[i]? = some (.ow (.dT ks (ds.map O.d)) [m]) ∧ keysOf y = some k ∧ ks.length ≤ 100000 ∧ P.nx (Γ2.set i (.ow (.dT (putTs ks k) ((putTD ks ds k x).map O.d)) [m]))) I eo h fun F1 H1 w x Γ1 I1 s1 rp h1 => ?_
  obtain ⟨⟨ks0, ds0, m0, g⟩, h1⟩ := h1
  obtain ⟨v, hv, hh0⟩ := I1.at_ i _ g (fun z => nomatch z)
  refine ⟨v, hv, ?_⟩
  refine b.frz (φ := fun _ _ => True) (k := fun y Γ2 => ∃ (ks : List (List Key)) (ds : List D) (m : Addr) (k : List Key), Γ2[i]? = some (.ow (.dT ks (ds.map O.d)) [m]) ∧ keysOf y = some k ∧ ks.length ≤ 100000 ∧ P.nx (Γ2.set i (.ow (.dT (putTs ks k) ((putTD ks ds k x).map O.d)) [m]))) I1 eo h1 fun F2 H2 u y Γ2 I2 s2 ry h2 => ?_
  obtain ⟨ks, ds, p, k, g2, hy, hl, h2⟩ := h2
  obtain ⟨v', hv', hh⟩ := I2.at_ i _ g2 (fun z => nomatch z)
  rw [hv] at hv'
  cases hv'
  cases ow_dT hh.1
  have z := hh.1
  cases z with
  | @dT S3 _ kvs _ _ fp em ek er =>
    have rs := (Ows.ds er).2
    have ll : kvs.length = ks.length := by rw [← ek, List.length_map]
    obtain ⟨k1, k2⟩ := putT_rep (rp.mono s2) ek rs (j := k)
    obtain ⟨b, rfl, hb⟩ := keysOf_rep ry hy
    refine ⟨p, _, rfl, DPut.t (k := k) em (I2.fh _ _ hb) (by rw [ll]; exact Nat.lt_of_le_of_lt hl (by decide)), ?_⟩
    exact m.nx _ _ _ _ (I2.chgO (o' := .dT (putTs ks k) ((putTD ks ds k x).map .d)) (S' := [p]) g2 hv (List.mem_singleton.mpr rfl) (.dT fp upd_same k1 (.of k2)) (by simp) fun a w => .inl w) h2⟩
/-! ### tests that look at what slots own: beside a pen, at two at once -/
variable {tt : TT} {dtt : DB}
def tBrwPT (_ _ : Nat) (tt : TT) : TT := tt
def dBrwPT (ip i : Nat) (dtt : DB) : DB := fun Γ φ => ∃ o S, ip ≠ i ∧ Γ[ip]? = some .pen ∧ Γ[i]? = some (.ow o S) ∧ dtt (((Γ.map onlyE).set i (.d o.dt)).set ip .pen) fun b _ => φ b Γ
theorem Is.withPen {F H : Hp} {σ : L2.St} {Γ : List En} {ip : Nat} {p : Addr} (J : Is (c0 K F H) F H σ Γ) (hp : σ[ip]? = some (some (.ref p))) (fp : F p = none) (pa : PenAt H p) : Is (cP K F H p) F H σ (Γ.set ip .pen) := by
  have n0 : ntH H p ≠ none := by
    obtain ⟨u, hu, pl⟩ := pa.pl
    rw [ntH_of hu pl.1]
    exact fun z => nomatch z
  have il : ip < Γ.length := by rw [← J.len]; exact (List.getElem?_eq_some_iff.mp hp).1
  have here : (Γ.set ip .pen)[ip]? = some .pen := List.getElem?_set_self il
  have other : ∀ (j : Nat) (e : En) (v : V) (a : Addr), j ≠ ip → (Γ.set ip .pen)[j]? = some e → σ[j]? = some (some v) → Adr e v a → a ≠ p := fun j e v a n g s x z => by
    rw [List.getElem?_set_ne (fun z => n z.symm)] at g
    obtain ⟨v', hv', hh⟩ := J.at_ j e g (adr_no x)
    rw [s] at hv'
    cases hv'
    subst z
    rcases hh.h0 x with w | w
    · exact n0 w
    · exact nomatch w.2
  refine ⟨J.f0, J.fh, J.nw, fun a o _ e => J.h0 a o (fun z => nomatch z) e, fun q e => ?_, by rw [List.length_set]; exact J.len, fun j e g n => ?_, fun i j a e e' v v' ij g g' s s' o o' => ?_, J.fn, J.tb, J.hn⟩
  · cases e
    exact ⟨fp, pa, n0⟩
  · by_cases ji : j = ip
    · subst ji
      rw [here] at g
      cases g
      exact ⟨_, hp, p, rfl, fp, .inr rfl, pa⟩
    · rw [List.getElem?_set_ne (fun z => ji z.symm)] at g
      obtain ⟨v, hv, hh⟩ := J.at_ j e g n
      exact ⟨v, hv, hh.to (fun a x => ⟨fun z => z, fun z => nomatch z⟩) (fun _ z => nomatch z)⟩
  · have pen_at : ∀ (j : Nat) (e : En) (v : V) (a : Addr), j = ip → (Γ.set ip .pen)[j]? = some e → σ[j]? = some (some v) → Adr e v a → a = p := fun j e v a z g s x => by
      subst z
      rw [here] at g
      cases g
      rw [hp] at s
      cases s
      have x : V.ref p = V.ref a := x
      cases x
      rfl
    by_cases ji : i = ip
    · by_cases jj : j = ip
      · exact ij (ji.trans jj.symm)
      · exact other j e' v' a jj g' s' o' (pen_at i e v a ji g s o)
    · by_cases jj : j = ip
      · exact other i e v a ji g s o (pen_at j e' v' a jj g' s' o')
      · rw [List.getElem?_set_ne (fun z => ji z.symm)] at g
        rw [List.getElem?_set_ne (fun z => jj z.symm)] at g'
        exact J.dis i j a e e' v v' ij g g' s s' o o'
instance snd_brwPT {ip i : Nat} [s : SndT K E (fun _ => False) tt dtt] : SndT K E (fun _ => False) (tBrwPT ip i tt) (dBrwPT ip i dtt) := ⟨fun {c F H σ Γ φ Q} I eo h q => by
  obtain ⟨o, S, ne, gp, g, h⟩ := h
  obtain ⟨v, hvp, p, rfl, fp, h0p, pa⟩ := I.at_ ip _ gp (fun z => nomatch z)
  obtain ⟨v, hv, I0, r⟩ := I.resOf g (fun z => nomatch z)
  obtain ⟨I1, s1, rep⟩ := I0.moreS r.1.1 r.1.2.2 r.2.2
  have pS : p ∉ S := fun z => r.2.2 p z ip .pen _ (by rw [List.getElem?_set_ne (fun z => ne z.symm)]; exact gp) hvp rfl
  have fp1 : frzF F H S p = none := by
    unfold frzF
    rw [if_neg pS]
    cases q : tupF F H p with
    | none => rfl
    | some u =>
      rcases tupF_of q with z | ⟨⟨vs, z⟩, z2⟩
      · rw [fp] at z
        cases z
      · subst z
        exact (pa.hard (.inr ⟨vs, z2⟩)).elim
  have J := (I1.only (NS.refl H) I1.tb).set (v := v) (e := .d o.dt) (Res.d rep) i
  rw [set_same hv, List.map_set, List.set_set] at J
  refine s.run (J.withPen hvp fp1 pa) (fun _ _ _ _ _ z => z.elim) h fun F2 H2 b Γ2 I2 _ z => ?_
  have k : ∀ a u, a ≠ p → NT u → H a = some u → H2 a = some u := fun a u n nt e => I2.h0 a u (fun z => n (Option.some.inj z).symm) (ntH_of e nt)
  exact q F H2 b Γ (I.growP gp hvp (Same.refl F) k I2.tb (I2.pp p rfl).2.1 (fun a u e => k a u (fun z => by rw [z, fp] at e; cases e) (I.fn a u e) (I.fh a u e)) I.fn fun a o e => .inl e) (Same.refl F) z⟩
def tBrwT2 (_ _ : Nat) (tt : TT) : TT := tt
theorem pt_brw2 {X : Cx} {e : Expr} {tt : TT} (i j : Nat) (h : PT X e tt) : PT X e (tBrwT2 i j tt) := h
def dBrwT2 (i j : Nat) (dtt : DB) : DB := fun Γ φ => ∃ o S e x, i ≠ j ∧ Γ[i]? = some (.ow o S) ∧ Γ[j]? = some e ∧ e.frz = some x ∧ dtt (((Γ.map onlyE).set i (.d o.dt)).set j (.d x)) fun b _ => φ b Γ
instance snd_brwT2 {i j : Nat} [s : SndT K E ψ tt dtt] : SndT K E ψ (tBrwT2 i j tt) (dBrwT2 i j dtt) := ⟨fun {c F H σ Γ φ Q} I eo h q => by
  obtain ⟨o, S, e, x, ne, g, gj, ex, h⟩ := h
  obtain ⟨v, hv, I0, r⟩ := I.resOf g (fun z => nomatch z)
  obtain ⟨I1, s1, rep⟩ := I0.moreS r.1.1 r.1.2.2 r.2.2
  have gj1 : (Γ.set i .no)[j]? = some e := by rw [List.getElem?_set_ne ne]; exact gj
  obtain ⟨F2, u, hu, I2, s2, ru⟩ := I1.frzSlot gj1 ex
  have J := (I2.only (NS.refl H) I2.tb).set (v := v) (e := .d o.dt) (Res.d (rep.mono s2)) i
  rw [set_same hv, List.map_set, List.map_set, List.set_comm _ _ (fun z => ne z.symm), List.set_set] at J
  refine s.run J (EOk.low I eo) h fun F3 H3 b Γ2 I3 _ z => ?_
  have sh : NS H H3 := fun b u n e2 => I3.h0 b u (fun z => nomatch z) (ntH_of e2 n)
  exact q F H3 b Γ (I.growN (Same.refl F) sh I3.tb (fun a o e => sh a o (I.fn a o e) (I.fh a o e)) I.fn fun a o e => .inl e) (Same.refl F) z⟩
/-! ### a, b = x, y by way of a tuple: what x made stays owned -/
def tAsgP (K : PySem.W.Frag) (i j : Nat) (ta tb : TE) (_ : Ign i tb) : TS := tAsg (tTup (tCons ta (tCons tb tNil))) (gTup K 2 (gCons (gName i) (gCons (gName j) gNil)))
instance snds_asgP {i j : Nat} {g : Ign i tb} [a : Snd K E ψ ta da] [b : Snd K E ψ tb db] : SndS K E ψ (tAsgP K i j ta tb g) (dParS i j da db) := ⟨fun {c F H σ Γ P D} I eo h m => by
  refine a.run (φ := fun e Γ1 => db (Γ1.set i e) fun e' Γ2 => P.nx (Γ2.set j e')) I eo h fun F1 H1 v e Γ1 I1 s1 r1 h1 => ?_
  refine g σ v H1 _ ?_
  exact b.run (φ := fun e' Γ2 => P.nx (Γ2.set j e')) (I1.set r1 i) eo h1 fun F2 H2 w e' Γ2 I2 s2 r2 h2 => ⟨by show 2 ≤ sizeLine; decide, fun p hp => ⟨p, [v, w], rfl, SqT.of upd_same, rfl, v, [w], rfl, w, [], rfl, rfl, m.nx _ _ _ _ ((I2.set r2 j).newH hp) h2⟩⟩⟩
end
end Da

set_option Elab.async false
set_option maxRecDepth 100000
set_option maxHeartbeats 4000000
set_option linter.all false
/-! texts: join, partition, split, f-strings; a star in a display -/
namespace Da
open PySem PySem.Spec PyProof.Rows L2 RZ HmS
section
variable {K : PySem.W.Frag} [HasT K] {E : XK} {ψ : Value → Prop} {te ta tb tx : TE} {da db dx : DT} {al : TA} {dal : DA}
/-- with a text -/
def ws (e : En) (k : Str → Prop) : Prop := match e with
  | .d (.str s) => k s
  | _ => False
theorem ws_of {e : En} {k : Str → Prop} (h : ws e k) : ∃ s, e = .d (.str s) ∧ k s := by
  cases e with
  | d x =>
    cases x with
    | str s => exact ⟨s, rfl, h⟩
    | _ => exact h.elim
  | _ => exact h.elim
/-- the texts of a list or a tuple -/
def wss (e : En) (k : List Str → Prop) : Prop := ∃ ys : List Str, (e.frz = some (.lst (ys.map .str)) ∨ e.frz = some (.tup (ys.map .str))) ∧ k ys
theorem wss_of {c : Ct K} {F H : Hp} {σ : L2.St} {Γ : List En} {v : V} {e : En} (I : Is c F H σ Γ) (r : Res c F H σ Γ v e) {k : List Str → Prop} (h : wss e k) : ∃ F' p ys, v = .ref p ∧ Is c F' H σ Γ ∧ Same F F' ∧ (SqL K H p (ys.map V.str) ∨ SqT K H p (ys.map V.str)) ∧ k ys := by
  obtain ⟨ys, hx, h1⟩ := h
  rcases hx with hx | hx
  · obtain ⟨F2, I2, s2, rp⟩ := r.frz I hx
    cases rp with
    | lst e rs =>
      rw [rs.of_strs] at e
      exact ⟨F2, _, ys, rfl, I2, s2, .inl (SqL.of (I2.fh _ _ e)), h1⟩
  · obtain ⟨F2, I2, s2, rp⟩ := r.frz I hx
    cases rp with
    | tup e rs =>
      rw [rs.of_strs] at e
      exact ⟨F2, _, ys, rfl, I2, s2, .inr (SqT.of (I2.fh _ _ e)), h1⟩
/-- s.join(texts) -/
def rJoin (K : PySem.W.Frag) : V → List V → Hp → VK → Prop := fun x xs H Q => ∃ a p, ∃ ys : List Str, x = .str a ∧ xs = [.ref p] ∧ (SqL K H p (ys.map V.str) ∨ SqT K H p (ys.map V.str)) ∧ (ys.map (·.length)).sum + ys.length * a.length ≤ 16777216 ∧ Q (.str (Txt.join a ys)) H
def tJoin (K : PySem.W.Frag) (ta tb : TE) : TE := tM1 (rJoin K) ta tb
theorem pe_joinK {X : Cx} {o e : Expr} {to te : TE} {apos pos : Pos} (ho : PE X o to) (he : PE X e te) (hs : starEach [e] X.env = [(false, eval e X.env)] := by rfl) (hbase : attributeBase o "join" X.env (eval o X.env) = eval o X.env := by rfl) (hline : (apos.endLine == pos.line) = true := by rfl) (hK : X.K = K := by rfl) :
    PE X (.Call (.Attribute o "join" apos) [e] [] pos) (tJoin K to te) := by
  subst hK
  exact pe_join ho he hs hbase hline
def dJoin (da db : DT) : DT := fun Γ φ => da Γ fun e Γ1 => ws e fun a => db Γ1 fun e' Γ2 => wss e' fun ys => (ys.map (·.length)).sum + ys.length * a.length ≤ 16777216 ∧ φ (.d (.str (Txt.join a ys))) Γ2
instance snd_join [a : Snd K E ψ ta da] [b : Snd K E ψ tb db] : Snd K E ψ (tJoin K ta tb) (dJoin da db) := ⟨fun {c F H σ Γ φ Q} I eo h q => by
  refine a.run I eo h fun F1 H1 v e Γ1 I1 s1 r1 h1 => ?_
  obtain ⟨x, rfl, h1⟩ := ws_of h1
  cases (show Rep F1 v (.str x) from r1.1)
  refine ⟨⟨_, rfl⟩, ?_⟩
  refine b.run I1 eo h1 fun F2 H2 w e' Γ2 I2 s2 r2 h2 => ?_
  obtain ⟨F3, p, ys, rfl, I3, s3, hq, hb, h3⟩ := wss_of I2 r2 h2
  exact ⟨x, p, ys, rfl, rfl, hq, hb, q F3 H2 _ _ Γ2 I3 ((s1.trans s2).trans s3) (Res.d (.str _)) h3⟩⟩
/-- s.partition(t) -/
def rPartn : V → List V → Hp → VK → Prop := fun x xs H Q => ∃ a b, x = .str a ∧ xs = [.str b] ∧ (b.length == 0) = false ∧ a.length ≤ sizeLine ∧ ∀ p, H p = none → Q (.ref p) (upd H p (.tup [.str (Txt.partition a b).1, .str (Txt.partition a b).2.1, .str (Txt.partition a b).2.2]))
def tPartn (ta tb : TE) : TE := tM1 rPartn ta tb
theorem pe_partnK {X : Cx} {o e : Expr} {to te : TE} {apos pos : Pos} (ho : PE X o to) (he : PE X e te) (hs : starEach [e] X.env = [(false, eval e X.env)] := by rfl) (hbase : attributeBase o "partition" X.env (eval o X.env) = eval o X.env := by rfl) (hline : (apos.endLine == pos.line) = true := by rfl) :
    PE X (.Call (.Attribute o "partition" apos) [e] [] pos) (tPartn to te) := pe_partition ho he hs hbase hline
def dPartn (da db : DT) : DT := fun Γ φ => da Γ fun e Γ1 => ws e fun a => db Γ1 fun e' Γ2 => ws e' fun b => (b.length == 0) = false ∧ a.length ≤ 1000000 ∧ φ (.d (.tup [.str (Txt.partition a b).1, .str (Txt.partition a b).2.1, .str (Txt.partition a b).2.2])) Γ2
instance snd_partn [a : Snd K E ψ ta da] [b : Snd K E ψ tb db] : Snd K E ψ (tPartn ta tb) (dPartn da db) := ⟨fun {c F H σ Γ φ Q} I eo h q => by
  refine a.run I eo h fun F1 H1 v e Γ1 I1 s1 r1 h1 => ?_
  obtain ⟨x, rfl, h1⟩ := ws_of h1
  cases (show Rep F1 v (.str x) from r1.1)
  refine ⟨⟨_, rfl⟩, ?_⟩
  refine b.run I1 eo h1 fun F2 H2 w e' Γ2 I2 s2 r2 h2 => ?_
  obtain ⟨y, rfl, hy, hl, h2⟩ := ws_of h2
  cases (show Rep F2 w (.str y) from r2.1)
  refine ⟨x, y, rfl, rfl, hy, Nat.le_trans hl (by decide), fun p hp => ?_⟩
  obtain ⟨I3, s3, _⟩ := I2.new (o := .tup [.str (Txt.partition x y).1, .str (Txt.partition x y).2.1, .str (Txt.partition x y).2.2]) hp
  exact q _ _ _ _ Γ2 I3 ((s1.trans s2).trans s3) (Res.d (.tup upd_same (.cons (.str _) (.cons (.str _) (.cons (.str _) .nil))))) h2⟩
/-! ### f-strings -/
def dFmt (da : DT) : DT := fun Γ φ => da Γ fun e Γ1 => match e with
  | .d (.str y) => y.length ≤ 1000000 ∧ φ (.d (.str y)) Γ1
  | .d (.int i) => i.natAbs.log2 < 1920 ∧ φ (.d (.str (toString i))) Γ1
  | _ => False
instance snd_fmt [a : Snd K E ψ ta da] : Snd K E ψ (tFmt ta) (dFmt da) := ⟨fun {c F H σ Γ φ Q} I eo h q => by
  refine a.run I eo h fun F1 H1 v e Γ1 I1 s1 r1 h1 => ?_
  cases e with
  | d x =>
    cases x with
    | str y =>
      cases (show Rep F1 v (.str y) from r1.1)
      exact .inl ⟨y, rfl, Nat.le_trans h1.1 (by decide), q F1 H1 _ _ Γ1 I1 s1 (Res.d (.str y)) h1.2⟩
    | int i =>
      cases (show Rep F1 v (.int i) from r1.1)
      exact .inr ⟨i, rfl, h1.1, q F1 H1 _ _ Γ1 I1 s1 (Res.d (.str _)) h1.2⟩
    | _ => exact h1.elim
  | _ => exact h1.elim⟩
class SndJ (K : PySem.W.Frag) [HasT K] (E : XK) (ψ : Value → Prop) (ts : List TE) (den : outParam (Str → List En → (Str → List En → Prop) → Prop)) : Prop where
  run : ∀ {c : Ct K} {F H : Hp} {σ : L2.St} {Γ : List En} {acc : Str} {φ : Str → List En → Prop} {Q : Str → Hp → Prop}, Is c F H σ Γ → EOk c E ψ → den acc Γ φ →
    (∀ F' H' out Γ', Is c F' H' σ Γ' → Same F F' → φ out Γ' → Q out H') → tJs ts acc σ H Q
def dJnil : Str → List En → (Str → List En → Prop) → Prop := fun acc Γ φ => φ acc Γ
def dJcons (da : DT) (dj : Str → List En → (Str → List En → Prop) → Prop) : Str → List En → (Str → List En → Prop) → Prop := fun acc Γ φ => da Γ fun e Γ1 => ws e fun y => (acc ++ y).length ≤ 1000000 ∧ dj (acc ++ y) Γ1 φ
instance snd_jnil : SndJ K E ψ [] dJnil := ⟨fun {c F H σ Γ acc φ Q} I eo h q => q F H acc Γ I (Same.refl F) h⟩
instance snd_jcons {ts : List TE} {dj : Str → List En → (Str → List En → Prop) → Prop} [a : Snd K E ψ ta da] [b : SndJ K E ψ ts dj] : SndJ K E ψ (ta :: ts) (dJcons da dj) := ⟨fun {c F H σ Γ acc φ Q} I eo h q => by
  refine a.run I eo h fun F1 H1 v e Γ1 I1 s1 r1 h1 => ?_
  obtain ⟨y, rfl, hl, h1⟩ := ws_of h1
  cases (show Rep F1 v (.str y) from r1.1)
  exact ⟨y, rfl, Nat.le_trans hl (by decide), b.run I1 eo h1 fun F2 H2 out Γ2 I2 s2 h2 => q F2 H2 out Γ2 I2 (s1.trans s2) h2⟩⟩
def tJnd (ts : List TE) : TE := fun σ H Q => tJs ts Str.empty σ H fun out H1 => Q (.str out) H1
theorem pe_jnd {X : Cx} {v1 v2 : Expr} {rest : List Expr} {ts : List TE} {pos : Pos} (h : PJ X (v1 :: v2 :: rest) ts) : PE X (.JoinedStr (v1 :: v2 :: rest) pos) (tJnd ts) := pe_joined h
def dJnd (dj : Str → List En → (Str → List En → Prop) → Prop) : DT := fun Γ φ => dj Str.empty Γ fun out Γ1 => φ (.d (.str out)) Γ1
instance snd_jnd {ts : List TE} {dj : Str → List En → (Str → List En → Prop) → Prop} [b : SndJ K E ψ ts dj] : Snd K E ψ (tJnd ts) (dJnd dj) := ⟨fun {c F H σ Γ φ Q} I eo h q =>
  b.run (φ := fun out Γ1 => φ (.d (.str out)) Γ1) I eo h fun F1 H1 out Γ1 I1 s1 h1 => q F1 H1 _ _ Γ1 I1 s1 (Res.d (.str out)) h1⟩
/-! ### a star in a display -/
def wsq (e : En) (k : List D → Prop) : Prop := ∃ xs : List D, (e.frz = some (.lst xs) ∨ e.frz = some (.tup xs)) ∧ k xs
def dStar (da : DT) (dal : DA) : DA := fun Γ φ => da Γ fun e Γ1 => wsq e fun xs => dal Γ1 fun ys Γ2 => φ (xs ++ ys) Γ2
instance snd_star [a : Snd K E ψ ta da] [b : SndA K E ψ al dal] : SndA K E ψ (StX.tStar K ta al) (dStar da dal) := ⟨fun {c F H σ Γ φ Q} I eo h q => by
  refine a.run I eo h fun F1 H1 v e Γ1 I1 s1 r1 h1 => ?_
  obtain ⟨xs, hx, h1⟩ := h1
  have : ∃ F2 p vs, v = .ref p ∧ Is c F2 H1 σ Γ1 ∧ Same F1 F2 ∧ (SqT K H1 p vs ∨ SqL K H1 p vs) ∧ Reps F2 vs xs := by
    rcases hx with hx | hx
    · obtain ⟨F2, I2, s2, rp⟩ := r1.frz I1 hx
      cases rp with
      | lst e rs => exact ⟨F2, _, _, rfl, I2, s2, .inr (SqL.of (I2.fh _ _ e)), rs⟩
    · obtain ⟨F2, I2, s2, rp⟩ := r1.frz I1 hx
      cases rp with
      | tup e rs => exact ⟨F2, _, _, rfl, I2, s2, .inl (SqT.of (I2.fh _ _ e)), rs⟩
  obtain ⟨F2, p, vs, rfl, I2, s2, hq, rs⟩ := this
  refine ⟨p, vs, rfl, hq, ?_⟩
  exact b.run I2 eo h1 fun F3 H3 us ys Γ3 I3 s3 r3 h3 => q F3 H3 _ _ Γ3 I3 ((s1.trans s2).trans s3) ((rs.mono s3).app r3) h3⟩
/-! ### a constant tuple of the module by its index -/
def KSq (K : PySem.W.Frag) (a : Addr) (vs : List V) : Prop := ∀ H, SqT K H a vs
def tGIx (K : PySem.W.Frag) (a : Addr) (tb : TE) : TE := tOp (rIxT K) (tC (.ref a)) tb
def dGIx (K : PySem.W.Frag) (a : Addr) (db : DT) : DT := fun Γ φ => db Γ fun e Γ1 => wi e fun i => ∃ vs v, KSq K a vs ∧ L2.atI vs i = some v ∧ isSc v = true ∧ φ (.d (vD v)) Γ1
instance snd_gix {a : Addr} [b : Snd K E ψ tb db] : Snd K E ψ (tGIx K a tb) (dGIx K a db) := ⟨fun {c F H σ Γ φ Q} I eo h q => by
  refine b.run I eo h fun F1 H1 w e Γ1 I1 s1 r1 h1 => ?_
  obtain ⟨i, rfl, vs, v, hk, hv, sc, h1⟩ := wi_of h1
  cases (show Rep F1 w (.int i) from r1.1)
  exact ⟨a, vs, i, v, rfl, rfl, hk H1, hv, q F1 H1 v _ Γ1 I1 s1 (Res.d (rep_sc sc)) h1⟩⟩
theorem pe_gix {X : Cx} {x : Str} {a : Addr} {i : Expr} {p pos : Pos} {tb : TE} (hg : Gl X x) (hm : X.mg x = some (.ref a)) (hb : PE X i tb) (hs : PlainIx i) (hd : (x == ("__debug__" : Str)) = false := by decide) (hK : X.K = K := by rfl) : PE X (.Subscript (.Name x p) i pos) (tGIx K a tb) := by
  subst hK
  exact pe_ix ix_tup (pe_glob (v := .ref a) hg hm rfl hd) hb hs
/-! ### truth of a text -/
def tTruS (K : PySem.W.Frag) (ta : TE) : TT := tTru K ta
theorem pt_truS {X : Cx} {a : Expr} {ta : TE} (ha : PE X a ta) (he : ∀ whole, isTrue a X.env whole = (do let v ← whole; standAt a.pos; holding [v] (truthy v)) := by intro _; rfl) (hK : X.K = K := by rfl) : PT X a (tTruS K ta) := pt_tru ha he hK
def dTruS (da : DT) : DB := fun Γ φ => da Γ fun e Γ1 => ws e fun y => y.length ≤ 1000000 ∧ φ ((y.length : Int) != 0) Γ1
instance snd_truS [a : Snd K E ψ ta da] : SndT K E ψ (tTruS K ta) (dTruS da) := ⟨fun {c F H σ Γ φ Q} I eo h q => by
  refine a.run I eo h fun F1 H1 v e Γ1 I1 s1 r1 h1 => ?_
  obtain ⟨y, rfl, hl, h1⟩ := ws_of h1
  cases (show Rep F1 v (.str y) from r1.1)
  exact ⟨_, ⟨Nat.le_trans hl (by decide), rfl⟩, q F1 H1 _ Γ1 I1 s1 h1⟩⟩
theorem pa_starK {X : Cx} {e : Expr} {es : List Expr} {te : TE} {t : TA} {p : Pos} (he : PE X e te) (hr : PA X es t) (hs : starEach (.Starred e p :: es) X.env = (true, eval e X.env) :: starEach es X.env := by rfl) (hK : X.K = K := by rfl) : PA X (.Starred e p :: es) (StX.tStar K te t) := by
  subst hK
  exact StX.pa_star he hr hs
end
end Da

set_option Elab.async false
set_option maxRecDepth 100000
set_option maxHeartbeats 4000000
set_option linter.all false
/-! str of instances by an own __str__ -/
namespace Da
open PySem PySem.Spec PyProof.Rows L2 RZ HmS
section
variable {prog : Program} {w : World} {A : Around} {E : Value → Shared → Prop} {s : Shared} {K : PySem.W.Frag} {a C f : Addr} {ox : Obj} {od : Option Obj}
end
section
variable {X : Cx} {CX : CXT} {C f : Addr} {fd : FuncData} {ps : List Str} {n : Nat} {sp : Sp} {E : XK}
structure OwnStr (K : PySem.W.Frag) (C f : Addr) : Prop where
  str : PySem.W.findIn K (.ref C) "__str__" = some (some (.ref f))
  fn : PySem.W.isFn K (.ref f) = true
def txtK (Q : Str → Hp → Prop) : VK := fun z H2 => ∃ y : Str, z = .str y ∧ Q y H2
def rStrO (C : Addr) (sp : Sp) (E : XK) : List V → Hp → VK → Prop := fun xs H Q => ∃ (a dx : Addr) (fs : List (Str × V)), xs = [.ref a] ∧ H a = some (.ins C dx fs) ∧ sp [.ref a] H (txtK fun y H2 => Q (.str y) H2) E
theorem cl_strO (O : OwnStr X.K C f) (F : FnOk X.prog X.w X.K X.mg X.base CX n f fd ps sp) (hr : Room (n + 2) X.A) (hb : Binds X.K fd ps []) (hx : Passes CX X E) : CallR X (.type "str") (rStrO C sp E) := by
  intro pins s σ H xs us Q I r h
  obtain ⟨a, dx, fs, rfl, ha, q⟩ := h
  cases r with
  | cons r1 r2 =>
    cases r2
    cases r1
    obtain ⟨mA, J, _⟩ := ins_get I.hok ha
    obtain ⟨od, J, _⟩ := J.look
    have r2 : Room n X.A.in1.in1 := hr.in1.in1
    refine PySem.W.kso_call (by have := r2.units; omega) I.kIn J O.str O.fn (wpAny_mono (run_belowL F r2 I.env0.in1.in1 hb hx I (vs := [.ref a]) (.cons rfl .nil) q) (fun v s' z => ?_) fun _ _ z => z)
    obtain ⟨z, H', I', rz, y, rfl, q⟩ := z
    obtain ⟨t, rfl⟩ := rz
    exact ⟨.str y, H', I', ⟨t, rfl⟩, q⟩
structure OwnRepr (K : PySem.W.Frag) (C f : Addr) : Prop where
  repr : PySem.W.findIn K (.ref C) "__repr__" = some (some (.ref f))
  fn : PySem.W.isFn K (.ref f) = true
end
section
variable {K : PySem.W.Frag} [HasT K] {E : XK} {ψ : Value → Prop}
def txtE (φ : Str → Prop) : En → Prop := fun e => ∃ y : Str, e = .d (.str y) ∧ φ y
def dStrO (C : Addr) (k : D → (En → Prop) → Prop) (xs : List D) (φ : En → Prop) : Prop := match xs with
  | [x] => x.isIns C ∧ k x (txtE fun y => φ (.d (.str y)))
  | _ => False
instance snd_strO {C : Addr} {k : D → (En → Prop) → Prop} : SndC K (rStrO C (spX K (sp1 k)) E0) (dStrO C k) := ⟨fun {c F H σ Γ xs ds φ Q} I r h q => by
  match ds, r, h with
  | [x], .cons rx .nil, h =>
    obtain ⟨h1, h2⟩ := h
    obtain ⟨a, dx, fs, rfl, ha⟩ := rep_ins I.fh rx h1
    refine ⟨a, dx, fs, rfl, ha, ?_⟩
    refine call_run (ψ' := fun _ => False) (φ := txtE fun y => φ (.d (.str y))) I (fun _ _ _ _ _ z => z) (.cons rx .nil) h2 fun F2 H2 v e I2 s2 r2 p => ?_
    obtain ⟨y, rfl, p⟩ := p
    cases (show Rep F2 v (.str y) from r2.1)
    exact ⟨y, rfl, q F2 H2 _ _ I2 s2 (Res.d (.str y)) p⟩⟩
end
end Da

set_option Elab.async false
set_option maxRecDepth 100000
set_option maxHeartbeats 4000000
set_option linter.all false
/-! list(d.values()), d a dict with tuple keys -/
namespace Da
open PySem PySem.Spec PyProof.Rows L2 RZ HmS
def valuesO (p d : Addr) : HO := .ext fun h => h.IsValuesView p d
section
variable {X : Cx}
def rValuesT : V → List V → Hp → VK → Prop := fun x xs H Q => ∃ (a : Addr) (kvs : List (List Key × V)), x = .ref a ∧ xs = [] ∧ H a = some (.dT kvs) ∧ ∀ p, H p = none → Q (.ref p) (upd H p (valuesO p a))
def rListV : List V → Hp → VK → Prop := fun xs H Q => ∃ (p d : Addr) (kvs : List (List Key × V)), xs = [.ref p] ∧ H p = some (valuesO p d) ∧ H d = some (.dT kvs) ∧ ∀ l, H l = none → Q (.ref l) (upd H l (.lst (kvs.map (·.2))))
end
section
variable {K : PySem.W.Frag} [HasT K] {E : XK} {ψ : Value → Prop} {ta : TE} {da : DT}
def dListV (da : DT) : DT := fun Γ φ => da Γ fun e Γ1 => wf e fun x => ∃ ks xs, x = .dT ks xs ∧ φ (.lst xs) Γ1
instance snd_listV [a : Snd K E ψ ta da] : Snd K E ψ (tCB rListV (tCons (tBM0 K "dict" rValuesT ta) tNil)) (dListV da) := ⟨fun {c F H σ Γ φ Q} I eo h q => by
  refine a.frz (φ := fun _ _ => True) (k := fun x Γ1 => ∃ ks xs, x = .dT ks xs ∧ φ (.lst xs) Γ1) I eo h fun F1 H1 w x Γ1 I1 s1 rp h1 => ?_
  obtain ⟨ks, xs, rfl, h1⟩ := h1
  cases rp with
  | @dT a kvs _ _ e ek rs =>
    have ha := I1.fh _ _ e
    refine ⟨.inr (.inr (.inl ⟨rfl, .inr ⟨_, ha⟩⟩)), a, _, rfl, rfl, ha, fun v hv => ?_⟩
    have sv : Same H1 (upd H1 v (valuesO v a)) := upd_grow hv
    refine ⟨v, a, kvs, rfl, upd_same, sv _ _ ha, fun l hl => ?_⟩
    have I2 : Is c F1 (upd H1 v (valuesO v a)) σ Γ1 := I1.newH hv
    obtain ⟨I3, r3⟩ := I2.newL hl rs
    exact q _ _ _ _ Γ1 I3 s1 r3 h1⟩
end
end Da

set_option Elab.async false
set_option maxRecDepth 100000
set_option maxHeartbeats 4000000
set_option linter.all false
/-! bool(x), x an instance with an own __len__ -/
namespace Da
open PySem PySem.Spec PyProof.Rows L2 RZ HmS
section
variable {prog : Program} {w : World} {A : Around} {E : Value → Shared → Prop} {s : Shared} {K : PySem.W.Frag} {a C f : Addr} {ox : Obj} {od : Option Obj}
end
section
variable {X : Cx} {CX : CXT} {C f : Addr} {fd : FuncData} {ps : List Str} {n : Nat} {sp : Sp} {E : XK}
def rBoolO (C : Addr) (sp : Sp) (E : XK) : List V → Hp → VK → Prop := fun xs H Q => ∃ (a dx : Addr) (fs : List (Str × V)), xs = [.ref a] ∧ H a = some (.ins C dx fs) ∧ sp [.ref a] H (lenK fun n H2 => Q (.bl (decide (n ≠ 0))) H2) E
end
section
variable {K : PySem.W.Frag} [HasT K]
def dBoolO (C : Addr) (k : D → (En → Prop) → Prop) (xs : List D) (φ : En → Prop) : Prop := match xs with
  | [x] => x.isIns C ∧ k x (lenE fun n => φ (.d (.bl (decide (n ≠ 0)))))
  | _ => False
instance snd_boolO {C : Addr} {k : D → (En → Prop) → Prop} : SndC K (rBoolO C (spX K (sp1 k)) E0) (dBoolO C k) := ⟨fun {c F H σ Γ xs ds φ Q} I r h q => by
  match ds, r, h with
  | [x], .cons rx .nil, h =>
    obtain ⟨h1, h2⟩ := h
    obtain ⟨a, dx, fs, rfl, ha⟩ := rep_ins I.fh rx h1
    refine ⟨a, dx, fs, rfl, ha, ?_⟩
    refine call_run (ψ' := fun _ => False) (φ := lenE fun n => φ (.d (.bl (decide (n ≠ 0))))) I (fun _ _ _ _ _ z => z) (.cons rx .nil) h2 fun F2 H2 v e I2 s2 r2 p => ?_
    obtain ⟨n, rfl, hn, p⟩ := p
    cases (show Rep F2 v (.int n) from r2.1)
    exact ⟨n, rfl, hn, q F2 H2 _ _ I2 s2 (Res.d (.bl _)) p⟩⟩
end
end Da

set_option Elab.async false
set_option maxRecDepth 100000
set_option maxHeartbeats 4000000
set_option linter.all false
/-! == and != of instances that have an own __eq__ beside whatever data; isinstance with both answers; `in` over lists -/
namespace Da
open PySem PySem.Spec PyProof.Rows L2 RZ HmS
open PySem.SeqAt
open AutoSeq1 (wpAny_loadPart')
open MeetsSeq MeetsSeq2 MeetsSeq3 SeqRoads2
/-- the built-in kinds of data -/
def plainTs : List String := ["NoneType", "bool", "int", "str", "tuple", "list", "dict"]
structure OwnSub (K : PySem.W.Frag) (C : Addr) : Prop where
  ki : ∀ T ∈ plainTs, PySem.W.kitOne K (.type T) (.ref C) = some false
  sl : ∀ T ∈ plainTs, PySem.W.subIn K (.type T) (.ref C) = some false
  sr : ∀ T ∈ plainTs, PySem.W.subIn K (.ref C) (.type T) = some false
theorem ownSub_mk {K : PySem.W.Frag} {C : Addr} (k0 : PySem.W.kitOne K (.type "NoneType") (.ref C) = some false) (k1 : PySem.W.kitOne K (.type "bool") (.ref C) = some false) (k2 : PySem.W.kitOne K (.type "int") (.ref C) = some false) (k3 : PySem.W.kitOne K (.type "str") (.ref C) = some false) (k4 : PySem.W.kitOne K (.type "tuple") (.ref C) = some false) (k5 : PySem.W.kitOne K (.type "list") (.ref C) = some false) (k6 : PySem.W.kitOne K (.type "dict") (.ref C) = some false) (l0 : PySem.W.subIn K (.type "NoneType") (.ref C) = some false) (l1 : PySem.W.subIn K (.type "bool") (.ref C) = some false) (l2 : PySem.W.subIn K (.type "int") (.ref C) = some false) (l3 : PySem.W.subIn K (.type "str") (.ref C) = some false) (l4 : PySem.W.subIn K (.type "tuple") (.ref C) = some false) (l5 : PySem.W.subIn K (.type "list") (.ref C) = some false) (l6 : PySem.W.subIn K (.type "dict") (.ref C) = some false) (r0 : PySem.W.subIn K (.ref C) (.type "NoneType") = some false) (r1 : PySem.W.subIn K (.ref C) (.type "bool") = some false) (r2 : PySem.W.subIn K (.ref C) (.type "int") = some false) (r3 : PySem.W.subIn K (.ref C) (.type "str") = some false) (r4 : PySem.W.subIn K (.ref C) (.type "tuple") = some false) (r5 : PySem.W.subIn K (.ref C) (.type "list") = some false) (r6 : PySem.W.subIn K (.ref C) (.type "dict") = some false) : OwnSub K C := by
  refine ⟨fun T h => ?_, fun T h => ?_, fun T h => ?_⟩
  all_goals
    simp only [plainTs, List.mem_cons, List.not_mem_nil, or_false] at h
    rcases h with rfl | rfl | rfl | rfl | rfl | rfl | rfl <;> assumption
def D.pln : D → Prop
  | .ins _ _ _ => False
  | _ => True
def D.tyN : D → String
  | .non => "NoneType"
  | .bl _ => "bool"
  | .int _ => "int"
  | .str _ => "str"
  | .tup _ => "tuple"
  | .lst _ => "list"
  | .dK _ _ => "dict"
  | .dT _ _ => "dict"
  | .ins _ _ _ => ""
theorem D.tyN_in {x : D} (p : x.pln) : x.tyN ∈ plainTs := by
  cases x <;> first | exact p.elim | exact (by decide : "NoneType" ∈ plainTs) | exact (by decide : "bool" ∈ plainTs) | exact (by decide : "int" ∈ plainTs) | exact (by decide : "str" ∈ plainTs) | exact (by decide : "tuple" ∈ plainTs) | exact (by decide : "list" ∈ plainTs) | exact (by decide : "dict" ∈ plainTs)
theorem rep_ty {K : PySem.W.Frag} {F H : Hp} {v : V} {x : D} (fh : Same F H) (r : Rep F v x) (p : x.pln) : TyOf K H v (.type x.tyN) := by
  cases r with
  | non => exact .non
  | bl b => exact .bl b
  | int i => exact .int i
  | str s => exact .str s
  | tup e _ => exact .tup (fh _ _ e)
  | lst e _ => exact .lst (fh _ _ e)
  | dK e _ _ => exact .dK (fh _ _ e)
  | dT e _ _ => exact .dT (fh _ _ e)
  | ins _ _ _ => exact p.elim
section
variable {X : Cx} {pins : List (Addr × Obj)} {σ : L2.St} {H : Hp} {s : Shared}
end
/-! ### a built-in == beside an instance declines -/
section
variable {prog : Program} {w : World} {A : Around} {s : Shared} {K : PySem.W.Frag} {x C dx : Addr} {E : Value → Shared → Prop} {od : Option Obj}
end
section
variable {X : Cx} {pins : List (Addr × Obj)} {σ : L2.St} {H : Hp} {s : Shared} {A : Around} {E : Value → Shared → Prop} {C f : Addr} {a dx : Addr} {fs : List (Str × V)}
end
/-! ### == and != of an instance, whatever stands on the right -/
section
variable {X : Cx} {CX : CXT} {C f : Addr} {fd : FuncData} {ps : List Str} {n : Nat} {sp : Sp} {E : XK}
def rOwnEqA (K : PySem.W.Frag) (C : Addr) (sp : Sp) (E : XK) : R2 := fun x y H Q => ∃ (a dx : Addr) (fs : List (Str × V)) (t : Value), x = .ref a ∧ H a = some (.ins C dx fs) ∧ TyOf K H y t ∧ PySem.W.notFirst K C t = true ∧ sp [.ref a, y] H (fun z H' => ∃ r, z = .bl r ∧ Q (.bl r) H') E
def rOwnNeA (K : PySem.W.Frag) (C : Addr) (sp : Sp) (E : XK) : R2 := fun x y H Q => ∃ (a dx : Addr) (fs : List (Str × V)) (t : Value), x = .ref a ∧ H a = some (.ins C dx fs) ∧ TyOf K H y t ∧ PySem.W.notFirst K C t = true ∧ sp [.ref a, y] H (fun z H' => ∃ r, z = .bl r ∧ Q (.bl (!r)) H') E
section
variable {prog : Program} {w : World} {A : Around} {E : Value → Shared → Prop} {s : Shared} {K : PySem.W.Frag} {x C L f : Addr} {ox : Obj} {od : Option Obj} {b tb : Value}
end
end
/-! ### x in a list, by own == of x or of its parts -/
section
variable {prog : Program} {w : World}
variable {A : Around} {E : Value → Shared → Prop} {s : Shared}
end
/-! ### over the heap -/
def inH (K : PySem.W.Frag) (C : Addr) (sp : Sp) (pa x : Addr) (oa ox : HO) : List V → Hp → (Bool → Hp → Prop) → Prop
  | [], H, Q => Q false H
  | y :: r, H, Q => (y = .ref x ∧ Q true H) ∨
      (y ≠ .ref x ∧ (∃ b dy gs, y = .ref b ∧ H b = some (.ins C dy gs)) ∧ sp [y, .ref x] H (fun z H' => ∃ t, z = .bl t ∧ (H' pa = some oa ∧ H' x = some ox) ∧ if t = true then Q true H' else inH K C sp pa x oa ox r H' Q) E0) ∨
      (y ≠ .ref x ∧ (∃ T ∈ plainTs, TyOf K H y (.type T)) ∧ sp [.ref x, y] H (fun z H' => ∃ t, z = .bl t ∧ (H' pa = some oa ∧ H' x = some ox) ∧ if t = true then Q true H' else inH K C sp pa x oa ox r H' Q) E0)
section
variable {X : Cx} {C f : Addr} {fd : FuncData} {ps : List Str} {n : Nat} {sp : Sp}
def rInO (K : PySem.W.Frag) (C : Addr) (sp : Sp) (neg : Bool) : R2 := fun x y H Q => ∃ (a pa dx : Addr) (fs : List (Str × V)) (xs : List V), x = .ref a ∧ y = .ref pa ∧ H a = some (.ins C dx fs) ∧ H pa = some (.lst xs) ∧ inH K C sp pa a (.lst xs) (.ins C dx fs) xs H fun t H' => Q (.bl (if neg then !t else t)) H'
end
/-! ### over data -/
section
variable {K : PySem.W.Frag} [HasT K] {E : XK} {ψ : Value → Prop} {ta : TE} {da : DT}
/-- what isinstance of an own class asks, with either answer -/
def dIsiX (K : PySem.W.Frag) (C : Addr) (da : DT) : DT := fun Γ φ => OwnIsi K C ∧ OwnSub K C ∧ da Γ fun e Γ1 => wf e fun x => (x.isIns C ∧ φ (.d (.bl true)) Γ1) ∨ (x.pln ∧ φ (.d (.bl false)) Γ1)
instance (priority := 2000) snd_isiX {C : Addr} [sa : Snd K E ψ ta da] : Snd K E ψ (tCB (rIsi K) (tCons ta (tCons (tC (.ref C)) tNil))) (dIsiX K C da) := ⟨fun {c F H σ Γ φ Q} I eo h q => by
  obtain ⟨O, S, h⟩ := h
  refine sa.frz (φ := fun _ _ => True) (k := fun x Γ1 => (x.isIns C ∧ φ (.d (.bl true)) Γ1) ∨ (x.pln ∧ φ (.d (.bl false)) Γ1)) I eo h fun F1 H1 v x Γ1 I1 s1 r1 h1 => ?_
  rcases h1 with ⟨hx, h1⟩ | ⟨hx, h1⟩
  · obtain ⟨a, dx, fs, rfl, ha⟩ := rep_ins I1.fh r1 hx
    exact ⟨_, .ref C, .ref C, .ref C, true, rfl, .own C, .base (.ins ha O.cl O.ca O.cn O.ct O.cm), O.ki, q F1 H1 _ _ Γ1 I1 s1 (Res.d (.bl _)) h1⟩
  · exact ⟨_, .ref C, .type x.tyN, .ref C, false, rfl, .own C, .base (rep_ty I1.fh r1 hx), S.ki _ (D.tyN_in hx), q F1 H1 _ _ Γ1 I1 s1 (Res.d (.bl _)) h1⟩⟩
def dOwnEqA (K : PySem.W.Frag) (C : Addr) (k : D → D → (En → Prop) → Prop) (x y : D) (φ : En → Prop) : Prop := OwnIsi K C ∧ OwnSub K C ∧ x.isIns C ∧ (y.isIns C ∨ y.pln) ∧ k x y fun e => ∃ b, e = .d (.bl b) ∧ φ (.d (.bl b))
def dOwnNeA (K : PySem.W.Frag) (C : Addr) (k : D → D → (En → Prop) → Prop) (x y : D) (φ : En → Prop) : Prop := OwnIsi K C ∧ OwnSub K C ∧ x.isIns C ∧ (y.isIns C ∨ y.pln) ∧ k x y fun e => ∃ b, e = .d (.bl b) ∧ φ (.d (.bl (!b)))
theorem any_ty {F H : Hp} {C : Addr} {v : V} {y : D} (O : OwnIsi K C) (S : OwnSub K C) (fh : Same F H) (r : Rep F v y) (h : y.isIns C ∨ y.pln) : ∃ t, TyOf K H v t ∧ PySem.W.notFirst K C t = true := by
  rcases h with h | h
  · obtain ⟨a, dx, fs, rfl, ha⟩ := rep_ins fh r h
    exact ⟨.ref C, .ins ha O.cl O.ca O.cn O.ct O.cm, by simp [PySem.W.notFirst]⟩
  · exact ⟨_, rep_ty fh r h, by simp [PySem.W.notFirst, S.sl _ (D.tyN_in h)]⟩
instance snd_ownEqA {C : Addr} {k : D → D → (En → Prop) → Prop} : SndR K (rOwnEqA K C (spX K (sp2 k)) E0) (dOwnEqA K C k) := ⟨fun {c F H σ Γ x y d e φ Q} I rx ry h q => by
  obtain ⟨O, S, h1, h2, h3⟩ := h
  obtain ⟨a, dx, fs, rfl, ha⟩ := rep_ins I.fh rx h1
  obtain ⟨t, ty, nf⟩ := any_ty O S I.fh ry h2
  refine ⟨a, dx, fs, t, rfl, ha, ty, nf, ?_⟩
  refine call_run (ψ' := fun _ => False) (φ := fun e => ∃ b, e = .d (.bl b) ∧ φ (.d (.bl b))) I (fun _ _ _ _ _ z => z) (.cons rx (.cons ry .nil)) h3 fun F2 H2 v e I2 s2 r2 p => ?_
  obtain ⟨r, rfl, p⟩ := p
  cases (show Rep F2 v (.bl r) from r2.1)
  exact ⟨r, rfl, q F2 H2 _ _ I2 s2 (Res.d (.bl r)) p⟩⟩
instance snd_ownNeA {C : Addr} {k : D → D → (En → Prop) → Prop} : SndR K (rOwnNeA K C (spX K (sp2 k)) E0) (dOwnNeA K C k) := ⟨fun {c F H σ Γ x y d e φ Q} I rx ry h q => by
  obtain ⟨O, S, h1, h2, h3⟩ := h
  obtain ⟨a, dx, fs, rfl, ha⟩ := rep_ins I.fh rx h1
  obtain ⟨t, ty, nf⟩ := any_ty O S I.fh ry h2
  refine ⟨a, dx, fs, t, rfl, ha, ty, nf, ?_⟩
  refine call_run (ψ' := fun _ => False) (φ := fun e => ∃ b, e = .d (.bl b) ∧ φ (.d (.bl (!b)))) I (fun _ _ _ _ _ z => z) (.cons rx (.cons ry .nil)) h3 fun F2 H2 v e I2 s2 r2 p => ?_
  obtain ⟨r, rfl, p⟩ := p
  cases (show Rep F2 v (.bl r) from r2.1)
  exact ⟨r, rfl, q F2 H2 _ _ I2 s2 (Res.d (.bl (!r))) p⟩⟩
def dInO (C : Addr) (k : D → D → (En → Prop) → Prop) (neg : Bool) (x y : D) (φ : En → Prop) : Prop := ∃ ys, y = .lst ys ∧ x.isIns C ∧ (∀ b ∈ ys, b.isIns C ∨ b.pln) ∧ ∃ f : D → Bool, (x ∈ ys → f x = true) ∧ (∀ b ∈ ys, b.isIns C → ∀ ψ : En → Prop, ψ (.d (.bl (f b))) → k b x ψ) ∧ (∀ b ∈ ys, b.pln → ∀ ψ : En → Prop, ψ (.d (.bl (f b))) → k x b ψ) ∧
  φ (.d (.bl (if neg then !ys.any f else ys.any f)))
theorem inH_data {C : Addr} {k : D → D → (En → Prop) → Prop} {f : D → Bool} {c : Ct K} {σ : L2.St} {Γ : List En} {pa a dx : Addr} {fs : List (Str × V)} {xs : List V} {x : D} {Q : Bool → Hp → Prop} (hx : x.isIns C) :
    ∀ {vs : List V} {ys : List D} {F H : Hp}, Is c F H σ Γ → F pa = some (.lst xs) → F a = some (.ins C dx fs) → Rep F (.ref a) x → Reps F vs ys → (∀ b ∈ ys, b.isIns C ∨ b.pln) → (x ∈ ys → f x = true) → (∀ b ∈ ys, b.isIns C → ∀ ψ : En → Prop, ψ (.d (.bl (f b))) → k b x ψ) → (∀ b ∈ ys, b.pln → ∀ ψ : En → Prop, ψ (.d (.bl (f b))) → k x b ψ) →
      (∀ F' H', Is c F' H' σ Γ → Same F F' → Q (ys.any f) H') → inH K C (spX K (sp2 k)) pa a (.lst xs) (.ins C dx fs) vs H Q
  | [], ys, F, H, I, _, _, _, r2, _, _, _, _, q => by
    cases r2
    exact q F H I (Same.refl F)
  | v :: vs, ys, F, H, I, fa, fx, rx, r2, hp, hs, hk, hk2, q => by
    cases r2 with
    | @cons _ _ y ys ry r2 =>
    have ha : H a = some (.ins C dx fs) := I.fh _ _ fx
    have step : ∀ F' H', Is c F' H' σ Γ → Same F F' → ∀ t, t = f y → (∃ t', V.bl t = V.bl t' ∧ (H' pa = some (.lst xs) ∧ H' a = some (.ins C dx fs)) ∧ if t' = true then Q true H' else inH K C (spX K (sp2 k)) pa a (.lst xs) (.ins C dx fs) vs H' Q) := fun F' H' I' s' t et => by
      refine ⟨t, rfl, ⟨I'.fh _ _ (s' _ _ fa), I'.fh _ _ (s' _ _ fx)⟩, ?_⟩
      have q' := q F' H' I' s'
      rw [List.any_cons] at q'
      subst et
      cases ef : f y with
      | true =>
        rw [if_pos rfl]
        rw [ef, Bool.true_or] at q'
        exact q'
      | false =>
        rw [if_neg Bool.false_ne_true]
        refine inH_data hx I' (s' _ _ fa) (s' _ _ fx) (rx.mono s') (Reps.mono s' r2) (fun b h => hp b (List.mem_cons_of_mem _ h)) (fun h => hs (List.mem_cons_of_mem _ h)) (fun b h => hk b (List.mem_cons_of_mem _ h)) (fun b h => hk2 b (List.mem_cons_of_mem _ h)) fun F2 H2 I2 s2 => ?_
        have q2 := q F2 H2 I2 (s'.trans s2)
        rw [List.any_cons, ef, Bool.false_or] at q2
        exact q2
    show (v = .ref a ∧ _) ∨ (v ≠ .ref a ∧ _) ∨ _
    by_cases e : v = .ref a
    · subst e
      refine .inl ⟨rfl, ?_⟩
      have ey := Rep.det rx ry
      subst ey
      have q' := q F H I (Same.refl F)
      rw [List.any_cons, hs List.mem_cons_self, Bool.true_or] at q'
      exact q'
    · rcases hp y List.mem_cons_self with hy | hy
      · obtain ⟨b, dy, gs, rfl, hb⟩ := rep_ins I.fh ry hy
        refine .inr (.inl ⟨e, ⟨b, dy, gs, rfl, hb⟩, ?_⟩)
        refine call_run (ψ' := fun _ => False) (φ := fun e => e = .d (.bl (f y))) I (fun _ _ _ _ _ z => z) (.cons ry (.cons rx .nil)) (hk y List.mem_cons_self hy _ rfl) fun F2 H2 v e2 I2 s2 r3 p => ?_
        subst p
        cases (show Rep F2 v (.bl (f y)) from r3.1)
        exact step F2 H2 I2 s2 _ rfl
      · refine .inr (.inr ⟨e, ⟨_, D.tyN_in hy, rep_ty I.fh ry hy⟩, ?_⟩)
        refine call_run (ψ' := fun _ => False) (φ := fun e => e = .d (.bl (f y))) I (fun _ _ _ _ _ z => z) (.cons rx (.cons ry .nil)) (hk2 y List.mem_cons_self hy _ rfl) fun F2 H2 v e2 I2 s2 r3 p => ?_
        subst p
        cases (show Rep F2 v (.bl (f y)) from r3.1)
        exact step F2 H2 I2 s2 _ rfl
instance snd_inO {C : Addr} {k : D → D → (En → Prop) → Prop} {neg : Bool} : SndR K (rInO K C (spX K (sp2 k)) neg) (dInO C k neg) := ⟨fun {c F H σ Γ x y d e φ Q} I rx ry h q => by
  obtain ⟨ys, rfl, hx, hp, f, hs, hk, hk2, h⟩ := h
  obtain ⟨a, dx, fs, rfl, ha⟩ := rep_ins I.fh rx hx
  have fx : F a = some (.ins C dx fs) := by
    obtain ⟨ns, zs, rfl⟩ := hx
    cases rx with
    | ins e _ _ =>
      have z := I.fh _ _ e
      rw [ha] at z
      cases z
      exact e
  cases ry with
  | @lst pa vs _ ea ra =>
  refine ⟨a, pa, dx, fs, vs, rfl, rfl, ha, I.fh _ _ ea, ?_⟩
  exact inH_data hx I ea fx rx ra hp hs hk hk2 fun F' H' I' s' => q F' H' _ _ I' s' (Res.d (.bl _)) h⟩
end
end Da

set_option Elab.async false
set_option maxRecDepth 100000
set_option maxHeartbeats 4000000
set_option linter.all false
/-! sorted(rows, key=lambda row: row[0]), reverse=True too: the rows tuples, their first parts data that are alike -/
namespace Da
open PySem PySem.Spec PyProof.Rows L2 RZ HmS
/-- v reads as the data d, without lists, wherever the heap is as told -/
def Kr (H : Hp) (v : V) (d : PyData) : Prop := ∀ (X : Cx) (pins : List (Addr × Obj)) (σ : L2.St) (s : Shared), Inv X pins σ H s → ∀ u, RelV v u → Reads s.heap u d []
def Krs (H : Hp) (vs : List V) (ds : List PyData) : Prop := ∀ (X : Cx) (pins : List (Addr × Obj)) (σ : L2.St) (s : Shared), Inv X pins σ H s → ∀ us, Vals vs us → ReadsAll s.heap us ds []
mutual
theorem kr_of {F H : Hp} (fh : Same F H) : ∀ {x : D} {v : V}, Rep F v x → x.imm = true → x.flat = true → Kr H v x.py
  | .non, _, .non, _, _ => fun _ _ _ _ _ u r => by cases (show u = Value.none from r); exact .none
  | .bl b, _, .bl _, _, _ => fun _ _ _ _ _ u r => by cases (show u = Value.bool b from r); exact .bool b
  | .int i, _, .int _, _, _ => fun _ _ _ _ _ u r => by obtain ⟨t, q⟩ := (show ∃ t, u = Value.int i t from r); cases q; exact .int i t
  | .str y, _, .str _, _, _ => fun _ _ _ _ _ u r => by obtain ⟨t, q⟩ := (show ∃ t, u = Value.str y t from r); cases q; exact .str y t
  | .tup xs, _, .tup (a := a) (vs := vs) e rs, hi, hf => fun X pins σ s I u r => by
    cases (show u = Value.ref a from r)
    obtain ⟨_, its, rv, o, ho, hc, n, hd⟩ := (show ObjOk X.prog X.w H s.heap a (.tup vs) from I.hok a _ (fh _ _ e))
    exact Reads.tuple ho hc hd (krs_of fh rs hi hf X pins σ s I _ (by simpa using rv))
  | .lst _, _, _, hi, _ => absurd hi Bool.false_ne_true
  | .dK _ _, _, _, hi, _ => absurd hi Bool.false_ne_true
  | .dT _ _, _, _, hi, _ => absurd hi Bool.false_ne_true
  | .ins _ _ _, _, _, hi, _ => absurd hi Bool.false_ne_true
theorem krs_of {F H : Hp} (fh : Same F H) : ∀ {xs : List D} {vs : List V}, Reps F vs xs → imms xs = true → flats xs = true → Krs H vs (pys xs)
  | [], _, .nil, _, _ => fun _ _ _ _ _ us r => by cases r; exact .nil
  | x :: xs, _, .cons a b, hi, hf => fun X pins σ s I us r => by
    have hi : (x.imm && imms xs) = true := hi
    have hf : (x.flat && flats xs) = true := hf
    rw [Bool.and_eq_true] at hi hf
    cases r with
    | cons r1 r2 => exact .cons (as := []) (bs := []) (kr_of fh a hi.1 hf.1 X pins σ s I _ r1) (krs_of fh b hi.2 hf.2 X pins σ s I _ r2)
end
def hdPy (x : D) : PyData := match x with
  | .tup (k :: _) => k.py
  | _ => .none
/-- the rows, sorted by their first parts; like ones as they stood -/
def sortBy (b : Bool) (xs : List D) : List D := xs.mergeSort (PySem.W.dataLe b hdPy)
def tSortBy (K : PySem.W.Frag) (T : List (Addr × Str)) (b : Bool) (ta : TA) : TE := fun σ H Q => ta σ H fun vs H1 => LamX.Tabs T H1 ∧ ∃ (l : Addr) (zs : List (V × PyData)), vs = [.ref l] ∧ SqL K H1 l (zs.map (·.1)) ∧
  (∀ z ∈ zs, ∃ t kv r, z.1 = .ref t ∧ H1 t = some (.tup (kv :: r)) ∧ ∀ H2, LamX.ExtN H1 H2 → Kr H2 kv z.2) ∧ zs.length ≤ 100000 ∧ PySem.W.AllAlike (zs.map (·.2)) ∧ PySem.W.Sortable (zs.map (·.2)) ∧ (∀ z ∈ zs, z.2.depth ≤ 60) ∧
  ∀ H2, LamX.ExtN H1 H2 → LamX.Tabs T H2 → ∀ p, H2 p = none → Q (.ref p) (upd H2 p (.lst ((zs.mergeSort (PySem.W.dataLe b fun z => z.2)).map (·.1))))
section
variable {X : Cx} {pins : List (Addr × Obj)} {σ : L2.St}
end
/-! ### over data -/
section
variable {K : PySem.W.Frag} [HasT K] {E : XK} {ψ : Value → Prop} {al : TA} {dal : DA}
/-- rows that may be sorted by their first parts -/
structure RowsOk (xs : List D) : Prop where
  al : PySem.W.AllAlike (xs.map hdPy)
  sb : PySem.W.Sortable (xs.map hdPy)
  fl : ∀ x ∈ xs, ∃ k r, x = .tup (k :: r) ∧ k.imm = true ∧ k.flat = true ∧ k.py.depth ≤ 60
def dSortBy (b : Bool) (dal : DA) : DT := fun Γ φ => dal Γ fun ds Γ1 => ∃ xs, ds = [.lst xs] ∧ xs.length ≤ 100000 ∧ RowsOk xs ∧ φ (.lst (sortBy b xs)) Γ1
instance snd_sortBy {b : Bool} [sl : SndA K E ψ al dal] : Snd K E ψ (tSortBy K (HasT.T K) b al) (dSortBy b dal) := ⟨fun {c F H σ Γ φ Q} I eo h q => by
  refine sl.run I eo h fun F1 H1 vs ds Γ1 I1 s1 r1 h1 => ?_
  obtain ⟨xs, rfl, xl, ok, h1⟩ := h1
  obtain ⟨v, rfl, rp⟩ := one_of r1
  cases rp with
  | @lst a vs _ e rs =>
    have ha := I1.fh _ _ e
    obtain ⟨z1, z2, z3⟩ := zip_reps rs
    generalize hzs : vs.zip xs = ws at z1 z2 z3
    have m2 : ∀ z ∈ ws, z.2 ∈ xs := fun z hz => by rw [← z2]; exact List.mem_map.mpr ⟨z, hz, rfl⟩
    have p2 : (ws.map fun z => (z.1, hdPy z.2)).map (·.2) = xs.map hdPy := by rw [List.map_map, ← z2, List.map_map]; rfl
    have p1 : (ws.map fun z => (z.1, hdPy z.2)).map (·.1) = vs := by rw [List.map_map]; exact z1
    have wl : ws.length = xs.length := by rw [← z2, List.length_map]
    refine ⟨I1.tb, a, ws.map fun z => (z.1, hdPy z.2), rfl, by rw [p1]; exact SqL.of ha, fun z hz => ?_, by rw [List.length_map, wl]; exact xl, by rw [p2]; exact ok.al, by rw [p2]; exact ok.sb, fun z hz => ?_, fun H2 ex t2 p hp => ?_⟩
    · obtain ⟨y, hy, rfl⟩ := List.mem_map.mp hz
      obtain ⟨k, r, e2, k1, k2, k3⟩ := ok.fl _ (m2 y hy)
      have ry := z3 y hy
      obtain ⟨y1, y2⟩ := y
      have e2 : y2 = .tup (k :: r) := e2
      subst e2
      cases (show Rep F1 y1 (.tup (k :: r)) from ry) with
      | @tup t us _ et rt =>
        cases rt with
        | cons ra rb =>
          exact ⟨t, _, _, rfl, I1.fh _ _ et, fun H2 ex => kr_of (fun b o e => ex b o (I1.fh _ _ e) (I1.fn b o e)) ra k1 k2⟩
    · obtain ⟨y, hy, rfl⟩ := List.mem_map.mp hz
      obtain ⟨k, r, e2, k1, k2, k3⟩ := ok.fl _ (m2 y hy)
      show (hdPy y.2).depth ≤ 60
      rw [e2]
      exact k3
    · have e1 : ((ws.map fun z => (z.1, hdPy z.2)).mergeSort (PySem.W.dataLe b fun z => z.2)).map (·.1) = (ws.mergeSort (PySem.W.dataLe b fun z : V × D => hdPy z.2)).map (·.1) := by
        rw [← PySem.W.sort_maps (r := PySem.W.dataLe b fun z : V × D => hdPy z.2) (s := PySem.W.dataLe b fun z : V × PyData => z.2) (fun z : V × D => (z.1, hdPy z.2)) (fun a _ b _ => rfl), List.map_map]
        rfl
      have e2 : sortBy b xs = (ws.mergeSort (PySem.W.dataLe b fun z : V × D => hdPy z.2)).map (·.2) := by
        rw [PySem.W.sort_maps (r := PySem.W.dataLe b fun z : V × D => hdPy z.2) (s := PySem.W.dataLe b hdPy) (fun z : V × D => z.2) (fun a _ b _ => rfl), z2]
        rfl
      have sh : NS H1 H2 := fun b o n e => ex b o e n
      have I2 : Is c F1 H2 σ Γ1 := I1.growN (Same.refl F1) sh t2 (fun a o e => sh a o (I1.fn a o e) (I1.fh a o e)) I1.fn fun a o e => .inl e
      rw [e1]
      obtain ⟨I3, r3⟩ := I2.newL hp (reps_of2 (g := fun z : V × D => z.1) (f := fun z => z.2) (l := ws.mergeSort (PySem.W.dataLe b fun z : V × D => hdPy z.2)) fun z hz => z3 z ((List.mergeSort_perm _ _).mem_iff.mp hz))
      rw [e2] at h1
      exact q _ _ _ _ Γ1 I3 s1 r3 h1⟩
end
end Da

set_option Elab.async false
set_option maxRecDepth 100000
set_option maxHeartbeats 4000000
set_option linter.all false
/-! > on data; x in a constant tuple of texts of the module -/
namespace Da
open PySem PySem.Spec PyProof.Rows L2 RZ HmS
section
variable {K : PySem.W.Frag} [HasT K] {E : XK} {ψ : Value → Prop} {ta : TE} {da : DT}
def rGtD (K : PySem.W.Frag) : R2 := fun x y H Q => ∃ d e, Dp K H x d ∧ Dp K H y e ∧ PySem.W.alike d e = true ∧ d ≠ .none ∧ d.depth ≤ 60 ∧ Q (.bl (PySem.W.dataLt e d)) H
def dGtD (x y : D) (φ : En → Prop) : Prop := x.flat = true ∧ y.flat = true ∧ PySem.W.alike x.py y.py = true ∧ x.py ≠ .none ∧ x.py.depth ≤ 60 ∧ φ (.d (.bl (PySem.W.dataLt y.py x.py)))
instance snd_gtD : SndR K (rGtD K) dGtD := ⟨fun {c F H σ Γ x y d e φ Q} I rx ry h q => by
  obtain ⟨f1, f2, al, nn, dp, h⟩ := h
  exact ⟨_, _, rx.dp I.fh f1, ry.dp I.fh f2, al, nn, dp, q F H _ _ I (Same.refl F) (Res.d (.bl _)) h⟩⟩
/-- x in a constant tuple of the module: its parts scalars -/
def tInG (K : PySem.W.Frag) (neg : Bool) (a : Addr) (ta : TE) : TE := tOp (rIn K neg) ta (tC (.ref a))
def scV (x : D) : Option V := match x with
  | .non => some .non
  | .bl b => some (.bl b)
  | .int i => some (.int i)
  | .str s => some (.str s)
  | _ => none
theorem scV_rep {F : Hp} {v u : V} {x : D} (r : Rep F v x) (h : scV x = some u) : v = u ∧ flatV u = true := by
  cases r <;> cases h <;> exact ⟨rfl, rfl⟩
def dInG (K : PySem.W.Frag) (neg : Bool) (a : Addr) (da : DT) : DT := fun Γ φ => da Γ fun e Γ1 => wf e fun x => ∃ vs u, KSq K a vs ∧ scV x = some u ∧ vs.all flatV = true ∧ φ (.d (.bl (if neg then !inV u vs else inV u vs))) Γ1
instance snd_inG {neg : Bool} {a : Addr} [sa : Snd K E ψ ta da] : Snd K E ψ (tInG K neg a ta) (dInG K neg a da) := ⟨fun {c F H σ Γ φ Q} I eo h q => by
  refine sa.frz (φ := fun _ _ => True) (k := fun x Γ1 => ∃ vs u, KSq K a vs ∧ scV x = some u ∧ vs.all flatV = true ∧ φ (.d (.bl (if neg then !inV u vs else inV u vs))) Γ1) I eo h fun F1 H1 v x Γ1 I1 s1 r1 h1 => ?_
  obtain ⟨vs, u, hk, hu, fl, h1⟩ := h1
  obtain ⟨rfl, fu⟩ := scV_rep r1 hu
  exact ⟨a, vs, rfl, .inr (hk H1), fu, fl, q F1 H1 _ _ Γ1 I1 s1 (Res.d (.bl _)) h1⟩⟩
end
end Da

set_option Elab.async false
set_option maxRecDepth 100000
set_option maxHeartbeats 4000000
set_option linter.all false
/-! texts: split, zfill, int(text), one sign, a range with a step, the index in a constant tuple of texts; try .. return .. except .. return None -/
namespace Da
open PySem PySem.Spec PyProof.Rows L2 RZ HmS
theorem Reps.strs {F : Hp} : ∀ (ss : List Str), Reps F (ss.map V.str) (ss.map D.str)
  | [] => .nil
  | s :: r => .cons (.str s) (Reps.strs r)
section
variable {K : PySem.W.Frag} [HasT K] {E : XK} {ψ : Value → Prop} {te ta tb tx : TE} {da db dx : DT} {al : TA} {dal : DA}
/-- s.split(t) -/
def rSplit : V → List V → Hp → VK → Prop := fun x xs H Q => ∃ a b, x = .str a ∧ xs = [.str b] ∧ (b.length == 0) = false ∧ a.length + 2 ≤ sizeLine ∧ rNewStrs (Txt.split a b) H Q
def tSplit (ta tb : TE) : TE := tM1 rSplit ta tb
theorem pe_splitK {X : Cx} {o e : Expr} {to te : TE} {apos pos : Pos} (ho : PE X o to) (he : PE X e te) (hs : starEach [e] X.env = [(false, eval e X.env)] := by rfl) (hbase : attributeBase o "split" X.env (eval o X.env) = eval o X.env := by rfl) (hline : (apos.endLine == pos.line) = true := by rfl) :
    PE X (.Call (.Attribute o "split" apos) [e] [] pos) (tSplit to te) := pe_split ho he hs hbase hline
def dSplit (da db : DT) : DT := fun Γ φ => da Γ fun e Γ1 => ws e fun a => db Γ1 fun e' Γ2 => ws e' fun b => (b.length == 0) = false ∧ a.length ≤ 1000000 ∧ φ (.lst ((Txt.split a b).map .str)) Γ2
instance snd_split [a : Snd K E ψ ta da] [b : Snd K E ψ tb db] : Snd K E ψ (tSplit ta tb) (dSplit da db) := ⟨fun {c F H σ Γ φ Q} I eo h q => by
  refine a.run I eo h fun F1 H1 v e Γ1 I1 s1 r1 h1 => ?_
  obtain ⟨x, rfl, h1⟩ := ws_of h1
  cases (show Rep F1 v (.str x) from r1.1)
  refine ⟨⟨_, rfl⟩, ?_⟩
  refine b.run I1 eo h1 fun F2 H2 w e' Γ2 I2 s2 r2 h2 => ?_
  obtain ⟨y, rfl, hy, hl, h2⟩ := ws_of h2
  cases (show Rep F2 w (.str y) from r2.1)
  refine ⟨x, y, rfl, rfl, hy, Nat.le_trans (Nat.add_le_add_right hl 2) (by decide), fun p hp => ?_⟩
  obtain ⟨I3, r3⟩ := I2.newL hp (Reps.strs (F := F2) (Txt.split x y))
  exact q _ _ _ _ Γ2 I3 (s1.trans s2) r3 h2⟩
/-- s.zfill(n) -/
def rZfill : V → List V → Hp → VK → Prop := fun x xs H Q => ∃ (a : Str) (i : Int), x = .str a ∧ xs = [.int i] ∧ PadOk i = true ∧ Q (.str (Txt.zfill a i)) H
theorem mt_zfillK {X : Cx} : MtR X "str.zfill" rZfill := mt_zfill
def dZfill (da : DT) (dal : DA) : DT := fun Γ φ => da Γ fun e Γ1 => ws e fun a => dal Γ1 fun xs Γ2 => ∃ i : Int, xs = [.int i] ∧ i ≤ 100000 ∧ -100000 ≤ i ∧ φ (.d (.str (Txt.zfill a i))) Γ2
theorem pad_ok {i : Int} (h : i ≤ 100000) (h0 : -100000 ≤ i) : PadOk i = true := by
  have e : fitsSsize i = true := by
    unfold fitsSsize
    simp
    omega
  have e2 : Builtin.Str.tooLong i.toNat = false := by
    unfold Builtin.Str.tooLong
    rw [sizeLine_eq]
    exact decide_eq_false (by omega)
  unfold PadOk
  rw [e, e2]
  rfl
instance snd_zfill [a : Snd K E ψ ta da] [sl : SndA K E ψ al dal] : Snd K E ψ (tBM K "str" rZfill ta al) (dZfill da dal) := ⟨fun {c F H σ Γ φ Q} I eo h q => a.run I eo h fun F1 H1 v e Γ1 I1 s1 r1 h1 => by
  obtain ⟨x, rfl, h1⟩ := ws_of h1
  cases (show Rep F1 v (.str x) from r1.1)
  refine ⟨rfl, sl.run I1 eo h1 fun F3 H3 us as Γ3 I3 s3 r3 h3 => ?_⟩
  obtain ⟨i, rfl, i1, i0, h4⟩ := h3
  cases r3 with
  | cons rx rn =>
    cases rn
    cases rx
    exact ⟨x, i, rfl, rfl, pad_ok i1 i0, q F3 H3 _ _ Γ3 I3 (s1.trans s3) (Res.d (.str _)) h4⟩⟩
/-- int(text) -/
def rIntT : List V → Hp → VK → Prop := fun xs H Q => ∃ a n, xs = [.str a] ∧ PySem.intText? a = some n ∧ a.length ≤ 640 ∧ Q (.int n) H
theorem cl_intT {X : Cx} : CallR X (.type "int") rIntT := call_int_str
def dIntT (xs : List D) (φ : En → Prop) : Prop := ∃ a n, xs = [.str a] ∧ PySem.intText? a = some n ∧ a.length ≤ 640 ∧ φ (.d (.int n))
instance snd_intT : SndC K rIntT dIntT := ⟨fun {c F H σ Γ xs ds φ Q} I r h q => by
  obtain ⟨a, n, rfl, h1, h2, h3⟩ := h
  obtain ⟨x, rfl, rp⟩ := one_of r
  cases rp
  exact ⟨a, n, rfl, h1, h2, q F H _ _ I (Same.refl F) (Res.d (.int _)) h3⟩⟩
/-- one sign of a text -/
def dIxS (x y : D) (φ : En → Prop) : Prop := ∃ z i c, x = .str z ∧ y = .int i ∧ z.length ≤ 1000000 ∧ L2.atI z.cps.toList i = some c ∧ φ (.d (.str ⟨#[c]⟩))
instance snd_ixS : SndR K rIxS dIxS := ⟨fun {c F H σ Γ x y d e φ Q} I rx ry h q => by
  obtain ⟨z, i, k, rfl, rfl, hl, hk, h⟩ := h
  cases rx
  cases ry
  exact ⟨z, i, k, rfl, rfl, Nat.le_trans hl (by decide), hk, q F H _ _ I (Same.refl F) (Res.d (.str _)) h⟩⟩
/-! ### a range with a step -/
def upC (lo c : Int) (n : Nat) : List D := (List.range n).map fun i : Nat => D.int (lo + i * c)
theorem upC_get {lo c : Int} {n i : Nat} {d : D} (h : (upC lo c n)[i]? = some d) : i < n ∧ d = .int (lo + i * c) := by
  unfold upC at h
  rw [List.getElem?_map] at h
  cases e : (List.range n)[i]? with
  | none => rw [e] at h; cases h
  | some j =>
    rw [e] at h
    cases h
    obtain ⟨h1, h2⟩ := List.getElem?_eq_some_iff.mp e
    simp at h1 h2
    subst h2
    exact ⟨h1, rfl⟩
theorem upC_len {lo c : Int} {n : Nat} : (upC lo c n).length = n := by simp [upC]
theorem itOk_rangeC {F1 : Hp} {lo c : Int} {n : Nat} : ItOk K F1 (Itc lo c n) (upC lo c n) :=
  itOk_at (fun H s => by rw [upC_len]; exact Nat.le_refl _) (fun i d H hd s => (upC_get hd).1) (fun i d H x H' hd s y => by
    obtain ⟨_, rfl⟩ := upC_get hd
    obtain ⟨rfl, rfl⟩ := y
    exact ⟨rfl, .int _⟩)
def dIRng3 (dal : DA) : DA := fun Γ φ => dal Γ fun xs Γ1 => ∃ (a b c : Int) (n : Nat), xs = [.int a, .int b, .int c] ∧ RgC a b c n ∧ φ (upC a c n) Γ1
instance snd_irng3C [sa : SndA K E ψ al dal] : SndI K E ψ (iRng3 al) (dIRng3 dal) := ⟨fun {c F H σ Γ φ R} I eo h q => by
  refine sa.run I eo h fun F1 H1 vs xs Γ1 I1 s1 r1 h1 => ?_
  obtain ⟨i, j, k, n, rfl, hr, h1⟩ := h1
  match r1 with
  | .cons (.int _) (.cons (.int _) (.cons (.int _) .nil)) => exact ⟨i, j, k, n, rfl, hr, q F1 H1 _ _ Γ1 I1 s1 itOk_rangeC h1⟩⟩
/-! ### the index of a text in a constant tuple of texts of the module -/
def rTIdx (K : PySem.W.Frag) : V → List V → Hp → VK → Prop := fun x xs H Q => ∃ p, ∃ ys : List Str, ∃ z j, x = .ref p ∧ xs = [.str z] ∧ SqT K H p (ys.map V.str) ∧ ys[j]? = some z ∧ (∀ m, m < j → ys[m]? ≠ some z) ∧ Q (.int (j : Nat)) H
/-- the place of a tuple of the module -/
structure KTp (K : PySem.W.Frag) (a : Addr) : Prop where
  at_ : ∃ o, K.lookup a = some o ∧ o.cls = .type "tuple" ∧ o.dict = none
def tGIdx (K : PySem.W.Frag) (a : Addr) (tb : TE) : TE := tBM K "tuple" (rTIdx K) (tC (.ref a)) (tCons tb tNil)
def dGIdx (K : PySem.W.Frag) (a : Addr) (db : DT) : DT := fun Γ φ => KTp K a ∧ db Γ fun e Γ1 => ws e fun z => ∃ (ys : List Str) (j : Nat), KSq K a (ys.map V.str) ∧ ys[j]? = some z ∧ (∀ m, m < j → ys[m]? ≠ some z) ∧ φ (.d (.int (j : Nat))) Γ1
instance snd_gidx {a : Addr} [b : Snd K E ψ tb db] : Snd K E ψ (tGIdx K a tb) (dGIdx K a db) := ⟨fun {c F H σ Γ φ Q} I eo h q => by
  obtain ⟨kt, h⟩ := h
  have one : SndA K E ψ (tCons tb tNil) (dCons db dNil) := inferInstance
  refine ⟨.inr (.inl ⟨rfl, kt.at_⟩), ?_⟩
  refine b.run I eo h fun F1 H1 w e Γ1 I1 s1 r1 h1 => ?_
  obtain ⟨z, rfl, ys, j, hk, hj, hn, h1⟩ := ws_of h1
  cases (show Rep F1 w (.str z) from r1.1)
  exact ⟨a, ys, z, j, rfl, rfl, hk H1, hj, hn, q F1 H1 _ _ Γ1 I1 s1 (Res.d (.int _)) h1⟩⟩
theorem pe_gidx {X : Cx} {x : Str} {a : Addr} {e : Expr} {p apos cpos : Pos} {tb : TE} (hg : Gl X x) (hm : X.mg x = some (.ref a)) (hb : PE X e tb) (hd : (x == ("__debug__" : Str)) = false := by decide)
    (hbase : attributeBase (.Name x p) "index" X.env (eval (.Name x p) X.env) = eval (.Name x p) X.env := by rfl)
    (hfew : ((backTo cpos (starEach [e] X.env)).all (fun x => !x.1) && (backToKw cpos (keywordEach [] X.env)).all (fun x => x.1.isSome)
      && decide (([e] : List Expr).length + ([] : List Keyword).length + (if ([] : List Keyword).isEmpty then 0 else 1) < 30)) = true := by rfl)
    (hline : (apos.endLine == cpos.line) = true := by rfl) (hs : starEach [e] X.env = (false, eval e X.env) :: starEach [] X.env := by rfl) (hplain : (backTo cpos (starEach [] X.env)).any (·.1) = false := by rfl) (hK : X.K = K := by rfl) :
    PE X (.Call (.Attribute (.Name x p) "index" apos) [e] [] cpos) (tGIdx K a tb) := by
  subst hK
  exact pe_bm PySem.F.plainAttrs_tuple PySem.F.slot_tuple_index PySem.F.type_tuple_index mt_tup_index (pe_glob (v := .ref a) hg hm rfl hd) (pa_cons hb pa_nil (hs := hs)) hbase hfew hline hs hplain
theorem pt_inG {X : Cx} {x : Str} {a : Addr} {e : Expr} {p pos : Pos} {ta : TE} (hg : Gl X x) (hm : X.mg x = some (.ref a)) (ha : PE X e ta) (hd : (x == ("__debug__" : Str)) = false := by decide) (hK : X.K = K := by rfl) : PT X (.Compare e [.In] [.Name x p] pos) (tTest (tInG K false a ta)) := by
  subst hK
  exact pt_cmpR (r := rIn X.K false) op_in_seq ha (pe_glob (v := .ref a) hg hm rfl hd) (by rfl)
end
end Da

set_option Elab.async false
set_option maxRecDepth 100000
set_option maxHeartbeats 4000000
set_option linter.all false
namespace Dl
/-! ### the mathematics of deals: which fall, by which chains -/
abbrev Mv := Int × Int × Int
def mvd (d : List Mv) : List Int := d.map (·.1)
def dl (ds : List (List Mv)) (i : Nat) : List Mv := ds.getD i []
def movers (ds : List (List Mv)) (p : Nat) (s : Int) : List Nat := (List.range p).filter fun i => (mvd (dl ds i)).contains s
def lk : List (Nat × List Nat) → Nat → Option (List Nat)
  | [], _ => none
  | (k, c) :: r, q => if k = q then some c else lk r q
def leans (ds : List (List Mv)) (p : Nat) : List Nat := (mvd (dl ds p)).flatMap fun s => (movers ds p s).getLast?.toList
section
variable (mn : List Nat → List (List Nat) → List Nat) (ds : List (List Mv)) (f : Int)
def chain1 (n : Nat) (g : List (Nat × List Nat)) : Option (List Nat) :=
  if (mvd (dl ds n)).contains f then some [n]
  else match (leans ds n).filterMap (fun q => lk g q) with
    | [] => none
    | c :: cs => some (mn c cs ++ [n])
def chainsN : Nat → List (Nat × List Nat)
  | 0 => []
  | n + 1 => match chain1 mn ds f n (chainsN n) with
    | none => chainsN n
    | some c => chainsN n ++ [(n, c)]
def gone (n : Nat) : List Nat := (chainsN mn ds f n).map (·.1)
end
theorem mem_movers {ds : List (List Mv)} {p i : Nat} {s : Int} : i ∈ movers ds p s ↔ i < p ∧ s ∈ mvd (dl ds i) := by
  unfold movers
  rw [List.mem_filter, List.mem_range, List.contains_iff_mem]
theorem mem_leans {ds : List (List Mv)} {p q : Nat} : q ∈ leans ds p ↔ ∃ s ∈ mvd (dl ds p), (movers ds p s).getLast? = some q := by
  unfold leans
  rw [List.mem_flatMap]
  constructor
  · rintro ⟨s, hs, h⟩
    exact ⟨s, hs, by simpa using h⟩
  · rintro ⟨s, hs, h⟩
    exact ⟨s, hs, by simpa using h⟩
theorem leans_lt {ds : List (List Mv)} {p q : Nat} (h : q ∈ leans ds p) : q < p := by
  obtain ⟨s, _, h⟩ := mem_leans.mp h
  exact (mem_movers.mp (List.mem_of_getLast? h)).1
theorem lookup_mem {g : List (Nat × List Nat)} {q : Nat} {c : List Nat} (h : lk g q = some c) : (q, c) ∈ g := by
  induction g with
  | nil => cases h
  | cons a r ih =>
    obtain ⟨k, v⟩ := a
    unfold lk at h
    by_cases z : k = q
    · subst z
      rw [if_pos rfl] at h
      cases h
      exact List.mem_cons_self
    · rw [if_neg z] at h
      exact List.mem_cons_of_mem _ (ih h)
theorem lookup_some {g : List (Nat × List Nat)} {q : Nat} (h : q ∈ g.map (·.1)) : ∃ c, lk g q = some c := by
  induction g with
  | nil => simp at h
  | cons a r ih =>
    obtain ⟨k, v⟩ := a
    unfold lk
    by_cases z : k = q
    · exact ⟨v, if_pos z⟩
    · rw [if_neg z]
      rw [List.map_cons, List.mem_cons] at h
      exact ih (h.resolve_left fun w => z w.symm)
section
variable {mn : List Nat → List (List Nat) → List Nat} {ds : List (List Mv)} {f : Int}
/-- falls, by what falls ahead -/
def Fl (mn : List Nat → List (List Nat) → List Nat) (ds : List (List Mv)) (f : Int) (p : Nat) : Prop := p ∈ gone mn ds f (p + 1)
theorem chain1_isSome {n : Nat} {g : List (Nat × List Nat)} : (chain1 mn ds f n g).isSome = true ↔ f ∈ mvd (dl ds n) ∨ ∃ q ∈ leans ds n, q ∈ g.map (·.1) := by
  unfold chain1
  by_cases z : f ∈ mvd (dl ds n)
  · rw [if_pos (by rw [List.contains_iff_mem]; exact z)]
    simp [z]
  · rw [if_neg (by rw [List.contains_iff_mem]; exact z)]
    constructor
    · intro h
      right
      cases e : (leans ds n).filterMap (fun q => lk g q) with
      | nil => rw [e] at h; cases h
      | cons c cs =>
        have : c ∈ (leans ds n).filterMap (fun q => lk g q) := by rw [e]; exact List.mem_cons_self
        obtain ⟨q, hq, hc⟩ := List.mem_filterMap.mp this
        exact ⟨q, hq, List.mem_map.mpr ⟨_, lookup_mem hc, rfl⟩⟩
    · rintro (h | ⟨q, hq, hg⟩)
      · exact absurd h z
      · obtain ⟨c, hc⟩ := lookup_some hg
        have : c ∈ (leans ds n).filterMap (fun q => lk g q) := List.mem_filterMap.mpr ⟨q, hq, hc⟩
        cases e : (leans ds n).filterMap (fun q => lk g q) with
        | nil => rw [e] at this; simp at this
        | cons c cs => rfl
theorem gone_succ (n : Nat) : gone mn ds f (n + 1) = if (chain1 mn ds f n (chainsN mn ds f n)).isSome = true then gone mn ds f n ++ [n] else gone mn ds f n := by
  unfold gone
  rw [chainsN]
  cases chain1 mn ds f n (chainsN mn ds f n) with
  | none => rfl
  | some c => simp
theorem gone_lt {n q : Nat} (h : q ∈ gone mn ds f n) : q < n := by
  induction n with
  | zero => simp [gone, chainsN] at h
  | succ n ih =>
    rw [gone_succ] at h
    split at h
    · rcases List.mem_append.mp h with z | z
      · have := ih z
        omega
      · simp at z
        omega
    · have := ih h
      omega
theorem mem_gone {n q : Nat} : q ∈ gone mn ds f n ↔ q < n ∧ Fl mn ds f q := by
  induction n with
  | zero => simp [gone, chainsN]
  | succ n ih =>
    by_cases z : q = n
    · subst z
      exact ⟨fun h => ⟨by omega, h⟩, fun h => h.2⟩
    · rw [gone_succ]
      have : q ∈ (if (chain1 mn ds f n (chainsN mn ds f n)).isSome = true then gone mn ds f n ++ [n] else gone mn ds f n) ↔ q ∈ gone mn ds f n := by
        split
        · rw [List.mem_append, List.mem_singleton]
          exact ⟨fun h => h.resolve_right z, .inl⟩
        · exact Iff.rfl
      rw [this, ih]
      exact ⟨fun h => ⟨by omega, h.2⟩, fun h => ⟨by omega, h.2⟩⟩
theorem fl_iff {p : Nat} : Fl mn ds f p ↔ f ∈ mvd (dl ds p) ∨ ∃ q ∈ leans ds p, Fl mn ds f q := by
  unfold Fl
  rw [gone_succ]
  have e := chain1_isSome (mn := mn) (ds := ds) (f := f) (n := p) (g := chainsN mn ds f p)
  have nin : p ∉ gone mn ds f p := fun h => by have := gone_lt h; omega
  have key : (∃ q ∈ leans ds p, q ∈ (chainsN mn ds f p).map (·.1)) ↔ ∃ q ∈ leans ds p, q ∈ gone mn ds f (q + 1) := by
    constructor
    · rintro ⟨q, hq, h⟩
      exact ⟨q, hq, (mem_gone (n := p).mp h).2⟩
    · rintro ⟨q, hq, h⟩
      exact ⟨q, hq, mem_gone.mpr ⟨leans_lt hq, h⟩⟩
  rw [key] at e
  rw [← e]
  split
  · rename_i h
    simp [h]
  · rename_i h
    exact ⟨fun z => absurd z nin, fun z => absurd z h⟩
/-! ### chains -/
inductive IsCh (ds : List (List Mv)) (f : Int) : List Nat → Nat → Prop where
  | base {p : Nat} : f ∈ mvd (dl ds p) → IsCh ds f [p] p
  | step {c : List Nat} {q p : Nat} : IsCh ds f c q → q ∈ leans ds p → IsCh ds f (c ++ [p]) p
theorem IsCh.ne {c : List Nat} {p : Nat} (h : IsCh ds f c p) : c ≠ [] := by cases h <;> simp
theorem IsCh.last {c : List Nat} {p : Nat} (h : IsCh ds f c p) : c.getLast? = some p := by cases h <;> simp
theorem IsCh.le {c : List Nat} {p : Nat} (h : IsCh ds f c p) : ∀ i ∈ c, i ≤ p := by
  induction h with
  | base _ => simp
  | step h1 h2 ih =>
    intro i hi
    have := leans_lt h2
    rcases List.mem_append.mp hi with z | z
    · have := ih i z
      omega
    · simp at z
      omega
theorem IsCh.fl {c : List Nat} {p : Nat} (h : IsCh ds f c p) : ∀ i ∈ c, Fl mn ds f i := by
  have last : ∀ {c p}, IsCh ds f c p → (∀ i ∈ c, Fl mn ds f i) → Fl mn ds f p := fun h a => a _ (List.mem_of_getLast? h.last)
  induction h with
  | base h =>
    intro i hi
    simp at hi
    subst hi
    exact fl_iff.mpr (.inl h)
  | step h1 h2 ih =>
    intro i hi
    rcases List.mem_append.mp hi with z | z
    · exact ih i z
    · simp at z
      subst z
      exact fl_iff.mpr (.inr ⟨_, h2, last h1 ih⟩)
theorem IsCh.head {c : List Nat} {p : Nat} (h : IsCh ds f c p) : ∃ a r, c = a :: r ∧ f ∈ mvd (dl ds a) := by
  induction h with
  | base h => exact ⟨_, _, rfl, h⟩
  | step h1 h2 ih =>
    obtain ⟨a, r, rfl, h⟩ := ih
    exact ⟨a, _, rfl, h⟩
/-- each but the first leans on the one ahead -/
def linked (ds : List (List Mv)) : List Nat → Bool
  | a :: b :: r => (leans ds b).contains a && linked ds (b :: r)
  | _ => true
theorem linked_snoc {c : List Nat} {q p : Nat} (h : linked ds c = true) (l : c.getLast? = some q) (k : q ∈ leans ds p) : linked ds (c ++ [p]) = true := by
  induction c with
  | nil => simp at l
  | cons a r ih =>
    cases r with
    | nil =>
      simp at l
      subst l
      show ((leans ds p).contains a && true) = true
      rw [Bool.and_true, List.contains_iff_mem]
      exact k
    | cons b t =>
      rw [List.getLast?_cons_cons] at l
      have h : ((leans ds b).contains a && linked ds (b :: t)) = true := h
      rw [Bool.and_eq_true] at h
      show ((leans ds b).contains a && linked ds (b :: t ++ [p])) = true
      rw [Bool.and_eq_true]
      exact ⟨h.1, ih h.2 l⟩
theorem IsCh.linked {c : List Nat} {p : Nat} (h : IsCh ds f c p) : Dl.linked ds c = true := by
  induction h with
  | base h => rfl
  | step h1 h2 ih => exact linked_snoc ih h1.last h2
end
end Dl

set_option Elab.async false
set_option maxRecDepth 100000
set_option maxHeartbeats 4000000
set_option linter.all false
namespace Dl
/-! ### the mathematics of owners -/
structure OwOk (os : List Int) : Prop where
  l0 : 1 ≤ os.length
  l1 : os.length ≤ 12
  rng : ∀ o ∈ os, 0 ≤ o ∧ o ≤ 5
structure MvOk (os : List Int) (m : Mv) : Prop where
  s0 : 0 ≤ m.1
  s1 : m.1 < os.length
  g0 : 0 ≤ m.2.1
  g1 : m.2.1 ≤ 5
  t0 : 0 ≤ m.2.2
  t1 : m.2.2 ≤ 5
  ne : m.2.1 ≠ m.2.2
  own : os[m.1.toNat]? = some m.2.1
structure DlOk (os : List Int) (d : List Mv) : Prop where
  l0 : 1 ≤ d.length
  l1 : d.length ≤ 6
  mv : ∀ m ∈ d, MvOk os m
  once : (mvd d).Nodup
def doneD (os : List Int) (d : List Mv) : List Int := d.foldl (fun o m => o.set m.1.toNat m.2.2) os
def DlsOk : List Int → List (List Mv) → Prop
  | _, [] => True
  | os, d :: r => DlOk os d ∧ DlsOk (doneD os d) r
theorem dlsOk_ln {os : List Int} {ds : List (List Mv)} (h : DlsOk os ds) : ∀ d ∈ ds, d.length ≤ 6 := by
  induction ds generalizing os with
  | nil => simp
  | cons x r ih =>
    intro d hd
    rcases List.mem_cons.mp hd with z | z
    · subst z
      exact h.1.l1
    · exact ih h.2 d z
/-! ### what stands -/
section
variable (mn : List Nat → List (List Nat) → List Nat) (ds : List (List Mv)) (f : Int)
end
section
variable {mn : List Nat → List (List Nat) → List Nat} {ds : List (List Mv)} {f : Int} {os : List Int}
end
end Dl

set_option Elab.async false
set_option maxRecDepth 100000
set_option maxHeartbeats 4000000
set_option linter.all false
set_option synthInstance.maxHeartbeats 4000000
set_option synthInstance.maxSize 10000

namespace Dl
open PySem PySem.Spec PyProof.Rows L2 RZ HmS Da
def topSt (i : Nat) : Stmt := PySem.Challenge.pw_hingemount_k85_albums_written_and_read.main.body.getD i (.Pass ⟨0, 0, 0, 0⟩)
abbrev st_in_figures : Stmt := topSt 3
abbrev ps_in_figures : List Str := ["number"]
abbrev st_list_words : Stmt := topSt 4
abbrev nm_list_words : List Str := ["book", "land", "year", "many"]
abbrev ps_list_words : List Str := ["book"]
theorem sc_list_words : FnScope nm_list_words ps_list_words (defScope st_list_words) := ⟨rfl, rfl, rfl, by decide +kernel, rfl, by decide +kernel, by decide +kernel⟩
abbrev st_stamp_row : Stmt := topSt 5
abbrev nm_stamp_row : List Str := ["stamp", "many", "at", "number", "grade"]
abbrev ps_stamp_row : List Str := ["stamp", "many"]
theorem sc_stamp_row : FnScope nm_stamp_row ps_stamp_row (defScope st_stamp_row) := ⟨rfl, rfl, rfl, by decide +kernel, rfl, by decide +kernel, by decide +kernel⟩
abbrev st_album_rows : Stmt := topSt 6
abbrev nm_album_rows : List Str := ["name", "book", "counts", "head", "stamps", "stamp", "many"]
abbrev ps_album_rows : List Str := ["name", "book", "counts"]
theorem sc_album_rows : FnScope nm_album_rows ps_album_rows (defScope st_album_rows) := ⟨rfl, rfl, rfl, by decide +kernel, rfl, by decide +kernel, by decide +kernel⟩
abbrev st_is_whole : Stmt := topSt 17
abbrev nm_is_whole : List Str := ["thing"]
abbrev ps_is_whole : List Str := ["thing"]
theorem sc_is_whole : FnScope nm_is_whole ps_is_whole (defScope st_is_whole) := ⟨rfl, rfl, rfl, by decide +kernel, rfl, by decide +kernel, by decide +kernel⟩
abbrev st_is_whole_from : Stmt := topSt 18
abbrev nm_is_whole_from : List Str := ["thing", "least"]
abbrev ps_is_whole_from : List Str := ["thing", "least"]
theorem sc_is_whole_from : FnScope nm_is_whole_from ps_is_whole_from (defScope st_is_whole_from) := ⟨rfl, rfl, rfl, by decide +kernel, rfl, by decide +kernel, by decide +kernel⟩
abbrev st_is_whole_within : Stmt := topSt 19
abbrev nm_is_whole_within : List Str := ["thing", "least", "most"]
abbrev ps_is_whole_within : List Str := ["thing", "least", "most"]
theorem sc_is_whole_within : FnScope nm_is_whole_within ps_is_whole_within (defScope st_is_whole_within) := ⟨rfl, rfl, rfl, by decide +kernel, rfl, by decide +kernel, by decide +kernel⟩
abbrev st_is_letters : Stmt := topSt 20
abbrev nm_is_letters : List Str := ["thing", "fewest", "most", "sign"]
abbrev ps_is_letters : List Str := ["thing", "fewest", "most"]
theorem sc_is_letters : FnScope nm_is_letters ps_is_letters (defScope st_is_letters) := ⟨rfl, rfl, rfl, by decide +kernel, rfl, by decide +kernel, by decide +kernel⟩
abbrev st_is_tuple : Stmt := topSt 21
abbrev nm_is_tuple : List Str := ["thing", "fewest", "most"]
abbrev ps_is_tuple : List Str := ["thing", "fewest", "most"]
theorem sc_is_tuple : FnScope nm_is_tuple ps_is_tuple (defScope st_is_tuple) := ⟨rfl, rfl, rfl, by decide +kernel, rfl, by decide +kernel, by decide +kernel⟩
abbrev st_is_rising : Stmt := topSt 22
abbrev nm_is_rising : List Str := ["things", "ahead", "behind"]
abbrev ps_is_rising : List Str := ["things"]
theorem sc_is_rising : FnScope nm_is_rising ps_is_rising (defScope st_is_rising) := ⟨rfl, rfl, rfl, by decide +kernel, rfl, by decide +kernel, by decide +kernel⟩
abbrev st_is_year : Stmt := topSt 26
abbrev nm_is_year : List Str := ["thing"]
abbrev ps_is_year : List Str := ["thing"]
theorem sc_is_year : FnScope nm_is_year ps_is_year (defScope st_is_year) := ⟨rfl, rfl, rfl, by decide +kernel, rfl, by decide +kernel, by decide +kernel⟩
abbrev st_is_set : Stmt := topSt 27
abbrev nm_is_set : List Str := ["thing", "land", "year", "many"]
abbrev ps_is_set : List Str := ["thing"]
theorem sc_is_set : FnScope nm_is_set ps_is_set (defScope st_is_set) := ⟨rfl, rfl, rfl, by decide +kernel, rfl, by decide +kernel, by decide +kernel⟩
abbrev st_is_list : Stmt := topSt 28
abbrev nm_is_list : List Str := ["thing", "part"]
abbrev ps_is_list : List Str := ["thing"]
theorem sc_is_list : FnScope nm_is_list ps_is_list (defScope st_is_list) := ⟨rfl, rfl, rfl, by decide +kernel, rfl, by decide +kernel, by decide +kernel⟩
abbrev st_is_set_number : Stmt := topSt 29
abbrev nm_is_set_number : List Str := ["book", "thing"]
abbrev ps_is_set_number : List Str := ["book", "thing"]
theorem sc_is_set_number : FnScope nm_is_set_number ps_is_set_number (defScope st_is_set_number) := ⟨rfl, rfl, rfl, by decide +kernel, rfl, by decide +kernel, by decide +kernel⟩
abbrev st_is_place : Stmt := topSt 30
abbrev nm_is_place : List Str := ["book", "thing", "at", "number"]
abbrev ps_is_place : List Str := ["book", "thing"]
theorem sc_is_place : FnScope nm_is_place ps_is_place (defScope st_is_place) := ⟨rfl, rfl, rfl, by decide +kernel, rfl, by decide +kernel, by decide +kernel⟩
abbrev st_is_stamp : Stmt := topSt 31
abbrev nm_is_stamp : List Str := ["book", "thing"]
abbrev ps_is_stamp : List Str := ["book", "thing"]
theorem sc_is_stamp : FnScope nm_is_stamp ps_is_stamp (defScope st_is_stamp) := ⟨rfl, rfl, rfl, by decide +kernel, rfl, by decide +kernel, by decide +kernel⟩
abbrev st_is_stamps : Stmt := topSt 33
abbrev nm_is_stamps : List Str := ["book", "thing", "part"]
abbrev ps_is_stamps : List Str := ["book", "thing"]
theorem sc_is_stamps : FnScope nm_is_stamps ps_is_stamps (defScope st_is_stamps) := ⟨rfl, rfl, rfl, by decide +kernel, rfl, by decide +kernel, by decide +kernel⟩
abbrev st_filled : Stmt := topSt 35
abbrev nm_filled : List Str := ["book", "name", "counts", "album", "stamp", "many"]
abbrev ps_filled : List Str := ["book", "name", "counts"]
theorem sc_filled : FnScope nm_filled ps_filled (defScope st_filled) := ⟨rfl, rfl, rfl, by decide +kernel, rfl, by decide +kernel, by decide +kernel⟩
abbrev st_is_figures : Stmt := topSt 37
abbrev nm_is_figures : List Str := ["word", "sign"]
abbrev ps_is_figures : List Str := ["word"]
theorem sc_is_figures : FnScope nm_is_figures ps_is_figures (defScope st_is_figures) := ⟨rfl, rfl, rfl, by decide +kernel, rfl, by decide +kernel, by decide +kernel⟩
abbrev st_number_in : Stmt := topSt 38
abbrev nm_number_in : List Str := ["word", "number", "figures", "at"]
abbrev ps_number_in : List Str := ["word"]
theorem sc_number_in : FnScope nm_number_in ps_number_in (defScope st_number_in) := ⟨rfl, rfl, rfl, by decide +kernel, rfl, by decide +kernel, by decide +kernel⟩
abbrev st_handed_number_in : Stmt := topSt 39
abbrev nm_handed_number_in : List Str := ["word"]
abbrev ps_handed_number_in : List Str := ["word"]
theorem sc_handed_number_in : FnScope nm_handed_number_in ps_handed_number_in (defScope st_handed_number_in) := ⟨rfl, rfl, rfl, by decide +kernel, rfl, by decide +kernel, by decide +kernel⟩
abbrev st_grade_in : Stmt := topSt 40
abbrev nm_grade_in : List Str := ["word"]
abbrev ps_grade_in : List Str := ["word"]
theorem sc_grade_in : FnScope nm_grade_in ps_grade_in (defScope st_grade_in) := ⟨rfl, rfl, rfl, by decide +kernel, rfl, by decide +kernel, by decide +kernel⟩
abbrev st_set_in : Stmt := topSt 41
abbrev nm_set_in : List Str := ["text", "land", "_", "rest", "year", "many", "letters"]
abbrev ps_set_in : List Str := ["text"]
theorem sc_set_in : FnScope nm_set_in ps_set_in (defScope st_set_in) := ⟨rfl, rfl, rfl, by decide +kernel, rfl, by decide +kernel, by decide +kernel⟩
abbrev st_sets_in : Stmt := topSt 42
abbrev nm_sets_in : List Str := ["text", "sets", "part"]
abbrev ps_sets_in : List Str := ["text"]
theorem sc_sets_in : FnScope nm_sets_in ps_sets_in (defScope st_sets_in) := ⟨rfl, rfl, rfl, by decide +kernel, rfl, by decide +kernel, by decide +kernel⟩
abbrev st_list_text : Stmt := topSt 44
abbrev nm_list_text : List Str := ["book"]
abbrev ps_list_text : List Str := ["book"]
theorem sc_list_text : FnScope nm_list_text ps_list_text (defScope st_list_text) := ⟨rfl, rfl, rfl, by decide +kernel, rfl, by decide +kernel, by decide +kernel⟩
abbrev st_album_text : Stmt := topSt 45
abbrev nm_album_text : List Str := ["album"]
abbrev ps_album_text : List Str := ["album"]
theorem sc_album_text : FnScope nm_album_text ps_album_text (defScope st_album_text) := ⟨rfl, rfl, rfl, by decide +kernel, rfl, by decide +kernel, by decide +kernel⟩
abbrev st_name_read : Stmt := topSt 46
abbrev nm_name_read : List Str := ["row", "word", "_", "name"]
abbrev ps_name_read : List Str := ["row"]
theorem sc_name_read : FnScope nm_name_read ps_name_read (defScope st_name_read) := ⟨rfl, rfl, rfl, by decide +kernel, rfl, by decide +kernel, by decide +kernel⟩
abbrev st_book_read : Stmt := topSt 47
abbrev nm_book_read : List Str := ["row", "word", "_", "rest", "book"]
abbrev ps_book_read : List Str := ["row"]
theorem sc_book_read : FnScope nm_book_read ps_book_read (defScope st_book_read) := ⟨rfl, rfl, rfl, by decide +kernel, rfl, by decide +kernel, by decide +kernel⟩
abbrev st_count_read : Stmt := topSt 48
abbrev nm_count_read : List Str := ["book", "row", "place", "_", "rest", "at", "number", "grade", "figures", "stamp", "many"]
abbrev ps_count_read : List Str := ["book", "row"]
theorem sc_count_read : FnScope nm_count_read ps_count_read (defScope st_count_read) := ⟨rfl, rfl, rfl, by decide +kernel, rfl, by decide +kernel, by decide +kernel⟩
abbrev st_album_read : Stmt := topSt 49
abbrev nm_album_read : List Str := ["text", "rows", "name", "book", "album", "row"]
abbrev ps_album_read : List Str := ["text"]
theorem sc_album_read : FnScope nm_album_read ps_album_read (defScope st_album_read) := ⟨rfl, rfl, rfl, by decide +kernel, rfl, by decide +kernel, by decide +kernel⟩
abbrev st__law_pen : Stmt := topSt 51
abbrev nm__law_pen : List Str := ["_law_cell"]
abbrev ps__law_pen : List Str := ["_law_cell"]
theorem sc__law_pen : FnScope nm__law_pen ps__law_pen (defScope st__law_pen) := ⟨rfl, rfl, rfl, by decide +kernel, rfl, by decide +kernel, by decide +kernel⟩
abbrev st__law_cell_at : Stmt := topSt 52
abbrev nm__law_cell_at : List Str := ["_law_script", "_law_k"]
abbrev ps__law_cell_at : List Str := ["_law_script", "_law_k"]
theorem sc__law_cell_at : FnScope nm__law_cell_at ps__law_cell_at (defScope st__law_cell_at) := ⟨rfl, rfl, rfl, by decide +kernel, rfl, by decide +kernel, by decide +kernel⟩
abbrev st__law_draw : Stmt := topSt 53
abbrev nm__law_draw : List Str := ["_law_pen_here", "_law_bound", "_law_found", "_law_stir"]
abbrev ps__law_draw : List Str := ["_law_pen_here", "_law_bound"]
theorem sc__law_draw : FnScope nm__law_draw ps__law_draw (defScope st__law_draw) := ⟨rfl, rfl, rfl, by decide +kernel, rfl, by decide +kernel, by decide +kernel⟩
abbrev st__law_sets : Stmt := topSt 54
abbrev nm__law_sets : List Str := ["_law_pen_here", "_law_found", "_law_k", "_law_land", "_law_year", "_law_key"]
abbrev ps__law_sets : List Str := ["_law_pen_here"]
theorem sc__law_sets : FnScope nm__law_sets ps__law_sets (defScope st__law_sets) := ⟨rfl, rfl, rfl, by decide +kernel, rfl, by decide +kernel, by decide +kernel⟩
abbrev st__law_list_text : Stmt := topSt 55
abbrev nm__law_list_text : List Str := ["_law_sets_here", "_law_land", "_law_year", "_law_many"]
abbrev ps__law_list_text : List Str := ["_law_sets_here"]
theorem sc__law_list_text : FnScope nm__law_list_text ps__law_list_text (defScope st__law_list_text) := ⟨rfl, rfl, rfl, by decide +kernel, rfl, by decide +kernel, by decide +kernel⟩
abbrev st__law_places : Stmt := topSt 56
abbrev nm__law_places : List Str := ["_law_sets_here", "_law_found", "_law_at", "_law_row", "_law_number"]
abbrev ps__law_places : List Str := ["_law_sets_here"]
theorem sc__law_places : FnScope nm__law_places ps__law_places (defScope st__law_places) := ⟨rfl, rfl, rfl, by decide +kernel, rfl, by decide +kernel, by decide +kernel⟩
abbrev st__law_counts : Stmt := topSt 57
abbrev nm__law_counts : List Str := ["_law_pen_here", "_law_sets_here", "_law_found", "_law_place", "_law_grade", "_law_many"]
abbrev ps__law_counts : List Str := ["_law_pen_here", "_law_sets_here"]
theorem sc__law_counts : FnScope nm__law_counts ps__law_counts (defScope st__law_counts) := ⟨rfl, rfl, rfl, by decide +kernel, rfl, by decide +kernel, by decide +kernel⟩
abbrev st__law_album : Stmt := topSt 58
abbrev nm__law_album : List Str := ["_law_sets_here", "_law_counts_here", "_law_name", "_law_album_here", "_law_stamp"]
abbrev ps__law_album : List Str := ["_law_sets_here", "_law_counts_here", "_law_name"]
theorem sc__law_album : FnScope nm__law_album ps__law_album (defScope st__law_album) := ⟨rfl, rfl, rfl, by decide +kernel, rfl, by decide +kernel, by decide +kernel⟩
abbrev st__law_text : Stmt := topSt 59
abbrev nm__law_text : List Str := ["_law_sets_here", "_law_counts_here", "_law_name", "_law_rows", "_law_stamp", "_law_place", "_law_word"]
abbrev ps__law_text : List Str := ["_law_sets_here", "_law_counts_here", "_law_name"]
theorem sc__law_text : FnScope nm__law_text ps__law_text (defScope st__law_text) := ⟨rfl, rfl, rfl, by decide +kernel, rfl, by decide +kernel, by decide +kernel⟩
abbrev st__law_read : Stmt := topSt 60
abbrev nm__law_read : List Str := ["_law_text_here"]
abbrev ps__law_read : List Str := ["_law_text_here"]
theorem sc__law_read : FnScope nm__law_read ps__law_read (defScope st__law_read) := ⟨rfl, rfl, rfl, by decide +kernel, rfl, by decide +kernel, by decide +kernel⟩
abbrev st_law : Stmt := topSt 61
abbrev nm_law : List Str := ["_law_script", "_law_k", "_law_pen_here", "_law_sets_here", "_law_turn", "_law_counts_here", "_law_name", "_law_album_here", "_law_text_here", "_law_found", "_law_lap"]
abbrev ps_law : List Str := ["_law_script"]
theorem sc_law : FnScope nm_law ps_law (defScope st_law) := ⟨rfl, rfl, rfl, by decide +kernel, rfl, by decide +kernel, by decide +kernel⟩
def dNm : List Str := (["in_figures", "list_words", "stamp_row", "album_rows", "is_whole", "is_whole_from", "is_whole_within", "is_letters"] : List Str) ++ (["is_tuple", "is_rising", "is_year", "is_set", "is_list", "is_set_number", "is_place", "is_stamp"] : List Str) ++ (["is_stamps", "filled", "is_figures", "number_in", "handed_number_in", "grade_in", "set_in", "sets_in"] : List Str) ++ (["list_text", "album_text", "name_read", "book_read", "count_read", "album_read", "_law_pen", "_law_cell_at"] : List Str) ++ (["_law_draw", "_law_sets", "_law_list_text", "_law_places", "_law_counts", "_law_album", "_law_text", "_law_read"] : List Str) ++ (["law"] : List Str)
def dSt : List Stmt := ([st_in_figures, st_list_words, st_stamp_row, st_album_rows, st_is_whole, st_is_whole_from, st_is_whole_within, st_is_letters] : List Stmt) ++ ([st_is_tuple, st_is_rising, st_is_year, st_is_set, st_is_list, st_is_set_number, st_is_place, st_is_stamp] : List Stmt) ++ ([st_is_stamps, st_filled, st_is_figures, st_number_in, st_handed_number_in, st_grade_in, st_set_in, st_sets_in] : List Stmt) ++ ([st_list_text, st_album_text, st_name_read, st_book_read, st_count_read, st_album_read, st__law_pen, st__law_cell_at] : List Stmt) ++ ([st__law_draw, st__law_sets, st__law_list_text, st__law_places, st__law_counts, st__law_album, st__law_text, st__law_read] : List Stmt) ++ ([st_law] : List Stmt)

def bnm : List Str := (["len", "int", "range", "sorted", "tuple", "enumerate", "isinstance", "bool"] : List Str) ++ (["str", "all", "any", "zip", "max", "min", "list", "set"] : List Str) ++ (["sum", "repr", "dict", "divmod"] : List Str)
structure Txt (K : PySem.W.Frag) (mg : Str → Option Value) (ad : Nat → Addr) (fd : Nat → FuncData) : Prop where
  z : ∀ i, i < 20 → mg (bnm.getD i "") = none
  g : ∀ i, i < 41 → mg (dNm.getD i "") = some (.ref (ad i))
  k : ∀ i, i < 41 → PySem.W.keepIn K (.ref (ad i)) = true
  f : ∀ i, i < 41 → Fun K (dNm.getD i "") (dNm.getD i "") (dSt.getD i (topSt 0)) (ad i) (fd i)
section
variable {P : Program} {w : World} {K : PySem.W.Frag} {mg : Str → Option Value} {base : Heap} {ad : Nat → Addr} {fd : Nat → FuncData}
theorem bd_in_figures (T : Txt K mg ad fd) : Binds K (fd 0) ps_in_figures [] := (show Fun K "in_figures" "in_figures" st_in_figures (ad 0) (fd 0) from T.f 0 (by decide)).binds fun _ _ _ _ _ _ us hl => match us, hl with | [_], _ => rfl
theorem bd_list_words (T : Txt K mg ad fd) : Binds K (fd 1) ps_list_words [] := (show Fun K "list_words" "list_words" st_list_words (ad 1) (fd 1) from T.f 1 (by decide)).binds fun _ _ _ _ _ _ us hl => match us, hl with | [_], _ => rfl
theorem bd_stamp_row (T : Txt K mg ad fd) : Binds K (fd 2) ps_stamp_row [] := (show Fun K "stamp_row" "stamp_row" st_stamp_row (ad 2) (fd 2) from T.f 2 (by decide)).binds fun _ _ _ _ _ _ us hl => match us, hl with | [_, _], _ => rfl
theorem bd_album_rows (T : Txt K mg ad fd) : Binds K (fd 3) ps_album_rows [] := (show Fun K "album_rows" "album_rows" st_album_rows (ad 3) (fd 3) from T.f 3 (by decide)).binds fun _ _ _ _ _ _ us hl => match us, hl with | [_, _, _], _ => rfl
theorem bd_is_whole (T : Txt K mg ad fd) : Binds K (fd 4) ps_is_whole [] := (show Fun K "is_whole" "is_whole" st_is_whole (ad 4) (fd 4) from T.f 4 (by decide)).binds fun _ _ _ _ _ _ us hl => match us, hl with | [_], _ => rfl
theorem bd_is_whole_from (T : Txt K mg ad fd) : Binds K (fd 5) ps_is_whole_from [] := (show Fun K "is_whole_from" "is_whole_from" st_is_whole_from (ad 5) (fd 5) from T.f 5 (by decide)).binds fun _ _ _ _ _ _ us hl => match us, hl with | [_, _], _ => rfl
theorem bd_is_whole_within (T : Txt K mg ad fd) : Binds K (fd 6) ps_is_whole_within [] := (show Fun K "is_whole_within" "is_whole_within" st_is_whole_within (ad 6) (fd 6) from T.f 6 (by decide)).binds fun _ _ _ _ _ _ us hl => match us, hl with | [_, _, _], _ => rfl
theorem bd_is_letters (T : Txt K mg ad fd) : Binds K (fd 7) ps_is_letters [] := (show Fun K "is_letters" "is_letters" st_is_letters (ad 7) (fd 7) from T.f 7 (by decide)).binds fun _ _ _ _ _ _ us hl => match us, hl with | [_, _, _], _ => rfl
theorem bd_is_tuple (T : Txt K mg ad fd) : Binds K (fd 8) ps_is_tuple [] := (show Fun K "is_tuple" "is_tuple" st_is_tuple (ad 8) (fd 8) from T.f 8 (by decide)).binds fun _ _ _ _ _ _ us hl => match us, hl with | [_, _, _], _ => rfl
theorem bd_is_rising (T : Txt K mg ad fd) : Binds K (fd 9) ps_is_rising [] := (show Fun K "is_rising" "is_rising" st_is_rising (ad 9) (fd 9) from T.f 9 (by decide)).binds fun _ _ _ _ _ _ us hl => match us, hl with | [_], _ => rfl
theorem bd_is_year (T : Txt K mg ad fd) : Binds K (fd 10) ps_is_year [] := (show Fun K "is_year" "is_year" st_is_year (ad 10) (fd 10) from T.f 10 (by decide)).binds fun _ _ _ _ _ _ us hl => match us, hl with | [_], _ => rfl
theorem bd_is_set (T : Txt K mg ad fd) : Binds K (fd 11) ps_is_set [] := (show Fun K "is_set" "is_set" st_is_set (ad 11) (fd 11) from T.f 11 (by decide)).binds fun _ _ _ _ _ _ us hl => match us, hl with | [_], _ => rfl
theorem bd_is_list (T : Txt K mg ad fd) : Binds K (fd 12) ps_is_list [] := (show Fun K "is_list" "is_list" st_is_list (ad 12) (fd 12) from T.f 12 (by decide)).binds fun _ _ _ _ _ _ us hl => match us, hl with | [_], _ => rfl
theorem bd_is_set_number (T : Txt K mg ad fd) : Binds K (fd 13) ps_is_set_number [] := (show Fun K "is_set_number" "is_set_number" st_is_set_number (ad 13) (fd 13) from T.f 13 (by decide)).binds fun _ _ _ _ _ _ us hl => match us, hl with | [_, _], _ => rfl
theorem bd_is_place (T : Txt K mg ad fd) : Binds K (fd 14) ps_is_place [] := (show Fun K "is_place" "is_place" st_is_place (ad 14) (fd 14) from T.f 14 (by decide)).binds fun _ _ _ _ _ _ us hl => match us, hl with | [_, _], _ => rfl
theorem bd_is_stamp (T : Txt K mg ad fd) : Binds K (fd 15) ps_is_stamp [] := (show Fun K "is_stamp" "is_stamp" st_is_stamp (ad 15) (fd 15) from T.f 15 (by decide)).binds fun _ _ _ _ _ _ us hl => match us, hl with | [_, _], _ => rfl
theorem bd_is_stamps (T : Txt K mg ad fd) : Binds K (fd 16) ps_is_stamps [] := (show Fun K "is_stamps" "is_stamps" st_is_stamps (ad 16) (fd 16) from T.f 16 (by decide)).binds fun _ _ _ _ _ _ us hl => match us, hl with | [_, _], _ => rfl
theorem bd_filled (T : Txt K mg ad fd) : Binds K (fd 17) ps_filled [] := (show Fun K "filled" "filled" st_filled (ad 17) (fd 17) from T.f 17 (by decide)).binds fun _ _ _ _ _ _ us hl => match us, hl with | [_, _, _], _ => rfl
theorem bd_is_figures (T : Txt K mg ad fd) : Binds K (fd 18) ps_is_figures [] := (show Fun K "is_figures" "is_figures" st_is_figures (ad 18) (fd 18) from T.f 18 (by decide)).binds fun _ _ _ _ _ _ us hl => match us, hl with | [_], _ => rfl
theorem bd_number_in (T : Txt K mg ad fd) : Binds K (fd 19) ps_number_in [] := (show Fun K "number_in" "number_in" st_number_in (ad 19) (fd 19) from T.f 19 (by decide)).binds fun _ _ _ _ _ _ us hl => match us, hl with | [_], _ => rfl
theorem bd_handed_number_in (T : Txt K mg ad fd) : Binds K (fd 20) ps_handed_number_in [] := (show Fun K "handed_number_in" "handed_number_in" st_handed_number_in (ad 20) (fd 20) from T.f 20 (by decide)).binds fun _ _ _ _ _ _ us hl => match us, hl with | [_], _ => rfl
theorem bd_grade_in (T : Txt K mg ad fd) : Binds K (fd 21) ps_grade_in [] := (show Fun K "grade_in" "grade_in" st_grade_in (ad 21) (fd 21) from T.f 21 (by decide)).binds fun _ _ _ _ _ _ us hl => match us, hl with | [_], _ => rfl
theorem bd_set_in (T : Txt K mg ad fd) : Binds K (fd 22) ps_set_in [] := (show Fun K "set_in" "set_in" st_set_in (ad 22) (fd 22) from T.f 22 (by decide)).binds fun _ _ _ _ _ _ us hl => match us, hl with | [_], _ => rfl
theorem bd_sets_in (T : Txt K mg ad fd) : Binds K (fd 23) ps_sets_in [] := (show Fun K "sets_in" "sets_in" st_sets_in (ad 23) (fd 23) from T.f 23 (by decide)).binds fun _ _ _ _ _ _ us hl => match us, hl with | [_], _ => rfl
theorem bd_list_text (T : Txt K mg ad fd) : Binds K (fd 24) ps_list_text [] := (show Fun K "list_text" "list_text" st_list_text (ad 24) (fd 24) from T.f 24 (by decide)).binds fun _ _ _ _ _ _ us hl => match us, hl with | [_], _ => rfl
theorem bd_album_text (T : Txt K mg ad fd) : Binds K (fd 25) ps_album_text [] := (show Fun K "album_text" "album_text" st_album_text (ad 25) (fd 25) from T.f 25 (by decide)).binds fun _ _ _ _ _ _ us hl => match us, hl with | [_], _ => rfl
theorem bd_name_read (T : Txt K mg ad fd) : Binds K (fd 26) ps_name_read [] := (show Fun K "name_read" "name_read" st_name_read (ad 26) (fd 26) from T.f 26 (by decide)).binds fun _ _ _ _ _ _ us hl => match us, hl with | [_], _ => rfl
theorem bd_book_read (T : Txt K mg ad fd) : Binds K (fd 27) ps_book_read [] := (show Fun K "book_read" "book_read" st_book_read (ad 27) (fd 27) from T.f 27 (by decide)).binds fun _ _ _ _ _ _ us hl => match us, hl with | [_], _ => rfl
theorem bd_count_read (T : Txt K mg ad fd) : Binds K (fd 28) ps_count_read [] := (show Fun K "count_read" "count_read" st_count_read (ad 28) (fd 28) from T.f 28 (by decide)).binds fun _ _ _ _ _ _ us hl => match us, hl with | [_, _], _ => rfl
theorem bd_album_read (T : Txt K mg ad fd) : Binds K (fd 29) ps_album_read [] := (show Fun K "album_read" "album_read" st_album_read (ad 29) (fd 29) from T.f 29 (by decide)).binds fun _ _ _ _ _ _ us hl => match us, hl with | [_], _ => rfl
theorem bd__law_pen (T : Txt K mg ad fd) : Binds K (fd 30) ps__law_pen [] := (show Fun K "_law_pen" "_law_pen" st__law_pen (ad 30) (fd 30) from T.f 30 (by decide)).binds fun _ _ _ _ _ _ us hl => match us, hl with | [_], _ => rfl
theorem bd__law_cell_at (T : Txt K mg ad fd) : Binds K (fd 31) ps__law_cell_at [] := (show Fun K "_law_cell_at" "_law_cell_at" st__law_cell_at (ad 31) (fd 31) from T.f 31 (by decide)).binds fun _ _ _ _ _ _ us hl => match us, hl with | [_, _], _ => rfl
theorem bd__law_draw (T : Txt K mg ad fd) : Binds K (fd 32) ps__law_draw [] := (show Fun K "_law_draw" "_law_draw" st__law_draw (ad 32) (fd 32) from T.f 32 (by decide)).binds fun _ _ _ _ _ _ us hl => match us, hl with | [_, _], _ => rfl
theorem bd__law_sets (T : Txt K mg ad fd) : Binds K (fd 33) ps__law_sets [] := (show Fun K "_law_sets" "_law_sets" st__law_sets (ad 33) (fd 33) from T.f 33 (by decide)).binds fun _ _ _ _ _ _ us hl => match us, hl with | [_], _ => rfl
theorem bd__law_list_text (T : Txt K mg ad fd) : Binds K (fd 34) ps__law_list_text [] := (show Fun K "_law_list_text" "_law_list_text" st__law_list_text (ad 34) (fd 34) from T.f 34 (by decide)).binds fun _ _ _ _ _ _ us hl => match us, hl with | [_], _ => rfl
theorem bd__law_places (T : Txt K mg ad fd) : Binds K (fd 35) ps__law_places [] := (show Fun K "_law_places" "_law_places" st__law_places (ad 35) (fd 35) from T.f 35 (by decide)).binds fun _ _ _ _ _ _ us hl => match us, hl with | [_], _ => rfl
theorem bd__law_counts (T : Txt K mg ad fd) : Binds K (fd 36) ps__law_counts [] := (show Fun K "_law_counts" "_law_counts" st__law_counts (ad 36) (fd 36) from T.f 36 (by decide)).binds fun _ _ _ _ _ _ us hl => match us, hl with | [_, _], _ => rfl
theorem bd__law_album (T : Txt K mg ad fd) : Binds K (fd 37) ps__law_album [] := (show Fun K "_law_album" "_law_album" st__law_album (ad 37) (fd 37) from T.f 37 (by decide)).binds fun _ _ _ _ _ _ us hl => match us, hl with | [_, _, _], _ => rfl
theorem bd__law_text (T : Txt K mg ad fd) : Binds K (fd 38) ps__law_text [] := (show Fun K "_law_text" "_law_text" st__law_text (ad 38) (fd 38) from T.f 38 (by decide)).binds fun _ _ _ _ _ _ us hl => match us, hl with | [_, _, _], _ => rfl
theorem bd__law_read (T : Txt K mg ad fd) : Binds K (fd 39) ps__law_read [] := (show Fun K "_law_read" "_law_read" st__law_read (ad 39) (fd 39) from T.f 39 (by decide)).binds fun _ _ _ _ _ _ us hl => match us, hl with | [_], _ => rfl
end
abbrev st_Album__check_some : Stmt := inClass (topSt 34) 3
abbrev nm_Album__check_some : List Str := ["self", "stamp", "many"]
abbrev ps_Album__check_some : List Str := ["self", "stamp", "many"]
theorem sc_Album__check_some : FnScope nm_Album__check_some ps_Album__check_some (defScope st_Album__check_some) := ⟨rfl, rfl, rfl, by decide +kernel, rfl, by decide +kernel, by decide +kernel⟩
abbrev st_Album__check_stamp : Stmt := inClass (topSt 34) 4
abbrev nm_Album__check_stamp : List Str := ["self", "stamp"]
abbrev ps_Album__check_stamp : List Str := ["self", "stamp"]
theorem sc_Album__check_stamp : FnScope nm_Album__check_stamp ps_Album__check_stamp (defScope st_Album__check_stamp) := ⟨rfl, rfl, rfl, by decide +kernel, rfl, by decide +kernel, by decide +kernel⟩
abbrev st_Album_book : Stmt := inClass (topSt 34) 5
abbrev nm_Album_book : List Str := ["self"]
abbrev ps_Album_book : List Str := ["self"]
theorem sc_Album_book : FnScope nm_Album_book ps_Album_book (defScope st_Album_book) := ⟨rfl, rfl, rfl, by decide +kernel, rfl, by decide +kernel, by decide +kernel⟩
abbrev st_Album_called : Stmt := inClass (topSt 34) 6
abbrev nm_Album_called : List Str := ["self"]
abbrev ps_Album_called : List Str := ["self"]
theorem sc_Album_called : FnScope nm_Album_called ps_Album_called (defScope st_Album_called) := ⟨rfl, rfl, rfl, by decide +kernel, rfl, by decide +kernel, by decide +kernel⟩
abbrev st_Album_count_of : Stmt := inClass (topSt 34) 7
abbrev nm_Album_count_of : List Str := ["self", "stamp"]
abbrev ps_Album_count_of : List Str := ["self", "stamp"]
theorem sc_Album_count_of : FnScope nm_Album_count_of ps_Album_count_of (defScope st_Album_count_of) := ⟨rfl, rfl, rfl, by decide +kernel, rfl, by decide +kernel, by decide +kernel⟩
abbrev st_Album_all_of : Stmt := inClass (topSt 34) 8
abbrev nm_Album_all_of : List Str := ["self"]
abbrev ps_Album_all_of : List Str := ["self"]
theorem sc_Album_all_of : FnScope nm_Album_all_of ps_Album_all_of (defScope st_Album_all_of) := ⟨rfl, rfl, rfl, by decide +kernel, rfl, by decide +kernel, by decide +kernel⟩
abbrev st_Album___eq__ : Stmt := inClass (topSt 34) 16
abbrev nm_Album___eq__ : List Str := ["self", "other"]
abbrev ps_Album___eq__ : List Str := ["self", "other"]
theorem sc_Album___eq__ : FnScope nm_Album___eq__ ps_Album___eq__ (defScope st_Album___eq__) := ⟨rfl, rfl, rfl, by decide +kernel, rfl, by decide +kernel, by decide +kernel⟩
abbrev st_Album___repr__ : Stmt := inClass (topSt 34) 17
abbrev st_Album___str__ : Stmt := inClass (topSt 34) 18
abbrev nm_Album___str__ : List Str := ["self"]
abbrev ps_Album___str__ : List Str := ["self"]
theorem sc_Album___str__ : FnScope nm_Album___str__ ps_Album___str__ (defScope st_Album___str__) := ⟨rfl, rfl, rfl, by decide +kernel, rfl, by decide +kernel, by decide +kernel⟩
abbrev st_Album___init__ : Stmt := inClass (topSt 34) 0
abbrev nm_Album___init__ : List Str := ["self", "book", "name", "stamps", "stamp"]
abbrev ps_Album___init__ : List Str := ["self", "book", "name", "stamps"]
theorem sc_Album___init__ : FnScope nm_Album___init__ ps_Album___init__ (defScope st_Album___init__) := ⟨rfl, rfl, rfl, by decide +kernel, rfl, by decide +kernel, by decide +kernel⟩
abbrev st_Album_put : Stmt := inClass (topSt 34) 1
abbrev nm_Album_put : List Str := ["self", "stamp", "many"]
abbrev ps_Album_put : List Str := ["self", "stamp", "many"]
theorem sc_Album_put : FnScope nm_Album_put ps_Album_put (defScope st_Album_put) := ⟨rfl, rfl, rfl, by decide +kernel, rfl, by decide +kernel, by decide +kernel⟩
def mNm : List Str := ["_check_some", "_check_stamp", "book", "called", "count_of", "all_of", "__eq__", "__repr__", "__str__", "__init__", "put"]
def mQn : List Str := ["Album._check_some", "Album._check_stamp", "Album.book", "Album.called", "Album.count_of", "Album.all_of", "Album.__eq__", "Album.__repr__", "Album.__str__", "Album.__init__", "Album.put"]
def mSt : List Stmt := [st_Album__check_some, st_Album__check_stamp, st_Album_book, st_Album_called, st_Album_count_of, st_Album_all_of, st_Album___eq__, st_Album___repr__, st_Album___str__, st_Album___init__, st_Album_put]
structure TxtM (K : PySem.W.Frag) (mg : Str → Option Value) (C : Addr) (am : Nat → Addr) (fm : Nat → FuncData) : Prop where
  cl : Cls K C
  nB : NoAttr K C "_book"
  nN : NoAttr K C "_name"
  nM : NoAttr K C "_many"
  mgC : mg "Album" = some (.ref C)
  mkA : Mk K C (am 9)
  m : ∀ i, i < 11 → Meth K C (mNm.getD i "") (am i)
  f : ∀ i, i < 9 → Fun K (mNm.getD i "") (mQn.getD i "") (mSt.getD i (topSt 0)) (am i) (fm i)
  fd___init__ : FunD K "__init__" "Album.__init__" (defArgs st_Album___init__) (defBody st_Album___init__) (defScope st_Album___init__) [.str "", .non] [] (am 9) (fm 9)
  fd_put : FunD K "put" "Album.put" (defArgs st_Album_put) (defBody st_Album_put) (defScope st_Album_put) [.int 1] [] (am 10) (fm 10)
  oc : HmQ.OwnCmp K C (am 6)
  oi : OwnIsi K C
  gw : ∃ a, mg "GRADE_WORDS" = some (.ref a) ∧ KSq K a [.str "hinged", .str "whole"]
  gwt : ∃ a, mg "GRADE_WORDS" = some (.ref a) ∧ KTp K a
  os : OwnStr K C (am 8)
  orp : OwnRepr K C (am 7)
  sb : OwnSub K C
structure TxtG (mg : Str → Option Value) : Prop where
  hinged : ∃ t, mg "HINGED" = some (.int 0 t)
  whole : ∃ t, mg "WHOLE" = some (.int 1 t)
section
variable {K : PySem.W.Frag} {mg : Str → Option Value} {C : Addr} {am : Nat → Addr} {fm : Nat → FuncData}
theorem bm__check_some (TM : TxtM K mg C am fm) : Binds K (fm 0) ps_Album__check_some [] := (show Fun K "_check_some" "Album._check_some" st_Album__check_some (am 0) (fm 0) from TM.f 0 (by decide)).binds fun _ _ _ _ _ _ us hl => match us, hl with | [_, _, _], _ => rfl
theorem bm__check_stamp (TM : TxtM K mg C am fm) : Binds K (fm 1) ps_Album__check_stamp [] := (show Fun K "_check_stamp" "Album._check_stamp" st_Album__check_stamp (am 1) (fm 1) from TM.f 1 (by decide)).binds fun _ _ _ _ _ _ us hl => match us, hl with | [_, _], _ => rfl
theorem bm_book (TM : TxtM K mg C am fm) : Binds K (fm 2) ps_Album_book [] := (show Fun K "book" "Album.book" st_Album_book (am 2) (fm 2) from TM.f 2 (by decide)).binds fun _ _ _ _ _ _ us hl => match us, hl with | [_], _ => rfl
theorem bm_called (TM : TxtM K mg C am fm) : Binds K (fm 3) ps_Album_called [] := (show Fun K "called" "Album.called" st_Album_called (am 3) (fm 3) from TM.f 3 (by decide)).binds fun _ _ _ _ _ _ us hl => match us, hl with | [_], _ => rfl
theorem bm_count_of (TM : TxtM K mg C am fm) : Binds K (fm 4) ps_Album_count_of [] := (show Fun K "count_of" "Album.count_of" st_Album_count_of (am 4) (fm 4) from TM.f 4 (by decide)).binds fun _ _ _ _ _ _ us hl => match us, hl with | [_, _], _ => rfl
theorem bm_all_of (TM : TxtM K mg C am fm) : Binds K (fm 5) ps_Album_all_of [] := (show Fun K "all_of" "Album.all_of" st_Album_all_of (am 5) (fm 5) from TM.f 5 (by decide)).binds fun _ _ _ _ _ _ us hl => match us, hl with | [_], _ => rfl
theorem bm___eq__ (TM : TxtM K mg C am fm) : Binds K (fm 6) ps_Album___eq__ [] := (show Fun K "__eq__" "Album.__eq__" st_Album___eq__ (am 6) (fm 6) from TM.f 6 (by decide)).binds fun _ _ _ _ _ _ us hl => match us, hl with | [_, _], _ => rfl
theorem bm___str__ (TM : TxtM K mg C am fm) : Binds K (fm 8) ps_Album___str__ [] := (show Fun K "__str__" "Album.__str__" st_Album___str__ (am 8) (fm 8) from TM.f 8 (by decide)).binds fun _ _ _ _ _ _ us hl => match us, hl with | [_], _ => rfl
theorem bm___init___3 (TM : TxtM K mg C am fm) : ∃ ds, Vals ([.non] : List V) ds ∧ Binds K (fm 9) ps_Album___init__ ds := TM.fd___init__.binds1 (ps := ps_Album___init__) 3 1 (by simp) rfl (fun _ _ _ _ _ _ _ us its l1 l2 => match us, its, l1, l2 with | [_, _, _], [_, _], _, _ => ⟨_, rfl, rfl⟩)
theorem bm_put_2 (TM : TxtM K mg C am fm) : ∃ ds, Vals ([.int 1] : List V) ds ∧ Binds K (fm 10) ps_Album_put ds := TM.fd_put.binds1 (ps := ps_Album_put) 2 0 (by simp) rfl (fun _ _ _ _ _ _ _ us its l1 l2 => match us, its, l1, l2 with | [_, _], [_], _, _ => ⟨_, rfl, rfl⟩)
theorem bm_put_3 (TM : TxtM K mg C am fm) : ∃ ds, Vals ([] : List V) ds ∧ Binds K (fm 10) ps_Album_put ds := TM.fd_put.binds1 (ps := ps_Album_put) 3 1 (by simp) rfl (fun _ _ _ _ _ _ _ us its l1 l2 => match us, its, l1, l2 with | [_, _, _], [_], _, _ => ⟨_, rfl, rfl⟩)
end
end Dl

set_option Elab.async false
set_option maxRecDepth 100000
set_option maxHeartbeats 4000000
set_option linter.all false
set_option synthInstance.maxHeartbeats 4000000
set_option synthInstance.maxSize 10000

namespace Dl
open PySem PySem.Spec PyProof.Rows L2 RZ HmS Da
section
variable {P : Program} {w : World} {K : PySem.W.Frag} [HasT K] {mg : Str → Option Value} {base : Heap} {ad : Nat → Addr} {fd : Nat → FuncData}
/-! ### kinds -/
def isW : D → Bool
  | .int _ => true
  | _ => false
def inB (x : D) (a b : Int) : Bool := match x with
  | .int i => decide (a ≤ i) && decide (i ≤ b)
  | _ => false
def tupB (x : D) (a b : Int) : Bool := match x with
  | .tup xs => decide (a ≤ xs.length) && decide ((xs.length : Int) ≤ b)
  | _ => false
def kIsW (x : D) (φ : En → Prop) : Prop := x.ty.isSome = true ∧ φ (.d (.bl (isW x)))
def kIn (x a b : D) (φ : En → Prop) : Prop := ∃ i j : Int, a = .int i ∧ b = .int j ∧ x.ty.isSome = true ∧ φ (.d (.bl (inB x i j)))
def kTup (x a b : D) (φ : En → Prop) : Prop := ∃ i j : Int, a = .int i ∧ b = .int j ∧ x.ty.isSome = true ∧ φ (.d (.bl (tupB x i j)))
theorem ok_is_whole (T : Txt K mg ad fd) : FnOk P w K mg base CX0 1 (ad 4) (fd 4) ps_is_whole (spX K (sp1 kIsW)) := by
  refine (show Fun K "is_whole" "is_whole" st_is_whole (ad 4) (fd 4) from T.f 4 (by decide)).ok sc_is_whole (fun vs H Q E h => len1 h) (fun cdv A outer s H vs Q E hr h => ?_)
  have hu := hu_of hr
  have hu65 := hu65_of hr
  refine ⟨_, (pss_one (ps_ret (pe_and (pe_callB (r := rIsi K) call_isi (by rfl) (T.z 6 (by decide)) (by decide +kernel) (pa_cons (pv 0) (pa_cons (pe_bltn (v := .ty "int") (by rfl) (T.z 1 (by decide)) (by decide +kernel) rfl) pa_nil))) (pe_one (pe_not (pe_callB (r := rIsi K) call_isi (by rfl) (T.z 6 (by decide)) (by decide +kernel) (pa_cons (pv 0) (pa_cons (pe_bltn (v := .ty "bool") (by rfl) (T.z 7 (by decide)) (by decide +kernel) rfl) pa_nil)))))))), ?_⟩
  refine body1 h fun x φ hk => ?_
  rw [show st0 nm_is_whole [x] = [.d x] from rfl]
  obtain ⟨hx, hk⟩ := hk
  cases x with
  | ins C ns xs => exact absurd hx Bool.false_ne_true
  | int i => exact ⟨by decide, _, rfl, by decide, _, rfl, hk⟩
  | bl i => exact ⟨by decide, _, rfl, by decide, _, rfl, hk⟩
  | _ => exact ⟨by decide, _, rfl, hk⟩
theorem ok_is_whole_within (T : Txt K mg ad fd) : FnOk P w K mg base CX0 2 (ad 6) (fd 6) ps_is_whole_within (spX K (sp3 kIn)) := by
  refine (show Fun K "is_whole_within" "is_whole_within" st_is_whole_within (ad 6) (fd 6) from T.f 6 (by decide)).ok sc_is_whole_within (fun vs H Q E h => len3 h) (fun cdv A outer s H vs Q E hr h => ?_)
  have hu := hu_of hr
  have hu65 := hu65_of hr
  refine ⟨_, (pss_one (ps_ret (pe_and (pe_call (ok_is_whole (K := K) T) (hr.mono (by omega)) (by rfl) (T.g 4 (by decide)) (T.k 4 (by decide)) (bd_is_whole T) .nil pass0 (pa_cons (pv 0) pa_nil)) (pe_one (pe_chain op_le op_le (pv 1) (pv 0) (pv 2)))))), ?_⟩
  refine body3 h fun x y z φ hk => ?_
  rw [show st0 nm_is_whole_within [x, y, z] = [.d x, .d y, .d z] from rfl]
  obtain ⟨i, j, rfl, rfl, hx, hk⟩ := hk
  (try simp only [dVar, dC, dNil, dCons, dTup, dLst, dOp, onI, dI, dI0, dUn, dEq, dNe, dIxT, dIxL, dIxLv, dAndV, dOrV, dNotV, dB, dAnd, dOr, dNot, dYes, dIf, dChain, dCB, dLenR, dLenv, dListR, dTupR, dMxR, dMnR, dIntR, dIsi, dNoPart, dPart, dSl, dCatA, dCat, dRep, dIn, dInD, dIsN, D.isN, dCall, dCallP, dCallS, dPen0, dTruv, dRg1, dRg2, dLstRg, dTupRg, dLenSet, wf, wb, wi, wt, wl, vD, isSc, dSeq, dNext, dRet, dRetv, dRetN, dIfS, dAsg, dAsgT, dgTup, dgCons, dPar, dApp, dExt, dSetL, dPopAt, dRse, dNever, dDrop, dITup, dILst, dIRng1, dIRng2, dIDn, dIEnT, dIEnL, dIZip, po, poP, sp0, sp1, sp2, sp3, sp4, sp5, pp0, pp1, pp2, pp3, pp4, mo0, mo1, mo2, mo3, dBrw, immE, dMethO, dMake, dFSet, dFPut, fputK, dFDel, dGet2X, dOrT, dIStr, dLeStr, dAttr, dMeth, List.set_cons_zero, List.set_cons_succ, List.getElem?_cons_zero, List.getElem?_cons_succ, List.all_nil, List.map_nil, List.append_nil, List.cons_append, List.nil_append, true_and, ite_true, if_true])
  refine ⟨hx, ?_⟩
  cases x with
  | int n =>
    refine ifT rfl ?_
    (try simp only [dVar, dC, dNil, dCons, dTup, dLst, dOp, onI, dI, dI0, dUn, dEq, dNe, dIxT, dIxL, dIxLv, dAndV, dOrV, dNotV, dB, dAnd, dOr, dNot, dYes, dIf, dChain, dCB, dLenR, dLenv, dListR, dTupR, dMxR, dMnR, dIntR, dIsi, dNoPart, dPart, dSl, dCatA, dCat, dRep, dIn, dInD, dIsN, D.isN, dCall, dCallP, dCallS, dPen0, dTruv, dRg1, dRg2, dLstRg, dTupRg, dLenSet, wf, wb, wi, wt, wl, vD, isSc, dSeq, dNext, dRet, dRetv, dRetN, dIfS, dAsg, dAsgT, dgTup, dgCons, dPar, dApp, dExt, dSetL, dPopAt, dRse, dNever, dDrop, dITup, dILst, dIRng1, dIRng2, dIDn, dIEnT, dIEnL, dIZip, po, poP, sp0, sp1, sp2, sp3, sp4, sp5, pp0, pp1, pp2, pp3, pp4, mo0, mo1, mo2, mo3, dBrw, immE, dMethO, dMake, dFSet, dFPut, fputK, dFDel, dGet2X, dOrT, dIStr, dLeStr, dAttr, dMeth, List.set_cons_zero, List.set_cons_succ, List.getElem?_cons_zero, List.getElem?_cons_succ, List.all_nil, List.map_nil, List.append_nil, List.cons_append, List.nil_append, true_and, ite_true, if_true])
    refine ifB (fun c => ?_) (fun c => ?_)
    · rw [inB, c, Bool.true_and] at hk
      exact hk
    · rw [inB, c, Bool.false_and] at hk
      exact hk
  | _ => exact hk
theorem ok_is_tuple (T : Txt K mg ad fd) : FnOk P w K mg base CX0 1 (ad 8) (fd 8) ps_is_tuple (spX K (sp3 kTup)) := by
  refine (show Fun K "is_tuple" "is_tuple" st_is_tuple (ad 8) (fd 8) from T.f 8 (by decide)).ok sc_is_tuple (fun vs H Q E h => len3 h) (fun cdv A outer s H vs Q E hr h => ?_)
  have hu := hu_of hr
  have hu65 := hu65_of hr
  refine ⟨_, (pss_one (ps_ret (pe_and (pe_callB (r := rIsi K) call_isi (by rfl) (T.z 6 (by decide)) (by decide +kernel) (pa_cons (pv 0) (pa_cons (pe_bltn (v := .ty "tuple") (by rfl) (T.z 4 (by decide)) (by decide +kernel) rfl) pa_nil))) (pe_one (pe_chain op_le op_le (pv 1) (pe_callB (r := Da.rLen K) cl_len (by rfl) (T.z 0 (by decide)) (by decide +kernel) (pa_cons (pv 0) pa_nil)) (pv 2)))))), ?_⟩
  refine body3 h fun x y z φ hk => ?_
  rw [show st0 nm_is_tuple [x, y, z] = [.d x, .d y, .d z] from rfl]
  obtain ⟨i, j, rfl, rfl, hx, hk⟩ := hk
  cases x with
  | ins C ns xs => exact absurd hx Bool.false_ne_true
  | tup xs =>
    (try simp only [dVar, dC, dNil, dCons, dTup, dLst, dOp, onI, dI, dI0, dUn, dEq, dNe, dIxT, dIxL, dIxLv, dAndV, dOrV, dNotV, dB, dAnd, dOr, dNot, dYes, dIf, dChain, dCB, dLenR, dLenv, dListR, dTupR, dMxR, dMnR, dIntR, dIsi, dNoPart, dPart, dSl, dCatA, dCat, dRep, dIn, dInD, dIsN, D.isN, dCall, dCallP, dCallS, dPen0, dTruv, dRg1, dRg2, dLstRg, dTupRg, dLenSet, wf, wb, wi, wt, wl, vD, isSc, dSeq, dNext, dRet, dRetv, dRetN, dIfS, dAsg, dAsgT, dgTup, dgCons, dPar, dApp, dExt, dSetL, dPopAt, dRse, dNever, dDrop, dITup, dILst, dIRng1, dIRng2, dIDn, dIEnT, dIEnL, dIZip, po, poP, sp0, sp1, sp2, sp3, sp4, sp5, pp0, pp1, pp2, pp3, pp4, mo0, mo1, mo2, mo3, dBrw, immE, dMethO, dMake, dFSet, dFPut, fputK, dFDel, dGet2X, dOrT, dIStr, dLeStr, dAttr, dMeth, List.set_cons_zero, List.set_cons_succ, List.getElem?_cons_zero, List.getElem?_cons_succ, List.all_nil, List.map_nil, List.append_nil, List.cons_append, List.nil_append, true_and, ite_true, if_true])
    refine ⟨by decide, _, rfl, ifT rfl ?_⟩
    (try simp only [dVar, dC, dNil, dCons, dTup, dLst, dOp, onI, dI, dI0, dUn, dEq, dNe, dIxT, dIxL, dIxLv, dAndV, dOrV, dNotV, dB, dAnd, dOr, dNot, dYes, dIf, dChain, dCB, dLenR, dLenv, dListR, dTupR, dMxR, dMnR, dIntR, dIsi, dNoPart, dPart, dSl, dCatA, dCat, dRep, dIn, dInD, dIsN, D.isN, dCall, dCallP, dCallS, dPen0, dTruv, dRg1, dRg2, dLstRg, dTupRg, dLenSet, wf, wb, wi, wt, wl, vD, isSc, dSeq, dNext, dRet, dRetv, dRetN, dIfS, dAsg, dAsgT, dgTup, dgCons, dPar, dApp, dExt, dSetL, dPopAt, dRse, dNever, dDrop, dITup, dILst, dIRng1, dIRng2, dIDn, dIEnT, dIEnL, dIZip, po, poP, sp0, sp1, sp2, sp3, sp4, sp5, pp0, pp1, pp2, pp3, pp4, mo0, mo1, mo2, mo3, dBrw, immE, dMethO, dMake, dFSet, dFPut, fputK, dFDel, dGet2X, dOrT, dIStr, dLeStr, dAttr, dMeth, List.set_cons_zero, List.set_cons_succ, List.getElem?_cons_zero, List.getElem?_cons_succ, List.all_nil, List.map_nil, List.append_nil, List.cons_append, List.nil_append, true_and, ite_true, if_true])
    refine ifB (fun c => ?_) (fun c => ?_)
    · rw [tupB, c, Bool.true_and] at hk
      exact hk
    · rw [tupB, c, Bool.false_and] at hk
      exact hk
  | _ =>
    (try simp only [dVar, dC, dNil, dCons, dTup, dLst, dOp, onI, dI, dI0, dUn, dEq, dNe, dIxT, dIxL, dIxLv, dAndV, dOrV, dNotV, dB, dAnd, dOr, dNot, dYes, dIf, dChain, dCB, dLenR, dLenv, dListR, dTupR, dMxR, dMnR, dIntR, dIsi, dNoPart, dPart, dSl, dCatA, dCat, dRep, dIn, dInD, dIsN, D.isN, dCall, dCallP, dCallS, dPen0, dTruv, dRg1, dRg2, dLstRg, dTupRg, dLenSet, wf, wb, wi, wt, wl, vD, isSc, dSeq, dNext, dRet, dRetv, dRetN, dIfS, dAsg, dAsgT, dgTup, dgCons, dPar, dApp, dExt, dSetL, dPopAt, dRse, dNever, dDrop, dITup, dILst, dIRng1, dIRng2, dIDn, dIEnT, dIEnL, dIZip, po, poP, sp0, sp1, sp2, sp3, sp4, sp5, pp0, pp1, pp2, pp3, pp4, mo0, mo1, mo2, mo3, dBrw, immE, dMethO, dMake, dFSet, dFPut, fputK, dFDel, dGet2X, dOrT, dIStr, dLeStr, dAttr, dMeth, List.set_cons_zero, List.set_cons_succ, List.getElem?_cons_zero, List.getElem?_cons_succ, List.all_nil, List.map_nil, List.append_nil, List.cons_append, List.nil_append, true_and, ite_true, if_true])
    exact ⟨by decide, _, rfl, hk⟩
/-! ### owners, deals -/
end
end Dl

set_option Elab.async false
set_option maxRecDepth 100000
set_option maxHeartbeats 4000000
set_option linter.all false
set_option synthInstance.maxHeartbeats 4000000
set_option synthInstance.maxSize 10000

namespace Dl
open PySem PySem.Spec PyProof.Rows L2 RZ HmS Da
section
variable {P : Program} {w : World} {K : PySem.W.Frag} [HasT K] {mg : Str → Option Value} {base : Heap} {ad : Nat → Addr} {fd : Nat → FuncData}
theorem fit_int (i : Int) : (D.int i).fit = true := by simp [D.fit, D.flat, D.py, SeqAt.shaped, PyData.canLay0, PyData.depth]
theorem ixN_ok {n : Nat} {i : Int} (h0 : 0 ≤ i) (h1 : i < n) : ixN n i = some i.toNat := by
  unfold ixN
  rw [if_pos h0, if_pos h1]
end
end Dl

set_option Elab.async false
set_option maxRecDepth 100000
set_option maxHeartbeats 4000000
set_option linter.all false
set_option synthInstance.maxHeartbeats 4000000
set_option synthInstance.maxSize 10000

namespace Dl
open PySem PySem.Spec PyProof.Rows L2 RZ HmS Da
section
variable {P : Program} {w : World} {K : PySem.W.Frag} [HasT K] {mg : Str → Option Value} {base : Heap} {ad : Nat → Addr} {fd : Nat → FuncData}
theorem at_map {α β : Type} {xs : List α} {g : α → β} {i : Nat} {y : β} (h : (xs.map g)[i]? = some y) : ∃ d, xs[i]? = some d ∧ y = g d := by
  rw [List.getElem?_map] at h
  cases e : xs[i]? with
  | none => rw [e] at h; cases h
  | some d =>
    rw [e] at h
    cases h
    exact ⟨d, rfl, rfl⟩
theorem atI_ok {α : Type} {xs : List α} {i : Nat} {x : α} (h : xs[i]? = some x) : atI xs (i : Int) = some x := by
  unfold atI
  rw [ixN_ok (by omega) (by have := (List.getElem?_eq_some_iff.mp h).1; omega), Int.toNat_natCast]
  exact h
structure In2 (os : List Int) (ds : List (List Mv)) : Prop where
  ow : OwOk os
  vd : DlsOk os ds
  l : ds.length ≤ 10
theorem In2.ln {os : List Int} {ds : List (List Mv)} (h : In2 os ds) : ∀ d ∈ ds, d.length ≤ 6 := dlsOk_ln h.vd
end
end Dl

set_option Elab.async false
set_option maxRecDepth 100000
set_option maxHeartbeats 4000000
set_option linter.all false
set_option synthInstance.maxHeartbeats 4000000
set_option synthInstance.maxSize 10000

namespace Dl
open PySem PySem.Spec PyProof.Rows L2 RZ HmS Da
section
variable {P : Program} {w : World} {K : PySem.W.Frag} [HasT K] {mg : Str → Option Value} {base : Heap} {ad : Nat → Addr} {fd : Nat → FuncData}
/-! ### rising -/
theorem cutL_from {α : Type} {xs : List α} {n : Nat} : cutL xs (some (n : Int)) none = xs.drop n := by
  unfold cutL
  rw [HT.sIx_none, HT.sIx_nat]
  by_cases h : n ≤ xs.length
  · rw [Nat.min_eq_left h, List.take_of_length_le (by rw [List.length_drop]; omega)]
  · rw [Nat.min_eq_right (by omega), List.drop_length, List.drop_of_length_le (by omega), List.take_nil]
/-! ### what a deal leans on -/
end
end Dl

set_option Elab.async false
set_option maxRecDepth 100000
set_option maxHeartbeats 4000000
set_option linter.all false
set_option synthInstance.maxHeartbeats 4000000
set_option synthInstance.maxSize 10000

namespace Dl
open PySem PySem.Spec PyProof.Rows L2 RZ HmS Da
section
variable {P : Program} {w : World} {K : PySem.W.Frag} [HasT K] {mg : Str → Option Value} {base : Heap} {ad : Nat → Addr} {fd : Nat → FuncData}
/-! ### the pen -/
def kCell (x : D) (φ : En → Prop) : Prop := ∃ j : Nat, x = .int j ∧ ∀ z : Int, φ (.d (.int z))
theorem ok__law_cell_at (T : Txt K mg ad fd) : FnOk P w K mg base CX0 1 (ad 31) (fd 31) ps__law_cell_at (spS K (pp1 kCell)) := by
  refine (show Fun K "_law_cell_at" "_law_cell_at" st__law_cell_at (ad 31) (fd 31) from T.f 31 (by decide)).ok sc__law_cell_at (fun vs H Q E h => ?_) (fun cdv A outer s H vs Q E hr h => ?_)
  · obtain ⟨l, ns, us, ds, φ, rfl, _, rfl, _, hd, _⟩ := h
    match ds, hd with
    | [_], _ => rfl
  · obtain ⟨l, ns, us, ds, φ, rfl, hS, rfl, _, hd, q⟩ := h
    match ds, hd with
    | [x], hd =>
      obtain ⟨j, rfl, hz⟩ := hd
      have q := fun z => q z (hz z)
      refine ⟨_, pss_cons (ps_if (pt_cmpR op_lt (pv 1) (pe_callB call_len_seq (by rfl) (T.z 0 (by decide)) PySem.boot_len (pa_cons (pv 0) pa_nil)) (nomark _))
        (pss_one (ps_ret (pe_ix ix_list (pv 0) (pv 1) (fun _ _ => rfl)))) pss_nil) (pss_one (ps_ret pe_int)), ?_⟩
      refine ⟨_, rfl, _, rfl, l, _, rfl, .inl hS, _, _, rfl, rfl, _, rfl, ?_⟩
      refine ite2 (fun c => ?_) (fun c => q 0)
      have c' := of_decide_eq_true c
      rw [List.length_map] at c'
      have hj : j < ns.length := by omega
      refine ⟨_, rfl, _, rfl, l, _, _, .int ns[j], rfl, rfl, hS, ?_, q _⟩
      exact atI_nat (by rw [List.getElem?_map, List.getElem?_eq_getElem hj]; rfl)
theorem ok__law_pen (T : Txt K mg ad fd) : FnOk P w K mg base CX0 1 (ad 30) (fd 30) ps__law_pen spPen0 := by
  refine (show Fun K "_law_pen" "_law_pen" st__law_pen (ad 30) (fd 30) from T.f 30 (by decide)).ok sc__law_pen (fun vs H Q E h => ?_) (fun cdv A outer s H vs Q E hr h => ?_)
  · obtain ⟨z, rfl, _⟩ := h
    rfl
  · obtain ⟨z, rfl, q⟩ := h
    refine ⟨_, pss_one (ps_ret (pe_lst (pa_cons (pv 0) (pa_cons (pe_callTy call_int1 (by rfl) (T.z 1 (by decide)) (by decide +kernel)
        (pa_cons (pe_cmpR op_ge (pv 0) (pe_op op_pow pe_int pe_int) (nomark _)) pa_nil))
      (pa_cons pe_int (pa_cons (pe_op op_mod (pv 0) pe_int) pa_nil)))))), ?_⟩
    refine ⟨_, rfl, _, rfl, _, _, rfl, rfl, ⟨by decide, by decide, by decide⟩, _, _, rfl, rfl, .inr ⟨_, rfl, ?_⟩⟩
    refine ⟨_, rfl, _, _, rfl, rfl, (by show (0 : Int) < 1000000007; decide), (by show 4 ≤ sizeLine; decide), fun p hp => ?_⟩
    exact q p _ hp ⟨_, _, _, _, upd_same, Int.emod_nonneg _ (by decide), Int.emod_lt_of_pos _ (by decide)⟩ (fun b hb => upd_ne hb)
def kDraw (x : D) (φ : En → Prop) : Prop := ∃ n : Int, x = .int n ∧ 0 < n ∧ n < 1073741824 ∧ ∀ r : Int, 0 ≤ r → r < n → φ (.d (.int r))
theorem ok__law_draw (T : Txt K mg ad fd) : FnOk P w K mg base CX0 1 (ad 32) (fd 32) ps__law_draw (spP K (pp1 kDraw)) := by
  refine (show Fun K "_law_draw" "_law_draw" st__law_draw (ad 32) (fd 32) from T.f 32 (by decide)).ok sc__law_draw (fun vs H Q E h => lep1 h) (fun cdv A outer s H vs Q E hr h => ?_)
  obtain ⟨p, us, F, ds, φ, rfl, fp, ⟨a, b, c, d, hp, d0, d1⟩, fh, fn, tb, r, hd, q⟩ := h
  match ds, r, hd with
  | [x], r, hd =>
    obtain ⟨n, rfl, n0, n1, hφ⟩ := hd
    obtain ⟨x, rfl, rp⟩ := one_of r
    cases rp
    have q : ∀ (r : Int) H', 0 ≤ r → r < n → PenAt H' p → (∀ b, b ≠ p → H' b = H b) → Q (.int r) H' := fun r H' r0 r1 pen but => by
      refine q F H' (.int r) (.d (.int r)) (Same.refl F) (fun a o n _ e => by rw [but a n]; exact e) (tb.chg hp (plain_lst _) but) pen (fun a o e => ?_) fn (fun a o e => .inl e) (.int r : Rep F (.int r) (.int r)) (fun z => nomatch z) (fun z => nomatch z) (hφ r r0 r1)
      have : a ≠ p := ne_of_none e fp
      rw [but a this]
      exact fh a o e
    refine ⟨_, pss_cons (ps_if (PW.pt (pw_and (pt_cmpR op_eq (pe_ix ix_list (pv 0) pe_int (fun _ _ => rfl)) pe_int (nomark _))
          (pw_and1 (pt_cmpR op_gt (pe_ix ix_list (pv 0) pe_int (fun _ _ => rfl)) pe_int (nomark _)))))
        (pss_cons (ps_set (i := 2) sc__law_draw.nd rfl (Or.inl rfl) (pe_op op_mod (pe_ix ix_list (pv 0) pe_int (fun _ _ => rfl)) (pv 1)))
        (pss_cons (ps_asg (pe_op op_fdiv (pe_ix ix_list (pv 0) pe_int (fun _ _ => rfl)) (pv 1)) (pg_sub (pv 0) pe_int set_list))
        (pss_one (ps_ret (pv 2))))) pss_nil)
      (pss_cons (ps_asg (pe_op op_add (pe_ix ix_list (pv 0) pe_int (fun _ _ => rfl)) pe_int) (pg_sub (pv 0) pe_int set_list))
      (pss_cons (ps_set (i := 3) sc__law_draw.nd rfl (Or.inl rfl)
          (pe_op op_mod (pe_op op_mul (pe_op op_add (pe_ix ix_list (pv 0) pe_int (fun _ _ => rfl)) pe_int) (pe_op op_add pe_int (pe_op op_mul pe_int (pe_ix ix_list (pv 0) pe_int (fun _ _ => rfl))))) pe_int))
      (pss_cons (ps_set (i := 3) sc__law_draw.nd rfl (Or.inl rfl)
          (pe_op op_mod (pe_op op_add (pe_op op_add (pe_op op_mul (pv 3) (pv 3)) (pe_op op_mul pe_int (pe_ix ix_list (pv 0) pe_int (fun _ _ => rfl)))) pe_int) pe_int))
      (pss_one (ps_ret (pe_op op_mod (pe_op op_fdiv (pe_op op_mod (pe_op op_mul (pv 3) pe_int) pe_int) pe_int) (pv 1))))))), ?_⟩
    have back : ∀ r : Int, 0 ≤ r % n ∧ r % n < n := fun r => ⟨Int.emod_nonneg _ (by omega), Int.emod_lt_of_pos _ n0⟩
    refine ⟨_, rfl, p, _, _, _, rfl, rfl, SqL.of hp, rfl, rfl, _, rfl, ?_⟩
    refine (fun slow => ite2 (fun _ => ⟨_, rfl, p, _, _, _, rfl, rfl, SqL.of hp, rfl, _, _, rfl, rfl, _, rfl, ite2 (fun _ => ?fast) (fun _ => slow)⟩) (fun _ => slow)) ?slow
    case fast =>
      refine ⟨_, rfl, p, _, _, _, rfl, rfl, SqL.of hp, rfl, _, rfl, _, _, rfl, rfl, n0, ?_⟩
      refine ⟨_, rfl, p, _, _, _, rfl, rfl, SqL.of hp, rfl, _, rfl, _, _, rfl, rfl, ⟨n0, n1⟩, _, rfl, p, _, _, _, rfl, rfl, hp, rfl, _, rfl, ?_⟩
      exact q _ _ (back _).1 (back _).2 ⟨_, b, c, d, upd_same, d0, d1⟩ (fun b hb => upd_ne hb)
    case slow =>
      refine ⟨_, rfl, p, _, _, _, rfl, rfl, SqL.of hp, rfl, _, _, rfl, rfl, _, rfl, p, _, _, _, rfl, rfl, hp, rfl, ?_⟩
      refine ⟨_, rfl, p, _, _, _, rfl, rfl, SqL.of upd_same, rfl, _, _, rfl, rfl, _, rfl, p, _, _, _, rfl, rfl, SqL.of upd_same, rfl, _, _, rfl, rfl, .inl ⟨by decide, by decide⟩, _, _, rfl, rfl, _, _, rfl, rfl, .inl ⟨by omega, by omega⟩, _, _, rfl, rfl, (by show (0 : Int) < 2147483647; decide), ?_⟩
      generalize hx : ((d + 17) * (69621 + 2 * (c + 1))) % 2147483647 = x
      have x0 : 0 ≤ x := by rw [← hx]; exact Int.emod_nonneg _ (by decide)
      have x1 : x < 2147483647 := by rw [← hx]; exact Int.emod_lt_of_pos _ (by decide)
      refine ⟨_, rfl, _, rfl, _, _, rfl, rfl, .inl ⟨by omega, by omega⟩, _, rfl, p, _, _, _, rfl, rfl, SqL.of upd_same, rfl, _, _, rfl, rfl, .inl ⟨by decide, by decide⟩, _, _, rfl, rfl, _, _, rfl, rfl, _, _, rfl, rfl, (by show (0 : Int) < 2147483629; decide), ?_⟩
      generalize hy : (x * x + 40503 * (c + 1) + 5) % 2147483629 = y
      have y0 : 0 ≤ y := by rw [← hy]; exact Int.emod_nonneg _ (by decide)
      have y1 : y < 2147483629 := by rw [← hy]; exact Int.emod_lt_of_pos _ (by decide)
      refine ⟨_, rfl, _, _, rfl, rfl, .inl ⟨by omega, by omega⟩, _, _, rfl, rfl, (by show (0 : Int) < 2147483647; decide), _, _, rfl, rfl, ⟨by decide, by decide⟩, _, rfl, _, _, rfl, rfl, n0, ?_⟩
      exact q _ _ (back _).1 (back _).2 ⟨a, b, c + 1, d, upd_same, d0, d1⟩ (fun b hb => upd_ne hb)
/-! ### what the law draws -/
end
end Dl


set_option Elab.async false
set_option maxRecDepth 100000
set_option maxHeartbeats 4000000
set_option linter.all false
set_option synthInstance.maxHeartbeats 4000000
set_option synthInstance.maxSize 10000

namespace Dl
open PySem PySem.Spec PyProof.Rows L2 RZ HmS Da
section
variable {P : Program} {w : World} {K : PySem.W.Frag} [HasT K] {mg : Str → Option Value} {base : Heap} {ad : Nat → Addr} {fd : Nat → FuncData}
/-! ### things of whatever kind -/
end
end Dl

set_option Elab.async false
set_option maxRecDepth 100000
set_option maxHeartbeats 4000000
set_option linter.all false
namespace Dl
open PySem PySem.Spec PyProof.Rows L2 RZ HmS Da
/-! ### the mathematics of albums -/
abbrev St3 := Int × Int × Int
abbrev Cts := List (St3 × Int)
def keyT (s : St3) : List Key := [.inl s.1, .inl s.2.1, .inl s.2.2]
def stD (s : St3) : D := .tup [.int s.1, .int s.2.1, .int s.2.2]
theorem keysOf_st (s : St3) : keysOf (stD s) = some (keyT s) := rfl
theorem keyT_inj {s t : St3} (h : keyT s = keyT t) : s = t := by
  obtain ⟨a, b, c⟩ := s
  obtain ⟨x, y, z⟩ := t
  simp only [keyT, List.cons.injEq, Sum.inl.injEq, and_true] at h
  obtain ⟨rfl, rfl, rfl⟩ := h
  rfl
def kcT (c : St3 × Int) : List Key × Int := (keyT c.1, c.2)
def kyA (cs : Cts) : List (List Key) := (cs.map kcT).map Prod.fst
def vlA (cs : Cts) : List D := (cs.map kcT).map fun c => .int c.2
def getA : Cts → St3 → Option Int
  | [], _ => none
  | (t, n) :: r, s => if t = s then some n else getA r s
def cntA (cs : Cts) (s : St3) : Int := (getA cs s).getD 0
def putA (cs : Cts) (s : St3) (m : Int) : Cts := if cs.any (fun c => decide (c.1 = s)) then cs.map (fun c => if c.1 = s then (c.1, m) else c) else cs ++ [(s, m)]
def addA (cs : Cts) (s : St3) (m : Int) : Cts := putA cs s (cntA cs s + m)
def delA (cs : Cts) (s : St3) : Cts := cs.filter fun c => decide (c.1 ≠ s)
def countsA (ss : List St3) : Cts := ss.foldl (fun cs s => addA cs s 1) []
theorem kyA_cons (c : St3 × Int) (cs : Cts) : kyA (c :: cs) = keyT c.1 :: kyA cs := rfl
theorem vlA_cons (c : St3 × Int) (cs : Cts) : vlA (c :: cs) = .int c.2 :: vlA cs := rfl
theorem kyA_len (cs : Cts) : (kyA cs).length = cs.length := by
  unfold kyA
  rw [List.length_map, List.length_map]
theorem look_A : ∀ (cs : Cts) (s : St3), lookD (kyA cs) (vlA cs) (keyT s) = (getA cs s).map D.int
  | [], _ => rfl
  | (t, n) :: r, s => by
    rw [kyA_cons, vlA_cons]
    show (if keyT t = keyT s then some (D.int n) else lookD (kyA r) (vlA r) (keyT s)) = Option.map D.int (if t = s then some n else getA r s)
    by_cases h : t = s
    · rw [if_pos h, if_pos (by rw [h])]
      rfl
    · rw [if_neg h, if_neg fun z => h (keyT_inj z)]
      exact look_A r s
theorem look_getD (cs : Cts) (s : St3) : (lookD (kyA cs) (vlA cs) (keyT s)).getD (.int 0) = .int (cntA cs s) := by
  rw [look_A]
  unfold cntA
  cases getA cs s <;> rfl
theorem has_A (cs : Cts) (s : St3) : hasT (kyA cs) (keyT s) = cs.any fun c => decide (c.1 = s) := by
  unfold hasT kyA
  rw [List.any_map, List.any_map]
  congr 1
  funext c
  show decide (keyT c.1 = keyT s) = decide (c.1 = s)
  exact decide_eq_decide.mpr ⟨keyT_inj, fun e => by rw [e]⟩
theorem put_xs (s : St3) (m : Int) : ∀ cs : Cts, putTx (kyA cs) (vlA cs) (keyT s) (.int m) = vlA (cs.map fun c => if c.1 = s then (c.1, m) else c)
  | [] => rfl
  | c :: r => by
    rw [kyA_cons, vlA_cons, List.map_cons, vlA_cons]
    show (if keyT c.1 = keyT s then D.int m else D.int c.2) :: putTx (kyA r) (vlA r) (keyT s) (.int m) = _
    rw [put_xs s m r]
    by_cases h : c.1 = s
    · rw [if_pos h, if_pos (by rw [h])]
    · rw [if_neg h, if_neg fun z => h (keyT_inj z)]
theorem put_ky (s : St3) (m : Int) : ∀ cs : Cts, kyA (cs.map fun c => if c.1 = s then (c.1, m) else c) = kyA cs
  | [] => rfl
  | c :: r => by
    rw [List.map_cons, kyA_cons, kyA_cons, put_ky s m r]
    by_cases h : c.1 = s
    · rw [if_pos h]
    · rw [if_neg h]
theorem put_A (cs : Cts) (s : St3) (m : Int) : putTs (kyA cs) (keyT s) = kyA (putA cs s m) ∧ putTD (kyA cs) (vlA cs) (keyT s) (.int m) = vlA (putA cs s m) := by
  unfold putTs putTD putA
  rw [has_A]
  split
  · exact ⟨(put_ky s m cs).symm, put_xs s m cs⟩
  · unfold kyA vlA
    rw [List.map_append, List.map_append, List.map_append]
    exact ⟨rfl, rfl⟩
theorem putA_len (cs : Cts) (s : St3) (m : Int) : (putA cs s m).length ≤ cs.length + 1 := by
  unfold putA
  split
  · rw [List.length_map]
    omega
  · rw [List.length_append]
    exact Nat.le_refl _
theorem addA_len (cs : Cts) (s : St3) (m : Int) : (addA cs s m).length ≤ cs.length + 1 := putA_len ..
theorem foldl_len (f : Cts → St3 → Cts) (h : ∀ cs s, (f cs s).length ≤ cs.length + 1) : ∀ (ss : List St3) (cs : Cts), (ss.foldl f cs).length ≤ cs.length + ss.length
  | [], cs => Nat.le_refl _
  | s :: r, cs => by
    have h1 := foldl_len f h r (f cs s)
    have h2 := h cs s
    rw [List.foldl_cons, List.length_cons]
    omega
theorem countsA_len (ss : List St3) : (countsA ss).length ≤ ss.length := by
  have := foldl_len (fun cs s => addA cs s 1) (fun cs s => addA_len cs s 1) ss []
  simpa [countsA] using this
theorem countsA_snoc (ss : List St3) (s : St3) : countsA (ss ++ [s]) = addA (countsA ss) s 1 := by
  unfold countsA
  rw [List.foldl_append]
  rfl
theorem getA_mem : ∀ {cs : Cts} {s : St3} {n : Int}, getA cs s = some n → (s, n) ∈ cs
  | (t, k) :: r, s, n, h => by
    have h : (if t = s then some k else getA r s) = some n := h
    by_cases e : t = s
    · rw [if_pos e] at h
      cases h
      rw [e]
      exact List.mem_cons_self
    · rw [if_neg e] at h
      exact List.mem_cons_of_mem _ (getA_mem h)
/-- counts that an album may have: each stamp once, each at least once there -/
structure CtOk (ok : St3 → Prop) (cs : Cts) : Prop where
  nd : (cs.map (·.1)).Nodup
  pos : ∀ c ∈ cs, 1 ≤ c.2
  st : ∀ c ∈ cs, ok c.1
theorem CtOk.nil {ok : St3 → Prop} : CtOk ok [] := ⟨List.nodup_nil, (fun _ h => nomatch h), fun _ h => nomatch h⟩
theorem putA_keys (cs : Cts) (s : St3) (m : Int) : (putA cs s m).map (·.1) = if cs.any (fun c => decide (c.1 = s)) = true then cs.map (·.1) else cs.map (·.1) ++ [s] := by
  unfold putA
  split
  · rw [List.map_map]
    refine List.map_congr_left fun c _ => ?_
    show (if c.1 = s then (c.1, m) else c).1 = c.1
    split <;> rfl
  · rw [List.map_append]
    rfl
theorem any_mem {cs : Cts} {s : St3} : (cs.any fun c => decide (c.1 = s)) = true ↔ s ∈ cs.map (·.1) := by
  rw [List.any_eq_true, List.mem_map]
  exact ⟨fun ⟨c, h1, h2⟩ => ⟨c, h1, of_decide_eq_true h2⟩, fun ⟨c, h1, h2⟩ => ⟨c, h1, decide_eq_true h2⟩⟩
theorem CtOk.put {ok : St3 → Prop} {cs : Cts} (h : CtOk ok cs) {s : St3} (hs : ok s) {m : Int} (hm : 1 ≤ m) : CtOk ok (putA cs s m) := by
  have mem : ∀ c ∈ putA cs s m, c ∈ cs ∨ c = (s, m) := fun c hc => by
    unfold putA at hc
    split at hc
    · obtain ⟨d, hd, rfl⟩ := List.mem_map.mp hc
      split
      · rename_i e
        exact .inr (by rw [e])
      · exact .inl hd
    · rcases List.mem_append.mp hc with z | z
      · exact .inl z
      · exact .inr (List.mem_singleton.mp z)
  refine ⟨?_, fun c hc => ?_, fun c hc => ?_⟩
  · rw [putA_keys]
    split
    · exact h.nd
    · rename_i n
      refine List.nodup_append.mpr ⟨h.nd, by simp, fun a ha b hb z => ?_⟩
      rw [List.mem_singleton] at hb
      subst hb
      subst z
      exact n (any_mem.mpr ha)
  · rcases mem c hc with z | z
    · exact h.pos c z
    · rw [z]
      exact hm
  · rcases mem c hc with z | z
    · exact h.st c z
    · rw [z]
      exact hs
theorem CtOk.cnt {ok : St3 → Prop} {cs : Cts} (h : CtOk ok cs) (s : St3) : 0 ≤ cntA cs s := by
  unfold cntA
  cases e : getA cs s with
  | none => exact Int.le_refl _
  | some n =>
    have := h.pos _ (getA_mem e)
    show 0 ≤ n
    have : 1 ≤ n := this
    omega
theorem CtOk.add {ok : St3 → Prop} {cs : Cts} (h : CtOk ok cs) {s : St3} (hs : ok s) {m : Int} (hm : 1 ≤ m) : CtOk ok (addA cs s m) := h.put hs (by have := h.cnt s; omega)
theorem CtOk.counts {ok : St3 → Prop} : ∀ {ss : List St3} {cs : Cts}, CtOk ok cs → (∀ s ∈ ss, ok s) → CtOk ok (ss.foldl (fun cs s => addA cs s 1) cs)
  | [], _, h, _ => h
  | s :: r, cs, h, k => CtOk.counts (ss := r) (cs := addA cs s 1) (h.add (m := 1) (k s List.mem_cons_self) (by decide)) fun t ht => k t (List.mem_cons_of_mem _ ht)
theorem CtOk.perm {ok : St3 → Prop} {cs ds : Cts} (h : CtOk ok cs) (p : ds.Perm cs) : CtOk ok ds :=
  ⟨(p.map _).nodup_iff.mpr h.nd, fun c hc => h.pos c (p.mem_iff.mp hc), fun c hc => h.st c (p.mem_iff.mp hc)⟩
/-! ### the stamps, rising -/
def rowI (s : St3) : List Int := [s.1, s.2.1, s.2.2]
theorem rowI_inj {s t : St3} (h : rowI s = rowI t) : s = t := by
  simp only [rowI, List.cons.injEq, and_true] at h
  exact Prod.ext h.1 (Prod.ext h.2.1 h.2.2)
theorem dl_st (s t : St3) : PySem.W.dataLt (keyD (keyT s)) (keyD (keyT t)) = decide (rowI s < rowI t) := by
  show PySem.W.dataLt (.tuple ((rowI s).map PyData.int)) (.tuple ((rowI t).map PyData.int)) = _
  rw [PySem.W.dataLt_tuple]
  exact PySem.W.dataLt_ints (rowI s) (rowI t)
def riseA (cs : Cts) : Cts := cs.mergeSort (PySem.W.dataLe false fun c => keyD (keyT c.1))
def stLt (a b : St3 × Int) : Prop := rowI a.1 < rowI b.1
theorem riseA_perm (cs : Cts) : (riseA cs).Perm cs := List.mergeSort_perm _ _
theorem riseA_len (cs : Cts) : (riseA cs).length = cs.length := (riseA_perm cs).length_eq
theorem riseA_rise {cs : Cts} (nd : (cs.map (·.1)).Nodup) : (riseA cs).Pairwise stLt := by
  have h1 : (riseA cs).Pairwise (fun a b => PySem.W.dataLe false (fun c : St3 × Int => keyD (keyT c.1)) a b = true) := PySem.W.sort_pairwise (PySem.W.sortLe_total _ _ _) _
  have h2 : ((riseA cs).map (·.1)).Nodup := ((riseA_perm cs).map _).nodup_iff.mpr nd
  rw [List.Nodup, List.pairwise_map] at h2
  refine (h1.and h2).imp fun {a b} h => ?_
  have h3 : (!PySem.W.dataLt (keyD (keyT b.1)) (keyD (keyT a.1))) = true := h.1
  rw [dl_st] at h3
  have h4 : ¬ rowI b.1 < rowI a.1 := fun z => by rw [decide_eq_true z] at h3; cases h3
  exact Std.lt_of_le_of_ne h4 fun z => h.2 (rowI_inj z)
theorem stLt_asym {a b : St3 × Int} (h : stLt a b) (h' : stLt b a) : False := List.lt_irrefl _ (List.lt_trans h h')
theorem al_st (s t : St3) : PySem.W.alike (keyD (keyT s)) (keyD (keyT t)) = true := by simp [keyD, keyT, HmS.kD, PySem.W.alike, PySem.W.alikeAll]
theorem eqv_st {s t : St3} (h : s ≠ t) : PyData.eqv (keyD (keyT s)) (keyD (keyT t)) = false := by
  cases e : PyData.eqv (keyD (keyT s)) (keyD (keyT t)) with
  | false => rfl
  | true =>
    refine absurd ?_ h
    simp [keyD, keyT, HmS.kD, PyData.eqv, PyData.eqvAll] at e
    exact Prod.ext e.1 (Prod.ext e.2.1 e.2.2)
theorem sortC_rise {cs : Cts} (nd : (cs.map (·.1)).Nodup) : sortC (cs.map kcT) = (riseA cs).map kcT := by
  have e : sortC (cs.map kcT) = (cs.mergeSort (PySem.W.dataLe false fun c => encC (kcT c))).map kcT := by
    unfold sortC
    exact (PySem.W.sort_maps (r := PySem.W.dataLe false fun c : St3 × Int => encC (kcT c)) kcT (fun a _ b _ => rfl)).symm
  rw [e]
  congr 1
  have hp : (cs.mergeSort (PySem.W.dataLe false fun c => encC (kcT c))).Perm cs := List.mergeSort_perm _ _
  refine List.Perm.eq_of_pairwise (le := stLt) (fun a b _ _ h h' => (stLt_asym h h').elim) ?_ (riseA_rise nd) (hp.trans (riseA_perm cs).symm)
  have h1 : (cs.mergeSort (PySem.W.dataLe false fun c => encC (kcT c))).Pairwise (fun a b => PySem.W.dataLe false (fun c : St3 × Int => encC (kcT c)) a b = true) := PySem.W.sort_pairwise (PySem.W.sortLe_total _ _ _) _
  have h2 : ((cs.mergeSort (PySem.W.dataLe false fun c => encC (kcT c))).map (·.1)).Nodup := (hp.map _).nodup_iff.mpr nd
  rw [List.Nodup, List.pairwise_map] at h2
  refine (h1.and h2).imp fun {a b} h => ?_
  have h3 : (!PySem.W.dataLt (encC (kcT b)) (encC (kcT a))) = true := h.1
  have h5 : PySem.W.dataLt (encC (kcT b)) (encC (kcT a)) = decide (rowI b.1 < rowI a.1) := by
    show PySem.W.dataLt (.tuple [keyD (keyT b.1), .int b.2]) (.tuple [keyD (keyT a.1), .int a.2]) = _
    rw [PySem.W.dataLt_pair (al_st _ _) (by simp [PySem.W.alike]), eqv_st (Ne.symm h.2), if_neg Bool.false_ne_true, dl_st]
  rw [h5] at h3
  have h4 : ¬ rowI b.1 < rowI a.1 := fun z => by rw [decide_eq_true z] at h3; cases h3
  exact Std.lt_of_le_of_ne h4 fun z => h.2 (rowI_inj z)
/-- a stamp with how many -/
def rwD (c : St3 × Int) : D := .tup [stD c.1, .int c.2]
theorem rows_rise {cs : Cts} (nd : (cs.map (·.1)).Nodup) : (sortC (cs.map kcT)).map rowC = (riseA cs).map rwD := by
  rw [sortC_rise nd, List.map_map]
  rfl
theorem ky_nodup {cs : Cts} : ((cs.map kcT).map Prod.fst).Nodup ↔ (cs.map (·.1)).Nodup := by
  rw [List.map_map]
  have e : cs.map (Prod.fst ∘ kcT) = (cs.map (·.1)).map keyT := by rw [List.map_map]; rfl
  rw [e]
  constructor
  · intro h
    rw [List.Nodup, List.pairwise_map] at h
    exact h.imp fun hn z => hn (by rw [z])
  · intro h
    rw [List.Nodup, List.pairwise_map]
    exact h.imp fun hn z => hn (keyT_inj z)
theorem st_srt (ss : List St3) : SrtOk (ss.map stD) := by
  refine ⟨?_, ?_, fun x hx => ?_⟩
  · rw [List.map_map]
    exact fun x hx y hy => by
      obtain ⟨a, _, rfl⟩ := List.mem_map.mp hx
      obtain ⟨b, _, rfl⟩ := List.mem_map.mp hy
      simp [stD, D.py, pys, PySem.W.alike, PySem.W.alikeAll]
  · rw [List.map_map]
    exact PySem.W.Sortable.tuples fun h => ⟨_, _, rfl⟩
  · obtain ⟨a, _, rfl⟩ := List.mem_map.mp hx
    refine ⟨rfl, ?_⟩
    simp [stD, D.py, pys, PyData.depth, PyData.depthAll]
theorem sort_st (cs : Cts) : sortD ((cs.map (·.1)).map stD) = ((riseA cs).map (·.1)).map stD := by
  unfold sortD riseA
  rw [List.map_map, List.map_map]
  exact (PySem.W.sort_maps (r := PySem.W.dataLe false fun c : St3 × Int => keyD (keyT c.1)) (fun c => stD c.1) (fun a _ b _ => rfl)).symm
theorem addA_new {cs : Cts} {s : St3} {m : Int} (h : s ∉ cs.map (·.1)) : addA cs s m = cs ++ [(s, m)] := by
  have e : cs.any (fun c => decide (c.1 = s)) = false := by
    cases q : cs.any (fun c => decide (c.1 = s)) with
    | false => rfl
    | true => exact absurd (any_mem.mp q) h
  have g : getA cs s = none := by
    cases q : getA cs s with
    | none => rfl
    | some n => exact absurd (List.mem_map.mpr ⟨_, getA_mem q, rfl⟩) h
  unfold addA putA cntA
  rw [e, g, if_neg Bool.false_ne_true]
  show cs ++ [(s, 0 + m)] = _
  rw [Int.zero_add]
theorem get_nd {cs : Cts} (nd : (cs.map (·.1)).Nodup) : ∀ {c : St3 × Int}, c ∈ cs → getA cs c.1 = some c.2 := by
  induction cs with
  | nil => exact fun h => nomatch h
  | cons d r ih =>
    intro c hc
    rw [List.map_cons, List.nodup_cons] at nd
    show (if d.1 = c.1 then some d.2 else getA r c.1) = some c.2
    rcases List.mem_cons.mp hc with e | h
    · rw [e, if_pos rfl]
    · rw [if_neg fun z => nd.1 (by rw [z]; exact List.mem_map.mpr ⟨c, h, rfl⟩)]
      exact ih nd.2 h
/-! ### places -/
def plcA : Nat → List (Str × Int × Int) → List (Int × Int)
  | _, [] => []
  | i, t :: r => ((List.range t.2.2.toNat).map fun k : Nat => ((i : Int), (k : Int))) ++ plcA (i + 1) r
def plD (p : Int × Int) : D := .tup [.int p.1, .int p.2]
theorem plcA_mem : ∀ {ss : List (Str × Int × Int)} {i : Nat} {p : Int × Int}, p ∈ plcA i ss ↔ ∃ (k : Nat) (t : Str × Int × Int), ss[k]? = some t ∧ p.1 = ((i + k : Nat) : Int) ∧ 0 ≤ p.2 ∧ p.2 < t.2.2
  | [], i, p => ⟨fun h => (nomatch h), fun ⟨k, t, h, _⟩ => by simp at h⟩
  | t :: r, i, p => by
    show p ∈ ((List.range t.2.2.toNat).map fun k : Nat => ((i : Int), (k : Int))) ++ plcA (i + 1) r ↔ _
    rw [List.mem_append, plcA_mem (ss := r)]
    constructor
    · rintro (h | ⟨k, u, h1, h2, h3⟩)
      · obtain ⟨k, hk, rfl⟩ := List.mem_map.mp h
        rw [List.mem_range] at hk
        exact ⟨0, t, rfl, rfl, by show (0 : Int) ≤ (k : Int); omega, by show (k : Int) < t.2.2; omega⟩
      · exact ⟨k + 1, u, by simpa using h1, by rw [h2]; congr 1; omega, h3⟩
    · rintro ⟨k, u, h1, h2, h3, h4⟩
      cases k with
      | zero =>
        cases h1
        refine .inl (List.mem_map.mpr ⟨p.2.toNat, by rw [List.mem_range]; omega, ?_⟩)
        exact Prod.ext h2.symm (by show ((p.2.toNat : Nat) : Int) = p.2; omega)
      | succ k => exact .inr ⟨k, u, by simpa using h1, by rw [h2]; congr 1; omega, h3, h4⟩
theorem plcA_len : ∀ {ss : List (Str × Int × Int)} {i : Nat}, (∀ t ∈ ss, t.2.2 ≤ 6) → (plcA i ss).length ≤ 6 * ss.length
  | [], _, _ => Nat.le_refl _
  | t :: r, i, h => by
    have h1 := plcA_len (ss := r) (i := i + 1) fun u hu => h u (List.mem_cons_of_mem _ hu)
    have h2 := h t List.mem_cons_self
    show (((List.range t.2.2.toNat).map fun k : Nat => ((i : Int), (k : Int))) ++ plcA (i + 1) r).length ≤ _
    rw [List.length_append, List.length_map, List.length_range, List.length_cons]
    omega
theorem plcA_snoc : ∀ (ss : List (Str × Int × Int)) (i : Nat) (t : Str × Int × Int), plcA i (ss ++ [t]) = plcA i ss ++ ((List.range t.2.2.toNat).map fun k : Nat => (((i + ss.length : Nat) : Int), (k : Int)))
  | [], i, t => by simp [plcA]
  | u :: r, i, t => by
    show ((List.range u.2.2.toNat).map fun k : Nat => ((i : Int), (k : Int))) ++ plcA (i + 1) (r ++ [t]) = _
    rw [plcA_snoc r (i + 1) t, ← List.append_assoc]
    show _ = (((List.range u.2.2.toNat).map fun k : Nat => ((i : Int), (k : Int))) ++ plcA (i + 1) r) ++ _
    congr 2
    funext k
    congr 2
    rw [List.length_cons]
    omega
end Dl

set_option Elab.async false
set_option maxRecDepth 100000
set_option maxHeartbeats 4000000
set_option linter.all false
namespace Dl
open PySem PySem.Spec PyProof.Rows L2 RZ HmS Da
/-! ### dicts of numbers by whatever keys -/
section
variable {α : Type} [DecidableEq α]
def kyG (κ : α → List Key) (cs : List (α × Int)) : List (List Key) := cs.map fun c => κ c.1
def vlG (cs : List (α × Int)) : List D := cs.map fun c => .int c.2
def getG : List (α × Int) → α → Option Int
  | [], _ => none
  | (t, n) :: r, s => if t = s then some n else getG r s
def putG (cs : List (α × Int)) (s : α) (m : Int) : List (α × Int) := if cs.any (fun c => decide (c.1 = s)) then cs.map (fun c => if c.1 = s then (c.1, m) else c) else cs ++ [(s, m)]
variable {κ : α → List Key} (inj : ∀ a b, κ a = κ b → a = b)
include inj
theorem look_G : ∀ (cs : List (α × Int)) (s : α), lookD (kyG κ cs) (vlG cs) (κ s) = (getG cs s).map D.int
  | [], _ => rfl
  | (t, n) :: r, s => by
    show (if κ t = κ s then some (D.int n) else lookD (kyG κ r) (vlG r) (κ s)) = Option.map D.int (if t = s then some n else getG r s)
    by_cases h : t = s
    · rw [if_pos h, if_pos (by rw [h])]
      rfl
    · rw [if_neg h, if_neg fun z => h (inj _ _ z)]
      exact look_G r s
theorem has_G (cs : List (α × Int)) (s : α) : hasT (kyG κ cs) (κ s) = cs.any fun c => decide (c.1 = s) := by
  unfold hasT kyG
  rw [List.any_map]
  congr 1
  funext c
  show decide (κ c.1 = κ s) = decide (c.1 = s)
  exact decide_eq_decide.mpr ⟨inj _ _, fun e => by rw [e]⟩
theorem put_xsG (s : α) (m : Int) : ∀ cs : List (α × Int), putTx (kyG κ cs) (vlG cs) (κ s) (.int m) = vlG (cs.map fun c => if c.1 = s then (c.1, m) else c)
  | [] => rfl
  | c :: r => by
    show (if κ c.1 = κ s then D.int m else D.int c.2) :: putTx (kyG κ r) (vlG r) (κ s) (.int m) = .int (if c.1 = s then (c.1, m) else c).2 :: vlG (r.map fun c => if c.1 = s then (c.1, m) else c)
    rw [put_xsG s m r]
    by_cases h : c.1 = s
    · rw [if_pos h, if_pos (by rw [h])]
    · rw [if_neg h, if_neg fun z => h (inj _ _ z)]
omit inj in
theorem put_kyG (s : α) (m : Int) : ∀ cs : List (α × Int), kyG κ (cs.map fun c => if c.1 = s then (c.1, m) else c) = kyG κ cs
  | [] => rfl
  | c :: r => by
    show κ (if c.1 = s then (c.1, m) else c).1 :: kyG κ (r.map fun c => if c.1 = s then (c.1, m) else c) = κ c.1 :: kyG κ r
    rw [put_kyG s m r]
    by_cases h : c.1 = s
    · rw [if_pos h]
    · rw [if_neg h]
theorem put_G (cs : List (α × Int)) (s : α) (m : Int) : putTs (kyG κ cs) (κ s) = kyG κ (putG cs s m) ∧ putTD (kyG κ cs) (vlG cs) (κ s) (.int m) = vlG (putG cs s m) := by
  unfold putTs putTD putG
  rw [has_G inj]
  split
  · exact ⟨(put_kyG s m cs).symm, put_xsG inj s m cs⟩
  · unfold kyG vlG
    rw [List.map_append, List.map_append]
    exact ⟨rfl, rfl⟩
omit inj
omit [DecidableEq α] in
theorem kyG_len (cs : List (α × Int)) : (kyG κ cs).length = cs.length := List.length_map ..
theorem putG_mem {cs : List (α × Int)} {s : α} {m : Int} {c : α × Int} (h : c ∈ putG cs s m) : c ∈ cs ∨ c = (s, m) := by
  unfold putG at h
  split at h
  · obtain ⟨d, hd, rfl⟩ := List.mem_map.mp h
    split
    · rename_i e
      exact .inr (by rw [e])
    · exact .inl hd
  · exact (List.mem_append.mp h).imp id List.mem_singleton.mp
theorem putG_len (cs : List (α × Int)) (s : α) (m : Int) : (putG cs s m).length ≤ cs.length + 1 ∧ 1 ≤ (putG cs s m).length ∧ cs.length ≤ (putG cs s m).length := by
  unfold putG
  split
  · rename_i h
    rw [List.length_map]
    have : cs ≠ [] := fun z => by rw [z] at h; cases h
    have := List.length_pos_iff.mpr this
    omega
  · rw [List.length_append, List.length_singleton]
    omega
theorem putG_nd {cs : List (α × Int)} {s : α} {m : Int} (nd : (cs.map (·.1)).Nodup) : ((putG cs s m).map (·.1)).Nodup := by
  unfold putG
  split
  · rw [List.map_map]
    have e : cs.map ((·.1) ∘ fun c => if c.1 = s then (c.1, m) else c) = cs.map (·.1) := List.map_congr_left fun c _ => by
      show (if c.1 = s then (c.1, m) else c).1 = c.1
      split <;> rfl
    rw [e]
    exact nd
  · rename_i n
    rw [List.map_append]
    refine List.nodup_append.mpr ⟨nd, by simp, fun a ha b hb z => ?_⟩
    rw [List.map_singleton, List.mem_singleton] at hb
    subst hb
    subst z
    obtain ⟨c, hc, e⟩ := List.mem_map.mp ha
    exact n (List.any_eq_true.mpr ⟨c, hc, decide_eq_true e⟩)
theorem getG_mem {cs : List (α × Int)} (nd : (cs.map (·.1)).Nodup) : ∀ {c : α × Int}, c ∈ cs → getG cs c.1 = some c.2 := by
  induction cs with
  | nil => exact fun h => nomatch h
  | cons d r ih =>
    intro c hc
    rw [List.map_cons, List.nodup_cons] at nd
    show (if d.1 = c.1 then some d.2 else getG r c.1) = some c.2
    rcases List.mem_cons.mp hc with e | h
    · rw [e, if_pos rfl]
    · rw [if_neg fun z => nd.1 (by rw [z]; exact List.mem_map.mpr ⟨c, h, rfl⟩)]
      exact ih nd.2 h
end
theorem it_sorted {i : Nat} {Γ : List En} {ks : List (List Key)} {xs : List D} {φ : List D → List En → Prop} (g : Γ[i]? = some (.d (.dT ks xs))) (hl : ks.length ≤ 100000) (hs : SrtOk (ks.map tupD)) (h : φ (sortD (ks.map tupD)) Γ) :
    dILst (dCB dSortR (dCons (dCB dListT (dCons (dVar i) dNil)) dNil)) Γ φ := by
  simp only [dILst, dCB, dCons, dNil, dVar, g, wf, dListT, dSortR, wl]
  exact ⟨by rw [List.length_map]; exact hl, hs, h⟩
/-! ### lists of numbers, sorted -/
/-! ### heads of sets -/
def hdD (h : Str × Int) : D := .tup [.str h.1, .int h.2]
def hdK (h : Str × Int) : List Key := [.inr h.1, .inl h.2]
theorem hdK_inj (a b : Str × Int) (h : hdK a = hdK b) : a = b := by
  simp only [hdK, List.cons.injEq, Sum.inr.injEq, Sum.inl.injEq, and_true] at h
  exact Prod.ext h.1 h.2
def hdLt (a b : Str × Int) : Bool := PySem.W.dataLt (hdD a).py (hdD b).py
abbrev hdR (s t : Str × Int) : Prop := s.1.cps.toList < t.1.cps.toList ∨ (s.1 = t.1 ∧ s.2 < t.2)
theorem hd_lt (s t : Str × Int) : hdLt s t = decide (hdR s t) := by
  show PySem.W.dataLt (.tuple [.str s.1, .int s.2]) (.tuple [.str t.1, .int t.2]) = _
  rw [PySem.W.dataLt_pair (by simp [PySem.W.alike]) (by simp [PySem.W.alike])]
  by_cases e : s.1 = t.1
  · have e1 : PyData.eqv (.str s.1) (.str t.1) = true := by rw [e]; simp [PyData.eqv]
    rw [if_pos e1]
    by_cases e2 : s.2 = t.2
    · rw [if_pos (by rw [e2]; simp [PyData.eqv])]
      refine (decide_eq_false ?_).symm
      rintro (z | z)
      · rw [e] at z
        exact absurd z (List.lt_irrefl _)
      · omega
    · rw [if_neg (by simpa [PyData.eqv] using e2), PySem.W.dataLt_int]
      refine decide_eq_decide.mpr ⟨fun z => .inr ⟨e, z⟩, fun z => ?_⟩
      rcases z with z | z
      · rw [e] at z
        exact absurd z (List.lt_irrefl _)
      · exact z.2
  · rw [if_neg (by simpa [PyData.eqv] using e), PySem.W.dataLt_str]
    refine decide_eq_decide.mpr ⟨.inl, fun z => ?_⟩
    rcases z with z | z
    · exact z
    · exact absurd z.1 e
theorem hd_tri {s t : Str × Int} (h : ¬ hdR t s) (n : s ≠ t) : hdR s t := by
  by_cases e : s.1 = t.1
  · refine .inr ⟨e, ?_⟩
    have h1 : ¬ t.2 < s.2 := fun z => h (.inr ⟨e.symm, z⟩)
    have h2 : s.2 ≠ t.2 := fun z => n (Prod.ext e z)
    omega
  · refine .inl (Std.lt_of_le_of_ne (fun z => h (.inl z)) fun z => e ?_)
    cases hs : s.1 with
    | mk a =>
      cases ht : t.1 with
      | mk b =>
        rw [hs, ht] at z
        have z : a.toList = b.toList := z
        rw [show a = b from Array.toList_inj.mp z]
def sortH (hs : List (Str × Int)) : List (Str × Int) := hs.mergeSort (PySem.W.dataLe false fun h => (hdD h).py)
theorem sortH_perm (hs : List (Str × Int)) : (sortH hs).Perm hs := List.mergeSort_perm _ _
theorem sortH_D (hs : List (Str × Int)) : sortD (hs.map hdD) = (sortH hs).map hdD := by
  unfold sortD sortH
  exact (PySem.W.sort_maps (r := PySem.W.dataLe false fun h : Str × Int => (hdD h).py) hdD (fun a _ b _ => rfl)).symm
theorem sortH_rise {hs : List (Str × Int)} (nd : hs.Nodup) : (sortH hs).Pairwise hdR := by
  have h1 : (sortH hs).Pairwise (fun a b => PySem.W.dataLe false (fun h : Str × Int => (hdD h).py) a b = true) := PySem.W.sort_pairwise (PySem.W.sortLe_total _ _ _) _
  have h2 : (sortH hs).Nodup := (sortH_perm hs).nodup_iff.mpr nd
  refine (h1.and h2).imp fun {a b} h => ?_
  have h3 : (!hdLt b a) = true := h.1
  rw [hd_lt] at h3
  exact hd_tri (fun z => by rw [decide_eq_true z] at h3; cases h3) h.2
theorem hd_srt (hs : List (Str × Int)) : SrtOk (hs.map hdD) := by
  refine ⟨?_, ?_, fun x hx => ?_⟩
  · rw [List.map_map]
    exact fun x hx y hy => by
      obtain ⟨a, _, rfl⟩ := List.mem_map.mp hx
      obtain ⟨b, _, rfl⟩ := List.mem_map.mp hy
      simp [hdD, D.py, pys, PySem.W.alike, PySem.W.alikeAll]
  · rw [List.map_map]
    exact PySem.W.Sortable.tuples fun h => ⟨_, _, rfl⟩
  · obtain ⟨a, _, rfl⟩ := List.mem_map.mp hx
    refine ⟨rfl, ?_⟩
    simp [hdD, D.py, pys, PyData.depth, PyData.depthAll]
end Dl

set_option Elab.async false
set_option maxRecDepth 100000
set_option maxHeartbeats 4000000
set_option linter.all false
set_option synthInstance.maxHeartbeats 4000000
set_option synthInstance.maxSize 10000


namespace Dl
open PySem PySem.Spec PyProof.Rows L2 RZ HmS Da
section
variable {P : Program} {w : World} {K : PySem.W.Frag} [HasT K] {mg : Str → Option Value} {base : Heap} {ad am : Nat → Addr} {fd fm : Nat → FuncData} {C : Addr}
/-! ### letters, sets, lists, stamps, of things of whatever kind -/
theorem wb_t {b : Bool} {k : Bool → Prop} (h : k b) : wb (.d (.bl b)) k := h
def signB (c : Nat) : Bool := !decide ([c] < [97]) && !decide ([122] < [c])
def letB (x : D) (a b : Int) : Bool := match x with
  | .str z => (decide (a ≤ (z.length : Int)) && decide ((z.length : Int) ≤ b)) && z.cps.toList.all signB
  | _ => false
def sgF (x : D) : D := match x with
  | .str s => .bl (s.cps.toList.all signB)
  | _ => .non
theorem sgF_eq (c : Nat) : sgF (sgD c) = .bl (signB c) := by
  show D.bl ([c].all signB) = _
  simp
theorem a_cps : (Str.ofString "a").cps.toList = [97] := by decide +kernel
theorem z_cps : (Str.ofString "z").cps.toList = [122] := by decide +kernel
def kFrom (x a : D) (φ : En → Prop) : Prop := ∃ i : Int, a = .int i ∧ x.ty.isSome = true ∧ φ (.d (.bl (match x with | .int n => decide (n ≥ i) | _ => false)))
theorem ok_is_whole_from (T : Txt K mg ad fd) : FnOk P w K mg base CX0 2 (ad 5) (fd 5) ps_is_whole_from (spX K (sp2 kFrom)) := by
  refine (show Fun K "is_whole_from" "is_whole_from" st_is_whole_from (ad 5) (fd 5) from T.f 5 (by decide)).ok sc_is_whole_from (fun vs H Q E h => len2 h) (fun cdv A outer s H vs Q E hr h => ?_)
  have hu := hu_of hr
  have hu65 := hu65_of hr
  refine ⟨_, (pss_one (ps_ret (pe_and (pe_call (ok_is_whole (K := K) T) (hr.mono (by omega)) (by rfl) (T.g 4 (by decide)) (T.k 4 (by decide)) (bd_is_whole T) .nil pass0 (pa_cons (pv 0) pa_nil)) (pe_one (pe_cmpR op_ge (pv 0) (pv 1) (nomark _)))))), ?_⟩
  refine body2 h fun x y φ hk => ?_
  rw [show st0 nm_is_whole_from [x, y] = [.d x, .d y] from rfl]
  obtain ⟨i, rfl, hx, hk⟩ := hk
  (try dsimp only [dNext, dSeq, dIfS, dB, dOp, dNot, dOr, dAnd, dNotV, dOrV, dAndV, dAsg, dRet, dDrop, dCB, dIf, dTup, dLst, dCons, dNil, wf_d, wf_l, wb_b, wi_i, wt_t, wl_l, wl_d, tupR_t, tupR_l, lstR_t, lstR_l, List.set_cons_zero, List.set_cons_succ])
  refine ⟨rfl, hx, ?_⟩
  cases x with
  | int n =>
    (try dsimp only [dNext, dSeq, dIfS, dB, dOp, dNot, dOr, dAnd, dNotV, dOrV, dAndV, dAsg, dRet, dDrop, dCB, dIf, dTup, dLst, dCons, dNil, wf_d, wf_l, wb_b, wi_i, wt_t, wl_l, wl_d, tupR_t, tupR_l, lstR_t, lstR_l, List.set_cons_zero, List.set_cons_succ])
    exact ifT rfl ⟨rfl, hk⟩
  | _ => exact hk
def kLet (x a b : D) (φ : En → Prop) : Prop := ∃ i j : Int, a = .int i ∧ b = .int j ∧ x.good = true ∧ φ (.d (.bl (letB x i j)))
theorem ok_is_letters (T : Txt K mg ad fd) : FnOk P w K mg base CX0 1 (ad 7) (fd 7) ps_is_letters (spX K (sp3 kLet)) := by
  refine (show Fun K "is_letters" "is_letters" st_is_letters (ad 7) (fd 7) from T.f 7 (by decide)).ok sc_is_letters (fun vs H Q E h => len3 h) (fun cdv A outer s H vs Q E hr h => ?_)
  have hu := hu_of hr
  have hu65 := hu65_of hr
  refine ⟨_, (pss_cons (ps_if (PW.pt (pw_or (pt_not (pt_val (pe_callB (r := rIsi K) call_isi (by rfl) (T.z 6 (by decide)) (by decide +kernel) (pa_cons (pv 0) (pa_cons (pe_bltn (v := .ty "str") (by rfl) (T.z 8 (by decide)) (by decide +kernel) rfl) pa_nil))))) (pw_or1 (pt_not (pt_chain op_le op_le (pv 1) (pe_callB (r := Da.rLen K) cl_len (by rfl) (T.z 0 (by decide)) (by decide +kernel) (pa_cons (pv 0) pa_nil)) (pv 2))))))
    (pss_one (ps_ret pe_bl))
    pss_nil)
  (pss_one (ps_ret (pe_callB (r := rAll K) (cr_all rfl) (by rfl) (T.z 9 (by decide)) (by decide +kernel) (pa_cons (pe_lc (own := [("sign", 3)]) (g := (gName 3)) (tt := tYes) rfl sc_is_letters.nd (pi_str (pv 0))
      (blkOk_by (N := nm_is_letters) (sc := defScope st_is_letters) (by decide +kernel)) (fun _ _ _ _ _ => by exact (pg_name (i := 3) sc_is_letters.nd rfl (Or.inl rfl))) (fun _ _ _ _ _ => pts_nil)
      (fun _ _ _ _ _ => by exact (pe_chain (r := rLeStr) (r' := rLeStr) op_leStr op_leStr pe_str (pv 3) pe_str))) pa_nil))))), ?_⟩
  refine body3 h fun x y z φ hk => ?_
  rw [show st0 nm_is_letters [x, y, z] = [.d x, .d y, .d z, .no] from rfl]
  obtain ⟨i, j, rfl, rfl, hg, hk⟩ := hk
  have ht := good_ty hg
  cases x with
  | ins C ns xs => exact absurd ht Bool.false_ne_true
  | str z =>
    have hz : z.length ≤ 1000 := of_decide_eq_true hg
    refine ⟨by decide, true, rfl, ?_⟩
    (try dsimp only [dNext, dSeq, dIfS, dB, dOp, dNot, dOr, dAnd, dNotV, dOrV, dAndV, dAsg, dRet, dDrop, dCB, dIf, dTup, dLst, dCons, dNil, wf_d, wf_l, wb_b, wi_i, wt_t, wl_l, wl_d, tupR_t, tupR_l, lstR_t, lstR_l, List.set_cons_zero, List.set_cons_succ])
    refine ifF rfl ⟨by rw [sizeLine_eq]; omega, rfl, ?_⟩
    have e0 : letB (.str z) i j = ((decide (i ≤ (z.length : Int)) && decide ((z.length : Int) ≤ j)) && z.cps.toList.all signB) := rfl
    rw [e0] at hk
    refine ifB (fun c1 => ⟨rfl, ?_⟩) (fun c1 => ?_)
    · rw [c1, Bool.true_and] at hk
      show (if (!decide ((z.length : Int) ≤ j)) = true then _ else _)
      refine ifB (fun c2 => ?_) (fun c2 => ?_)
      · rw [Bool.not_eq_true'] at c2
        rw [c2, Bool.false_and] at hk
        exact ⟨rfl, hk⟩
      · rw [Bool.not_eq_false'] at c2
        rw [c2, Bool.true_and] at hk
        have ll : (sgs z).length ≤ 100000 := by
          unfold sgs
          rw [List.length_map, Array.length_toList]
          exact Nat.le_trans hz (by decide)
        refine dLc_pure (items := sgs z) (Γ1 := [.d (.str z), .d (.int i), .d (.int j), .no]) (Γw := [.d (.str z), .d (.int i), .d (.int j), .no]) sgF rfl (fun ψ h => h) rfl rfl ll (fun d hd ψ q => ?_) ?_
        · obtain ⟨c, _, rfl⟩ := List.mem_map.mp hd
          refine ⟨rfl, ?_⟩
          show (if (!decide ([c] < (Str.ofString "a").cps.toList)) = true then _ else _)
          rw [a_cps]
          refine ifB (fun c3 => ⟨rfl, ?_⟩) (fun c3 => ?_)
          · refine q _ _ ?_ rfl
            show some (D.bl (!decide ((Str.ofString "z").cps.toList < [c]))) = _
            rw [z_cps, sgF_eq, signB, c3, Bool.true_and]
          · refine q _ _ ?_ rfl
            rw [sgF_eq, signB, c3, Bool.false_and]
            rfl
        · refine ⟨z.cps.toList.map signB, by unfold sgs; rw [List.map_map, List.map_map]; exact List.map_congr_left fun c _ => sgF_eq c, ?_⟩
          rw [List.all_map]
          exact hk
    · rw [c1, Bool.false_and, Bool.false_and] at hk
      exact wb_t (ifT rfl ⟨rfl, hk⟩)
  | _ =>
    refine ⟨by decide, false, rfl, ?_⟩
    (try dsimp only [dNext, dSeq, dIfS, dB, dOp, dNot, dOr, dAnd, dNotV, dOrV, dAndV, dAsg, dRet, dDrop, dCB, dIf, dTup, dLst, dCons, dNil, wf_d, wf_l, wb_b, wi_i, wt_t, wl_l, wl_d, tupR_t, tupR_l, lstR_t, lstR_l, List.set_cons_zero, List.set_cons_succ])
    exact ifT rfl (ifT rfl ⟨rfl, hk⟩)
/-! sets, lists -/
def kYea (x : D) (φ : En → Prop) : Prop := x.ty.isSome = true ∧ φ (.d (.bl (inB x 1840 2100)))
theorem ok_is_year (T : Txt K mg ad fd) : FnOk P w K mg base CX0 3 (ad 10) (fd 10) ps_is_year (spX K (sp1 kYea)) := by
  refine (show Fun K "is_year" "is_year" st_is_year (ad 10) (fd 10) from T.f 10 (by decide)).ok sc_is_year (fun vs H Q E h => len1 h) (fun cdv A outer s H vs Q E hr h => ?_)
  have hu := hu_of hr
  have hu65 := hu65_of hr
  refine ⟨_, (pss_one (ps_ret (pe_call (ok_is_whole_within (K := K) T) (hr.mono (by omega)) (by rfl) (T.g 6 (by decide)) (T.k 6 (by decide)) (bd_is_whole_within T) .nil pass0 (pa_cons (pv 0) (pa_cons pe_int (pa_cons pe_int pa_nil)))))), ?_⟩
  refine body1 h fun x φ hk => ?_
  rw [show st0 nm_is_year [x] = [.d x] from rfl]
  obtain ⟨hx, hk⟩ := hk
  exact ⟨rfl, rfl, rfl, 1840, 2100, rfl, rfl, hx, hk⟩
def setB (x : D) : Bool := match x with
  | .tup [l, y, m] => (letB l 1 8 && inB y 1840 2100) && inB m 1 6
  | _ => false
def kSetB (x : D) (φ : En → Prop) : Prop := x.good = true ∧ φ (.d (.bl (setB x)))
theorem tup3 {x : D} (c : tupB x 3 3 = true) : ∃ u v w, x = .tup [u, v, w] := by
  cases x with
  | tup xs =>
    simp only [tupB, Bool.and_eq_true, decide_eq_true_eq] at c
    have : xs.length = 3 := by omega
    match xs, this with
    | [u, v, w], _ => exact ⟨u, v, w, rfl⟩
  | _ => cases c
theorem tup2 {x : D} (c : tupB x 2 2 = true) : ∃ u v, x = .tup [u, v] := by
  cases x with
  | tup xs =>
    simp only [tupB, Bool.and_eq_true, decide_eq_true_eq] at c
    have : xs.length = 2 := by omega
    match xs, this with
    | [u, v], _ => exact ⟨u, v, rfl⟩
  | _ => cases c
theorem not3 {x : D} {B : D → D → D → Bool} {f : D → Bool} (hf : ∀ y, f y = match y with | .tup [u, v, w] => B u v w | _ => false) (c : tupB x 3 3 = false) : f x = false := by
  rw [hf]
  cases x with
  | tup xs =>
    match xs, c with
    | [a, b, d], c => exact absurd c (by simp [tupB])
    | [], _ => rfl
    | [_], _ => rfl
    | [_, _], _ => rfl
    | _ :: _ :: _ :: _ :: _, _ => rfl
  | _ => rfl
theorem not2 {x : D} {B : D → D → Bool} {f : D → Bool} (hf : ∀ y, f y = match y with | .tup [u, v] => B u v | _ => false) (c : tupB x 2 2 = false) : f x = false := by
  rw [hf]
  cases x with
  | tup xs =>
    match xs, c with
    | [a, b], c => exact absurd c (by simp [tupB])
    | [], _ => rfl
    | [_], _ => rfl
    | _ :: _ :: _ :: _, _ => rfl
  | _ => rfl
theorem ok_is_set (T : Txt K mg ad fd) : FnOk P w K mg base CX0 4 (ad 11) (fd 11) ps_is_set (spX K (sp1 kSetB)) := by
  refine (show Fun K "is_set" "is_set" st_is_set (ad 11) (fd 11) from T.f 11 (by decide)).ok sc_is_set (fun vs H Q E h => len1 h) (fun cdv A outer s H vs Q E hr h => ?_)
  have hu := hu_of hr
  have hu65 := hu65_of hr
  refine ⟨_, (pss_cons (ps_if (pt_not (pt_val (pe_call (ok_is_tuple (K := K) T) (hr.mono (by omega)) (by rfl) (T.g 8 (by decide)) (T.k 8 (by decide)) (bd_is_tuple T) .nil pass0 (pa_cons (pv 0) (pa_cons pe_int (pa_cons pe_int pa_nil))))))
    (pss_one (ps_ret pe_bl))
    pss_nil)
  (pss_cons (ps_asg (pv 0) (pg_tupK (K := K) (n := 3) rfl (pgs_cons (pg_name (i := 1) sc_is_set.nd rfl (Or.inl rfl)) (pgs_cons (pg_name (i := 2) sc_is_set.nd rfl (Or.inl rfl)) (pgs_cons (pg_name (i := 3) sc_is_set.nd rfl (Or.inl rfl)) pgs_nil)))))
  (pss_one (ps_ret (pe_and (pe_call (ok_is_letters (K := K) T) (hr.mono (by omega)) (by rfl) (T.g 7 (by decide)) (T.k 7 (by decide)) (bd_is_letters T) .nil pass0 (pa_cons (pv 1) (pa_cons pe_int (pa_cons pe_int pa_nil)))) (pe_and (pe_call (ok_is_year (K := K) T) (hr.mono (by omega)) (by rfl) (T.g 10 (by decide)) (T.k 10 (by decide)) (bd_is_year T) .nil pass0 (pa_cons (pv 2) pa_nil)) (pe_one (pe_call (ok_is_whole_within (K := K) T) (hr.mono (by omega)) (by rfl) (T.g 6 (by decide)) (T.k 6 (by decide)) (bd_is_whole_within T) .nil pass0 (pa_cons (pv 3) (pa_cons pe_int (pa_cons pe_int pa_nil))))))))))), ?_⟩
  refine body1 h fun x φ hk => ?_
  rw [show st0 nm_is_set [x] = [.d x, .no, .no, .no] from rfl]
  obtain ⟨hg, hk⟩ := hk
  refine ⟨rfl, rfl, rfl, 3, 3, rfl, rfl, good_ty hg, ?_⟩
  (dsimp only [dB, dAnd, dOr, dNot, dEqE, wf_d, wf_l, wb_b, wi_i, wt_t, wl_l, wl_d, List.set_cons_zero, List.set_cons_succ])
  cases c : tupB x 3 3 with
  | false =>
    rw [not3 (f := setB) (fun _ => rfl) c] at hk
    exact ifT rfl ⟨rfl, hk⟩
  | true =>
    obtain ⟨l, y, m, rfl⟩ := tup3 c
    have pg := (tup_good hg).1
    have e0 : setB (.tup [l, y, m]) = ((letB l 1 8 && inB y 1840 2100) && inB m 1 6) := rfl
    rw [e0] at hk
    refine ifF rfl ?_
    (try dsimp only [dNext, dSeq, dIfS, dB, dOp, dNot, dOr, dAnd, dNotV, dOrV, dAndV, dAsg, dRet, dDrop, dCB, dIf, dTup, dLst, dCons, dNil, wf_d, wf_l, wb_b, wi_i, wt_t, wl_l, wl_d, tupR_t, tupR_l, lstR_t, lstR_l, List.set_cons_zero, List.set_cons_succ])
    refine ⟨rfl, rfl, rfl, rfl, rfl, 1, 8, rfl, rfl, pg l (by simp), ?_⟩
    (dsimp only [dB, dAnd, dOr, dNot, dEqE, wf_d, wf_l, wb_b, wi_i, wt_t, wl_l, wl_d, List.set_cons_zero, List.set_cons_succ])
    refine ifB (fun c1 => ⟨rfl, good_ty (pg y (by simp)), ?_⟩) (fun c1 => ?_)
    · (dsimp only [dB, dAnd, dOr, dNot, dEqE, wf_d, wf_l, wb_b, wi_i, wt_t, wl_l, wl_d, List.set_cons_zero, List.set_cons_succ])
      rw [c1, Bool.true_and] at hk
      refine ifB (fun c2 => ⟨rfl, rfl, rfl, 1, 6, rfl, rfl, good_ty (pg m (by simp)), ?_⟩) (fun c2 => ?_)
      · rw [c2, Bool.true_and] at hk
        exact hk
      · rw [c2, Bool.false_and] at hk
        exact hk
    · rw [c1, Bool.false_and, Bool.false_and] at hk
      exact hk
/-- heads of sets, rising -/
def prsH : List (Str × Int) → List ((Str × Int) × (Str × Int))
  | a :: b :: r => (a, b) :: prsH (b :: r)
  | _ => []
def risH : List (Str × Int) → Bool
  | a :: b :: r => hdLt a b && risH (b :: r)
  | _ => true
theorem risH_prs : ∀ hs : List (Str × Int), risH hs = (prsH hs).all fun p => hdLt p.1 p.2
  | [] => rfl
  | [_] => rfl
  | a :: b :: r => by
    show (hdLt a b && risH (b :: r)) = (hdLt a b && (prsH (b :: r)).all _)
    rw [risH_prs (b :: r)]
def prH (p : (Str × Int) × (Str × Int)) : D := .tup [hdD p.1, hdD p.2]
theorem zip_prsH : ∀ hs : List (Str × Int), zipD (hs.map hdD) ((hs.map hdD).drop 1) = (prsH hs).map prH
  | [] => rfl
  | [_] => rfl
  | a :: b :: r => by
    show D.tup [hdD a, hdD b] :: zipD ((b :: r).map hdD) (r.map hdD) = prH (a, b) :: (prsH (b :: r)).map prH
    have := zip_prsH (b :: r)
    rw [show ((b :: r).map hdD).drop 1 = r.map hdD from rfl] at this
    rw [this]
    rfl
theorem prsH_len : ∀ hs : List (Str × Int), (prsH hs).length ≤ hs.length
  | [] => Nat.le_refl _
  | [_] => Nat.zero_le _
  | a :: b :: r => by
    have := prsH_len (b :: r)
    simp only [prsH, List.length_cons] at this ⊢
    omega
theorem hd_flat (h : Str × Int) : (hdD h).flat = true := rfl
theorem hd_alike (a b : Str × Int) : PySem.W.alike (hdD a).py (hdD b).py = true := by
  simp [hdD, D.py, pys, PySem.W.alike, PySem.W.alikeAll]
theorem hd_depth (a : Str × Int) : (hdD a).py.depth ≤ 60 := by
  simp [hdD, D.py, pys, PyData.depth, PyData.depthAll]
theorem risH_of : ∀ {hs : List (Str × Int)}, hs.Pairwise hdR → risH hs = true
  | [], _ => rfl
  | [_], _ => rfl
  | a :: b :: r, h => by
    obtain ⟨h1, h2⟩ := List.pairwise_cons.mp h
    show (hdLt a b && risH (b :: r)) = true
    rw [risH_of h2, hd_lt, decide_eq_true (h1 b List.mem_cons_self)]
    rfl
def kRisH (x : D) (φ : En → Prop) : Prop := ∃ hs : List (Str × Int), x = .lst (hs.map hdD) ∧ hs.length ≤ 1000 ∧ φ (.d (.bl (risH hs)))
theorem ok_is_rising_H (T : Txt K mg ad fd) : FnOk P w K mg base CX0 1 (ad 9) (fd 9) ps_is_rising (spX K (sp1 kRisH)) := by
  refine (show Fun K "is_rising" "is_rising" st_is_rising (ad 9) (fd 9) from T.f 9 (by decide)).ok sc_is_rising (fun vs H Q E h => len1 h) (fun cdv A outer s H vs Q E hr h => ?_)
  have hu := hu_of hr
  have hu65 := hu65_of hr
  refine ⟨_, (pss_one (ps_ret (pe_callB (r := rAll K) (cr_all rfl) (by rfl) (T.z 9 (by decide)) (by decide +kernel) (pa_cons (pe_lc (own := [("ahead", 1), ("behind", 2)]) (g := (gTup K 2 (gCons (gName 1) (gCons (gName 2) gNil)))) (tt := tYes) rfl sc_is_rising.nd (pi_zipAK (K := K) (by rfl) (T.z 11 (by decide)) (pa_cons (pv 0) (pa_cons (pe_slice (r := rSlL K) sl_list (pv 0) (po_some pe_int) po_none) pa_nil)))
      (blkOk_by (N := nm_is_rising) (sc := defScope st_is_rising) (by decide +kernel)) (fun _ _ _ _ _ => by exact (pg_tupK (K := K) (n := 2) rfl (pgs_cons (pg_name (i := 1) sc_is_rising.nd rfl (Or.inl rfl)) (pgs_cons (pg_name (i := 2) sc_is_rising.nd rfl (Or.inl rfl)) pgs_nil)))) (fun _ _ _ _ _ => pts_nil)
      (fun _ _ _ _ _ => by exact (pe_cmpR (r := rLtD K) (op_ltD hr.units) (pv 1) (pv 2) (nomark _)))) pa_nil)))), ?_⟩
  refine body1 h fun x φ hk => ?_
  rw [show st0 nm_is_rising [x] = [.d x, .no, .no] from rfl]
  obtain ⟨hs, rfl, hl, hk⟩ := hk
  have pl := prsH_len hs
  (try simp only [dVar, dC, dNil, dCons, dTup, dLst, dOp, onI, dI, dI0, dUn, dEq, dNe, dIxT, dIxL, dIxLv, dAndV, dOrV, dNotV, dB, dAnd, dOr, dNot, dYes, dIf, dChain, dCB, dLenR, dLenv, dListR, dTupR, dMxR, dMnR, dIntR, dIsi, dNoPart, dPart, dSl, dCatA, dCat, dRep, dIn, dInD, dIsN, D.isN, dCall, dCallP, dCallS, dPen0, dTruv, dRg1, dRg2, dLstRg, dTupRg, dLenSet, wf, wb, wi, wt, wl, vD, isSc, dSeq, dNext, dRet, dRetv, dRetN, dIfS, dAsg, dAsgT, dgTup, dgCons, dPar, dApp, dExt, dSetL, dPopAt, dRse, dNever, dDrop, dITup, dILst, dIRng1, dIRng2, dIDn, dIEnT, dIEnL, dIZip, po, poP, sp0, sp1, sp2, sp3, sp4, sp5, pp0, pp1, pp2, pp3, pp4, mo0, mo1, mo2, mo3, dBrw, immE, dMethO, dMake, dFSet, dFPut, fputK, dFDel, dGet2X, dOrT, dIStr, dLeStr, dAttr, dMeth, List.set_cons_zero, List.set_cons_succ, List.getElem?_cons_zero, List.getElem?_cons_succ, List.all_nil, List.map_nil, List.append_nil, List.cons_append, List.nil_append, true_and, ite_true, if_true])
  refine dLc_pure (items := (prsH hs).map prH) (Γ1 := [.d (.lst (hs.map hdD)), .no, .no]) (Γw := [.d (.lst (hs.map hdD)), .no, .no]) (fun x => match x with | .tup [a, b] => .bl (PySem.W.dataLt a.py b.py) | _ => .non) rfl (fun ψ h => ?_) rfl rfl (by rw [List.length_map]; omega) (fun d hd ψ q => ?_) ?_
  · (try simp only [dVar, dC, dNil, dCons, dTup, dLst, dOp, onI, dI, dI0, dUn, dEq, dNe, dIxT, dIxL, dIxLv, dAndV, dOrV, dNotV, dB, dAnd, dOr, dNot, dYes, dIf, dChain, dCB, dLenR, dLenv, dListR, dTupR, dMxR, dMnR, dIntR, dIsi, dNoPart, dPart, dSl, dCatA, dCat, dRep, dIn, dInD, dIsN, D.isN, dCall, dCallP, dCallS, dPen0, dTruv, dRg1, dRg2, dLstRg, dTupRg, dLenSet, wf, wb, wi, wt, wl, vD, isSc, dSeq, dNext, dRet, dRetv, dRetN, dIfS, dAsg, dAsgT, dgTup, dgCons, dPar, dApp, dExt, dSetL, dPopAt, dRse, dNever, dDrop, dITup, dILst, dIRng1, dIRng2, dIDn, dIEnT, dIEnL, dIZip, po, poP, sp0, sp1, sp2, sp3, sp4, sp5, pp0, pp1, pp2, pp3, pp4, mo0, mo1, mo2, mo3, dBrw, immE, dMethO, dMake, dFSet, dFPut, fputK, dFDel, dGet2X, dOrT, dIStr, dLeStr, dAttr, dMeth, List.set_cons_zero, List.set_cons_succ, List.getElem?_cons_zero, List.getElem?_cons_succ, List.all_nil, List.map_nil, List.append_nil, List.cons_append, List.nil_append, true_and, ite_true, if_true])
    have e : cutL (hs.map hdD) (some 1) none = (hs.map hdD).drop 1 := cutL_from (n := 1)
    rw [e, zip_prsH]
    exact h
  · obtain ⟨p, hp, rfl⟩ := List.mem_map.mp hd
    (try simp only [dVar, dC, dNil, dCons, dTup, dLst, dOp, onI, dI, dI0, dUn, dEq, dNe, dIxT, dIxL, dIxLv, dAndV, dOrV, dNotV, dB, dAnd, dOr, dNot, dYes, dIf, dChain, dCB, dLenR, dLenv, dListR, dTupR, dMxR, dMnR, dIntR, dIsi, dNoPart, dPart, dSl, dCatA, dCat, dRep, dIn, dInD, dIsN, D.isN, dCall, dCallP, dCallS, dPen0, dTruv, dRg1, dRg2, dLstRg, dTupRg, dLenSet, wf, wb, wi, wt, wl, vD, isSc, dSeq, dNext, dRet, dRetv, dRetN, dIfS, dAsg, dAsgT, dgTup, dgCons, dPar, dApp, dExt, dSetL, dPopAt, dRse, dNever, dDrop, dITup, dILst, dIRng1, dIRng2, dIDn, dIEnT, dIEnL, dIZip, po, poP, sp0, sp1, sp2, sp3, sp4, sp5, pp0, pp1, pp2, pp3, pp4, mo0, mo1, mo2, mo3, dBrw, immE, dMethO, dMake, dFSet, dFPut, fputK, dFDel, dGet2X, dOrT, dIStr, dLeStr, dAttr, dMeth, List.set_cons_zero, List.set_cons_succ, List.getElem?_cons_zero, List.getElem?_cons_succ, List.all_nil, List.map_nil, List.append_nil, List.cons_append, List.nil_append, true_and, ite_true, if_true, prH])
    exact ⟨rfl, hd_flat _, hd_flat _, hd_alike _ _, (fun z => nomatch z), hd_depth _, q _ _ rfl rfl⟩
  · (try simp only [dVar, dC, dNil, dCons, dTup, dLst, dOp, onI, dI, dI0, dUn, dEq, dNe, dIxT, dIxL, dIxLv, dAndV, dOrV, dNotV, dB, dAnd, dOr, dNot, dYes, dIf, dChain, dCB, dLenR, dLenv, dListR, dTupR, dMxR, dMnR, dIntR, dIsi, dNoPart, dPart, dSl, dCatA, dCat, dRep, dIn, dInD, dIsN, D.isN, dCall, dCallP, dCallS, dPen0, dTruv, dRg1, dRg2, dLstRg, dTupRg, dLenSet, wf, wb, wi, wt, wl, vD, isSc, dSeq, dNext, dRet, dRetv, dRetN, dIfS, dAsg, dAsgT, dgTup, dgCons, dPar, dApp, dExt, dSetL, dPopAt, dRse, dNever, dDrop, dITup, dILst, dIRng1, dIRng2, dIDn, dIEnT, dIEnL, dIZip, po, poP, sp0, sp1, sp2, sp3, sp4, sp5, pp0, pp1, pp2, pp3, pp4, mo0, mo1, mo2, mo3, dBrw, immE, dMethO, dMake, dFSet, dFPut, fputK, dFDel, dGet2X, dOrT, dIStr, dLeStr, dAttr, dMeth, List.set_cons_zero, List.set_cons_succ, List.getElem?_cons_zero, List.getElem?_cons_succ, List.all_nil, List.map_nil, List.append_nil, List.cons_append, List.nil_append, true_and, ite_true, if_true])
    refine ⟨(prsH hs).map fun p => hdLt p.1 p.2, by rw [List.map_map, List.map_map]; rfl, ?_⟩
    rw [List.all_map]
    rw [risH_prs] at hk
    exact hk
/-- what a set is -/
def toHd (x : D) : Str × Int := match x with
  | .tup [.str l, .int y, _] => (l, y)
  | _ => (Str.empty, 0)
def lstB (x : D) : Bool := match x with
  | .tup xs => (decide (1 ≤ (xs.length : Int)) && decide ((xs.length : Int) ≤ 4)) && (xs.all setB && risH (xs.map toHd))
  | _ => false
theorem setB_ok {x : D} (h : setB x = true) : ∃ (l : Str) (y m : Int), x = .tup [.str l, .int y, .int m] ∧ letB (.str l) 1 8 = true ∧ (1840 ≤ y ∧ y ≤ 2100) ∧ 1 ≤ m ∧ m ≤ 6 := by
  cases x with
  | tup xs =>
    match xs, h with
    | [a, b, d], h =>
      have h : ((letB a 1 8 && inB b 1840 2100) && inB d 1 6) = true := h
      rw [Bool.and_eq_true, Bool.and_eq_true] at h
      obtain ⟨⟨h1, h2⟩, h3⟩ := h
      cases a with
      | str l =>
        cases b with
        | int y =>
          cases d with
          | int m =>
            simp only [inB, Bool.and_eq_true, decide_eq_true_eq] at h2 h3
            exact ⟨l, y, m, rfl, h1, h2, h3⟩
          | _ => cases h3
        | _ => cases h2
      | _ => cases h1
    | [], h => cases h
    | [_], h => cases h
    | [_, _], h => cases h
    | _ :: _ :: _ :: _ :: _, h => cases h
  | _ => cases h
def kLst (x : D) (φ : En → Prop) : Prop := x.good = true ∧ φ (.d (.bl (lstB x)))
theorem ok_is_list (T : Txt K mg ad fd) : FnOk P w K mg base CX0 5 (ad 12) (fd 12) ps_is_list (spX K (sp1 kLst)) := by
  refine (show Fun K "is_list" "is_list" st_is_list (ad 12) (fd 12) from T.f 12 (by decide)).ok sc_is_list (fun vs H Q E h => len1 h) (fun cdv A outer s H vs Q E hr h => ?_)
  have hu := hu_of hr
  have hu65 := hu65_of hr
  refine ⟨_, (pss_cons (ps_if (PW.pt (pw_or (pt_not (pt_val (pe_call (ok_is_tuple (K := K) T) (hr.mono (by omega)) (by rfl) (T.g 8 (by decide)) (T.k 8 (by decide)) (bd_is_tuple T) .nil pass0 (pa_cons (pv 0) (pa_cons pe_int (pa_cons pe_int pa_nil)))))) (pw_or1 (pt_not (pt_val (pe_callB (r := rAll K) (cr_all rfl) (by rfl) (T.z 9 (by decide)) (by decide +kernel) (pa_cons (pe_lc (own := [("part", 1)]) (g := (gName 1)) (tt := tYes) rfl sc_is_list.nd (pi_tupK (K := K) (pv 0))
      (blkOk_by (N := nm_is_list) (sc := defScope st_is_list) (by decide +kernel)) (fun _ _ _ _ _ => by exact (pg_name (i := 1) sc_is_list.nd rfl (Or.inl rfl))) (fun _ _ _ _ _ => pts_nil)
      (fun _ _ _ _ _ => by exact (pe_call (ok_is_set (K := K) T) (hr.mono (by omega)) (by rfl) (T.g 11 (by decide)) (T.k 11 (by decide)) (bd_is_set T) .nil pass0 (pa_cons (pv 1) pa_nil)))) pa_nil)))))))
    (pss_one (ps_ret pe_bl))
    pss_nil)
  (pss_one (ps_ret (pe_call (ok_is_rising_H (K := K) T) (hr.mono (by omega)) (by rfl) (T.g 9 (by decide)) (T.k 9 (by decide)) (bd_is_rising T) .nil pass0 (pa_cons (pe_lc (own := [("part", 1)]) (g := (gName 1)) (tt := tYes) rfl sc_is_list.nd (pi_tupK (K := K) (pv 0))
      (blkOk_by (N := nm_is_list) (sc := defScope st_is_list) (by decide +kernel)) (fun _ _ _ _ _ => by exact (pg_name (i := 1) sc_is_list.nd rfl (Or.inl rfl))) (fun _ _ _ _ _ => pts_nil)
      (fun _ _ _ _ _ => by exact (pe_slice (r := rSlA K) sl_tupA (pv 1) po_none (po_some pe_int)))) pa_nil))))), ?_⟩
  refine body1 h fun x φ hk => ?_
  rw [show st0 nm_is_list [x] = [.d x, .no] from rfl]
  obtain ⟨hg, hk⟩ := hk
  refine ⟨rfl, rfl, rfl, 1, 4, rfl, rfl, good_ty hg, ?_⟩
  cases c : tupB x 1 4 with
  | false =>
    have e0 : lstB x = false := by
      cases x with
      | tup xs =>
        have e1 : lstB (.tup xs) = (tupB (.tup xs) 1 4 && (xs.all setB && risH (xs.map toHd))) := rfl
        rw [e1, c, Bool.false_and]
      | _ => rfl
    rw [e0] at hk
    exact wb_t (ifT rfl (ifT rfl ⟨rfl, hk⟩))
  | true =>
    obtain ⟨xs, rfl⟩ : ∃ xs, x = .tup xs := by
      cases x with
      | tup xs => exact ⟨xs, rfl⟩
      | _ => cases c
    obtain ⟨pg, pl⟩ := tup_good hg
    have e1 : lstB (.tup xs) = (tupB (.tup xs) 1 4 && (xs.all setB && risH (xs.map toHd))) := rfl
    rw [e1, c, Bool.true_and] at hk
    refine wb_t (ifF rfl ?_)
    (try dsimp only [dNext, dSeq, dIfS, dB, dOp, dNot, dOr, dAnd, dNotV, dOrV, dAndV, dAsg, dRet, dDrop, dCB, dIf, dTup, dLst, dCons, dNil, wf_d, wf_l, wb_b, wi_i, wt_t, wl_l, wl_d, tupR_t, tupR_l, lstR_t, lstR_l, List.set_cons_zero, List.set_cons_succ])
    refine dLc_pure (items := xs) (Γ1 := [.d (.tup xs), .no]) (Γw := [.d (.tup xs), .no]) (fun y => .bl (setB y)) rfl (fun ψ h => h) rfl rfl (by omega) (fun d hd ψ q => ?_) ?_
    · exact ⟨rfl, pg d hd, q _ _ rfl rfl⟩
    · refine ⟨xs.map setB, by rw [List.map_map]; rfl, ?_⟩
      rw [List.all_map]
      show (if (!(xs.all setB)) = true then _ else _)
      cases ca : xs.all setB with
      | false =>
        rw [ca, Bool.false_and] at hk
        exact ifT rfl ⟨rfl, hk⟩
      | true =>
        rw [ca, Bool.true_and] at hk
        refine ifF rfl ?_
        (try simp only [dVar, dC, dNil, dCons, dTup, dLst, dOp, onI, dI, dI0, dUn, dEq, dNe, dIxT, dIxL, dIxLv, dAndV, dOrV, dNotV, dB, dAnd, dOr, dNot, dYes, dIf, dChain, dCB, dLenR, dLenv, dListR, dTupR, dMxR, dMnR, dIntR, dIsi, dNoPart, dPart, dSl, dCatA, dCat, dRep, dIn, dInD, dIsN, D.isN, dCall, dCallP, dCallS, dPen0, dTruv, dRg1, dRg2, dLstRg, dTupRg, dLenSet, wf, wb, wi, wt, wl, vD, isSc, dSeq, dNext, dRet, dRetv, dRetN, dIfS, dAsg, dAsgT, dgTup, dgCons, dPar, dApp, dExt, dSetL, dPopAt, dRse, dNever, dDrop, dITup, dILst, dIRng1, dIRng2, dIDn, dIEnT, dIEnL, dIZip, po, poP, sp0, sp1, sp2, sp3, sp4, sp5, pp0, pp1, pp2, pp3, pp4, mo0, mo1, mo2, mo3, dBrw, immE, dMethO, dMake, dFSet, dFPut, fputK, dFDel, dGet2X, dOrT, dIStr, dLeStr, dAttr, dMeth, List.set_cons_zero, List.set_cons_succ, List.getElem?_cons_zero, List.getElem?_cons_succ, List.all_nil, List.map_nil, List.append_nil, List.cons_append, List.nil_append, true_and, ite_true, if_true])
        refine dLc_pure (items := xs) (Γ1 := [.d (.tup xs), .no]) (Γw := [.d (.tup xs), .no]) (fun y => hdD (toHd y)) rfl (fun ψ h => h) rfl rfl (by omega) (fun d hd ψ q => ?_) ?_
        · obtain ⟨l, y, m, rfl, _⟩ := setB_ok (List.all_eq_true.mp ca d hd)
          exact ⟨rfl, rfl, q _ _ rfl rfl⟩
        · exact ⟨xs.map toHd, by rw [List.map_map]; rfl, by rw [List.length_map]; omega, hk⟩
/-! stamps -/
def setD (s : Str × Int × Int) : D := .tup [.str s.1, .int s.2.1, .int s.2.2]
def bookD (ss : List (Str × Int × Int)) : D := .tup (ss.map setD)
theorem setD_at {ss : List (Str × Int × Int)} {i : Int} (h0 : 0 ≤ i) (h1 : i < ss.length) : ∃ t, ss[i.toNat]? = some t ∧ atI (ss.map setD) i = some (setD t) := by
  have il : i.toNat < ss.length := by omega
  refine ⟨ss[i.toNat], List.getElem?_eq_getElem il, ?_⟩
  have z := atI_ok (xs := ss.map setD) (i := i.toNat) (x := setD ss[i.toNat]) (by rw [List.getElem?_map, List.getElem?_eq_getElem il]; rfl)
  rw [Int.toNat_of_nonneg h0] at z
  exact z
def iD : D → Int
  | .int i => i
  | _ => 0
theorem inB_int {x : D} {a b : Int} (h : inB x a b = true) : x = .int (iD x) ∧ a ≤ iD x ∧ iD x ≤ b := by
  cases x with
  | int i =>
    simp only [inB, Bool.and_eq_true, decide_eq_true_eq] at h
    exact ⟨rfl, h.1, h.2⟩
  | _ => cases h
def kSetN (o x : D) (φ : En → Prop) : Prop := ∃ ss, o = bookD ss ∧ x.good = true ∧ φ (.d (.bl (inB x 0 ((ss.length : Int) - 1))))
theorem ok_is_set_number (T : Txt K mg ad fd) : FnOk P w K mg base CX0 3 (ad 13) (fd 13) ps_is_set_number (spX K (sp2 kSetN)) := by
  refine (show Fun K "is_set_number" "is_set_number" st_is_set_number (ad 13) (fd 13) from T.f 13 (by decide)).ok sc_is_set_number (fun vs H Q E h => len2 h) (fun cdv A outer s H vs Q E hr h => ?_)
  have hu := hu_of hr
  have hu65 := hu65_of hr
  refine ⟨_, (pss_one (ps_ret (pe_call (ok_is_whole_within (K := K) T) (hr.mono (by omega)) (by rfl) (T.g 6 (by decide)) (T.k 6 (by decide)) (bd_is_whole_within T) .nil pass0 (pa_cons (pv 1) (pa_cons pe_int (pa_cons (pe_op op_sub (pe_callB (r := Da.rLen K) cl_len (by rfl) (T.z 0 (by decide)) (by decide +kernel) (pa_cons (pv 0) pa_nil)) pe_int) pa_nil)))))), ?_⟩
  refine body2 h fun x y φ hk => ?_
  rw [show st0 nm_is_set_number [x, y] = [.d x, .d y] from rfl]
  obtain ⟨ss, rfl, hg, hk⟩ := hk
  refine ⟨rfl, rfl, rfl, rfl, 0, (ss.length : Int) - 1, rfl, by rw [List.length_map]; rfl, good_ty hg, hk⟩
/-- how many places the set at i has -/
def manyAt (ss : List (Str × Int × Int)) (i : Int) : Int := match ss[i.toNat]? with
  | some t => t.2.2
  | none => 0
def plB (ss : List (Str × Int × Int)) (x : D) : Bool := match x with
  | .tup [a, n] => inB a 0 ((ss.length : Int) - 1) && inB n 0 (manyAt ss (iD a) - 1)
  | _ => false
def kPlB (o x : D) (φ : En → Prop) : Prop := ∃ ss, o = bookD ss ∧ x.good = true ∧ φ (.d (.bl (plB ss x)))
theorem ok_is_place (T : Txt K mg ad fd) : FnOk P w K mg base CX0 4 (ad 14) (fd 14) ps_is_place (spX K (sp2 kPlB)) := by
  refine (show Fun K "is_place" "is_place" st_is_place (ad 14) (fd 14) from T.f 14 (by decide)).ok sc_is_place (fun vs H Q E h => len2 h) (fun cdv A outer s H vs Q E hr h => ?_)
  have hu := hu_of hr
  have hu65 := hu65_of hr
  refine ⟨_, (pss_cons (ps_if (pt_not (pt_val (pe_call (ok_is_tuple (K := K) T) (hr.mono (by omega)) (by rfl) (T.g 8 (by decide)) (T.k 8 (by decide)) (bd_is_tuple T) .nil pass0 (pa_cons (pv 1) (pa_cons pe_int (pa_cons pe_int pa_nil))))))
    (pss_one (ps_ret pe_bl))
    pss_nil)
  (pss_cons (ps_asg (pv 1) (pg_tupK (K := K) (n := 2) rfl (pgs_cons (pg_name (i := 2) sc_is_place.nd rfl (Or.inl rfl)) (pgs_cons (pg_name (i := 3) sc_is_place.nd rfl (Or.inl rfl)) pgs_nil))))
  (pss_one (ps_ret (pe_and (pe_call (ok_is_set_number (K := K) T) (hr.mono (by omega)) (by rfl) (T.g 13 (by decide)) (T.k 13 (by decide)) (bd_is_set_number T) .nil pass0 (pa_cons (pv 0) (pa_cons (pv 2) pa_nil))) (pe_one (pe_call (ok_is_whole_within (K := K) T) (hr.mono (by omega)) (by rfl) (T.g 6 (by decide)) (T.k 6 (by decide)) (bd_is_whole_within T) .nil pass0 (pa_cons (pv 3) (pa_cons pe_int (pa_cons (pe_op op_sub (pe_ix (r := rIxT K) ix_tup (pe_ix (r := rIxT K) ix_tup (pv 0) (pv 2) (fun _ _ => rfl)) pe_int (fun _ _ => rfl)) pe_int) pa_nil)))))))))), ?_⟩
  refine body2 h fun x y φ hk => ?_
  rw [show st0 nm_is_place [x, y] = [.d x, .d y, .no, .no] from rfl]
  obtain ⟨ss, rfl, hg, hk⟩ := hk
  refine ⟨rfl, rfl, rfl, 2, 2, rfl, rfl, good_ty hg, ?_⟩
  cases c : tupB y 2 2 with
  | false =>
    rw [not2 (f := plB ss) (fun _ => rfl) c] at hk
    exact wb_t (ifT rfl ⟨rfl, hk⟩)
  | true =>
    obtain ⟨a, n, rfl⟩ := tup2 c
    have pg := (tup_good hg).1
    have e0 : plB ss (.tup [a, n]) = (inB a 0 ((ss.length : Int) - 1) && inB n 0 (manyAt ss (iD a) - 1)) := rfl
    rw [e0] at hk
    refine wb_t (ifF rfl ?_)
    (try dsimp only [dNext, dSeq, dIfS, dB, dOp, dNot, dOr, dAnd, dNotV, dOrV, dAndV, dAsg, dRet, dDrop, dCB, dIf, dTup, dLst, dCons, dNil, wf_d, wf_l, wb_b, wi_i, wt_t, wl_l, wl_d, tupR_t, tupR_l, lstR_t, lstR_l, List.set_cons_zero, List.set_cons_succ])
    refine ⟨rfl, rfl, rfl, ss, rfl, pg a (by simp), ?_⟩
    refine wb_t (ifB (fun c1 => ?_) (fun c1 => ?_))
    · rw [c1, Bool.true_and] at hk
      obtain ⟨ea, a0, a1⟩ := inB_int c1
      generalize iD a = i at *
      subst ea
      obtain ⟨t, ht, hat⟩ := setD_at (ss := ss) a0 (by omega)
      have em : manyAt ss i = t.2.2 := by
        unfold manyAt
        rw [ht]
      rw [em] at hk
      exact ⟨rfl, setD t, hat, rfl, .int t.2.2, rfl, rfl, rfl, rfl, 0, t.2.2 - 1, rfl, rfl, good_ty (pg n (by simp)), hk⟩
    · rw [c1, Bool.false_and] at hk
      exact hk
def stB (ss : List (Str × Int × Int)) (x : D) : Bool := match x with
  | .tup [a, n, g] => (inB a 0 ((ss.length : Int) - 1) && inB n 0 (manyAt ss (iD a) - 1)) && inB g 0 1
  | _ => false
def kStB (o x : D) (φ : En → Prop) : Prop := ∃ ss, o = bookD ss ∧ x.good = true ∧ φ (.d (.bl (stB ss x)))
theorem ok_is_stamp (T : Txt K mg ad fd) (TM : TxtM K mg C am fm) (TG : TxtG mg) : FnOk P w K mg base CX0 5 (ad 15) (fd 15) ps_is_stamp (spX K (sp2 kStB)) := by
  refine (show Fun K "is_stamp" "is_stamp" st_is_stamp (ad 15) (fd 15) from T.f 15 (by decide)).ok sc_is_stamp (fun vs H Q E h => len2 h) (fun cdv A outer s H vs Q E hr h => ?_)
  have hu := hu_of hr
  have hu65 := hu65_of hr
  refine ⟨_, (pss_cons (ps_if (pt_not (pt_val (pe_call (ok_is_tuple (K := K) T) (hr.mono (by omega)) (by rfl) (T.g 8 (by decide)) (T.k 8 (by decide)) (bd_is_tuple T) .nil pass0 (pa_cons (pv 1) (pa_cons pe_int (pa_cons pe_int pa_nil))))))
    (pss_one (ps_ret pe_bl))
    pss_nil)
  (pss_one (ps_ret (pe_and (pe_call (ok_is_place (K := K) T) (hr.mono (by omega)) (by rfl) (T.g 14 (by decide)) (T.k 14 (by decide)) (bd_is_place T) .nil pass0 (pa_cons (pv 0) (pa_cons (pe_slice (r := rSlA K) sl_tupA (pv 1) po_none (po_some pe_int)) pa_nil))) (pe_one (pe_call (ok_is_whole_within (K := K) T) (hr.mono (by omega)) (by rfl) (T.g 6 (by decide)) (T.k 6 (by decide)) (bd_is_whole_within T) .nil pass0 (pa_cons (pe_ix (r := rIxT K) ix_tup (pv 1) pe_int (fun _ _ => rfl)) (pa_cons (pe_glob (v := .int 0) (by rfl) TG.hinged.choose_spec ⟨_, rfl⟩) (pa_cons (pe_glob (v := .int 1) (by rfl) TG.whole.choose_spec ⟨_, rfl⟩) pa_nil))))))))), ?_⟩
  refine body2 h fun x y φ hk => ?_
  rw [show st0 nm_is_stamp [x, y] = [.d x, .d y] from rfl]
  obtain ⟨ss, rfl, hg, hk⟩ := hk
  refine ⟨rfl, rfl, rfl, 3, 3, rfl, rfl, good_ty hg, ?_⟩
  cases c : tupB y 3 3 with
  | false =>
    rw [not3 (f := stB ss) (fun _ => rfl) c] at hk
    exact wb_t (ifT rfl ⟨rfl, hk⟩)
  | true =>
    obtain ⟨a, n, g, rfl⟩ := tup3 c
    have pg := (tup_good hg).1
    have e0 : stB ss (.tup [a, n, g]) = (plB ss (.tup [a, n]) && inB g 0 1) := rfl
    rw [e0] at hk
    refine wb_t (ifF rfl ?_)
    (try dsimp only [dNext, dSeq, dIfS, dB, dOp, dNot, dOr, dAnd, dNotV, dOrV, dAndV, dAsg, dRet, dDrop, dCB, dIf, dTup, dLst, dCons, dNil, wf_d, wf_l, wb_b, wi_i, wt_t, wl_l, wl_d, tupR_t, tupR_l, lstR_t, lstR_l, List.set_cons_zero, List.set_cons_succ])
    have eg : (D.tup [a, n]).good = true := good_tup (fun x hx => pg x (by simp at hx ⊢; rcases hx with h | h <;> simp [h])) (by simp)
    refine ⟨rfl, rfl, rfl, ss, rfl, eg, ?_⟩
    refine wb_t (ifB (fun c1 => ?_) (fun c1 => ?_))
    · have c1 : plB ss (.tup [a, n]) = true := c1
      rw [c1, Bool.true_and] at hk
      exact ⟨rfl, g, rfl, rfl, rfl, rfl, 0, 1, rfl, rfl, good_ty (pg g (by simp)), hk⟩
    · have c1 : plB ss (.tup [a, n]) = false := c1
      rw [c1, Bool.false_and] at hk
      exact hk
def stsB (ss : List (Str × Int × Int)) (x : D) : Bool := match x with
  | .tup xs => xs.all (stB ss)
  | _ => false
def kStsB (o x : D) (φ : En → Prop) : Prop := ∃ ss, o = bookD ss ∧ x.ty.isSome = true ∧ (∀ xs, x = .tup xs → xs.length ≤ 10000 ∧ ∀ u ∈ xs, u.good = true) ∧ φ (.d (.bl (stsB ss x)))
theorem ok_is_stamps (T : Txt K mg ad fd) (TM : TxtM K mg C am fm) (TG : TxtG mg) : FnOk P w K mg base CX0 6 (ad 16) (fd 16) ps_is_stamps (spX K (sp2 kStsB)) := by
  refine (show Fun K "is_stamps" "is_stamps" st_is_stamps (ad 16) (fd 16) from T.f 16 (by decide)).ok sc_is_stamps (fun vs H Q E h => len2 h) (fun cdv A outer s H vs Q E hr h => ?_)
  have hu := hu_of hr
  have hu65 := hu65_of hr
  refine ⟨_, (pss_one (ps_ret (pe_and (pe_callB (r := rIsi K) call_isi (by rfl) (T.z 6 (by decide)) (by decide +kernel) (pa_cons (pv 1) (pa_cons (pe_bltn (v := .ty "tuple") (by rfl) (T.z 4 (by decide)) (by decide +kernel) rfl) pa_nil))) (pe_one (pe_callB (r := rAll K) (cr_all rfl) (by rfl) (T.z 9 (by decide)) (by decide +kernel) (pa_cons (pe_lc (own := [("part", 2)]) (g := (gName 2)) (tt := tYes) rfl sc_is_stamps.nd (pi_tupK (K := K) (pv 1))
      (blkOk_by (N := nm_is_stamps) (sc := defScope st_is_stamps) (by decide +kernel)) (fun _ _ _ _ _ => by exact (pg_name (i := 2) sc_is_stamps.nd rfl (Or.inl rfl))) (fun _ _ _ _ _ => pts_nil)
      (fun _ _ _ _ _ => by exact (pe_call (ok_is_stamp (K := K) T TM TG) (hr.mono (by omega)) (by rfl) (T.g 15 (by decide)) (T.k 15 (by decide)) (bd_is_stamp T) .nil pass0 (pa_cons (pv 0) (pa_cons (pv 2) pa_nil))))) pa_nil)))))), ?_⟩
  refine body2 h fun x y φ hk => ?_
  rw [show st0 nm_is_stamps [x, y] = [.d x, .d y, .no] from rfl]
  obtain ⟨ss, rfl, ht, hg, hk⟩ := hk
  cases y with
  | ins C ns xs => exact absurd ht Bool.false_ne_true
  | tup xs =>
    obtain ⟨pl, pg⟩ := hg xs rfl
    refine ⟨by decide, true, rfl, ?_⟩
    refine wb_t (ifT rfl ?_)
    (try dsimp only [dNext, dSeq, dIfS, dB, dOp, dNot, dOr, dAnd, dNotV, dOrV, dAndV, dAsg, dRet, dDrop, dCB, dIf, dTup, dLst, dCons, dNil, wf_d, wf_l, wb_b, wi_i, wt_t, wl_l, wl_d, tupR_t, tupR_l, lstR_t, lstR_l, List.set_cons_zero, List.set_cons_succ])
    refine dLc_pure (items := xs) (Γ1 := [.d (bookD ss), .d (.tup xs), .no]) (Γw := [.d (bookD ss), .d (.tup xs), .no]) (fun y => .bl (stB ss y)) rfl (fun ψ h => h) rfl rfl (by omega) (fun d hd ψ q => ?_) ?_
    · exact ⟨rfl, ss, rfl, pg d hd, q _ _ rfl rfl⟩
    · refine ⟨xs.map (stB ss), by rw [List.map_map]; rfl, ?_⟩
      rw [List.all_map]
      exact hk
  | _ =>
    refine ⟨by decide, false, rfl, ?_⟩
    exact wb_t (ifF rfl hk)
end
end Dl

set_option Elab.async false
set_option maxRecDepth 100000
set_option maxHeartbeats 4000000
set_option linter.all false
set_option synthInstance.maxHeartbeats 4000000
set_option synthInstance.maxSize 10000


namespace Dl
open PySem PySem.Spec PyProof.Rows L2 RZ HmS Da
section
variable {P : Program} {w : World} {K : PySem.W.Frag} [HasT K] {mg : Str → Option Value} {base : Heap} {ad am : Nat → Addr} {fd fm : Nat → FuncData} {C : Addr}
/-! ### albums -/
def nsA : List Str := ["_book", "_name", "_many"]
def osA (ss : List (Str × Int × Int)) (n : Str) (cs : Cts) : List O := [.d (bookD ss), .d (.str n), .dT (kyA cs) ((vlA cs).map O.d)]
def albD (C : Addr) (ss : List (Str × Int × Int)) (n : Str) (cs : Cts) : D := .ins C nsA [bookD ss, .str n, .dT (kyA cs) (vlA cs)]
theorem alb_dt (C : Addr) (ss : List (Str × Int × Int)) (n : Str) (cs : Cts) : (O.ins C nsA (osA ss n cs)).dt = albD C ss n cs := by
  show D.ins C nsA [bookD ss, .str n, .dT (kyA cs) (dts ((vlA cs).map O.d))] = _
  rw [dts_d]
  rfl
theorem st_good (s : St3) : (stD s).good = true := by simp [stD, D.good, goods]
theorem many_no : ¬ (("_many" : Str) ∈ (["_book", "_name"] : List Str)) := by decide +kernel
def kChk (C : Addr) (s x : D) (φ : En → Prop) : Prop := ∃ ss n cs, s = albD C ss n cs ∧ x.good = true ∧ stB ss x = true ∧ φ (.d .non)
theorem ok_Album__check_stamp (T : Txt K mg ad fd) (TM : TxtM K mg C am fm) (TG : TxtG mg) : FnOk P w K mg base CX0 6 (am 1) (fm 1) ps_Album__check_stamp (spX K (sp2 (kChk C))) := by
  refine (show Fun K "_check_stamp" "Album._check_stamp" st_Album__check_stamp (am 1) (fm 1) from TM.f 1 (by decide)).ok sc_Album__check_stamp (fun vs H Q E h => len2 h) (fun cdv A outer s H vs Q E hr h => ?_)
  have hu := hu_of hr
  have hu65 := hu65_of hr
  refine ⟨_, (pss_one (ps_if (pt_not (pt_val (pe_call (ok_is_stamp (K := K) T TM TG) (hr.mono (by omega)) (by rfl) (T.g 15 (by decide)) (T.k 15 (by decide)) (bd_is_stamp T) .nil pass0 (pa_cons (pe_fldK (K := K) (pv 0) rfl) (pa_cons (pv 1) pa_nil)))))
    (pss_one ps_never)
    pss_nil)), ?_⟩
  refine body2 h fun x y φ hk => ?_
  rw [show st0 nm_Album__check_stamp [x, y] = [.d x, .d y] from rfl]
  obtain ⟨ss, n, cs, rfl, hg, hs, hk⟩ := hk
  refine ⟨C, _, _, bookD ss, rfl, TM.cl, TM.nB, rfl, rfl, ss, rfl, hg, ?_⟩
  rw [hs]
  exact wb_t (ifF rfl hk)
def kCof (C : Addr) (s x : D) (φ : En → Prop) : Prop := ∃ ss n cs t, s = albD C ss n cs ∧ x = stD t ∧ stB ss x = true ∧ φ (.d (.int (cntA cs t)))
theorem ok_Album_count_of (T : Txt K mg ad fd) (TM : TxtM K mg C am fm) (TG : TxtG mg) : FnOk P w K mg base CX0 7 (am 4) (fm 4) ps_Album_count_of (spX K (sp2 (kCof C))) := by
  refine (show Fun K "count_of" "Album.count_of" st_Album_count_of (am 4) (fm 4) from TM.f 4 (by decide)).ok sc_Album_count_of (fun vs H Q E h => len2 h) (fun cdv A outer s H vs Q E hr h => ?_)
  have hu := hu_of hr
  have hu65 := hu65_of hr
  refine ⟨_, (pss_cons (ps_expr (pe_meth (pv 0) TM.cl (TM.m 1 (by decide)) (ok_Album__check_stamp (K := K) T TM TG) (hr.mono (by omega)) (bm__check_stamp TM) .nil pass0 (pa_cons (pv 1) pa_nil)))
  (pss_one (ps_ret (pe_dget2 hu (pe_fldK (K := K) (pv 0) rfl) (pv 1) pe_int ⟨rfl, rfl, rfl, rfl⟩)))), ?_⟩
  refine body2 h fun x y φ hk => ?_
  rw [show st0 nm_Album_count_of [x, y] = [.d x, .d y] from rfl]
  obtain ⟨ss, n, cs, t, rfl, rfl, hs, hk⟩ := hk
  refine ⟨⟨_, _, rfl, rfl⟩, rfl, ss, n, cs, rfl, st_good t, hs, ?_⟩
  refine ⟨C, _, _, .dT (kyA cs) (vlA cs), rfl, TM.cl, TM.nM, rfl, ⟨_, _, rfl⟩, rfl, _, _, _, rfl, keysOf_st t, ?_⟩
  show φ (.d ((lookD (kyA cs) (vlA cs) (keyT t)).getD (.int 0)))
  rw [look_getD]
  exact hk
def kChs (C : Addr) (s x m : D) (φ : En → Prop) : Prop := ∃ ss n cs k, s = albD C ss n cs ∧ x.good = true ∧ stB ss x = true ∧ m = .int k ∧ 1 ≤ k ∧ φ (.d .non)
theorem ok_Album__check_some (T : Txt K mg ad fd) (TM : TxtM K mg C am fm) (TG : TxtG mg) : FnOk P w K mg base CX0 7 (am 0) (fm 0) ps_Album__check_some (spX K (sp3 (kChs C))) := by
  refine (show Fun K "_check_some" "Album._check_some" st_Album__check_some (am 0) (fm 0) from TM.f 0 (by decide)).ok sc_Album__check_some (fun vs H Q E h => len3 h) (fun cdv A outer s H vs Q E hr h => ?_)
  have hu := hu_of hr
  have hu65 := hu65_of hr
  refine ⟨_, (pss_cons (ps_expr (pe_meth (pv 0) TM.cl (TM.m 1 (by decide)) (ok_Album__check_stamp (K := K) T TM TG) (hr.mono (by omega)) (bm__check_stamp TM) .nil pass0 (pa_cons (pv 1) pa_nil)))
  (pss_one (ps_if (pt_not (pt_val (pe_call (ok_is_whole_from (K := K) T) (hr.mono (by omega)) (by rfl) (T.g 5 (by decide)) (T.k 5 (by decide)) (bd_is_whole_from T) .nil pass0 (pa_cons (pv 2) (pa_cons pe_int pa_nil)))))
    (pss_one ps_never)
    pss_nil))), ?_⟩
  refine body3 h fun x y z φ hk => ?_
  rw [show st0 nm_Album__check_some [x, y, z] = [.d x, .d y, .d z] from rfl]
  obtain ⟨ss, n, cs, k, rfl, hg, hs, rfl, h1, hk⟩ := hk
  refine ⟨⟨_, _, rfl, rfl⟩, rfl, ss, n, cs, rfl, hg, hs, ?_⟩
  refine ⟨rfl, rfl, 1, rfl, rfl, ?_⟩
  show wb (.d (.bl (decide (k ≥ 1)))) _
  rw [decide_eq_true h1]
  exact wb_t (ifF rfl hk)
def kPut (C : Addr) (ns : List Str) (os : List O) (x m : D) (φ : List Str → List O → Prop) : Prop := ∃ ss n cs t k, ns = nsA ∧ os = osA ss n cs ∧ x = stD t ∧ stB ss x = true ∧ m = .int k ∧ 1 ≤ k ∧ cs.length ≤ 10000 ∧ φ nsA (osA ss n (addA cs t k))
theorem ok_Album_put (T : Txt K mg ad fd) (TM : TxtM K mg C am fm) (TG : TxtG mg) : FnOk P w K mg base CX0 8 (am 10) (fm 10) ps_Album_put (spO K C (mo2 (kPut C))) := by
  refine TM.fd_put.ok0D sc_Album_put (fun vs H Q E h => lemo2 h) (fun cdv A outer s H vs Q E hr h => ?_)
  have hu := hu_of hr
  have hu65 := hu65_of hr
  refine ⟨_, (pss_cons (ps_expr (pe_brw 0 (pe_meth (pv 0) TM.cl (TM.m 0 (by decide)) (ok_Album__check_some (K := K) T TM TG) (hr.mono (by omega)) (bm__check_some TM) .nil pass0 (pa_cons (pv 1) (pa_cons (pv 2) pa_nil)))))
  (pss_one (ps_dput hu (pe_fldK (K := K) (pv 0) rfl) (pv 1) (pe_op op_add (pe_brw 0 (pe_meth (pv 0) TM.cl (TM.m 4 (by decide)) (ok_Album_count_of (K := K) T TM TG) (hr.mono (by omega)) (bm_count_of TM) .nil pass0 (pa_cons (pv 1) pa_nil))) (pv 2)) rfl))), ?_⟩
  refine bodmo2 h fun ns os x y φ p T0 hk => ?_
  rw [show stO nm_Album_put (.ins C ns os) (p :: T0) [x, y] = [.ow (.ins C ns os) (p :: T0), .d x, .d y] from rfl]
  obtain ⟨ss, n, cs, t, k, rfl, rfl, rfl, hs, rfl, h1, hl, hk⟩ := hk
  refine ⟨_, _, rfl, ?_⟩
  rw [alb_dt]
  refine ⟨⟨_, _, rfl, rfl⟩, rfl, ss, n, cs, k, rfl, st_good t, hs, rfl, h1, rfl, ?_⟩
  refine ⟨_, _, rfl, ?_⟩
  rw [alb_dt]
  refine ⟨⟨_, _, rfl, rfl⟩, rfl, ss, n, cs, t, rfl, rfl, hs, rfl, rfl, ?_⟩
  refine ⟨C, ["_book", "_name"], [.d (bookD ss), .d (.str n)], kyA cs, vlA cs, _, stD t, keyT t, rfl, many_no, TM.cl, TM.nM, rfl, keysOf_st t, by rw [kyA_len]; omega, ?_⟩
  refine ⟨nsA, osA ss n (addA cs t k), T0, ?_, hk⟩
  obtain ⟨p1, p2⟩ := put_A cs t (cntA cs t + k)
  show some (En.ow (.ins C nsA ([.d (bookD ss), .d (.str n)] ++ [.dT (putTs (kyA cs) (keyT t)) ((putTD (kyA cs) (vlA cs) (keyT t) (.int (cntA cs t + k))).map O.d)])) (p :: T0)) = _
  rw [p1, p2]
  rfl
def kBok (C : Addr) (s : D) (φ : En → Prop) : Prop := ∃ ss n cs, s = albD C ss n cs ∧ φ (.d (bookD ss))
theorem ok_Album_book (T : Txt K mg ad fd) (TM : TxtM K mg C am fm) (TG : TxtG mg) : FnOk P w K mg base CX0 1 (am 2) (fm 2) ps_Album_book (spX K (sp1 (kBok C))) := by
  refine (show Fun K "book" "Album.book" st_Album_book (am 2) (fm 2) from TM.f 2 (by decide)).ok sc_Album_book (fun vs H Q E h => len1 h) (fun cdv A outer s H vs Q E hr h => ?_)
  have hu := hu_of hr
  have hu65 := hu65_of hr
  refine ⟨_, (pss_one (ps_ret (pe_fldK (K := K) (pv 0) rfl))), ?_⟩
  refine body1 h fun x φ hk => ?_
  rw [show st0 nm_Album_book [x] = [.d x] from rfl]
  obtain ⟨ss, n, cs, rfl, hk⟩ := hk
  exact ⟨C, _, _, bookD ss, rfl, TM.cl, TM.nB, rfl, hk⟩
def kCld (C : Addr) (s : D) (φ : En → Prop) : Prop := ∃ ss n cs, s = albD C ss n cs ∧ φ (.d (.str n))
theorem ok_Album_called (T : Txt K mg ad fd) (TM : TxtM K mg C am fm) (TG : TxtG mg) : FnOk P w K mg base CX0 1 (am 3) (fm 3) ps_Album_called (spX K (sp1 (kCld C))) := by
  refine (show Fun K "called" "Album.called" st_Album_called (am 3) (fm 3) from TM.f 3 (by decide)).ok sc_Album_called (fun vs H Q E h => len1 h) (fun cdv A outer s H vs Q E hr h => ?_)
  have hu := hu_of hr
  have hu65 := hu65_of hr
  refine ⟨_, (pss_one (ps_ret (pe_fldK (K := K) (pv 0) rfl))), ?_⟩
  refine body1 h fun x φ hk => ?_
  rw [show st0 nm_Album_called [x] = [.d x] from rfl]
  obtain ⟨ss, n, cs, rfl, hk⟩ := hk
  exact ⟨C, _, _, .str n, rfl, TM.cl, TM.nN, rfl, hk⟩
def kInit (C : Addr) (ns : List Str) (os : List O) (b nm st : D) (φ : List Str → List O → Prop) : Prop := ns = [] ∧ os = [] ∧ ∃ ss n, b = bookD ss ∧ b.good = true ∧ lstB b = true ∧ nm = .str n ∧ nm.good = true ∧ letB nm 0 8 = true ∧
  ((st = .non ∧ φ nsA (osA ss n [])) ∨ ∃ sts : List St3, st = .tup (sts.map stD) ∧ (∀ s ∈ sts, stB ss (stD s) = true) ∧ sts.length ≤ 1000 ∧ φ nsA (osA ss n (countsA sts)))
theorem fld_no : ¬ (("_book" : Str) ∈ ([] : List Str)) ∧ ¬ (("_name" : Str) ∈ (["_book"] : List Str)) := by decide +kernel
theorem ok_Album___init__ (T : Txt K mg ad fd) (TM : TxtM K mg C am fm) (TG : TxtG mg) : FnOk P w K mg base CX0 7 (am 9) (fm 9) ps_Album___init__ (spO K C (mo3 (kInit C))) := by
  refine TM.fd___init__.ok0D sc_Album___init__ (fun vs H Q E h => lemo3 h) (fun cdv A outer s H vs Q E hr h => ?_)
  have hu := hu_of hr
  have hu65 := hu65_of hr
  refine ⟨_, (pss_cons (ps_if (pt_not (pt_val (pe_call (ok_is_list (K := K) T) (hr.mono (by omega)) (by rfl) (T.g 12 (by decide)) (T.k 12 (by decide)) (bd_is_list T) .nil pass0 (pa_cons (pv 1) pa_nil))))
    (pss_one ps_never)
    pss_nil)
  (pss_cons (ps_if (pt_not (pt_val (pe_call (ok_is_letters (K := K) T) (hr.mono (by omega)) (by rfl) (T.g 7 (by decide)) (T.k 7 (by decide)) (bd_is_letters T) .nil pass0 (pa_cons (pv 2) (pa_cons pe_int (pa_cons pe_int pa_nil))))))
    (pss_one ps_never)
    pss_nil)
  (pss_cons (ps_if (PW.pt (pw_and (pt_cmpR (r := rNotN) op_notN1 (pv 3) pe_non (nomark _)) (pw_and1 (pt_not (pt_val (pe_call (ok_is_stamps (K := K) T TM TG) (hr.mono (by omega)) (by rfl) (T.g 16 (by decide)) (T.k 16 (by decide)) (bd_is_stamps T) .nil pass0 (pa_cons (pv 1) (pa_cons (pv 3) pa_nil))))))))
    (pss_one ps_never)
    pss_nil)
  (pss_cons (ps_fldK (K := K) (pv 0) (pv 1) rfl)
  (pss_cons (ps_fldK (K := K) (pv 0) (pv 2) rfl)
  (pss_cons (ps_fldK (K := K) (pv 0) pe_dnewT rfl)
  (pss_one (ps_for PassesOwn.never rfl (pi_tupK (K := K) (pe_orTK (K := K) (pv 3) (pe_one (pe_tup pa_nil)))) (pg_name (i := 4) sc_Album___init__.nd rfl (Or.inl rfl))
    (pss_one (ps_dput hu (pe_fldK (K := K) (pv 0) rfl) (pv 4) (pe_op op_add (pe_brw 0 (pe_dget2 hu (pe_fldK (K := K) (pv 0) rfl) (pv 4) pe_int ⟨rfl, rfl, rfl, rfl⟩)) pe_int) rfl)))))))))), ?_⟩
  refine bodmo3 h fun ns os x y z φ p T0 hk => ?_
  rw [show stO nm_Album___init__ (.ins C ns os) (p :: T0) [x, y, z] = [.ow (.ins C ns os) (p :: T0), .d x, .d y, .d z, .no] from rfl]
  obtain ⟨rfl, rfl, ss, n, rfl, hb, hl, rfl, hng, hn, hst⟩ := hk
  refine ⟨rfl, hb, ?_⟩
  rw [hl]
  refine wb_t (ifF rfl ?_)
  refine ⟨rfl, rfl, rfl, 0, 8, rfl, rfl, hng, ?_⟩
  rw [hn]
  refine wb_t (ifF rfl ?_)
  have tail : ∀ (sts : List St3) (T' : List Addr), (∀ s ∈ sts, stB ss (stD s) = true) → sts.length ≤ 1000 → φ nsA (osA ss n (countsA sts)) → ∃ I : Nat → List En → Prop, I 0 [.ow (.ins C nsA (osA ss n [])) (p :: T'), .d (bookD ss), .d (.str n), .d z, .no] ∧
      ∀ i Γ', I i Γ' → (i = (sts.map stD).length → (poO C p φ).nx Γ') ∧ ∀ d, (sts.map stD)[i]? = some d → dFPut K 0 4 (Str.ofString "_many") (dOp (dI0 fun i j => V.int (i + j)) (dBrw 0 (dGet2X (dAttr K (dVar 0) (Str.ofString "_many")) (dVar 4) (dC (V.int 0)))) (dC (V.int 1))) (Γ'.set 4 (.d d)) { poO C p φ with nx := I (i + 1), ct := I (i + 1), bk := (poO C p φ).nx } := by
    intro sts T' hs hl2 hk
    refine ⟨fun i Γ => ∃ v4, Γ = [.ow (.ins C nsA (osA ss n (countsA (sts.take i)))) (p :: T'), .d (bookD ss), .d (.str n), .d z, v4], ⟨_, rfl⟩, ?_⟩
    rintro i Γ ⟨v4, rfl⟩
    refine ⟨fun e => ?_, fun d hd => ?_⟩
    · rw [List.length_map] at e
      rw [e, List.take_length]
      exact ⟨nsA, _, T', rfl, hk⟩
    · obtain ⟨t, ht, rfl⟩ := at_map hd
      have il : i < sts.length := (List.getElem?_eq_some_iff.mp ht).1
      refine ⟨_, _, rfl, ?_⟩
      rw [alb_dt]
      refine ⟨C, _, _, .dT (kyA (countsA (sts.take i))) (vlA (countsA (sts.take i))), rfl, TM.cl, TM.nM, rfl, ⟨_, _, rfl⟩, rfl, _, _, _, rfl, keysOf_st t, ?_⟩
      show immE (.d ((lookD (kyA (countsA (sts.take i))) (vlA (countsA (sts.take i))) (keyT t)).getD (.int 0))) _
      rw [look_getD]
      refine ⟨rfl, rfl, rfl, ?_⟩
      have cl := countsA_len (sts.take i)
      rw [List.length_take] at cl
      refine ⟨C, ["_book", "_name"], [.d (bookD ss), .d (.str n)], kyA _, vlA _, _, stD t, keyT t, rfl, many_no, TM.cl, TM.nM, rfl, keysOf_st t, by rw [kyA_len]; omega, ?_⟩
      refine ⟨.d (stD t), ?_⟩
      obtain ⟨p1, p2⟩ := put_A (countsA (sts.take i)) t (cntA (countsA (sts.take i)) t + 1)
      have et : countsA (sts.take (i + 1)) = putA (countsA (sts.take i)) t (cntA (countsA (sts.take i)) t + 1) := by
        rw [List.take_add_one, ht]
        exact countsA_snoc _ _
      show [En.ow (.ins C nsA ([.d (bookD ss), .d (.str n)] ++ [.dT (putTs (kyA (countsA (sts.take i))) (keyT t)) ((putTD (kyA (countsA (sts.take i))) (vlA (countsA (sts.take i))) (keyT t) (.int (cntA (countsA (sts.take i)) t + 1))).map O.d)])) (p :: T'), .d (bookD ss), .d (.str n), .d z, .d (stD t)] = _
      rw [p1, p2, ← et]
      rfl
  have fin : ∀ (sts : List St3), (∀ s ∈ sts, stB ss (stD s) = true) → sts.length ≤ 1000 → φ nsA (osA ss n (countsA sts)) → (∀ (x0 : En) (ψ : List D → List En → Prop), ψ (sts.map stD) [x0, .d (bookD ss), .d (.str n), .d z, .no] → dOrT (dVar 3) (dTup dNil) [x0, .d (bookD ss), .d (.str n), .d z, .no] fun e Γ1 => wt e fun xs => ψ xs Γ1) →
      dSeq (dFSet K 0 (Str.ofString "_book") (dVar 1)) (dSeq (dFSet K 0 (Str.ofString "_name") (dVar 2)) (dSeq (dFSet K 0 (Str.ofString "_many") dNewT) (dFor (dITup (dOrT (dVar 3) (dTup dNil))) (fun d Γ φ => φ (Γ.set 4 (En.d d)))
                (dFPut K 0 4 (Str.ofString "_many") (dOp (dI0 fun i j => V.int (i + j)) (dBrw 0 (dGet2X (dAttr K (dVar 0) (Str.ofString "_many")) (dVar 4) (dC (V.int 0)))) (dC (V.int 1))))))) [.ow (.ins C [] []) (p :: T0), .d (bookD ss), .d (.str n), .d z, .no] (poO C p φ) := by
    intro sts hs hl2 hk ho
    refine ⟨C, [], [], p, T0, rfl, TM.cl, TM.nB, fld_no.1, by decide, ?_⟩
    refine ⟨C, ["_book"], [.d (bookD ss)], p, T0 ++ [], rfl, TM.cl, TM.nN, fld_no.2, by decide, ?_⟩
    intro m
    refine ⟨C, ["_book", "_name"], [.d (bookD ss), .d (.str n)], p, T0 ++ [] ++ [], rfl, TM.cl, TM.nM, many_no, by decide, ?_⟩
    exact ho _ _ (tail sts _ hs hl2 hk)
  rcases hst with ⟨rfl, hk⟩ | ⟨sts, rfl, hs, hl2, hk⟩
  · refine ⟨rfl, ?_⟩
    dsimp only [wf_d, vD, dIsN, D.isN, wb_b]
    refine ifF rfl (ifF rfl ?_)
    exact fin [] (fun s h => nomatch h) (Nat.zero_le _) hk fun x0 ψ h => ⟨false, rfl, ifF rfl ⟨Nat.zero_le _, h⟩⟩
  · refine ⟨rfl, ?_⟩
    dsimp only [wf_d, vD, dIsN, D.isN, wb_b]
    refine ifT rfl ?_
    have eb : stsB ss (.tup (sts.map stD)) = true := by
      show (sts.map stD).all (stB ss) = true
      rw [List.all_map, List.all_eq_true]
      exact hs
    refine ⟨rfl, ss, rfl, rfl, fun xs e => ?_, ?_⟩
    · cases e
      rw [List.length_map]
      exact ⟨by omega, fun u hu => by
        obtain ⟨s, _, rfl⟩ := List.mem_map.mp hu
        exact st_good s⟩
    · rw [eb]
      refine wb_t (ifF rfl ?_)
      refine fin sts hs hl2 hk fun x0 ψ h => ⟨!(sts.map stD).isEmpty, rfl, ?_⟩
      cases sts with
      | nil => exact ifF rfl ⟨Nat.zero_le _, h⟩
      | cons s r => exact ifT rfl h
end
end Dl

set_option Elab.async false
set_option maxRecDepth 100000
set_option maxHeartbeats 4000000
set_option linter.all false
set_option synthInstance.maxHeartbeats 4000000
set_option synthInstance.maxSize 10000


namespace Dl
open PySem PySem.Spec PyProof.Rows L2 RZ HmS Da
section
variable {P : Program} {w : World} {K : PySem.W.Frag} [HasT K] {mg : Str → Option Value} {base : Heap} {ad am : Nat → Addr} {fd fm : Nat → FuncData} {C : Addr}
/-! ### what an album tells -/
def kAll (C : Addr) (s : D) (φ : En → Prop) : Prop := ∃ ss n cs, s = albD C ss n cs ∧ cs.length ≤ 1000 ∧ ((cs.map (·.1)).Nodup → φ (.lst ((riseA cs).map rwD)))
theorem ok_Album_all_of (T : Txt K mg ad fd) (TM : TxtM K mg C am fm) (TG : TxtG mg) : FnOk P w K mg base CX0 1 (am 5) (fm 5) ps_Album_all_of (spX K (sp1 (kAll C))) := by
  refine (show Fun K "all_of" "Album.all_of" st_Album_all_of (am 5) (fm 5) from TM.f 5 (by decide)).ok sc_Album_all_of (fun vs H Q E h => len1 h) (fun cdv A outer s H vs Q E hr h => ?_)
  have hu := hu_of hr
  have hu65 := hu65_of hr
  refine ⟨_, (pss_one (ps_ret (pe_callB (cr_sortIC rfl hr.units) (by rfl) (T.z 3 (by decide)) (by decide +kernel) (pa_cons (pe_items (K := K) (pe_fldK (K := K) (pv 0) rfl)) pa_nil)))), ?_⟩
  refine body1 h fun x φ hk => ?_
  rw [show st0 nm_Album_all_of [x] = [.d x] from rfl]
  obtain ⟨ss, n, cs, rfl, cl, hk⟩ := hk
  refine ⟨C, _, _, .dT (kyA cs) (vlA cs), rfl, TM.cl, TM.nM, rfl, cs.map kcT, rfl, by rw [List.length_map]; exact cl, ?_, ?_, fun nd => ?_⟩
  · intro x hx y hy
    obtain ⟨z1, m1, rfl⟩ := List.mem_map.mp hx
    obtain ⟨z2, m2, rfl⟩ := List.mem_map.mp hy
    obtain ⟨s1, _, rfl⟩ := List.mem_map.mp m1
    obtain ⟨s2, _, rfl⟩ := List.mem_map.mp m2
    simp [encC, kcT, keyD, keyT, HmS.kD, PySem.W.alike, PySem.W.alikeAll]
  · intro c hc
    obtain ⟨s1, _, rfl⟩ := List.mem_map.mp hc
    simp [kcT, keyT]
  · have nd := ky_nodup.mp nd
    show φ (.lst ((sortC (cs.map kcT)).map rowC))
    rw [rows_rise nd]
    exact hk nd
end
end Dl

set_option Elab.async false
set_option maxRecDepth 100000
set_option maxHeartbeats 4000000
set_option linter.all false
set_option synthInstance.maxHeartbeats 4000000
set_option synthInstance.maxSize 10000
namespace Dl
/-! ### the number of an error, told in figures; its own __init__ (after the hand layer's) -/
namespace Sh
open PySem L2 HmS Da
abbrev stFig : Stmt := st_in_figures
/-- a number below 10^60 is told by its figures -/
def spFig : Sp := fun vs H Q _ => ∃ n : Int, vs = [.int n] ∧ 0 ≤ n ∧ n < 10 ^ 60 ∧ ∀ H', Same H H' → Q (.str (toString n)) H'
structure TxtFig (mg : Str → Option Value) : Prop where
  str : mg "str" = none
section
variable {P : Program} {w : World} {K : PySem.W.Frag} {mg : Str → Option Value} {base : Heap}
theorem sc_fig : FnScope ["number", "pieces", "left", "piece"] ["number"] (defScope stFig) := ⟨rfl, rfl, rfl, by decide +kernel, rfl, by decide +kernel, by decide +kernel⟩
theorem small_log {n : Int} (h0 : 0 ≤ n) (h1 : n < 10 ^ 60) : n.natAbs.log2 < 1920 := by
  have h : n.natAbs < 2 ^ 1920 := Nat.lt_of_lt_of_le (show n.natAbs < 10 ^ 60 by omega) (by decide +kernel)
  by_cases z : n.natAbs = 0
  · rw [z]; decide
  · exact (Nat.log2_lt z).mpr h
theorem ok_fig {f : Addr} {fd : FuncData} (F : Fun K "in_figures" "in_figures" stFig f fd) (T : TxtFig mg) :
    FnOk P w K mg base CX0 1 f fd ["number"] spFig := by
  refine F.ok sc_fig (fun vs H Q E h => ?_) (fun cdv A outer s H vs Q E hr h => ?_)
  · obtain ⟨n, rfl, _⟩ := h
    rfl
  · obtain ⟨n, rfl, h0, h1, q⟩ := h
    refine ⟨_, pss_cons (ps_set (i := 1) sc_fig.nd rfl (Or.inl rfl) (pe_lst pa_nil))
      (pss_cons (ps_set (i := 2) sc_fig.nd rfl (Or.inl rfl) (pv 0))
      (pss_cons (ps_while PassesOwn.never (pt_cmpR op_ge (pv 2) (pe_op op_pow pe_int pe_int) (nomark _)) pss_never)
      (pss_cons (ps_expr (pe_bm PySem.F.plainAttrs_list PySem.F.slot_list_append PySem.F.type_list_append mt_append (pv 1)
          (pa_cons (pe_callTy call_str_int (by rfl) T.str (by decide +kernel) (pa_cons (pv 2) pa_nil)) pa_nil)))
      (pss_one (ps_ret (pe_bm PySem.F.plainAttrs_str PySem.F.slot_str_join PySem.F.type_str_join mt_join pe_str (pa_cons (pe_revL (pv 1)) pa_nil))))))), ?_⟩
    refine ⟨by decide, fun l hl => ?_⟩
    refine ⟨_, rfl, ?_⟩
    refine ⟨fun _ σ H' => σ = [some (.int n), some (.ref l), some (.int n), none] ∧ H' = upd H l (.lst []), ⟨0, rfl, rfl⟩, ?_⟩
    rintro m σ H' ⟨rfl, rfl⟩
    refine ⟨_, rfl, _, _, rfl, rfl, ⟨by decide, by decide, by decide⟩, _, _, rfl, rfl, _, rfl, ?_⟩
    have c : decide ((10 : Int) ^ (60 : Int).toNat ≤ n) = false := decide_eq_false (Int.not_le.mpr h1)
    rw [c]
    refine iteF ?_
    refine ⟨_, rfl, .inl ⟨rfl, _, SqL.of upd_same⟩, _, rfl, _, rfl, small_log h0 h1, l, _, _, rfl, rfl, upd_same, by decide, ?_⟩
    refine ⟨rfl, _, rfl, l, _, rfl, SqL.of upd_same, fun p hp => ⟨_, p, [toString n], rfl, rfl, .inl (SqL.of upd_same), ?_, ?_⟩⟩
    · have z := PyProof.Rows.int_text_len_1921 (small_log h0 h1)
      show (PySem.Str.ofString (toString n)).length + 0 + 1 * (Str.ofString "").length ≤ 16777216
      have e2 : (Str.ofString "").length = 0 := by decide +kernel
      omega
    · refine q _ (fun b o e => ?_)
      have hb : b ≠ l := ne_of_none e hl
      have hbp : b ≠ p := fun z => by
        rw [← z, upd_ne hb, upd_ne hb, e] at hp
        cases hp
      rw [upd_ne hbp, upd_ne hb, upd_ne hb]
      exact e
end
end Sh
end Dl

set_option Elab.async false
set_option maxRecDepth 100000
set_option maxHeartbeats 4000000
set_option linter.all false
set_option synthInstance.maxHeartbeats 4000000
set_option synthInstance.maxSize 10000


namespace Dl
open PySem PySem.Spec PyProof.Rows L2 RZ HmS Da
theorem seqMidT {dt du : DSt} {Γ : List En} {P : Po} (R : List En → Prop) (main : ∀ N : List En → Prop, (∀ Γ', R Γ' → N Γ') → dt Γ { P with nx := N }) (tail : ∀ Γ', R Γ' → du Γ' P) : dSeq dt du Γ P := main (fun Γ' => du Γ' P) tail
section
variable {P : Program} {w : World} {K : PySem.W.Frag} [HasT K] {mg : Str → Option Value} {base : Heap} {ad am : Nat → Addr} {fd fm : Nat → FuncData} {C : Addr}
def kFig (x : D) (φ : En → Prop) : Prop := ∃ n : Int, x = .int n ∧ 0 ≤ n ∧ n < 10 ^ 60 ∧ φ (.d (.str (toString n)))
theorem ok_in_figures (T : Txt K mg ad fd) : FnOk P w K mg base CX0 1 (ad 0) (fd 0) ps_in_figures (spX K (sp1 kFig)) := by
  have F := Sh.ok_fig (P := P) (w := w) (base := base) (show Fun K "in_figures" "in_figures" st_in_figures (ad 0) (fd 0) from T.f 0 (by decide)) ⟨(T.z 8 (by decide))⟩
  have im : ∀ vs H Q E, spX K (sp1 kFig) vs H Q E → Sh.spFig vs H Q E := fun vs H Q E h => by
    obtain ⟨F0, ds, φ, ψ, fh, fn, tb, r, hk, q, _⟩ := h
    match ds, hk with
    | [x], hk =>
      obtain ⟨n, rfl, h0, h1, hφ⟩ := hk
      obtain ⟨v, rfl, rv⟩ := one_of r
      cases rv
      exact ⟨n, rfl, h0, h1, fun H' sm => q F0 H' _ (.d (.str (toString n))) (Same.refl F0) (.of sm) (tb.ext sm) (fh.trans sm) fn (fun a o e => .inl e) (.str _) (fun z => nomatch z) hφ⟩
  exact ⟨fun vs H Q E h => F.len vs H Q E (im _ _ _ _ h), fun A outer s H args us vs Q E hr he hb hv h => F.run A outer s H args us vs Q E hr he hb hv (im _ _ _ _ h)⟩
abbrev tI (i : Int) : Str := Str.ofString (toString i)
theorem str_app (a b : Str) : (a ++ b).length = a.length + b.length := Array.size_append ..
theorem str_emp (a : Str) : Str.empty ++ a = a := by
  obtain ⟨a⟩ := a
  show (⟨#[] ++ a⟩ : Str) = ⟨a⟩
  rw [Array.empty_append]
theorem log_of {i : Int} (h : i.natAbs < 10 ^ 60) : i.natAbs.log2 < 1920 := by
  have h : i.natAbs < 2 ^ 1920 := Nat.lt_of_lt_of_le h (by decide +kernel)
  by_cases z : i.natAbs = 0
  · rw [z]
    decide
  · exact (Nat.log2_lt z).mpr h
theorem tI_len {i : Int} (h : i.natAbs < 10 ^ 60) : (tI i).length ≤ 1921 := PyProof.Rows.int_text_len_1921 (log_of h)
/-- the row of a stamp -/
def stW (g : Int) : Str := if g = 0 then "hinged" else "whole"
def rowW (c : St3 × Int) : Str := tI c.1.1 ++ "." ++ tI c.1.2.1 ++ " " ++ stW c.1.2.2 ++ " " ++ tI c.2
def kRow (x m : D) (φ : En → Prop) : Prop := ∃ t k, x = stD t ∧ m = .int k ∧ (t.2.2 = 0 ∨ t.2.2 = 1) ∧ t.1.natAbs < 10 ^ 60 ∧ t.2.1.natAbs < 10 ^ 60 ∧ 0 ≤ k ∧ k < 10 ^ 60 ∧ φ (.d (.str (rowW (t, k))))
theorem ok_stamp_row (T : Txt K mg ad fd) (TM : TxtM K mg C am fm) (TG : TxtG mg) : FnOk P w K mg base CX0 2 (ad 2) (fd 2) ps_stamp_row (spX K (sp2 kRow)) := by
  refine (show Fun K "stamp_row" "stamp_row" st_stamp_row (ad 2) (fd 2) from T.f 2 (by decide)).ok sc_stamp_row (fun vs H Q E h => len2 h) (fun cdv A outer s H vs Q E hr h => ?_)
  have hu := hu_of hr
  have hu65 := hu65_of hr
  refine ⟨_, (pss_cons (ps_asg (pv 0) (pg_tupK (K := K) (n := 3) rfl (pgs_cons (pg_name (i := 2) sc_stamp_row.nd rfl (Or.inl rfl)) (pgs_cons (pg_name (i := 3) sc_stamp_row.nd rfl (Or.inl rfl)) (pgs_cons (pg_name (i := 4) sc_stamp_row.nd rfl (Or.inl rfl)) pgs_nil)))))
  (pss_one (ps_ret (pe_jnd (.cons (pe_fmt (pv 2)) (.cons pe_str (.cons (pe_fmt (pv 3)) (.cons pe_str (.cons (pe_fmt (pe_gix (K := K) (by rfl) TM.gw.choose_spec.1 (pv 4) (fun _ _ => rfl))) (.cons pe_str (.cons (pe_fmt (pe_call (ok_in_figures (K := K) T) (hr.mono (by omega)) (by rfl) (T.g 0 (by decide)) (T.k 0 (by decide)) (bd_in_figures T) .nil pass0 (pa_cons (pv 1) pa_nil))) .nil))))))))))), ?_⟩
  refine body2 h fun x y φ hk => ?_
  rw [show st0 nm_stamp_row [x, y] = [.d x, .d y, .no, .no, .no] from rfl]
  obtain ⟨t, k, rfl, rfl, hg, h1, h2, k0, k1, hk⟩ := hk
  have e1 : (Str.ofString (toString t.1)).length ≤ 1921 := tI_len h1
  have e2 : (Str.ofString (toString t.2.1)).length ≤ 1921 := tI_len h2
  have e3 : (Str.ofString (toString k)).length ≤ 1921 := tI_len (by omega)
  have w1 : (stW t.2.2).length ≤ 6 := by
    unfold stW
    split <;> decide +kernel
  have c1 : (Str.ofString ".").length = 1 := by decide +kernel
  have c2 : (Str.ofString " ").length = 1 := by decide +kernel
  have gw : ∃ v, L2.atI [V.str (Str.ofString "hinged"), V.str (Str.ofString "whole")] t.2.2 = some v ∧ isSc v = true ∧ vD v = .str (stW t.2.2) := by
    rcases hg with z | z
    · rw [z]
      exact ⟨_, rfl, rfl, rfl⟩
    · rw [z]
      exact ⟨_, rfl, rfl, rfl⟩
  obtain ⟨gv, g1, g2, g3⟩ := gw
  have c0 : Str.empty.length = 0 := rfl
  refine ⟨rfl, rfl, log_of h1, ?_⟩
  refine ⟨by rw [str_app]; omega, rfl, ?_⟩
  refine ⟨by rw [str_app, str_app]; show _ + (Str.ofString ".").length ≤ _; omega, log_of h2, ?_⟩
  refine ⟨by simp only [str_app]; show _ + (Str.ofString ".").length + _ ≤ _; omega, rfl, ?_⟩
  refine ⟨by simp only [str_app]; show _ + (Str.ofString ".").length + _ + (Str.ofString " ").length ≤ _; omega, _, gv, TM.gw.choose_spec.2, g1, g2, ?_⟩
  rw [g3]
  refine ⟨by omega, ?_⟩
  refine ⟨by simp only [str_app]; omega, rfl, ?_⟩
  refine ⟨by simp only [str_app]; show _ + _ + _ + _ + _ + (Str.ofString " ").length ≤ _; omega, rfl, k, rfl, k0, k1, ?_⟩
  refine ⟨show (Str.ofString (toString k)).length ≤ 1000000 by omega, ?_⟩
  refine ⟨by simp only [str_app]; omega, ?_⟩
  rw [str_emp]
  exact hk
/-- the row of the list's sets -/
def setW (t : Str × Int × Int) : Str := t.1 ++ " " ++ tI t.2.1 ++ " " ++ tI t.2.2
def listW (ss : List (Str × Int × Int)) : Str := Txt.join ";" (ss.map setW)
def toSet (x : D) : Str × Int × Int := match x with
  | .tup [.str l, .int y, .int m] => (l, y, m)
  | _ => (Str.empty, 0, 0)
def SetSmall (t : Str × Int × Int) : Prop := t.1.length ≤ 8 ∧ t.2.1.natAbs < 10 ^ 60 ∧ t.2.2.natAbs < 10 ^ 60
theorem setW_len {t : Str × Int × Int} (h : SetSmall t) : (setW t).length ≤ 5000 := by
  obtain ⟨h1, h2, h3⟩ := h
  have e2 := tI_len h2
  have e3 := tI_len h3
  have c2 : (Str.ofString " ").length = 1 := by decide +kernel
  unfold setW
  simp only [str_app]
  show t.1.length + (Str.ofString " ").length + _ + (Str.ofString " ").length + _ ≤ _
  omega
theorem sum_le {α : Type} (f : α → Nat) (b : Nat) : ∀ l : List α, (∀ a ∈ l, f a ≤ b) → (l.map f).sum ≤ l.length * b
  | [], _ => Nat.zero_le _
  | a :: l, h => by
    have h1 := h a List.mem_cons_self
    have h2 := sum_le f b l fun c hc => h c (List.mem_cons_of_mem _ hc)
    rw [List.map_cons, List.sum_cons, List.length_cons, Nat.succ_mul]
    omega
theorem join_c {a : Str} {db : DT} {Γ : List En} {φ : En → List En → Prop} (h : db Γ fun e' Γ2 => wss e' fun ys => (ys.map (·.length)).sum + ys.length * a.length ≤ 16777216 ∧ φ (.d (.str (Txt.join a ys))) Γ2) : dJoin (dC (.str a)) db Γ φ := ⟨rfl, h⟩
def kLw (x : D) (φ : En → Prop) : Prop := ∃ ss, x = bookD ss ∧ ss.length ≤ 4 ∧ (∀ t ∈ ss, SetSmall t) ∧ φ (.d (.str (listW ss)))
theorem ok_list_words (T : Txt K mg ad fd) : FnOk P w K mg base CX0 1 (ad 1) (fd 1) ps_list_words (spX K (sp1 kLw)) := by
  refine (show Fun K "list_words" "list_words" st_list_words (ad 1) (fd 1) from T.f 1 (by decide)).ok sc_list_words (fun vs H Q E h => len1 h) (fun cdv A outer s H vs Q E hr h => ?_)
  have hu := hu_of hr
  have hu65 := hu65_of hr
  refine ⟨_, (pss_one (ps_ret (pe_joinK (K := K) pe_str (pe_lc (own := [("land", 1), ("year", 2), ("many", 3)]) (g := (gTup K 3 (gCons (gName 1) (gCons (gName 2) (gCons (gName 3) gNil))))) (tt := tYes) rfl sc_list_words.nd (pi_tupK (K := K) (pv 0))
      (blkOk_by (N := nm_list_words) (sc := defScope st_list_words) (by decide +kernel)) (fun _ _ _ _ _ => by exact (pg_tupK (K := K) (n := 3) rfl (pgs_cons (pg_name (i := 1) sc_list_words.nd rfl (Or.inl rfl)) (pgs_cons (pg_name (i := 2) sc_list_words.nd rfl (Or.inl rfl)) (pgs_cons (pg_name (i := 3) sc_list_words.nd rfl (Or.inl rfl)) pgs_nil))))) (fun _ _ _ _ _ => pts_nil)
      (fun _ _ _ _ _ => by exact (pe_jnd (.cons (pe_fmt (pv 1)) (.cons pe_str (.cons (pe_fmt (pv 2)) (.cons pe_str (.cons (pe_fmt (pv 3)) .nil))))))))))), ?_⟩
  refine body1 h fun x φ hk => ?_
  rw [show st0 nm_list_words [x] = [.d x, .no, .no, .no] from rfl]
  obtain ⟨ss, rfl, sl, sm, hk⟩ := hk
  unfold dRet
  refine join_c ?_
  refine dLc_pure (items := ss.map setD) (Γ1 := [.d (bookD ss), .no, .no, .no]) (Γw := [.d (bookD ss), .no, .no, .no]) (fun x => .str (setW (toSet x))) rfl (fun ψ h => ?_) rfl rfl (by rw [List.length_map]; omega) (fun d hd ψ q => ?_) ?_
  · exact h
  · obtain ⟨t, ht, rfl⟩ := List.mem_map.mp hd
    obtain ⟨h1, h2, h3⟩ := sm t ht
    have e2 : (Str.ofString (toString t.2.1)).length ≤ 1921 := tI_len h2
    have e3 : (Str.ofString (toString t.2.2)).length ≤ 1921 := tI_len h3
    have c0 : Str.empty.length = 0 := rfl
    have c2 : (Str.ofString " ").length = 1 := by decide +kernel
    refine ⟨rfl, rfl, by omega, ?_⟩
    refine ⟨by simp only [str_app]; omega, rfl, ?_⟩
    refine ⟨by simp only [str_app]; show _ + _ + (Str.ofString " ").length ≤ _; omega, log_of h2, ?_⟩
    refine ⟨by simp only [str_app]; omega, rfl, ?_⟩
    refine ⟨by simp only [str_app]; show _ + _ + _ + _ + (Str.ofString " ").length ≤ _; omega, log_of h3, ?_⟩
    refine ⟨by simp only [str_app]; omega, ?_⟩
    rw [str_emp]
    exact q _ _ rfl rfl
  · refine ⟨ss.map setW, .inl ?_, ?_, hk⟩
    · show some (D.lst ((ss.map setD).map fun x => .str (setW (toSet x)))) = some (.lst ((ss.map setW).map .str))
      rw [List.map_map, List.map_map]
      rfl
    · have z := sum_le (fun y : Str => y.length) 5000 (ss.map setW) fun a ha => by
        obtain ⟨t, ht, rfl⟩ := List.mem_map.mp ha
        exact setW_len (sm t ht)
      have c1 : (Str.ofString ";").length = 1 := by decide +kernel
      have l : (ss.map setW).length = ss.length := List.length_map _
      rw [l] at z ⊢
      show _ + _ * (Str.ofString ";").length ≤ _
      rw [c1]
      omega
theorem join_len (a : Str) (ys : List Str) : (Txt.join a ys).length ≤ (ys.map fun y => y.length).sum + ys.length * a.length := by
  unfold Txt.join
  rw [StrLaws.glued_eq_join]
  exact StrLaws.join_length_le a ys
theorem listW_len {ss : List (Str × Int × Int)} (sl : ss.length ≤ 4) (sm : ∀ t ∈ ss, SetSmall t) : (listW ss).length ≤ 30000 := by
  have z := sum_le (fun y : Str => y.length) 5000 (ss.map setW) fun a ha => by
    obtain ⟨t, ht, rfl⟩ := List.mem_map.mp ha
    exact setW_len (sm t ht)
  have c1 : (Str.ofString ";").length = 1 := by decide +kernel
  have l : (ss.map setW).length = ss.length := List.length_map _
  have j := join_len (Str.ofString ";") (ss.map setW)
  rw [l] at z
  rw [l, c1] at j
  show (Txt.join (Str.ofString ";") (ss.map setW)).length ≤ _
  omega
def RowSmall (c : St3 × Int) : Prop := (c.1.2.2 = 0 ∨ c.1.2.2 = 1) ∧ c.1.1.natAbs < 10 ^ 60 ∧ c.1.2.1.natAbs < 10 ^ 60 ∧ 0 ≤ c.2 ∧ c.2 < 10 ^ 60
def headW (n : Str) : Str := if n.length = 0 then "album" else Str.ofString "album " ++ n
def rowsW (n : Str) (ss : List (Str × Int × Int)) (cs : Cts) : List Str := headW n :: (Str.ofString "list " ++ listW ss) :: cs.map rowW
def toRow (x : D) : St3 × Int := match x with
  | .tup [.tup [.int a, .int b, .int g], .int k] => ((a, b, g), k)
  | _ => ((0, 0, 0), 0)
def kRows (n b c : D) (φ : En → Prop) : Prop := ∃ nm ss cs, n = .str nm ∧ nm.length ≤ 8 ∧ b = bookD ss ∧ ss.length ≤ 4 ∧ (∀ t ∈ ss, SetSmall t) ∧ c = .lst (cs.map rwD) ∧ cs.length ≤ 1000 ∧ (∀ c ∈ cs, RowSmall c) ∧ φ (.lst ((rowsW nm ss cs).map .str))
theorem ok_album_rows (T : Txt K mg ad fd) (TM : TxtM K mg C am fm) (TG : TxtG mg) : FnOk P w K mg base CX0 3 (ad 3) (fd 3) ps_album_rows (spX K (sp3 kRows)) := by
  refine (show Fun K "album_rows" "album_rows" st_album_rows (ad 3) (fd 3) from T.f 3 (by decide)).ok sc_album_rows (fun vs H Q E h => len3 h) (fun cdv A outer s H vs Q E hr h => ?_)
  have hu := hu_of hr
  have hu65 := hu65_of hr
  refine ⟨_, (pss_cons (ps_set (i := 3) sc_album_rows.nd rfl (Or.inl rfl) (pe_ifExp (pt_truS (K := K) (pv 0) (by intro _; rfl)) (pe_jnd (.cons pe_str (.cons (pe_fmt (pv 0)) .nil))) pe_str))
  (pss_cons (ps_setLc (i := 4) (own := [("stamp", 5), ("many", 6)]) (g := (gTup K 2 (gCons (gName 5) (gCons (gName 6) gNil)))) (tt := tYes) (by rfl) sc_album_rows.nd rfl rfl (sw_true rfl rfl rfl (by decide +kernel)) (pi_listK (K := K) (pv 2))
      (blkOk_by (N := nm_album_rows) (sc := defScope st_album_rows) (by decide +kernel)) (fun _ _ _ _ _ => by exact (pg_tupK (K := K) (n := 2) rfl (pgs_cons (pg_name (i := 5) sc_album_rows.nd rfl (Or.inl rfl)) (pgs_cons (pg_name (i := 6) sc_album_rows.nd rfl (Or.inl rfl)) pgs_nil)))) (fun _ _ _ _ _ => pts_nil)
      (fun _ _ _ _ _ => by exact (pe_call (ok_stamp_row (K := K) T TM TG) (hr.mono (by omega)) (by rfl) (T.g 2 (by decide)) (T.k 2 (by decide)) (bd_stamp_row T) .nil pass0 (pa_cons (pv 5) (pa_cons (pv 6) pa_nil)))))
  (pss_one (ps_ret (pe_lst (pa_cons (pv 3) (pa_cons (pe_jnd (.cons pe_str (.cons (pe_fmt (pe_call (ok_list_words (K := K) T) (hr.mono (by omega)) (by rfl) (T.g 1 (by decide)) (T.k 1 (by decide)) (bd_list_words T) .nil pass0 (pa_cons (pv 1) pa_nil))) .nil))) (pa_starK (K := K) (pv 4) pa_nil)))))))), ?_⟩
  refine body3 h fun x y z φ hk => ?_
  rw [show st0 nm_album_rows [x, y, z] = [.d x, .d y, .d z, .no, .no, .no, .no] from rfl]
  obtain ⟨nm, ss, cs, rfl, nl, rfl, sl, sm, rfl, cl, rs, hk⟩ := hk
  have c0 : Str.empty.length = 0 := rfl
  have c6 : (Str.ofString "album ").length = 6 := by decide +kernel
  have c5 : (Str.ofString "list ").length = 5 := by decide +kernel
  have ll := listW_len sl sm
  refine seqMidT (fun Γ => Γ = [.d (.str nm), .d (bookD ss), .d (.lst (cs.map rwD)), .d (.str (headW nm)), .no, .no, .no]) (fun N hN => ?_) ?_
  · refine ⟨by omega, ?_⟩
    refine ifB (fun c => ?_) (fun c => ?_)
    · have c : nm.length ≠ 0 := fun z => by
        rw [z] at c
        cases c
      refine ⟨rfl, by rw [str_app]; show _ + (Str.ofString "album ").length ≤ _; omega, by omega, ?_⟩
      refine ⟨by rw [str_app, str_app]; show _ + (Str.ofString "album ").length + _ ≤ _; omega, ?_⟩
      rw [str_emp]
      refine hN _ ?_
      unfold headW
      rw [if_neg c]
      rfl
    · have c : nm.length = 0 := by
        by_cases z : nm.length = 0
        · exact z
        · have : ((nm.length : Int) != 0) = true := by simpa using z
          rw [this] at c
          cases c
      refine ⟨rfl, hN _ ?_⟩
      unfold headW
      rw [if_pos c]
      rfl
  rintro _ rfl
  have hl : (headW nm).length ≤ 14 := by
    unfold headW
    split
    · decide +kernel
    · rw [str_app]
      omega
  (try dsimp only [dNext, dSeq, dIfS, dB, dOp, dNot, dOr, dAnd, dNotV, dOrV, dAndV, dAsg, dRet, dDrop, dCB, dIf, dTup, dLst, dCons, dNil, wf_d, wf_l, wb_b, wi_i, wt_t, wl_l, wl_d, tupR_t, tupR_l, lstR_t, lstR_l, List.set_cons_zero, List.set_cons_succ])
  refine dLc_pure (items := cs.map rwD) (Γ1 := [.d (.str nm), .d (bookD ss), .d (.lst (cs.map rwD)), .d (.str (headW nm)), .no, .no, .no]) (Γw := [.d (.str nm), .d (bookD ss), .d (.lst (cs.map rwD)), .d (.str (headW nm)), .no, .no, .no]) (fun x => .str (rowW (toRow x))) rfl (fun ψ h => ?_) rfl rfl (by rw [List.length_map]; omega) (fun d hd ψ q => ?_) ?_
  · exact h
  · obtain ⟨c, hc, rfl⟩ := List.mem_map.mp hd
    obtain ⟨h1, h2, h3, h4, h5⟩ := rs c hc
    exact ⟨rfl, rfl, rfl, c.1, c.2, rfl, rfl, h1, h2, h3, h4, h5, q _ _ rfl rfl⟩
  (try dsimp only [dNext, dSeq, dIfS, dB, dOp, dNot, dOr, dAnd, dNotV, dOrV, dAndV, dAsg, dRet, dDrop, dCB, dIf, dTup, dLst, dCons, dNil, wf_d, wf_l, wb_b, wi_i, wt_t, wl_l, wl_d, tupR_t, tupR_l, lstR_t, lstR_l, List.set_cons_zero, List.set_cons_succ])
  refine ⟨rfl, by rw [str_app]; show _ + (Str.ofString "list ").length ≤ _; omega, rfl, ss, rfl, sl, sm, ?_⟩
  refine ⟨by omega, ?_⟩
  refine ⟨by rw [str_app, str_app]; show _ + (Str.ofString "list ").length + _ ≤ _; omega, ?_⟩
  rw [str_emp]
  unfold dJnil
  (try dsimp only [dNext, dSeq, dIfS, dB, dOp, dNot, dOr, dAnd, dNotV, dOrV, dAndV, dAsg, dRet, dDrop, dCB, dIf, dTup, dLst, dCons, dNil, wf_d, wf_l, wb_b, wi_i, wt_t, wl_l, wl_d, tupR_t, tupR_l, lstR_t, lstR_l, List.set_cons_zero, List.set_cons_succ])
  unfold dStar
  have e : ((cs.map rwD).map fun x => D.str (rowW (toRow x))) = (cs.map rowW).map .str := by
    rw [List.map_map, List.map_map]
    rfl
  refine ⟨(cs.map rowW).map .str, .inl (by show some (D.lst _) = _; rw [e]), ?_⟩
  refine ⟨?_, ?_⟩
  · rw [List.append_nil, List.length_cons, List.length_cons, List.length_map, List.length_map]
    omega
  · rw [List.append_nil]
    exact hk
end
end Dl

set_option Elab.async false
set_option maxRecDepth 100000
set_option maxHeartbeats 4000000
set_option linter.all false
set_option synthInstance.maxHeartbeats 4000000
set_option synthInstance.maxSize 10000


namespace Dl
open PySem PySem.Spec PyProof.Rows L2 RZ HmS Da
section
variable {P : Program} {w : World} {K : PySem.W.Frag} [HasT K] {mg : Str → Option Value} {base : Heap} {ad am : Nat → Addr} {fd fm : Nat → FuncData} {C : Addr}
def textW (n : Str) (ss : List (Str × Int × Int)) (cs : Cts) : Str := Txt.join "\n" (rowsW n ss cs)
theorem rowW_len {c : St3 × Int} (h : RowSmall c) : (rowW c).length ≤ 6000 := by
  obtain ⟨h1, h2, h3, h4, h5⟩ := h
  have e1 := tI_len h2
  have e2 := tI_len h3
  have e3 : (tI c.2).length ≤ 1921 := tI_len (by omega)
  have w1 : (stW c.1.2.2).length ≤ 6 := by
    unfold stW
    split <;> decide +kernel
  have c1 : (Str.ofString ".").length = 1 := by decide +kernel
  have c2 : (Str.ofString " ").length = 1 := by decide +kernel
  unfold rowW
  simp only [str_app]
  show (tI c.1.1).length + (Str.ofString ".").length + (tI c.1.2.1).length + (Str.ofString " ").length + (stW c.1.2.2).length + (Str.ofString " ").length + (tI c.2).length ≤ _
  omega
def kStr (C : Addr) (s : D) (φ : En → Prop) : Prop := ∃ ss nm cs, s = albD C ss nm cs ∧ nm.length ≤ 8 ∧ ss.length ≤ 4 ∧ (∀ t ∈ ss, SetSmall t) ∧ cs.length ≤ 1000 ∧ (cs.map (·.1)).Nodup ∧ (∀ c ∈ cs, RowSmall c) ∧ φ (.d (.str (textW nm ss (riseA cs))))
theorem ok_Album___str__ (T : Txt K mg ad fd) (TM : TxtM K mg C am fm) (TG : TxtG mg) : FnOk P w K mg base CX0 4 (am 8) (fm 8) ps_Album___str__ (spX K (sp1 (kStr C))) := by
  refine (show Fun K "__str__" "Album.__str__" st_Album___str__ (am 8) (fm 8) from TM.f 8 (by decide)).ok sc_Album___str__ (fun vs H Q E h => len1 h) (fun cdv A outer s H vs Q E hr h => ?_)
  have hu := hu_of hr
  have hu65 := hu65_of hr
  refine ⟨_, (pss_one (ps_ret (pe_joinK (K := K) pe_str (pe_call (ok_album_rows (K := K) T TM TG) (hr.mono (by omega)) (by rfl) (T.g 3 (by decide)) (T.k 3 (by decide)) (bd_album_rows T) .nil pass0 (pa_cons (pe_fldK (K := K) (pv 0) rfl) (pa_cons (pe_fldK (K := K) (pv 0) rfl) (pa_cons (pe_meth0 (pv 0) TM.cl (TM.m 5 (by decide)) (ok_Album_all_of (K := K) T TM TG) (hr.mono (by omega)) (bm_all_of TM) .nil pass0) pa_nil))))))), ?_⟩
  refine body1 h fun x φ hk => ?_
  rw [show st0 nm_Album___str__ [x] = [.d x] from rfl]
  obtain ⟨ss, nm, cs, rfl, nl, sl, sm, cl, nd, rs, hk⟩ := hk
  have rl := riseA_len cs
  unfold dRet
  refine join_c ?_
  refine ⟨C, _, _, .str nm, rfl, TM.cl, TM.nN, rfl, C, _, _, bookD ss, rfl, TM.cl, TM.nB, rfl, ⟨_, _, rfl, rfl⟩, rfl, ss, nm, cs, rfl, cl, fun _ => ?_⟩
  have rs2 : ∀ c ∈ riseA cs, RowSmall c := fun c hc => rs c ((riseA_perm cs).mem_iff.mp hc)
  refine ⟨rfl, nm, ss, riseA cs, rfl, nl, rfl, sl, sm, rfl, by omega, rs2, ?_⟩
  refine ⟨rowsW nm ss (riseA cs), .inl rfl, ?_, hk⟩
  have ll := listW_len sl sm
  have c5 : (Str.ofString "list ").length = 5 := by decide +kernel
  have c6 : (Str.ofString "album ").length = 6 := by decide +kernel
  have c1 : (Str.ofString "\n").length = 1 := by decide +kernel
  have hl : (headW nm).length ≤ 14 := by
    unfold headW
    split
    · decide +kernel
    · rw [str_app]
      omega
  have z := sum_le (fun y : Str => y.length) 6000 ((riseA cs).map rowW) fun a ha => by
    obtain ⟨c, hc, rfl⟩ := List.mem_map.mp ha
    exact rowW_len (rs2 c hc)
  have l2 : ((riseA cs).map rowW).length = cs.length := by rw [List.length_map, rl]
  rw [l2] at z
  have e : (Str.ofString "list " ++ listW ss).length = 5 + (listW ss).length := by rw [str_app, c5]
  show (headW nm).length + ((Str.ofString "list " ++ listW ss).length + (((riseA cs).map rowW).map fun x => x.length).sum) + (((riseA cs).map rowW).length + 1 + 1) * (Str.ofString "\n").length ≤ _
  rw [e, c1, l2]
  omega
end
end Dl

set_option Elab.async false
set_option maxRecDepth 100000
set_option maxHeartbeats 4000000
set_option linter.all false
set_option synthInstance.maxHeartbeats 4000000
set_option synthInstance.maxSize 10000


namespace Dl
open PySem PySem.Spec PyProof.Rows L2 RZ HmS Da
section
variable {P : Program} {w : World} {K : PySem.W.Frag} [HasT K] {mg : Str → Option Value} {base : Heap} {ad am : Nat → Addr} {fd fm : Nat → FuncData} {C : Addr}
/-! ### what the laws about offers, sorting and texts draw -/
structure SOk (t : Str × Int × Int) : Prop where
  le : letB (.str t.1) 1 8 = true
  zl : t.1.length ≤ 1000
  y0 : 1840 ≤ t.2.1
  y1 : t.2.1 ≤ 2100
  m0 : 1 ≤ t.2.2
  m1 : t.2.2 ≤ 6
structure BkOk (ss : List (Str × Int × Int)) : Prop where
  l0 : 1 ≤ ss.length
  l1 : ss.length ≤ 4
  ok : ∀ t ∈ ss, SOk t
  ri : (ss.map fun t => (t.1, t.2.1)).Pairwise hdR
theorem SOk.b {t : Str × Int × Int} (h : SOk t) : setB (setD t) = true := by
  show ((letB (.str t.1) 1 8 && inB (.int t.2.1) 1840 2100) && inB (.int t.2.2) 1 6) = true
  rw [h.le]
  simp only [inB, Bool.true_and, Bool.and_eq_true, decide_eq_true_eq]
  exact ⟨⟨h.y0, h.y1⟩, h.m0, h.m1⟩
theorem BkOk.b {ss : List (Str × Int × Int)} (h : BkOk ss) : lstB (bookD ss) = true := by
  show ((decide (1 ≤ ((ss.map setD).length : Int)) && decide (((ss.map setD).length : Int) ≤ 4)) && ((ss.map setD).all setB && risH ((ss.map setD).map toHd))) = true
  have e1 : (ss.map setD).all setB = true := by
    rw [List.all_map, List.all_eq_true]
    exact fun t ht => (h.ok t ht).b
  have e2 : (ss.map setD).map toHd = ss.map fun t => (t.1, t.2.1) := by
    rw [List.map_map]
    rfl
  have l0 := h.l0
  have l1 := h.l1
  rw [e1, e2, risH_of h.ri, List.length_map]
  simp only [Bool.and_true, Bool.and_eq_true, decide_eq_true_eq]
  omega
theorem BkOk.good {ss : List (Str × Int × Int)} (h : BkOk ss) : (bookD ss).good = true := by
  have l1 := h.l1
  refine good_tup (fun x hx => ?_) (by rw [List.length_map]; omega)
  obtain ⟨t, ht, rfl⟩ := List.mem_map.mp hx
  simp [setD, D.good, goods, (h.ok t ht).zl]
theorem BkOk.many {ss : List (Str × Int × Int)} (h : BkOk ss) : ∀ t ∈ ss, 0 ≤ t.2.2 ∧ t.2.2 ≤ 100 := fun t ht => by
  have := (h.ok t ht).m0
  have := (h.ok t ht).m1
  omega
theorem atI_c2 {a b : D} {k : Int} (h0 : 0 ≤ k) (h1 : k < 2) : ∃ x, atI [a, b] k = some x ∧ (x = a ∨ x = b) := by
  have : k = 0 ∨ k = 1 := by omega
  rcases this with rfl | rfl
  · exact ⟨a, rfl, .inl rfl⟩
  · exact ⟨b, rfl, .inr rfl⟩
theorem atI_c3 {a b c : D} {k : Int} (h0 : 0 ≤ k) (h1 : k < 3) : ∃ x, atI [a, b, c] k = some x ∧ (x = a ∨ x = b ∨ x = c) := by
  have : k = 0 ∨ k = 1 ∨ k = 2 := by omega
  rcases this with rfl | rfl | rfl
  · exact ⟨a, rfl, .inl rfl⟩
  · exact ⟨b, rfl, .inr (.inl rfl)⟩
  · exact ⟨c, rfl, .inr (.inr rfl)⟩
def kSets (φ : En → Prop) : Prop := ∀ ss, BkOk ss → φ (.d (bookD ss))
/-- a set that is drawn -/
def HdOk (c : (Str × Int) × Int) : Prop := SOk (c.1.1, c.1.2, c.2)
theorem ok__law_sets (T : Txt K mg ad fd) : FnOk P w K mg base CX0 5 (ad 33) (fd 33) ps__law_sets (spP K (pp0 kSets)) := by
  refine (show Fun K "_law_sets" "_law_sets" st__law_sets (ad 33) (fd 33) from T.f 33 (by decide)).ok sc__law_sets (fun vs H Q E h => lep0 h) (fun cdv A outer s H vs Q E hr h => ?_)
  have hu := hu_of hr
  have hu65 := hu65_of hr
  refine ⟨_, (pss_cons (ps_set (i := 1) sc__law_sets.nd rfl (Or.inr rfl) pe_dnewT)
  (pss_cons (ps_for PassesOwn.never rfl (pi_range1 (by rfl) (T.z 2 (by decide)) (pa_cons (pe_op op_add pe_int (pe_call (ok__law_draw (K := K) T) (hr.mono (by omega)) (by rfl) (T.g 32 (by decide)) (T.k 32 (by decide)) (bd__law_draw T) .nil pass0 (pa_cons (pv 0) (pa_cons pe_int pa_nil)))) pa_nil)) (pg_name (i := 2) sc__law_sets.nd rfl (Or.inl rfl))
    (pss_cons (ps_par (i := 3) (j := 4) (by rfl) sc__law_sets.nd rfl rfl (by decide) rfl rfl (pa_cons (pe_ix (r := rIxL K) ix_list (pe_lst (pa_cons pe_str (pa_cons pe_str (pa_cons pe_str pa_nil)))) (pe_call (ok__law_draw (K := K) T) (hr.mono (by omega)) (by rfl) (T.g 32 (by decide)) (T.k 32 (by decide)) (bd__law_draw T) .nil pass0 (pa_cons (pv 0) (pa_cons pe_int pa_nil))) (fun _ _ => rfl)) (pa_cons (pe_ix (r := rIxL K) ix_list (pe_lst (pa_cons (pe_op op_add pe_int (pe_call (ok__law_draw (K := K) T) (hr.mono (by omega)) (by rfl) (T.g 32 (by decide)) (T.k 32 (by decide)) (bd__law_draw T) .nil pass0 (pa_cons (pv 0) (pa_cons pe_int pa_nil)))) (pa_cons pe_int pa_nil))) (pe_call (ok__law_draw (K := K) T) (hr.mono (by omega)) (by rfl) (T.g 32 (by decide)) (T.k 32 (by decide)) (bd__law_draw T) .nil pass0 (pa_cons (pv 0) (pa_cons pe_int pa_nil))) (fun _ _ => rfl)) pa_nil)) (by rfl))
  (pss_one (ps_dputT hu (pv 1) (pe_tup (pa_cons (pv 3) (pa_cons (pv 4) pa_nil))) (pe_op op_add pe_int (pe_call (ok__law_draw (K := K) T) (hr.mono (by omega)) (by rfl) (T.g 32 (by decide)) (T.k 32 (by decide)) (bd__law_draw T) .nil pass0 (pa_cons (pv 0) (pa_cons pe_int pa_nil)))) rfl))))
  (pss_one (ps_ret (pe_callTy (r := rTuple K) cl_tuple (by rfl) (T.z 4 (by decide)) (by decide +kernel) (pa_cons (pe_lc (own := [("_law_key", 5)]) (g := (gName 5)) (tt := tYes) rfl sc__law_sets.nd (pi_listK (K := K) (pe_callB (r := rSortL K) (cr_sortL hr.units) (by rfl) (T.z 3 (by decide)) (by decide +kernel) (pa_cons (pe_callTy (r := rListT) (cl_listT rfl) (by rfl) (T.z 14 (by decide)) (by decide +kernel) (pa_cons (pv 1) pa_nil)) pa_nil)))
      (blkOk_by (N := nm__law_sets) (sc := defScope st__law_sets) (by decide +kernel)) (fun _ _ _ _ _ => by exact (pg_name (i := 5) sc__law_sets.nd rfl (Or.inl rfl))) (fun _ _ _ _ _ => pts_nil)
      (fun _ _ _ _ _ => by exact (pe_op (r := rCatA K) op_catA (pv 5) (pe_tup (pa_cons (pe_dgetT hu (pv 1) (pv 5) (fun _ _ => rfl)) pa_nil))))) pa_nil)))))), ?_⟩
  refine bodp0 h fun  φ hk => ?_
  rw [show stP nm__law_sets [] = [.pen, .no, .no, .no, .no, .no] from rfl]
  refine ⟨rfl, rfl, rfl, rfl, rfl, 4, rfl, by decide, by decide, fun a a0 a1 => ?_⟩
  refine ⟨rfl, by omega, by omega, ?_⟩
  refine ⟨fun i Γ => ∃ (fs : List ((Str × Int) × Int)) (v2 v3 v4 : En), Γ = [.pen, .dT (kyG hdK fs) (vlG fs), v2, v3, v4, .no] ∧ fs.length ≤ i ∧ (0 < i → 1 ≤ fs.length) ∧ (∀ c ∈ fs, HdOk c) ∧ (fs.map (·.1)).Nodup,
    ⟨[], _, _, _, rfl, Nat.le_refl _, (fun h => absurd h (Nat.lt_irrefl _)), (fun c h => nomatch h), List.nodup_nil⟩, ?_⟩
  rintro i Γ ⟨fs, v2, v3, v4, rfl, fl, f1, fok, fnd⟩
  refine ⟨fun e => ?_, fun d hd => ?_⟩
  · rw [upI_len] at e
    have f1 := f1 (by omega)
    have hsl : (sortH (fs.map (·.1))).length = fs.length := by rw [(sortH_perm _).length_eq, List.length_map]
    have mem : ∀ h ∈ sortH (fs.map (·.1)), ∃ c ∈ fs, c.1 = h ∧ getG fs h = some c.2 := fun h hh => by
      have hh := (sortH_perm _).mem_iff.mp hh
      obtain ⟨c, hc, rfl⟩ := List.mem_map.mp hh
      exact ⟨c, hc, rfl, getG_mem fnd hc⟩
    (try simp only [dVar, dC, dNil, dCons, dTup, dLst, dOp, onI, dI, dI0, dUn, dEq, dNe, dIxT, dIxL, dIxLv, dAndV, dOrV, dNotV, dB, dAnd, dOr, dNot, dYes, dIf, dChain, dCB, dLenR, dLenv, dListR, dTupR, dMxR, dMnR, dIntR, dIsi, dNoPart, dPart, dSl, dCatA, dCat, dRep, dIn, dInD, dIsN, D.isN, dCall, dCallP, dCallS, dPen0, dTruv, dRg1, dRg2, dLstRg, dTupRg, dLenSet, wf, wb, wi, wt, wl, vD, isSc, dSeq, dNext, dRet, dRetv, dRetN, dIfS, dAsg, dAsgT, dgTup, dgCons, dPar, dApp, dExt, dSetL, dPopAt, dRse, dNever, dDrop, dITup, dILst, dIRng1, dIRng2, dIDn, dIEnT, dIEnL, dIZip, po, poP, sp0, sp1, sp2, sp3, sp4, sp5, pp0, pp1, pp2, pp3, pp4, mo0, mo1, mo2, mo3, dBrw, immE, dMethO, dMake, dFSet, dFPut, fputK, dFDel, dGet2X, dOrT, dIStr, dLeStr, dAttr, dMeth, List.set_cons_zero, List.set_cons_succ, List.getElem?_cons_zero, List.getElem?_cons_succ, List.all_nil, List.map_nil, List.append_nil, List.cons_append, List.nil_append, true_and, ite_true, if_true])
    refine dLc_pure (items := (sortH (fs.map (·.1))).map hdD) (Γ1 := [.pen, .d (.dT (kyG hdK fs) (vlG fs)), v2, v3, v4, .no]) (Γw := [.pen, .d (.dT (kyG hdK fs) (vlG fs)), v2, v3, v4, .no]) (fun x => match x with | .tup [.str l, .int y] => setD (l, y, (getG fs (l, y)).getD 0) | _ => .non) rfl (fun ψ h => ?_) rfl rfl (by rw [List.length_map, hsl]; omega) (fun d hd ψ q => ?_) ?_
    · have ek : (kyG hdK fs).map tupD = (fs.map (·.1)).map hdD := by
        unfold kyG
        rw [List.map_map, List.map_map]
        rfl
      (try simp only [dVar, dC, dNil, dCons, dTup, dLst, dOp, onI, dI, dI0, dUn, dEq, dNe, dIxT, dIxL, dIxLv, dAndV, dOrV, dNotV, dB, dAnd, dOr, dNot, dYes, dIf, dChain, dCB, dLenR, dLenv, dListR, dTupR, dMxR, dMnR, dIntR, dIsi, dNoPart, dPart, dSl, dCatA, dCat, dRep, dIn, dInD, dIsN, D.isN, dCall, dCallP, dCallS, dPen0, dTruv, dRg1, dRg2, dLstRg, dTupRg, dLenSet, wf, wb, wi, wt, wl, vD, isSc, dSeq, dNext, dRet, dRetv, dRetN, dIfS, dAsg, dAsgT, dgTup, dgCons, dPar, dApp, dExt, dSetL, dPopAt, dRse, dNever, dDrop, dITup, dILst, dIRng1, dIRng2, dIDn, dIEnT, dIEnL, dIZip, po, poP, sp0, sp1, sp2, sp3, sp4, sp5, pp0, pp1, pp2, pp3, pp4, mo0, mo1, mo2, mo3, dBrw, immE, dMethO, dMake, dFSet, dFPut, fputK, dFDel, dGet2X, dOrT, dIStr, dLeStr, dAttr, dMeth, List.set_cons_zero, List.set_cons_succ, List.getElem?_cons_zero, List.getElem?_cons_succ, List.all_nil, List.map_nil, List.append_nil, List.cons_append, List.nil_append, true_and, ite_true, if_true, dListT, dSortR])
      rw [ek]
      refine ⟨by rw [List.length_map, List.length_map]; omega, hd_srt _, ?_⟩
      rw [sortH_D]
      exact h
    · obtain ⟨h, hh, rfl⟩ := List.mem_map.mp hd
      obtain ⟨c, hc, ec, eg⟩ := mem h hh
      refine ⟨⟨_, _, _, rfl, rfl⟩, _, _, _, hdK h, .int c.2, rfl, rfl, rfl, ?_, show 1 ≤ 100000 by decide, show 2 + 1 ≤ 1000000 by decide, q _ _ ?_ rfl⟩
      · rw [look_G hdK_inj, eg]
        rfl
      · show some (D.tup ([.str h.1, .int h.2] ++ [.int c.2])) = some (setD (h.1, h.2, (getG fs h).getD 0))
        rw [eg]
        rfl
    · have er : ((sortH (fs.map (·.1))).map hdD).map (fun x => match x with | .tup [.str l, .int y] => setD (l, y, (getG fs (l, y)).getD 0) | _ => .non) = ((sortH (fs.map (·.1))).map fun h => (h.1, h.2, (getG fs h).getD 0)).map setD := by
        rw [List.map_map, List.map_map]
        rfl
      rw [er]
      refine ⟨(fun z => nomatch z), hk _ ⟨by rw [List.length_map, hsl]; omega, by rw [List.length_map, hsl]; omega, fun t ht => ?_, ?_⟩⟩
      · obtain ⟨h, hh, rfl⟩ := List.mem_map.mp ht
        obtain ⟨c, hc, ec, eg⟩ := mem h hh
        have := fok c hc
        rw [eg]
        subst ec
        exact this
      · rw [List.map_map]
        have : (sortH (fs.map (·.1))).map ((fun t : Str × Int × Int => (t.1, t.2.1)) ∘ fun h => (h.1, h.2, (getG fs h).getD 0)) = sortH (fs.map (·.1)) := List.map_id' _
        rw [this]
        exact sortH_rise fnd
  · have il := (upI_get hd).1
    (try simp only [dVar, dC, dNil, dCons, dTup, dLst, dOp, onI, dI, dI0, dUn, dEq, dNe, dIxT, dIxL, dIxLv, dAndV, dOrV, dNotV, dB, dAnd, dOr, dNot, dYes, dIf, dChain, dCB, dLenR, dLenv, dListR, dTupR, dMxR, dMnR, dIntR, dIsi, dNoPart, dPart, dSl, dCatA, dCat, dRep, dIn, dInD, dIsN, D.isN, dCall, dCallP, dCallS, dPen0, dTruv, dRg1, dRg2, dLstRg, dTupRg, dLenSet, wf, wb, wi, wt, wl, vD, isSc, dSeq, dNext, dRet, dRetv, dRetN, dIfS, dAsg, dAsgT, dgTup, dgCons, dPar, dApp, dExt, dSetL, dPopAt, dRse, dNever, dDrop, dITup, dILst, dIRng1, dIRng2, dIDn, dIEnT, dIEnL, dIZip, po, poP, sp0, sp1, sp2, sp3, sp4, sp5, pp0, pp1, pp2, pp3, pp4, mo0, mo1, mo2, mo3, dBrw, immE, dMethO, dMake, dFSet, dFPut, fputK, dFDel, dGet2X, dOrT, dIStr, dLeStr, dAttr, dMeth, List.set_cons_zero, List.set_cons_succ, List.getElem?_cons_zero, List.getElem?_cons_succ, List.all_nil, List.map_nil, List.append_nil, List.cons_append, List.nil_append, true_and, ite_true, if_true])
    refine ⟨by simp, 3, rfl, by decide, by decide, fun b b0 b1 => ?_⟩
    obtain ⟨l, hl, lo⟩ := atI_c3 (a := .str (Str.ofString "a")) (b := .str (Str.ofString "ab")) (c := .str (Str.ofString "b")) b0 b1
    refine ⟨l, hl, 261, rfl, by decide, by decide, fun y0 h0 h1 => ?_⟩
    refine ⟨by simp, 2, rfl, by decide, by decide, fun u u0 u1 => ?_⟩
    obtain ⟨y, hy, yo⟩ := atI_c2 (a := .int (1840 + y0)) (b := .int 1900) u0 u1
    refine ⟨y, hy, ?_⟩
    obtain ⟨z, rfl, z1, z2⟩ : ∃ z : Str, l = .str z ∧ letB (.str z) 1 8 = true ∧ z.length ≤ 1000 := by
      rcases lo with rfl | rfl | rfl <;> exact ⟨_, rfl, by decide +kernel, by decide +kernel⟩
    obtain ⟨n, rfl, n0, n1⟩ : ∃ n : Int, y = .int n ∧ 1840 ≤ n ∧ n ≤ 2100 := by
      rcases yo with rfl | rfl
      · exact ⟨_, rfl, by omega, by omega⟩
      · exact ⟨_, rfl, by decide, by decide⟩
    refine ⟨rfl, rfl, rfl, rfl, rfl, 6, rfl, by decide, by decide, fun m m0 m1 => ?_⟩
    refine ⟨rfl, ⟨_, _, rfl⟩, show 2 ≤ 100000 by decide, _, _, hdK (z, n), rfl, rfl, by rw [kyG_len]; omega, ?_⟩
    obtain ⟨p1, p2⟩ := put_G hdK_inj fs (z, n) (1 + m)
    obtain ⟨q1, q2, q3⟩ := putG_len fs (z, n) (1 + m)
    have e1 : En.dT (putTs (kyG hdK fs) (hdK (z, n))) (putTD (kyG hdK fs) (vlG fs) (hdK (z, n)) (.int (1 + m))) = .dT (kyG hdK (putG fs (z, n) (1 + m))) (vlG (putG fs (z, n) (1 + m))) := by rw [p1, p2]
    refine ⟨putG fs (z, n) (1 + m), .d d, .d (.str z), .d (.int n), congrArg (fun x : En => ([En.pen, x, En.d d, En.d (D.str z), En.d (D.int n), En.no] : List En)) e1, by omega, fun _ => q2, fun c hc => ?_, putG_nd fnd⟩
    · rcases putG_mem hc with h | h
      · exact fok c h
      · rw [h]
        exact ⟨z1, z2, n0, n1, by show 1 ≤ 1 + m; omega, by show 1 + m ≤ 6; omega⟩
theorem BkOk.six {ss : List (Str × Int × Int)} (h : BkOk ss) : ∀ t ∈ ss, t.2.2 ≤ 6 := fun t ht => (h.ok t ht).m1
theorem BkOk.plc {ss : List (Str × Int × Int)} (h : BkOk ss) : (plcA 0 ss).length ≤ 24 := by
  have h1 := plcA_len (i := 0) h.six
  have h2 := h.l1
  omega
/-- a stamp of the list -/
def OkS (ss : List (Str × Int × Int)) (s : St3) : Prop := stB ss (stD s) = true
theorem okS_of {ss : List (Str × Int × Int)} {p : Int × Int} {g : Int} (h : p ∈ plcA 0 ss) (g0 : 0 ≤ g) (g1 : g ≤ 1) : OkS ss (p.1, p.2, g) := by
  obtain ⟨k, t, ht, e1, e2, e3⟩ := plcA_mem.mp h
  have kl := (List.getElem?_eq_some_iff.mp ht).1
  have em : manyAt ss p.1 = t.2.2 := by
    unfold manyAt
    rw [e1, show ((0 + k : Nat) : Int).toNat = k by omega, ht]
  show ((inB (.int p.1) 0 ((ss.length : Int) - 1) && inB (.int p.2) 0 (manyAt ss p.1 - 1)) && inB (.int g) 0 1) = true
  rw [em]
  simp only [inB, Bool.and_eq_true, decide_eq_true_eq]
  omega
def kPlc (x : D) (φ : En → Prop) : Prop := ∃ ss, x = bookD ss ∧ BkOk ss ∧ φ (.lst ((plcA 0 ss).map plD))
theorem ok__law_places (T : Txt K mg ad fd) : FnOk P w K mg base CX0 1 (ad 35) (fd 35) ps__law_places (spX K (sp1 kPlc)) := by
  refine (show Fun K "_law_places" "_law_places" st__law_places (ad 35) (fd 35) from T.f 35 (by decide)).ok sc__law_places (fun vs H Q E h => len1 h) (fun cdv A outer s H vs Q E hr h => ?_)
  have hu := hu_of hr
  have hu65 := hu65_of hr
  refine ⟨_, (pss_cons (ps_set (i := 1) sc__law_places.nd rfl (Or.inl rfl) (pe_lst pa_nil))
  (pss_cons (ps_for PassesOwn.never rfl (pi_enumTK (K := K) (by rfl) (T.z 5 (by decide)) (pa_cons (pv 0) pa_nil)) (pg_tupK (K := K) (n := 2) rfl (pgs_cons (pg_name (i := 2) sc__law_places.nd rfl (Or.inr rfl)) (pgs_cons (pg_name (i := 3) sc__law_places.nd rfl (Or.inl rfl)) pgs_nil)))
    (pss_one (ps_expr (pe_bmK (K := K) PySem.F.plainAttrs_list PySem.F.slot_list_extend PySem.F.type_list_extend mt_extend (pv 1) (pa_cons (pe_lc (own := [("_law_number", 4)]) (g := (gName 4)) (tt := tYes) rfl sc__law_places.nd (pi_range1 (by rfl) (T.z 2 (by decide)) (pa_cons (pe_ix (r := rIxT K) ix_tup (pv 3) pe_int (fun _ _ => rfl)) pa_nil))
      (blkOk_by (N := nm__law_places) (sc := defScope st__law_places) (by decide +kernel)) (fun _ _ _ _ _ => by exact (pg_name (i := 4) sc__law_places.nd rfl (Or.inl rfl))) (fun _ _ _ _ _ => pts_nil)
      (fun _ _ _ _ _ => by exact (pe_tup (pa_cons (pv 2) (pa_cons (pv 4) pa_nil))))) pa_nil)))))
  (pss_one (ps_ret (pv 1))))), ?_⟩
  refine body1 h fun x φ hk => ?_
  rw [show st0 nm__law_places [x] = [.d x, .no, .no, .no, .no] from rfl]
  obtain ⟨ss, rfl, bk, hk⟩ := hk
  have p24 := bk.plc
  (try simp only [dVar, dC, dNil, dCons, dTup, dLst, dOp, onI, dI, dI0, dUn, dEq, dNe, dIxT, dIxL, dIxLv, dAndV, dOrV, dNotV, dB, dAnd, dOr, dNot, dYes, dIf, dChain, dCB, dLenR, dLenv, dListR, dTupR, dMxR, dMnR, dIntR, dIsi, dNoPart, dPart, dSl, dCatA, dCat, dRep, dIn, dInD, dIsN, D.isN, dCall, dCallP, dCallS, dPen0, dTruv, dRg1, dRg2, dLstRg, dTupRg, dLenSet, wf, wb, wi, wt, wl, vD, isSc, dSeq, dNext, dRet, dRetv, dRetN, dIfS, dAsg, dAsgT, dgTup, dgCons, dPar, dApp, dExt, dSetL, dPopAt, dRse, dNever, dDrop, dITup, dILst, dIRng1, dIRng2, dIDn, dIEnT, dIEnL, dIZip, po, poP, sp0, sp1, sp2, sp3, sp4, sp5, pp0, pp1, pp2, pp3, pp4, mo0, mo1, mo2, mo3, dBrw, immE, dMethO, dMake, dFSet, dFPut, fputK, dFDel, dGet2X, dOrT, dIStr, dLeStr, dAttr, dMeth, List.set_cons_zero, List.set_cons_succ, List.getElem?_cons_zero, List.getElem?_cons_succ, List.all_nil, List.map_nil, List.append_nil, List.cons_append, List.nil_append, true_and, ite_true, if_true])
  refine ⟨by simp, ?_⟩
  refine ⟨fun i Γ => ∃ (v2 v3 : En), Γ = [.d (bookD ss), .lst ((plcA 0 (ss.take i)).map plD), v2, v3, .no], ⟨_, _, rfl⟩, ?_⟩
  rintro i Γ ⟨v2, v3, rfl⟩
  refine ⟨fun e => ?_, fun d hd => ?_⟩
  · have e : i = (pairsI 0 (ss.map setD)).length := e
    rw [pairsI_len, List.length_map] at e
    rw [e, List.take_length]
    exact ⟨_, rfl, (fun z => nomatch z), hk⟩
  · obtain ⟨x, hx, rfl⟩ := pairsI_get hd
    obtain ⟨t, ht, rfl⟩ := at_map hx
    have tm := bk.many t (List.mem_of_getElem? ht)
    have il := (List.getElem?_eq_some_iff.mp ht).1
    have et : ss.take (i + 1) = ss.take i ++ [t] := by rw [List.take_add_one, ht]; rfl
    have pl : (plcA 0 (ss.take i)).length + t.2.2.toNat ≤ 24 := by
      have h1 := plcA_len (ss := ss.take i) (i := 0) fun u hu => bk.six u (List.mem_of_mem_take hu)
      have h2 := bk.six t (List.mem_of_getElem? ht)
      have h3 := bk.l1
      rw [List.length_take] at h1
      omega
    refine ⟨rfl, rfl, ⟨_, rfl⟩, ?_⟩
    refine dLc_pure (items := upI 0 t.2.2.toNat) (Γ1 := [.d (bookD ss), .lst ((plcA 0 (ss.take i)).map plD), .d (.int ((0 + i : Nat) : Int)), .d (setD t), .no]) (Γw := [.d (bookD ss), .lst ((plcA 0 (ss.take i)).map plD), .d (.int ((0 + i : Nat) : Int)), .d (setD t), .no]) (fun x => .tup [.int ((0 + i : Nat) : Int), x]) rfl (fun ψ h => ?_) rfl rfl (by rw [upI_len]; omega) (fun d2 hd2 ψ2 q2 => ?_) ?_
    · exact ⟨rfl, .int t.2.2, rfl, by omega, by omega, h⟩
    · exact ⟨show 2 ≤ 100000 by decide, q2 _ _ rfl rfl⟩
    · have e1 : (upI 0 t.2.2.toNat).map (fun x => D.tup [.int ((0 + i : Nat) : Int), x]) = ((List.range t.2.2.toNat).map fun k : Nat => (((0 + (ss.take i).length : Nat) : Int), (k : Int))).map plD := by
        unfold upI
        rw [List.map_map, List.map_map]
        refine List.map_congr_left fun k _ => ?_
        show D.tup [.int ((0 + i : Nat) : Int), .int (0 + (k : Int))] = .tup [.int ((0 + (ss.take i).length : Nat) : Int), .int (k : Int)]
        rw [List.length_take, Nat.min_eq_left (Nat.le_of_lt il), Int.zero_add]
      rw [e1]
      refine ⟨_, rfl, by rw [List.length_map, List.length_map, List.length_map, List.length_range]; omega, .d (.int ((0 + i : Nat) : Int)), .d (setD t), ?_⟩
      rw [et, plcA_snoc, List.map_append]
      rfl
theorem many_out : (Str.ofString "put") ∉ nsA := by decide +kernel
def kAlbm (C : Addr) (x y z : D) (φ : En → Prop) : Prop := ∃ ss cs n, x = bookD ss ∧ BkOk ss ∧ y = .dT (kyA cs) (vlA cs) ∧ CtOk (OkS ss) cs ∧ cs.length ≤ 1000 ∧ z = .str n ∧ n.length ≤ 8 ∧ letB z 0 8 = true ∧ ∀ p T, φ (.ow (.ins C nsA (osA ss n (riseA cs))) (p :: T))
theorem ok__law_album (T : Txt K mg ad fd) (TM : TxtM K mg C am fm) (TG : TxtG mg) : FnOk P w K mg base CX0 9 (ad 37) (fd 37) ps__law_album (spX K (sp3 (kAlbm C))) := by
  refine (show Fun K "_law_album" "_law_album" st__law_album (ad 37) (fd 37) from T.f 37 (by decide)).ok sc__law_album (fun vs H Q E h => len3 h) (fun cdv A outer s H vs Q E hr h => ?_)
  have hu := hu_of hr
  have hu65 := hu65_of hr
  refine ⟨_, (pss_cons (ps_set (i := 3) sc__law_album.nd rfl (Or.inl rfl) (pe_make TM.mkA (ok_Album___init__ (K := K) T TM TG) (hr.mono (by omega)) (by rfl) TM.mgC (bm___init___3 TM).choose_spec.2 (bm___init___3 TM).choose_spec.1 pass0 (pa_cons (pv 0) (pa_cons (pv 2) pa_nil))))
  (pss_cons (ps_for PassesOwn.never rfl (pi_listK (K := K) (pe_callB (r := rSortL K) (cr_sortL hr.units) (by rfl) (T.z 3 (by decide)) (by decide +kernel) (pa_cons (pe_callTy (r := rListT) (cl_listT rfl) (by rfl) (T.z 14 (by decide)) (by decide +kernel) (pa_cons (pv 1) pa_nil)) pa_nil))) (pg_name (i := 4) sc__law_album.nd rfl (Or.inl rfl))
    (pss_one (ps_expr (pe_meth (pv 3) TM.cl (TM.m 10 (by decide)) (ok_Album_put (K := K) T TM TG) (hr.mono (by omega)) (bm_put_3 TM).choose_spec.2 (bm_put_3 TM).choose_spec.1 pass0 (pa_cons (pv 4) (pa_cons (pe_dgetT hu (pv 1) (pv 4) (fun _ _ => rfl)) pa_nil))))))
  (pss_one (ps_ret (pv 3))))), ?_⟩
  refine body3 h fun x y z φ hk => ?_
  rw [show st0 nm__law_album [x, y, z] = [.d x, .d y, .d z, .no, .no] from rfl]
  obtain ⟨ss, cs, n, rfl, bk, rfl, ok, cl, rfl, nl, hn, hk⟩ := hk
  refine ⟨rfl, rfl, rfl, ss, n, rfl, bk.good, bk.b, rfl, decide_eq_true (show n.length ≤ 1000 by omega), hn, .inl ⟨rfl, fun p T => ?_⟩⟩
  have ek : (kyA cs).map tupD = (cs.map (·.1)).map stD := by
    unfold kyA
    rw [List.map_map, List.map_map, List.map_map]
    rfl
  (try simp only [dVar, dC, dNil, dCons, dTup, dLst, dOp, onI, dI, dI0, dUn, dEq, dNe, dIxT, dIxL, dIxLv, dAndV, dOrV, dNotV, dB, dAnd, dOr, dNot, dYes, dIf, dChain, dCB, dLenR, dLenv, dListR, dTupR, dMxR, dMnR, dIntR, dIsi, dNoPart, dPart, dSl, dCatA, dCat, dRep, dIn, dInD, dIsN, D.isN, dCall, dCallP, dCallS, dPen0, dTruv, dRg1, dRg2, dLstRg, dTupRg, dLenSet, wf, wb, wi, wt, wl, vD, isSc, dSeq, dNext, dRet, dRetv, dRetN, dIfS, dAsg, dAsgT, dgTup, dgCons, dPar, dApp, dExt, dSetL, dPopAt, dRse, dNever, dDrop, dITup, dILst, dIRng1, dIRng2, dIDn, dIEnT, dIEnL, dIZip, po, poP, sp0, sp1, sp2, sp3, sp4, sp5, pp0, pp1, pp2, pp3, pp4, mo0, mo1, mo2, mo3, dBrw, immE, dMethO, dMake, dFSet, dFPut, fputK, dFDel, dGet2X, dOrT, dIStr, dLeStr, dAttr, dMeth, List.set_cons_zero, List.set_cons_succ, List.getElem?_cons_zero, List.getElem?_cons_succ, List.all_nil, List.map_nil, List.append_nil, List.cons_append, List.nil_append, true_and, ite_true, if_true])
  refine it_sorted (i := 1) (Γ := [.d (bookD ss), .d (.dT (kyA cs) (vlA cs)), .d (.str n), .ow (.ins C nsA (osA ss n [])) (p :: T), .no]) (ks := kyA cs) (xs := vlA cs) rfl (by rw [kyA_len]; omega) (by rw [ek]; exact st_srt _) ?_
  rw [ek, sort_st]
  have rl := riseA_len cs
  have rok := ok.perm (riseA_perm cs)
  refine ⟨fun i Γ => ∃ (p : Addr) (T : List Addr) (v4 : En), Γ = [.d (bookD ss), .d (.dT (kyA cs) (vlA cs)), .d (.str n), .ow (.ins C nsA (osA ss n ((riseA cs).take i))) (p :: T), v4], ⟨_, _, _, rfl⟩, ?_⟩
  rintro i Γ ⟨p, T, v4, rfl⟩
  refine ⟨fun e => ?_, fun d hd => ?_⟩
  · rw [List.length_map, List.length_map] at e
    rw [e, List.take_length]
    exact ⟨_, rfl, (fun z => nomatch z), hk p T⟩
  · obtain ⟨t, ht, rfl⟩ := at_map hd
    obtain ⟨c, hc, rfl⟩ := at_map ht
    have cm := List.mem_of_getElem? hc
    have il := (List.getElem?_eq_some_iff.mp hc).1
    have cm0 := (riseA_perm cs).mem_iff.mp cm
    refine ⟨⟨_, _, _, rfl, many_out⟩, ?_⟩
    refine ⟨⟨_, _, _, rfl, rfl⟩, _, _, _, keyT c.1, .int c.2, rfl, rfl, rfl, by rw [look_A, get_nd ok.nd cm0]; rfl, rfl, ?_⟩
    have nw : c.1 ∉ (((riseA cs).take i).map (·.1)) := fun z => by
      have nd := rok.nd
      have e : riseA cs = (riseA cs).take i ++ c :: (riseA cs).drop (i + 1) := by
        have e2 := List.take_append_drop i (riseA cs)
        rw [List.drop_eq_getElem_cons il] at e2
        rw [(List.getElem?_eq_some_iff.mp hc).2] at e2
        exact e2.symm
      rw [e, List.map_append, List.map_cons] at nd
      exact (List.nodup_append.mp nd).2.2 c.1 z c.1 List.mem_cons_self rfl
    refine ⟨_, _, _, rfl, ss, n, (riseA cs).take i, c.1, c.2, rfl, rfl, rfl, ok.st c cm0, rfl, ok.pos c cm0, by rw [List.length_take]; omega, fun p2 T2 => ?_⟩
    refine ⟨p2, T2, .d (stD c.1), ?_⟩
    rw [addA_new nw, List.take_add_one, hc]
    rfl
end
end Dl

set_option Elab.async false
set_option maxRecDepth 100000
set_option maxHeartbeats 4000000
set_option linter.all false
set_option synthInstance.maxHeartbeats 4000000
set_option synthInstance.maxSize 10000



namespace Dl
open PySem PySem.Spec PyProof.Rows L2 RZ HmS Da
section
variable {P : Program} {w : World} {K : PySem.W.Frag} [HasT K] {mg : Str → Option Value} {base : Heap} {ad am : Nat → Addr} {fd fm : Nat → FuncData} {C : Addr}
end
end Dl

set_option Elab.async false
set_option maxRecDepth 100000
set_option maxHeartbeats 4000000
set_option linter.all false
set_option synthInstance.maxHeartbeats 4000000
set_option synthInstance.maxSize 10000
namespace Dl
open PySem PySem.Spec PyProof.Rows L2 RZ HmS Da
/-! ### what is read from a text -/
def digB (c : Nat) : Bool := !decide ([c] < [48]) && !decide ([57] < [c])
def figL : List Nat → Bool
  | [] => false
  | c :: r => (c :: r).all digB && (c != 48 || r.isEmpty)
def figB (z : Str) : Bool := figL z.cps.toList
def numM (z : Str) : Option Int := if figB z = true then some ((NumText.digitsVal z.cps.toList : Nat) : Int) else none
def handM (z : Str) : Option Int := if (z.length : Int) ≤ 40 then numM z else none
def graM (z : Str) : Option Int := if z = Str.ofString "hinged" then some 0 else if z = Str.ofString "whole" then some 1 else none
def oI : Option Int → D
  | some i => .int i
  | none => .non
def spc : Str := " "
def setM (t : Str) : D := .tup [(if letB (.str (Txt.partition t spc).1) 1 (Txt.partition t spc).1.length = true then .str (Txt.partition t spc).1 else .non),
  oI (handM (Txt.partition (Txt.partition t spc).2.2 spc).1), oI (handM (Txt.partition (Txt.partition t spc).2.2 spc).2.2)]
def hasN : D → Bool
  | .tup xs => xs.any D.isN
  | _ => false
def setsM (t : Str) : D := if ((Txt.split t ";").map setM).any hasN = true then .non else .tup ((Txt.split t ";").map setM)
def namM (r : Str) : Option Str := if (Txt.partition r spc).1 = Str.ofString "album" ∧ letB (.str (Txt.partition r spc).2.2) 0 8 = true then some (Txt.partition r spc).2.2 else none
def bokM (r : Str) : Option D := if (Txt.partition r spc).1 = Str.ofString "list" ∧ lstB (setsM (Txt.partition r spc).2.2) = true then some (setsM (Txt.partition r spc).2.2) else none
/-- the stamp of a row, be it one or not -/
def rstM (r : Str) : D := .tup [oI (numM (Txt.partition (Txt.partition r spc).1 (Str.ofString ".")).1), oI (numM (Txt.partition (Txt.partition r spc).1 (Str.ofString ".")).2.2), oI (graM (Txt.partition (Txt.partition r spc).2.2 spc).1)]
def rmaM (r : Str) : D := oI (numM (Txt.partition (Txt.partition r spc).2.2 spc).2.2)
def from1 : D → Bool
  | .int n => decide (n ≥ 1)
  | _ => false
def cntM (ss : List (Str × Int × Int)) (r : Str) : Option D := if stB ss (rstM r) = true ∧ from1 (rmaM r) = true then some (.tup [rstM r, rmaM r]) else none
/-! ### what is written is read -/
theorem spc_tl : TL.tl spc = 32 :: [] := by decide +kernel
theorem dot_tl : TL.tl (Str.ofString ".") = 46 :: [] := by decide +kernel
theorem sem_tl : TL.tl (Str.ofString ";") = 59 :: [] := by decide +kernel
theorem nl_tl : TL.tl (Str.ofString "\n") = 10 :: [] := by decide +kernel
theorem str_assoc (a b c : Str) : a ++ b ++ c = a ++ (b ++ c) := TL.ext_tl (by rw [TL.tl_append, TL.tl_append, TL.tl_append, TL.tl_append, List.append_assoc])
theorem sign_in {c : Nat} (h : signB c = true) : 97 ≤ c ∧ c ≤ 122 := by
  unfold signB at h
  rw [Bool.and_eq_true, Bool.not_eq_true', Bool.not_eq_true', decide_eq_false_iff_not, decide_eq_false_iff_not] at h
  obtain ⟨h1, h2⟩ := h
  have k1 : ¬ c < 97 := fun z => h1 (List.Lex.rel z)
  have k2 : ¬ 122 < c := fun z => h2 (List.Lex.rel z)
  omega
theorem dig_in {c : Nat} (h : digB c = true) : 48 ≤ c ∧ c ≤ 57 := by
  unfold digB at h
  rw [Bool.and_eq_true, Bool.not_eq_true', Bool.not_eq_true', decide_eq_false_iff_not, decide_eq_false_iff_not] at h
  obtain ⟨h1, h2⟩ := h
  have k1 : ¬ c < 48 := fun z => h1 (List.Lex.rel z)
  have k2 : ¬ 57 < c := fun z => h2 (List.Lex.rel z)
  omega
theorem dig_of {c : Nat} (h0 : 48 ≤ c) (h1 : c ≤ 57) : digB c = true := by
  unfold digB
  rw [Bool.and_eq_true, Bool.not_eq_true', Bool.not_eq_true', decide_eq_false_iff_not, decide_eq_false_iff_not]
  refine ⟨fun z => ?_, fun z => ?_⟩
  · cases z with
    | rel z => omega
    | cons z => cases z
  · cases z with
    | rel z => omega
    | cons z => cases z
theorem numL_head (n : Nat) (h : 1 ≤ n) : ∃ c r, TL.numL n = c :: r ∧ c ≠ 48 := by
  induction n using Nat.strongRecOn with
  | _ n ih =>
    by_cases h10 : n < 10
    · exact ⟨48 + n, [], TL.numL_lt h10, by omega⟩
    · obtain ⟨c, r, e, hc⟩ := ih (n / 10) (by omega) (by omega)
      exact ⟨c, r ++ [48 + n % 10], by rw [TL.numL_step (by omega), e]; rfl, hc⟩
theorem fig_num (n : Nat) : figL (TL.numL n) = true := by
  have ad := TL.numL_digits n
  have all : (TL.numL n).all digB = true := List.all_eq_true.mpr fun c hc => by
    have := ad c hc
    exact dig_of (by omega) (by omega)
  by_cases h : 1 ≤ n
  · obtain ⟨c, r, e, hc⟩ := numL_head n h
    rw [e] at all ⊢
    show ((c :: r).all digB && (c != 48 || r.isEmpty)) = true
    rw [all]
    simp [hc]
  · have : n = 0 := by omega
    subst this
    decide +kernel
theorem tI_tl (n : Nat) : TL.tl (tI (n : Int)) = TL.numL n := TL.tl_num n
theorem tI_tl' {i : Int} (h : 0 ≤ i) : TL.tl (tI i) = TL.numL i.toNat := by
  rw [← tI_tl]
  rw [Int.toNat_of_nonneg h]
theorem numM_tI {i : Int} (h : 0 ≤ i) : numM (tI i) = some i := by
  have e : (tI i).cps.toList = TL.numL i.toNat := tI_tl' h
  unfold numM figB
  rw [e, fig_num, if_pos rfl, TL.numL_val, Int.toNat_of_nonneg h]
theorem tI_len_le {i : Int} (h : 0 ≤ i) {k : Nat} (hk : 0 < k) (hi : i < 10 ^ k) : (tI i).length ≤ k := by
  rw [TL.len_tl, tI_tl' h]
  refine TL.numL_len hk ?_
  have e : ((10 ^ k : Nat) : Int) = (10 : Int) ^ k := by simp
  have : ((i.toNat : Nat) : Int) < ((10 ^ k : Nat) : Int) := by rw [e, Int.toNat_of_nonneg h]; exact hi
  exact Int.ofNat_lt.mp this
theorem handM_tI {i : Int} (h : 0 ≤ i) (hi : i < 10 ^ 40) : handM (tI i) = some i := by
  have := tI_len_le h (k := 40) (by decide) hi
  unfold handM
  rw [if_pos (by omega), numM_tI h]
theorem tI_free {i : Int} (h : 0 ≤ i) {s : Nat} (hs : s < 48 ∨ 57 < s) : s ∉ TL.tl (tI i) := by
  rw [tI_tl' h]
  exact TL.numL_free hs
theorem lets_in {l : Str} {a b : Int} (h : letB (.str l) a b = true) : ∀ c ∈ TL.tl l, 97 ≤ c ∧ c ≤ 122 := by
  have h : ((decide (a ≤ (l.length : Int)) && decide ((l.length : Int) ≤ b)) && l.cps.toList.all signB) = true := h
  rw [Bool.and_eq_true] at h
  exact fun c hc => sign_in (List.all_eq_true.mp h.2 c hc)
theorem lets_free {l : Str} {a b : Int} (h : letB (.str l) a b = true) {s : Nat} (hs : s < 97) : s ∉ TL.tl l := fun z => by
  have := lets_in h s z
  omega
theorem lets_self {l : Str} (h : letB (.str l) 1 8 = true) : letB (.str l) 1 l.length = true := by
  have h : ((decide (1 ≤ (l.length : Int)) && decide ((l.length : Int) ≤ 8)) && l.cps.toList.all signB) = true := h
  rw [Bool.and_eq_true, Bool.and_eq_true] at h
  show ((decide (1 ≤ (l.length : Int)) && decide ((l.length : Int) ≤ (l.length : Int))) && l.cps.toList.all signB) = true
  rw [h.1.1, h.2, decide_eq_true (Int.le_refl _)]
  rfl
theorem setM_W {t : Str × Int × Int} (h : SOk t) : setM (setW t) = setD t := by
  have y0 := h.y0
  have y1 := h.y1
  have m0 := h.m0
  have m1 := h.m1
  have e : setW t = t.1 ++ spc ++ (tI t.2.1 ++ spc ++ tI t.2.2) := by
    show t.1 ++ spc ++ tI t.2.1 ++ spc ++ tI t.2.2 = _
    rw [str_assoc (t.1 ++ spc) (tI t.2.1) spc, str_assoc (t.1 ++ spc)]
  have p1 : Txt.partition (setW t) spc = (t.1, spc, tI t.2.1 ++ spc ++ tI t.2.2) := by
    rw [e]
    exact TL.partition_app spc_tl (lets_free h.le (by decide))
  have p2 : Txt.partition (tI t.2.1 ++ spc ++ tI t.2.2) spc = (tI t.2.1, spc, tI t.2.2) := TL.partition_app spc_tl (tI_free (by omega) (by decide))
  unfold setM
  rw [p1]
  dsimp only
  rw [p2]
  dsimp only
  rw [if_pos (lets_self h.le), handM_tI (by omega) (Int.lt_of_le_of_lt y1 (by decide)), handM_tI (by omega) (Int.lt_of_le_of_lt m1 (by decide))]
  rfl
theorem setW_free {t : Str × Int × Int} (h : SOk t) {s : Nat} (h1 : s ≠ 32) (h2 : s < 48 ∨ 57 < s) (h3 : s < 97) : s ∉ TL.tl (setW t) := by
  have y0 := h.y0
  have m0 := h.m0
  show s ∉ TL.tl (t.1 ++ spc ++ tI t.2.1 ++ spc ++ tI t.2.2)
  rw [TL.tl_append, TL.tl_append, TL.tl_append, TL.tl_append, spc_tl]
  simp only [List.mem_append, List.mem_singleton, not_or]
  exact ⟨⟨⟨⟨lets_free h.le h3, h1⟩, tI_free (by omega) h2⟩, h1⟩, tI_free (by omega) h2⟩
theorem split_listW {ss : List (Str × Int × Int)} (bk : BkOk ss) : Txt.split (listW ss) ";" = ss.map setW := by
  refine TL.split_join sem_tl (by decide +kernel) (fun z => ?_) fun p hp => ?_
  · have := bk.l0
    rw [List.map_eq_nil_iff.mp z] at this
    exact absurd this (by decide)
  · obtain ⟨t, ht, rfl⟩ := List.mem_map.mp hp
    exact setW_free (bk.ok t ht) (by decide) (by decide) (by decide)
theorem setsM_W {ss : List (Str × Int × Int)} (bk : BkOk ss) : setsM (listW ss) = bookD ss := by
  have e : (ss.map setW).map setM = ss.map setD := by
    rw [List.map_map]
    exact List.map_congr_left fun t ht => setM_W (bk.ok t ht)
  unfold setsM
  rw [split_listW bk, e, if_neg]
  · rfl
  · rw [List.any_map]
    intro z
    obtain ⟨t, _, h⟩ := List.any_eq_true.mp z
    cases h
theorem alb_split : Str.ofString "album " = Str.ofString "album" ++ spc := by decide +kernel
theorem lis_split : Str.ofString "list " = Str.ofString "list" ++ spc := by decide +kernel
theorem namM_W {n : Str} (h : letB (.str n) 0 8 = true) : namM (headW n) = some n := by
  unfold headW
  split
  · rename_i z
    have e : n = Str.empty := by
      obtain ⟨a⟩ := n
      have z : a.size = 0 := z
      rw [Array.size_eq_zero_iff.mp z]
      rfl
    subst e
    decide +kernel
  · unfold namM
    rw [alb_split, TL.partition_app spc_tl (by decide +kernel)]
    dsimp only
    rw [if_pos ⟨rfl, h⟩]
theorem bokM_W {ss : List (Str × Int × Int)} (bk : BkOk ss) : bokM (Str.ofString "list " ++ listW ss) = some (bookD ss) := by
  unfold bokM
  rw [lis_split, TL.partition_app spc_tl (by decide +kernel)]
  dsimp only
  rw [setsM_W bk, if_pos ⟨rfl, bk.b⟩]
theorem stW_free {g : Int} {s : Nat} (h : s < 97) : s ∉ TL.tl (stW g) := by
  unfold stW
  split
  · intro z
    have : ∀ c ∈ TL.tl (Str.ofString "hinged"), 97 ≤ c := by decide +kernel
    have := this s z
    omega
  · intro z
    have : ∀ c ∈ TL.tl (Str.ofString "whole"), 97 ≤ c := by decide +kernel
    have := this s z
    omega
theorem graM_W {g : Int} (h : g = 0 ∨ g = 1) : graM (stW g) = some g := by
  rcases h with rfl | rfl <;> decide +kernel
theorem parts_row {a b g k : Int} (a0 : 0 ≤ a) (b0 : 0 ≤ b) (k0 : 0 ≤ k) : Txt.partition (rowW ((a, b, g), k)) spc = (tI a ++ Str.ofString "." ++ tI b, spc, stW g ++ spc ++ tI k) ∧ Txt.partition (tI a ++ Str.ofString "." ++ tI b) (Str.ofString ".") = (tI a, Str.ofString ".", tI b) ∧ Txt.partition (stW g ++ spc ++ tI k) spc = (stW g, spc, tI k) := by
  refine ⟨?_, TL.partition_app dot_tl (tI_free a0 (by decide)), TL.partition_app spc_tl (stW_free (by decide))⟩
  have e : rowW ((a, b, g), k) = (tI a ++ Str.ofString "." ++ tI b) ++ spc ++ (stW g ++ spc ++ tI k) := by
    show tI a ++ Str.ofString "." ++ tI b ++ spc ++ stW g ++ spc ++ tI k = _
    rw [str_assoc (tI a ++ Str.ofString "." ++ tI b ++ spc) (stW g) spc, str_assoc (tI a ++ Str.ofString "." ++ tI b ++ spc)]
  rw [e]
  refine TL.partition_app spc_tl ?_
  rw [TL.tl_append, TL.tl_append, dot_tl]
  simp only [List.mem_append, List.mem_singleton, not_or]
  exact ⟨⟨tI_free a0 (by decide), by decide⟩, tI_free b0 (by decide)⟩
theorem rows_read {a b g k : Int} (a0 : 0 ≤ a) (b0 : 0 ≤ b) (k0 : 0 ≤ k) (hg : g = 0 ∨ g = 1) : rstM (rowW ((a, b, g), k)) = stD (a, b, g) ∧ rmaM (rowW ((a, b, g), k)) = .int k := by
  obtain ⟨p1, p2, p3⟩ := parts_row (g := g) a0 b0 k0
  constructor
  · unfold rstM
    rw [p1]
    dsimp only
    rw [p2, p3]
    dsimp only
    rw [numM_tI a0, numM_tI b0, graM_W hg]
    rfl
  · unfold rmaM
    rw [p1]
    dsimp only
    rw [p3]
    dsimp only
    rw [numM_tI k0]
    rfl
end Dl

set_option Elab.async false
set_option maxRecDepth 100000
set_option maxHeartbeats 4000000
set_option linter.all false
set_option synthInstance.maxHeartbeats 4000000
set_option synthInstance.maxSize 10000



namespace Dl
open PySem PySem.Spec PyProof.Rows L2 RZ HmS Da
section
variable {P : Program} {w : World} {K : PySem.W.Frag} [HasT K] {mg : Str → Option Value} {base : Heap} {ad am : Nat → Addr} {fd fm : Nat → FuncData} {C : Addr}
theorem atI0 {α : Type} {c : α} {r : List α} : L2.atI (c :: r) 0 = some c := by
  unfold L2.atI L2.ixN
  simp
  try omega
theorem dVar_r {i : Nat} {Γ : List En} {x : D} {φ : En → List En → Prop} (g : Γ[i]? = some (.d x)) (h : φ (.d x) Γ) : dVar i Γ φ := by
  unfold dVar
  rw [g]
  exact h
theorem eqS_b {a b : Str} {neg : Bool} {φ : En → Prop} (h : φ (.d (.bl (if neg then !decide (a = b) else decide (a = b))))) : dEqS neg (.str a) (.str b) φ := h
def dgF (x : D) : D := match x with
  | .str s => .bl (s.cps.toList.all digB)
  | _ => .non
theorem dgF_eq (c : Nat) : dgF (sgD c) = .bl (digB c) := by
  show D.bl ([c].all digB) = _
  simp
theorem d0_cps : (Str.ofString "0").cps.toList = [48] := by decide +kernel
theorem d9_cps : (Str.ofString "9").cps.toList = [57] := by decide +kernel
theorem str_one (c d : Nat) : ((⟨#[c]⟩ : Str) = ⟨#[d]⟩) ↔ c = d := by
  constructor
  · intro h
    have := congrArg (fun s : Str => s.cps.toList) h
    simpa using this
  · rintro rfl
    rfl
theorem zero_str : Str.ofString "0" = ⟨#[48]⟩ := by decide +kernel
theorem is_zero {z : Str} {c : Nat} {r : List Nat} (e : z.cps.toList = c :: r) : (z = Str.ofString "0") ↔ (c = 48 ∧ r = []) := by
  rw [zero_str]
  constructor
  · rintro rfl
    have e : [48] = c :: r := e
    injection e with h1 h2
    exact ⟨h1.symm, h2.symm⟩
  · rintro ⟨rfl, rfl⟩
    exact TL.ext_tl e
theorem fig_dig {z : Str} (f : figB z = true) : NumText.AllDigits z.cps.toList ∧ z.cps.toList ≠ [] := by
  unfold figB at f
  cases e : z.cps.toList with
  | nil => rw [e] at f; cases f
  | cons c r =>
    rw [e] at f
    have f : ((c :: r).all digB && (c != 48 || r.isEmpty)) = true := f
    rw [Bool.and_eq_true] at f
    exact ⟨fun d hd => dig_in (List.all_eq_true.mp f.1 d hd), by simp⟩
theorem zfill_fig {z : Str} (f : figB z = true) (l : z.length ≤ 60) : (Txt.zfill z 60).cps.toList = List.replicate (60 - z.length) 48 ++ z.cps.toList := by
  obtain ⟨ad, ne⟩ := fig_dig f
  unfold Txt.zfill
  by_cases h : (60 : Int) ≤ z.length
  · rw [if_pos h]
    have : 60 - z.length = 0 := by omega
    rw [this]
    rfl
  · rw [if_neg h]
    have first : ∀ k, z.cps[0]? = some k → 48 ≤ k ∧ k ≤ 57 := fun k hk => ad k (by
      rw [← Array.getElem?_toList] at hk
      exact List.mem_of_getElem? hk)
    have e0 : zfilled z ((60 : Int).toNat - z.length) = Builtin.Str.padded z ((60 : Int).toNat - z.length) 0 48 := by
      unfold zfilled
      split
      · rename_i hk
        have := first _ hk
        omega
      · rename_i hk
        have := first _ hk
        omega
      · rfl
    rw [e0]
    unfold Builtin.Str.padded
    simp
theorem dv_zero (l : List Nat) : ∀ n, NumText.digitsVal (List.replicate n 48 ++ l) = NumText.digitsVal l
  | 0 => rfl
  | n + 1 => by
    have ih := dv_zero l n
    unfold NumText.digitsVal at ih ⊢
    exact ih
theorem int_zfill {z : Str} (f : figB z = true) (l : z.length ≤ 60) : intText? (Txt.zfill z 60) = some ((NumText.digitsVal z.cps.toList : Nat) : Int) := by
  obtain ⟨ad, ne⟩ := fig_dig f
  have e := zfill_fig f l
  have hl : (Txt.zfill z 60).length = 60 := by
    rw [TL.len_tl]
    show (Txt.zfill z 60).cps.toList.length = 60
    have : z.cps.toList.length = z.length := (TL.len_tl z).symm
    rw [e, List.length_append, List.length_replicate, this]
    omega
  rw [intText_digits (x := Txt.zfill z 60) (by
    rw [e]
    intro c hc
    rcases List.mem_append.mp hc with h | h
    · rw [(List.mem_replicate.mp h).2]
      decide
    · exact ad c h) (by rw [e]; simp [ne]) (by rw [hl]; decide), e, dv_zero]
theorem zfill_len {z : Str} (f : figB z = true) (l : z.length ≤ 60) : (Txt.zfill z 60).length = 60 := by
  rw [TL.len_tl]
  show (Txt.zfill z 60).cps.toList.length = 60
  have : z.cps.toList.length = z.length := (TL.len_tl z).symm
  rw [zfill_fig f l, List.length_append, List.length_replicate, this]
  omega
theorem cut_all {z : Str} {n : Nat} (h : z.length = n) : cutS z (some 0) (some (n : Int)) = z := by
  refine TL.ext_tl ?_
  show (z.cps.toList.drop (HT.sIx z.length 0 (some 0))).take (HT.sIx z.length z.length (some (n : Int)) - HT.sIx z.length 0 (some 0)) = z.cps.toList
  have e0 : HT.sIx z.length 0 (some 0) = 0 := by
    unfold HT.sIx
    simp
  have e1 : HT.sIx z.length z.length (some (n : Int)) = n := by
    unfold HT.sIx
    rw [h]
    simp
    try omega
  rw [e0, e1, List.drop_zero, Nat.sub_zero]
  exact List.take_of_length_le (by rw [← h]; exact Nat.le_of_eq (TL.len_tl z).symm)
def kFigs (x : D) (φ : En → Prop) : Prop := ∃ z, x = .str z ∧ z.length ≤ 100000 ∧ φ (.d (.bl (figB z)))
theorem ok_is_figures (T : Txt K mg ad fd) : FnOk P w K mg base CX0 1 (ad 18) (fd 18) ps_is_figures (spX K (sp1 kFigs)) := by
  refine (show Fun K "is_figures" "is_figures" st_is_figures (ad 18) (fd 18) from T.f 18 (by decide)).ok sc_is_figures (fun vs H Q E h => len1 h) (fun cdv A outer s H vs Q E hr h => ?_)
  have hu := hu_of hr
  have hu65 := hu65_of hr
  refine ⟨_, (pss_cons (ps_if (PW.pt (pw_or (pt_not (pt_truS (K := K) (pv 0) (by intro _; rfl))) (pw_or1 (pt_not (pt_val (pe_callB (r := rAll K) (cr_all rfl) (by rfl) (T.z 9 (by decide)) (by decide +kernel) (pa_cons (pe_lc (own := [("sign", 1)]) (g := (gName 1)) (tt := tYes) rfl sc_is_figures.nd (pi_str (pv 0))
      (blkOk_by (N := nm_is_figures) (sc := defScope st_is_figures) (by decide +kernel)) (fun _ _ _ _ _ => by exact (pg_name (i := 1) sc_is_figures.nd rfl (Or.inl rfl))) (fun _ _ _ _ _ => pts_nil)
      (fun _ _ _ _ _ => by exact (pe_chain (r := rLeStr) (r' := rLeStr) op_leStr op_leStr pe_str (pv 1) pe_str))) pa_nil)))))))
    (pss_one (ps_ret pe_bl))
    pss_nil)
  (pss_one (ps_ret (pe_or (pe_cmpR (r := rEqS false) op_eqS (pv 0) pe_str (nomark _)) (pe_one (pe_cmpR (r := rEqS true) op_neS (pe_ix (r := rIxS) ix_str (pv 0) pe_int (fun _ _ => rfl)) pe_str (nomark _))))))), ?_⟩
  refine body1 h fun x φ hk => ?_
  rw [show st0 nm_is_figures [x] = [.d x, .no] from rfl]
  obtain ⟨z, rfl, zl, hk⟩ := hk
  refine ⟨by omega, ?_⟩
  have ll0 : z.cps.toList.length = z.length := (TL.len_tl z).symm
  cases e : z.cps.toList with
  | nil =>
    have z0 : z.length = 0 := by rw [← ll0, e]; rfl
    have ef : figB z = false := by unfold figB; rw [e]; rfl
    rw [ef] at hk
    exact ifT (by rw [z0]; rfl) (ifT rfl ⟨rfl, hk⟩)
  | cons c r =>
    have z0 : z.length ≠ 0 := by rw [← ll0, e]; simp
    have ef : figB z = ((c :: r).all digB && (c != 48 || r.isEmpty)) := by unfold figB; rw [e]; rfl
    rw [ef] at hk
    refine ifF (by simp [z0]) ?_
    (try dsimp only [dNext, dSeq, dIfS, dB, dOp, dNot, dOr, dAnd, dNotV, dOrV, dAndV, dAsg, dRet, dDrop, dCB, dIf, dTup, dLst, dCons, dNil, wf_d, wf_l, wb_b, wi_i, wt_t, wl_l, wl_d, tupR_t, tupR_l, lstR_t, lstR_l, List.set_cons_zero, List.set_cons_succ])
    have ll : (sgs z).length ≤ 100000 := by
      unfold sgs
      rw [List.length_map, ll0]
      exact zl
    refine dLc_pure (items := sgs z) (Γ1 := [.d (.str z), .no]) (Γw := [.d (.str z), .no]) dgF rfl (fun ψ h => h) rfl rfl ll (fun d hd ψ q => ?_) ?_
    · obtain ⟨c, _, rfl⟩ := List.mem_map.mp hd
      refine ⟨rfl, ?_⟩
      show (if (!decide ([c] < (Str.ofString "0").cps.toList)) = true then _ else _)
      rw [d0_cps]
      refine ifB (fun c3 => ⟨rfl, ?_⟩) (fun c3 => ?_)
      · refine q _ _ ?_ rfl
        show some (D.bl (!decide ((Str.ofString "9").cps.toList < [c]))) = _
        rw [d9_cps, dgF_eq, digB, c3, Bool.true_and]
      · refine q _ _ ?_ rfl
        rw [dgF_eq, digB, c3, Bool.false_and]
        rfl
    · refine ⟨z.cps.toList.map digB, by unfold sgs; rw [List.map_map, List.map_map]; exact List.map_congr_left fun c _ => dgF_eq c, ?_⟩
      rw [List.all_map, e]
      show (if (!(c :: r).all digB) = true then _ else _)
      cases ca : (c :: r).all digB with
      | false =>
        rw [ca, Bool.false_and] at hk
        exact ifT rfl ⟨rfl, hk⟩
      | true =>
        rw [ca, Bool.true_and] at hk
        refine ifF rfl ?_
        (try dsimp only [dNext, dSeq, dIfS, dB, dOp, dNot, dOr, dAnd, dNotV, dOrV, dAndV, dAsg, dRet, dDrop, dCB, dIf, dTup, dLst, dCons, dNil, wf_d, wf_l, wb_b, wi_i, wt_t, wl_l, wl_d, tupR_t, tupR_l, lstR_t, lstR_l, List.set_cons_zero, List.set_cons_succ])
        refine ⟨rfl, ?_⟩
        (try dsimp only [dNext, dSeq, dIfS, dB, dOp, dNot, dOr, dAnd, dNotV, dOrV, dAndV, dAsg, dRet, dDrop, dCB, dIf, dTup, dLst, dCons, dNil, wf_d, wf_l, wb_b, wi_i, wt_t, wl_l, wl_d, tupR_t, tupR_l, lstR_t, lstR_l, List.set_cons_zero, List.set_cons_succ])
        refine eqS_b ?_
        have iz := is_zero e
        by_cases hz : z = Str.ofString "0"
        · obtain ⟨h1, h2⟩ := iz.mp hz
          rw [h1, h2] at hk
          refine wb_t (ifT (by simp [hz]) ?_)
          exact hk
        · refine wb_t (ifF (by simp [hz]) ?_)
          refine ⟨rfl, z, 0, c, rfl, rfl, by omega, by rw [e]; exact atI0, rfl, eqS_b ?_⟩
          have e1 : (!decide ((⟨#[c]⟩ : Str) = Str.ofString "0")) = (c != 48 || r.isEmpty) := by
            rw [zero_str]
            by_cases hc : c = 48
            · have hr : r ≠ [] := fun h => hz (iz.mpr ⟨hc, h⟩)
              cases r with
              | nil => exact absurd rfl hr
              | cons a b =>
                subst hc
                rfl
            · have : ¬ (⟨#[c]⟩ : Str) = ⟨#[48]⟩ := fun h => hc ((str_one c 48).mp h)
              simp [this, hc]
          show φ (.d (.bl (!decide ((⟨#[c]⟩ : Str) = Str.ofString "0"))))
          rw [e1]
          exact hk
def kNum (x : D) (φ : En → Prop) : Prop := ∃ z, x = .str z ∧ z.length ≤ 100000 ∧ (figB z = true → z.length ≤ 60) ∧ φ (.d (oI (numM z)))
theorem ok_number_in (T : Txt K mg ad fd) : FnOk P w K mg base CX0 2 (ad 19) (fd 19) ps_number_in (spX K (sp1 kNum)) := by
  refine (show Fun K "number_in" "number_in" st_number_in (ad 19) (fd 19) from T.f 19 (by decide)).ok sc_number_in (fun vs H Q E h => len1 h) (fun cdv A outer s H vs Q E hr h => ?_)
  have hu := hu_of hr
  have hu65 := hu65_of hr
  refine ⟨_, (pss_cons (ps_if (pt_not (pt_val (pe_call (ok_is_figures (K := K) T) (hr.mono (by omega)) (by rfl) (T.g 18 (by decide)) (T.k 18 (by decide)) (bd_is_figures T) .nil pass0 (pa_cons (pv 0) pa_nil))))
    (pss_one (ps_ret pe_non))
    pss_nil)
  (pss_cons (ps_set (i := 1) sc_number_in.nd rfl (Or.inl rfl) pe_int)
  (pss_cons (ps_set (i := 2) sc_number_in.nd rfl (Or.inl rfl) (pe_bmK (K := K) (r := rZfill) PySem.F.plainAttrs_str PySem.F.slot_str_zfill PySem.F.type_str_zfill mt_zfillK (pv 0) (pa_cons (pe_op op_sub (pe_op op_add (pe_callB (r := Da.rLen K) cl_len (by rfl) (T.z 0 (by decide)) (by decide +kernel) (pa_cons (pv 0) pa_nil)) pe_int) (pe_op op_mod (pe_op op_add (pe_callB (r := Da.rLen K) cl_len (by rfl) (T.z 0 (by decide)) (by decide +kernel) (pa_cons (pv 0) pa_nil)) pe_int) pe_int)) pa_nil)))
  (pss_cons (ps_for PassesOwn.never rfl (pi_range3 (by rfl) (T.z 2 (by decide)) (pa_cons pe_int (pa_cons (pe_callB (r := Da.rLen K) cl_len (by rfl) (T.z 0 (by decide)) (by decide +kernel) (pa_cons (pv 2) pa_nil)) (pa_cons pe_int pa_nil)))) (pg_name (i := 3) sc_number_in.nd rfl (Or.inl rfl))
    (pss_one (ps_set (i := 1) sc_number_in.nd rfl (Or.inl rfl) (pe_op op_add (pe_op op_mul (pv 1) (pe_op op_pow pe_int pe_int)) (pe_callTy (r := rIntT) cl_intT (by rfl) (T.z 1 (by decide)) (by decide +kernel) (pa_cons (pe_slice (r := rSlS) sl_str (pv 2) (po_some (pv 3)) (po_some (pe_op op_add (pv 3) pe_int))) pa_nil))))))
  (pss_one (ps_ret (pv 1))))))), ?_⟩
  refine body1 h fun x φ hk => ?_
  rw [show st0 nm_number_in [x] = [.d x, .no, .no, .no] from rfl]
  obtain ⟨z, rfl, zl, z6, hk⟩ := hk
  refine ⟨rfl, z, rfl, zl, ?_⟩
  cases f : figB z with
  | false =>
    have e : numM z = none := by unfold numM; rw [f]; rfl
    rw [e] at hk
    exact wb_t (ifT rfl ⟨rfl, hk⟩)
  | true =>
    have e : numM z = some ((NumText.digitsVal z.cps.toList : Nat) : Int) := by unfold numM; rw [f]; rfl
    rw [e] at hk
    have l6 := z6 f
    have l1 : 1 ≤ z.length := by
      have := (fig_dig f).2
      have ll0 : z.cps.toList.length = z.length := (TL.len_tl z).symm
      cases h : z.cps.toList with
      | nil => exact absurd h this
      | cons c r => rw [← ll0, h]; simp
    refine wb_t (ifF rfl ?_)
    have em : (z.length : Int) + 59 - ((z.length : Int) + 59) % 60 = 60 := by omega
    have i60 := int_zfill f l6
    have zl60 := zfill_len f l6
    have zs : z.length ≤ sizeLine := by rw [sizeLine_eq]; omega
    refine ⟨rfl, zs, rfl, rfl, zs, rfl, rfl, rfl, (by decide : (0 : Int) < 60), rfl, rfl, 60, by rw [show vD (V.int ((z.length : Int) + 59 - ((z.length : Int) + 59) % 60)) = D.int ((z.length : Int) + 59 - ((z.length : Int) + 59) % 60) from rfl, em], by decide, by decide, ?_⟩
    refine ⟨rfl, by show (Txt.zfill z 60).length ≤ sizeLine; rw [zl60, sizeLine_eq]; decide, rfl, 0, 60, 60, 1, by rw [zl60]; rfl, ⟨by decide, by decide, by decide, by decide⟩, ?_⟩
    refine ⟨fun i Γ => ∃ v3, Γ = [.d (.str z), .d (.int (if i = 0 then 0 else (NumText.digitsVal z.cps.toList : Nat))), .d (.str (Txt.zfill z 60)), v3], ⟨_, rfl⟩, ?_⟩
    rintro i Γ ⟨v3, rfl⟩
    refine ⟨fun ei => ?_, fun d hd => ?_⟩
    · have ei : i = 1 := ei
      subst ei
      exact ⟨_, rfl, (fun z => nomatch z), hk⟩
    · obtain ⟨il, rfl⟩ := upC_get hd
      have i0 : i = 0 := by omega
      subst i0
      refine ⟨rfl, rfl, ⟨by decide, by decide, by decide⟩, rfl, .inl ⟨(by decide : -(2 ^ 64) < (0 : Int)), (by decide : (0 : Int) < 2 ^ 64)⟩, rfl, ?_⟩
      have ec : cutS (Txt.zfill z 60) (some 0) (some 60) = Txt.zfill z 60 := cut_all zl60
      have go : ∀ {ψ : En → List En → Prop}, ψ (.d (.str (Txt.zfill z 60))) [.d (.str z), .d (.int 0), .d (.str (Txt.zfill z 60)), .d (.int (0 + ((0 : Nat) : Int) * 60))] → dSlS (dVar 2) (dPart (dVar 3)) (dPart (dOp (dI0 fun i j => V.int (i + j)) (dVar 3) (dC (V.int 60)))) [.d (.str z), .d (.int 0), .d (.str (Txt.zfill z 60)), .d (.int (0 + ((0 : Nat) : Int) * 60))] ψ := fun {ψ} h => by
        refine ⟨rfl, rfl, by rw [zl60]; decide, ?_⟩
        show ψ (.d (.str (cutS (Txt.zfill z 60) (some (0 + ((0 : Nat) : Int) * 60)) (some (0 + ((0 : Nat) : Int) * 60 + 60))))) _
        rw [show (0 + ((0 : Nat) : Int) * 60) = 0 from rfl, show ((0 : Int) + 60) = 60 from rfl, ec]
        exact h
      (try dsimp only [dNext, dSeq, dIfS, dB, dOp, dNot, dOr, dAnd, dNotV, dOrV, dAndV, dAsg, dRet, dDrop, dCB, dIf, dTup, dLst, dCons, dNil, wf_d, wf_l, wb_b, wi_i, wt_t, wl_l, wl_d, tupR_t, tupR_l, lstR_t, lstR_l, List.set_cons_zero, List.set_cons_succ])
      refine go ?_
      refine ⟨_, _, rfl, i60, by rw [zl60]; decide, ?_⟩
      refine ⟨rfl, .d (.int (0 + ((0 : Nat) : Int) * 60)), ?_⟩
      show [En.d (D.str z), En.d (D.int (0 * 10 ^ Int.toNat 60 + (NumText.digitsVal z.cps.toList : Nat))), En.d (D.str (Txt.zfill z 60)), .d (.int (0 + ((0 : Nat) : Int) * 60))] = _
      rw [Int.zero_mul, Int.zero_add]
      rfl
def kHand (x : D) (φ : En → Prop) : Prop := ∃ z, x = .str z ∧ z.length ≤ 100000 ∧ φ (.d (oI (handM z)))
theorem ok_handed_number_in (T : Txt K mg ad fd) : FnOk P w K mg base CX0 3 (ad 20) (fd 20) ps_handed_number_in (spX K (sp1 kHand)) := by
  refine (show Fun K "handed_number_in" "handed_number_in" st_handed_number_in (ad 20) (fd 20) from T.f 20 (by decide)).ok sc_handed_number_in (fun vs H Q E h => len1 h) (fun cdv A outer s H vs Q E hr h => ?_)
  have hu := hu_of hr
  have hu65 := hu65_of hr
  refine ⟨_, (pss_one (ps_ret (pe_ifExp (pt_cmpR op_le (pe_callB (r := Da.rLen K) cl_len (by rfl) (T.z 0 (by decide)) (by decide +kernel) (pa_cons (pv 0) pa_nil)) pe_int (nomark _)) (pe_call (ok_number_in (K := K) T) (hr.mono (by omega)) (by rfl) (T.g 19 (by decide)) (T.k 19 (by decide)) (bd_number_in T) .nil pass0 (pa_cons (pv 0) pa_nil)) pe_non))), ?_⟩
  refine body1 h fun x φ hk => ?_
  rw [show st0 nm_handed_number_in [x] = [.d x] from rfl]
  obtain ⟨z, rfl, zl, hk⟩ := hk
  have zs : z.length ≤ sizeLine := by rw [sizeLine_eq]; omega
  refine ⟨zs, rfl, rfl, ?_⟩
  unfold handM at hk
  by_cases h : (z.length : Int) ≤ 40
  · rw [if_pos h] at hk
    refine wb_t (ifT (decide_eq_true h) ?_)
    exact ⟨rfl, z, rfl, zl, fun _ => by omega, hk⟩
  · rw [if_neg h] at hk
    exact wb_t (ifF (decide_eq_false h) ⟨rfl, hk⟩)
theorem gwK (TM : TxtM K mg C am fm) : KTp K TM.gw.choose := by
  obtain ⟨a, h1, h2⟩ := TM.gwt
  have h3 := TM.gw.choose_spec.1
  have h4 := Value.ref.inj (Option.some.inj (h1.symm.trans h3))
  exact h4 ▸ h2
theorem hin_who : Str.ofString "hinged" ≠ Str.ofString "whole" := by decide +kernel
def kGra (x : D) (φ : En → Prop) : Prop := ∃ z, x = .str z ∧ φ (.d (oI (graM z)))
theorem ok_grade_in (T : Txt K mg ad fd) (TM : TxtM K mg C am fm) (TG : TxtG mg) : FnOk P w K mg base CX0 1 (ad 21) (fd 21) ps_grade_in (spX K (sp1 kGra)) := by
  refine (show Fun K "grade_in" "grade_in" st_grade_in (ad 21) (fd 21) from T.f 21 (by decide)).ok sc_grade_in (fun vs H Q E h => len1 h) (fun cdv A outer s H vs Q E hr h => ?_)
  have hu := hu_of hr
  have hu65 := hu65_of hr
  refine ⟨_, (pss_one (ps_ret (pe_ifExp (pt_inG (K := K) (by rfl) TM.gw.choose_spec.1 (pv 0)) (pe_gidx (K := K) (by rfl) TM.gw.choose_spec.1 (pv 0)) pe_non))), ?_⟩
  refine body1 h fun x φ hk => ?_
  rw [show st0 nm_grade_in [x] = [.d x] from rfl]
  obtain ⟨z, rfl, hk⟩ := hk
  have kq : KSq K TM.gw.choose [.str "hinged", .str "whole"] := TM.gw.choose_spec.2
  refine ⟨_, .str z, kq, rfl, rfl, ?_⟩
  unfold graM at hk
  by_cases h1 : z = Str.ofString "hinged"
  · rw [if_pos h1] at hk
    subst h1
    refine wb_t (ifT (by decide +kernel) ?_)
    refine ⟨gwK TM, ["hinged", "whole"], 0, kq, rfl, fun m h => absurd h (Nat.not_lt_zero _), hk⟩
  · rw [if_neg h1] at hk
    by_cases h2 : z = Str.ofString "whole"
    · rw [if_pos h2] at hk
      subst h2
      refine wb_t (ifT (by decide +kernel) ?_)
      refine ⟨gwK TM, ["hinged", "whole"], 1, kq, rfl, fun m h => ?_, hk⟩
      have : m = 0 := by omega
      subst this
      exact fun e => hin_who (Option.some.inj e)
    · rw [if_neg h2] at hk
      refine wb_t (ifF ?_ ⟨rfl, hk⟩)
      have e1 : inV (V.str z) [V.str (Str.ofString "hinged"), V.str (Str.ofString "whole")] = false := by
        show ((Str.ofString "hinged" == z) || ((Str.ofString "whole" == z) || false)) = false
        rw [beq_false_of_ne (Ne.symm h1), beq_false_of_ne (Ne.symm h2)]
        rfl
      exact e1
theorem sub_le (x : Str) (i j : Nat) : (Builtin.Str.strSub x i j).length ≤ x.length := by
  rw [TL.len_tl, TL.tl_strSub, List.length_take, List.length_drop, TL.len_tl x]
  omega
theorem part_len (a b : Str) : (Txt.partition a b).1.length ≤ a.length ∧ (Txt.partition a b).2.2.length ≤ a.length := by
  unfold Txt.partition
  split
  · exact ⟨sub_le _ _ _, sub_le _ _ _⟩
  · exact ⟨Nat.le_refl _, Nat.zero_le _⟩
theorem spc_go {Γ : List En} {i : Nat} {z : Str} {φ : En → List En → Prop} (g : Γ[i]? = some (.d (.str z))) (h : z.length ≤ 1000000) (q : φ (.d (.tup [.str (Txt.partition z spc).1, .str (Txt.partition z spc).2.1, .str (Txt.partition z spc).2.2])) Γ) : dPartn (dVar i) (dC (V.str (Str.ofString " "))) Γ φ := by
  refine dVar_r g ?_
  exact ⟨rfl, by decide +kernel, h, q⟩
theorem spl_le (S : List Nat) : ∀ (l acc : List Nat) (k : Nat) (p : List Nat), p ∈ TL.spl S k acc l → p.length ≤ acc.length + l.length
  | [], acc, k, p, h => by
    rw [TL.spl_nil, List.mem_singleton] at h
    rw [h]
    simp
  | c :: r, acc, 0, p, h => by
    by_cases hp : TL.pre S (c :: r) = true
    · rw [TL.spl_hit hp] at h
      rcases List.mem_cons.mp h with e | h
      · rw [e]
        omega
      · have := spl_le S r [] _ p h
        simp at this ⊢
        omega
    · rw [TL.spl_miss (by simpa using hp)] at h
      have := spl_le S r (acc ++ [c]) 0 p h
      simp at this ⊢
      omega
  | c :: r, acc, k + 1, p, h => by
    have := spl_le S r acc k p h
    simp at this ⊢
    omega
theorem split_item_le {z y : Str} (hy : TL.tl y ≠ []) (hk : y.cps.all (· < 256) = true) {t : Str} (h : t ∈ Txt.split z y) : t.length ≤ z.length := by
  have e := TL.split_spl z y hy (TL.kind_ok hk)
  have m : TL.tl t ∈ TL.spl (TL.tl y) 0 [] (TL.tl z) := by
    rw [← e]
    exact List.mem_map.mpr ⟨t, h, rfl⟩
  have := spl_le _ _ _ _ _ m
  rw [TL.len_tl, TL.len_tl z]
  simpa using this
def kSetI (x : D) (φ : En → Prop) : Prop := ∃ z, x = .str z ∧ z.length ≤ 1000 ∧ φ (.d (setM z))
theorem ok_set_in (T : Txt K mg ad fd) : FnOk P w K mg base CX0 4 (ad 22) (fd 22) ps_set_in (spX K (sp1 kSetI)) := by
  refine (show Fun K "set_in" "set_in" st_set_in (ad 22) (fd 22) from T.f 22 (by decide)).ok sc_set_in (fun vs H Q E h => len1 h) (fun cdv A outer s H vs Q E hr h => ?_)
  have hu := hu_of hr
  have hu65 := hu65_of hr
  refine ⟨_, (pss_cons (ps_asg (pe_partnK (pv 0) pe_str) (pg_tupK (K := K) (n := 3) rfl (pgs_cons (pg_name (i := 1) sc_set_in.nd rfl (Or.inl rfl)) (pgs_cons (pg_name (i := 2) sc_set_in.nd rfl (Or.inl rfl)) (pgs_cons (pg_name (i := 3) sc_set_in.nd rfl (Or.inl rfl)) pgs_nil)))))
  (pss_cons (ps_asg (pe_partnK (pv 3) pe_str) (pg_tupK (K := K) (n := 3) rfl (pgs_cons (pg_name (i := 4) sc_set_in.nd rfl (Or.inl rfl)) (pgs_cons (pg_name (i := 2) sc_set_in.nd rfl (Or.inl rfl)) (pgs_cons (pg_name (i := 5) sc_set_in.nd rfl (Or.inl rfl)) pgs_nil)))))
  (pss_cons (ps_set (i := 6) sc_set_in.nd rfl (Or.inl rfl) (pe_ifExp (pt_val (pe_call (ok_is_letters (K := K) T) (hr.mono (by omega)) (by rfl) (T.g 7 (by decide)) (T.k 7 (by decide)) (bd_is_letters T) .nil pass0 (pa_cons (pv 1) (pa_cons pe_int (pa_cons (pe_callB (r := Da.rLen K) cl_len (by rfl) (T.z 0 (by decide)) (by decide +kernel) (pa_cons (pv 1) pa_nil)) pa_nil))))) (pv 1) pe_non))
  (pss_one (ps_ret (pe_tup (pa_cons (pv 6) (pa_cons (pe_call (ok_handed_number_in (K := K) T) (hr.mono (by omega)) (by rfl) (T.g 20 (by decide)) (T.k 20 (by decide)) (bd_handed_number_in T) .nil pass0 (pa_cons (pv 4) pa_nil)) (pa_cons (pe_call (ok_handed_number_in (K := K) T) (hr.mono (by omega)) (by rfl) (T.g 20 (by decide)) (T.k 20 (by decide)) (bd_handed_number_in T) .nil pass0 (pa_cons (pv 5) pa_nil)) pa_nil))))))))), ?_⟩
  refine body1 h fun x φ hk => ?_
  rw [show st0 nm_set_in [x] = [.d x, .no, .no, .no, .no, .no, .no] from rfl]
  obtain ⟨z, rfl, zl, hk⟩ := hk
  obtain ⟨l1, l2⟩ := part_len z spc
  obtain ⟨l3, l4⟩ := part_len (Txt.partition z spc).2.2 spc
  unfold setM at hk
  unfold dAsgT
  (try dsimp only [dNext, dSeq, dIfS, dB, dOp, dNot, dOr, dAnd, dNotV, dOrV, dAndV, dAsg, dRet, dDrop, dCB, dIf, dTup, dLst, dCons, dNil, wf_d, wf_l, wb_b, wi_i, wt_t, wl_l, wl_d, tupR_t, tupR_l, lstR_t, lstR_l, List.set_cons_zero, List.set_cons_succ])
  refine spc_go (i := 0) (z := z) rfl (by omega) ?_
  refine ⟨rfl, rfl, ?_⟩
  (try dsimp only [dNext, dSeq, dIfS, dB, dOp, dNot, dOr, dAnd, dNotV, dOrV, dAndV, dAsg, dRet, dDrop, dCB, dIf, dTup, dLst, dCons, dNil, wf_d, wf_l, wb_b, wi_i, wt_t, wl_l, wl_d, tupR_t, tupR_l, lstR_t, lstR_l, List.set_cons_zero, List.set_cons_succ])
  generalize (Txt.partition z spc).2.2 = y at *
  generalize hp1 : (Txt.partition z spc).1 = p1 at *
  refine spc_go (i := 3) (z := y) rfl (by omega) ?_
  refine ⟨rfl, rfl, ?_⟩
  (try dsimp only [dNext, dSeq, dIfS, dB, dOp, dNot, dOr, dAnd, dNotV, dOrV, dAndV, dAsg, dRet, dDrop, dCB, dIf, dTup, dLst, dCons, dNil, wf_d, wf_l, wb_b, wi_i, wt_t, wl_l, wl_d, tupR_t, tupR_l, lstR_t, lstR_l, List.set_cons_zero, List.set_cons_succ])
  have ps : p1.length ≤ sizeLine := by rw [sizeLine_eq]; omega
  refine ⟨rfl, ps, ?_⟩
  refine ⟨rfl, 1, p1.length, rfl, rfl, decide_eq_true (show p1.length ≤ 1000 by omega), ?_⟩
  refine wb_t (ifB (fun c => ?_) (fun c => ?_))
  · rw [if_pos c] at hk
    exact ⟨rfl, _, rfl, by omega, rfl, _, rfl, by omega, show 3 ≤ 100000 by decide, hk⟩
  · rw [if_neg (by rw [c]; decide)] at hk
    exact ⟨rfl, rfl, _, rfl, by omega, rfl, _, rfl, by omega, show 3 ≤ 100000 by decide, hk⟩
def scN (x : D) : Prop := x = .non ∨ (∃ s, x = .str s) ∨ ∃ i, x = .int i
theorem oI_sc (o : Option Int) : scN (oI o) := by
  cases o with
  | none => exact .inl rfl
  | some i => exact .inr (.inr ⟨i, rfl⟩)
theorem scN_sc {x : D} (h : scN x) : x.sc = true := by
  rcases h with rfl | ⟨s, rfl⟩ | ⟨i, rfl⟩ <;> rfl
theorem scN_eq {x : D} (h : scN x) : x.eqv .non = x.isN := by
  rcases h with rfl | ⟨s, rfl⟩ | ⟨i, rfl⟩ <;> rfl
theorem setM_sc (t : Str) : ∃ a b c, setM t = .tup [a, b, c] ∧ scN a ∧ scN b ∧ scN c := by
  refine ⟨_, _, _, rfl, ?_, oI_sc _, oI_sc _⟩
  split
  · exact .inr (.inl ⟨_, rfl⟩)
  · exact .inl rfl
def kSetsI (x : D) (φ : En → Prop) : Prop := ∃ z, x = .str z ∧ z.length ≤ 1000 ∧ φ (.d (setsM z))
theorem ok_sets_in (T : Txt K mg ad fd) : FnOk P w K mg base CX0 5 (ad 23) (fd 23) ps_sets_in (spX K (sp1 kSetsI)) := by
  refine (show Fun K "sets_in" "sets_in" st_sets_in (ad 23) (fd 23) from T.f 23 (by decide)).ok sc_sets_in (fun vs H Q E h => len1 h) (fun cdv A outer s H vs Q E hr h => ?_)
  have hu := hu_of hr
  have hu65 := hu65_of hr
  refine ⟨_, (pss_cons (ps_set (i := 1) sc_sets_in.nd rfl (Or.inl rfl) (pe_callTy (r := rTuple K) cl_tuple (by rfl) (T.z 4 (by decide)) (by decide +kernel) (pa_cons (pe_lc (own := [("part", 2)]) (g := (gName 2)) (tt := tYes) rfl sc_sets_in.nd (pi_listK (K := K) (pe_splitK (pv 0) pe_str))
      (blkOk_by (N := nm_sets_in) (sc := defScope st_sets_in) (by decide +kernel)) (fun _ _ _ _ _ => by exact (pg_name (i := 2) sc_sets_in.nd rfl (Or.inl rfl))) (fun _ _ _ _ _ => pts_nil)
      (fun _ _ _ _ _ => by exact (pe_call (ok_set_in (K := K) T) (hr.mono (by omega)) (by rfl) (T.g 22 (by decide)) (T.k 22 (by decide)) (bd_set_in T) .nil pass0 (pa_cons (pv 2) pa_nil)))) pa_nil)))
  (pss_cons (ps_if (pt_val (pe_callB (r := rAny K) (cr_any rfl) (by rfl) (T.z 10 (by decide)) (by decide +kernel) (pa_cons (pe_lc (own := [("part", 2)]) (g := (gName 2)) (tt := tYes) rfl sc_sets_in.nd (pi_tupK (K := K) (pv 1))
      (blkOk_by (N := nm_sets_in) (sc := defScope st_sets_in) (by decide +kernel)) (fun _ _ _ _ _ => by exact (pg_name (i := 2) sc_sets_in.nd rfl (Or.inl rfl))) (fun _ _ _ _ _ => pts_nil)
      (fun _ _ _ _ _ => by exact (pe_cmpR (r := rIn K false) op_in_seq pe_non (pv 2) (by rfl)))) pa_nil)))
    (pss_one (ps_ret pe_non))
    pss_nil)
  (pss_one (ps_ret (pv 1))))), ?_⟩
  refine body1 h fun x φ hk => ?_
  rw [show st0 nm_sets_in [x] = [.d x, .no, .no] from rfl]
  obtain ⟨z, rfl, zl, hk⟩ := hk
  have xl : (Txt.split z ";").length ≤ z.length + 2 := PyProof.Rows.split_le z ";"
  have xe : ∀ t ∈ Txt.split z ";", t.length ≤ z.length := fun t ht => split_item_le (by rw [sem_tl]; simp) (by decide +kernel) ht
  (try dsimp only [dNext, dSeq, dIfS, dB, dOp, dNot, dOr, dAnd, dNotV, dOrV, dAndV, dAsg, dRet, dDrop, dCB, dIf, dTup, dLst, dCons, dNil, wf_d, wf_l, wb_b, wi_i, wt_t, wl_l, wl_d, tupR_t, tupR_l, lstR_t, lstR_l, List.set_cons_zero, List.set_cons_succ])
  refine dLc_pure (items := (Txt.split z ";").map .str) (Γ1 := [.d (.str z), .no, .no]) (Γw := [.d (.str z), .no, .no]) (fun x => match x with | .str t => setM t | _ => .non) rfl (fun ψ h => ?_) rfl rfl (by rw [List.length_map]; omega) (fun d hd ψ q => ?_) ?_
  · exact ⟨rfl, by decide +kernel, by omega, h⟩
  · obtain ⟨t, ht, rfl⟩ := List.mem_map.mp hd
    have := xe t ht
    exact ⟨rfl, t, rfl, by omega, q _ _ rfl rfl⟩
  (try dsimp only [dNext, dSeq, dIfS, dB, dOp, dNot, dOr, dAnd, dNotV, dOrV, dAndV, dAsg, dRet, dDrop, dCB, dIf, dTup, dLst, dCons, dNil, wf_d, wf_l, wb_b, wi_i, wt_t, wl_l, wl_d, tupR_t, tupR_l, lstR_t, lstR_l, List.set_cons_zero, List.set_cons_succ])
  have ex : ((Txt.split z ";").map D.str).map (fun x => match x with | .str t => setM t | _ => .non) = (Txt.split z ";").map setM := by
    rw [List.map_map]
    rfl
  rw [ex]
  generalize hY : (Txt.split z ";").map setM = ys at *
  have yl : ys.length ≤ 100000 := by rw [← hY, List.length_map]; omega
  refine dLc_pure (items := ys) (Γ1 := [.d (.str z), .d (.tup ys), .no]) (Γw := [.d (.str z), .d (.tup ys), .no]) (fun x => .bl (hasN x)) rfl (fun ψ h => h) rfl rfl yl (fun d hd ψ q => ?_) ?_
  · rw [← hY] at hd
    obtain ⟨t, _, rfl⟩ := List.mem_map.mp hd
    refine ⟨rfl, ?_⟩
    obtain ⟨a, b, c, e, ha, hb, hc⟩ := setM_sc t
    rw [e] at q ⊢
    have es : [a, b, c].all D.sc = true := by
      simp only [List.all_cons, List.all_nil, Bool.and_true, Bool.and_eq_true]
      exact ⟨scN_sc ha, scN_sc hb, scN_sc hc⟩
    refine ⟨rfl, es, ?_⟩
    have ei : inD .non [a, b, c] = hasN (.tup [a, b, c]) := by
      show (a.eqv .non || (b.eqv .non || (c.eqv .non || false))) = (a.isN || (b.isN || (c.isN || false)))
      rw [scN_eq ha, scN_eq hb, scN_eq hc]
    show ψ (.d (.bl (inD .non [a, b, c]))) _
    rw [ei]
    exact q _ _ rfl rfl
  · refine ⟨ys.map hasN, by rw [List.map_map]; rfl, ?_⟩
    rw [List.any_map]
    unfold setsM at hk
    rw [hY] at hk
    have ea : ys.any (id ∘ hasN) = ys.any hasN := rfl
    rw [ea]
    cases h : ys.any hasN with
    | true =>
      rw [h, if_pos rfl] at hk
      exact wb_t (ifT rfl ⟨rfl, hk⟩)
    | false =>
      rw [h, if_neg (by decide)] at hk
      exact wb_t (ifF rfl ⟨_, rfl, (fun z => nomatch z), hk⟩)
end
end Dl

set_option Elab.async false
set_option maxRecDepth 100000
set_option maxHeartbeats 4000000
set_option linter.all false
set_option synthInstance.maxHeartbeats 4000000
set_option synthInstance.maxSize 10000




namespace Dl
open PySem PySem.Spec PyProof.Rows L2 RZ HmS Da
section
variable {P : Program} {w : World} {K : PySem.W.Frag} [HasT K] {mg : Str → Option Value} {base : Heap} {ad am : Nat → Addr} {fd fm : Nat → FuncData} {C : Addr}
structure Er where
  t : Addr
structure TxtE (K : PySem.W.Frag) (mg : Str → Option Value) (ce : Er) : Prop where
  NoText : ErrT K mg "NoText" ce.t
  ett : PySem.W.exmOne K (.ref ce.t) (.ref ce.t) = some true
variable {ce : Er}
theorem ok_list_text (T : Txt K mg ad fd) : FnOk P w K mg base CX0 2 (ad 24) (fd 24) ps_list_text (spX K (sp1 kLw)) := by
  refine (show Fun K "list_text" "list_text" st_list_text (ad 24) (fd 24) from T.f 24 (by decide)).ok sc_list_text (fun vs H Q E h => len1 h) (fun cdv A outer s H vs Q E hr h => ?_)
  have hu := hu_of hr
  have hu65 := hu65_of hr
  refine ⟨_, (pss_one (ps_ret (pe_call (ok_list_words (K := K) T) (hr.mono (by omega)) (by rfl) (T.g 1 (by decide)) (T.k 1 (by decide)) (bd_list_words T) .nil pass0 (pa_cons (pv 0) pa_nil)))), ?_⟩
  refine body1 h fun x φ hk => ?_
  rw [show st0 nm_list_text [x] = [.d x] from rfl]
  exact ⟨rfl, hk⟩
theorem ok_album_text (T : Txt K mg ad fd) (TM : TxtM K mg C am fm) (TG : TxtG mg) : FnOk P w K mg base CX0 7 (ad 25) (fd 25) ps_album_text (spX K (sp1 (kStr C))) := by
  refine (show Fun K "album_text" "album_text" st_album_text (ad 25) (fd 25) from T.f 25 (by decide)).ok sc_album_text (fun vs H Q E h => len1 h) (fun cdv A outer s H vs Q E hr h => ?_)
  have hu := hu_of hr
  have hu65 := hu65_of hr
  refine ⟨_, (pss_one (ps_ret (pe_callTy (cl_strO TM.os (ok_Album___str__ (K := K) T TM TG) (hr.mono (by omega)) (bm___str__ TM) pass0) (by rfl) (T.z 8 (by decide)) (by decide +kernel) (pa_cons (pv 0) pa_nil)))), ?_⟩
  refine body1 h fun x φ hk => ?_
  rw [show st0 nm_album_text [x] = [.d x] from rfl]
  obtain ⟨ss, nm, cs, rfl, nl, sl, sm, cl, nd, rs, hk⟩ := hk
  exact ⟨⟨_, _, rfl⟩, ss, nm, cs, rfl, nl, sl, sm, cl, nd, rs, _, rfl, hk⟩
/-! ### lists and stamps that are some -/
theorem let_len {l : Str} {a b : Int} (h : letB (.str l) a b = true) : a ≤ (l.length : Int) ∧ (l.length : Int) ≤ b := by
  have h : ((decide (a ≤ (l.length : Int)) && decide ((l.length : Int) ≤ b)) && l.cps.toList.all signB) = true := h
  rw [Bool.and_eq_true, Bool.and_eq_true, decide_eq_true_eq, decide_eq_true_eq] at h
  exact h.1
def toS3 (x : D) : St3 := match x with
  | .tup [.int a, .int n, .int g] => (a, n, g)
  | _ => (0, 0, 0)
theorem stB_st {ss : List (Str × Int × Int)} {x : D} (h : stB ss x = true) : x = stD (toS3 x) := by
  cases x with
  | tup xs =>
    match xs, h with
    | [a, n, g], h =>
      have h : ((inB a 0 ((ss.length : Int) - 1) && inB n 0 (manyAt ss (iD a) - 1)) && inB g 0 1) = true := h
      rw [Bool.and_eq_true, Bool.and_eq_true] at h
      rw [(inB_int h.1.1).1, (inB_int h.1.2).1, (inB_int h.2).1]
      rfl
    | [], h => cases h
    | [_], h => cases h
    | [_, _], h => cases h
    | _ :: _ :: _ :: _ :: _, h => cases h
  | _ => cases h
/-! ### made of rows -/
def addL (rs : Cts) : Cts := rs.foldl (fun cs c => addA cs c.1 c.2) []
theorem addL_snoc (rs : Cts) (c : St3 × Int) : addL (rs ++ [c]) = addA (addL rs) c.1 c.2 := by
  unfold addL
  rw [List.foldl_append]
  rfl
theorem addL_len (rs : Cts) : (addL rs).length ≤ rs.length := by
  suffices h : ∀ (rs cs : Cts), (rs.foldl (fun cs c => addA cs c.1 c.2) cs).length ≤ cs.length + rs.length by
    have := h rs []
    simpa [addL] using this
  intro rs
  induction rs with
  | nil => intro cs; simp
  | cons c r ih =>
    intro cs
    have h1 := ih (addA cs c.1 c.2)
    have h2 := addA_len cs c.1 c.2
    rw [List.foldl_cons, List.length_cons]
    omega
theorem addL_ok {ok : St3 → Prop} (rs : Cts) (h : ∀ c ∈ rs, ok c.1 ∧ 1 ≤ c.2) : CtOk ok (addL rs) := by
  suffices g : ∀ (rs cs : Cts), CtOk ok cs → (∀ c ∈ rs, ok c.1 ∧ 1 ≤ c.2) → CtOk ok (rs.foldl (fun cs c => addA cs c.1 c.2) cs) from g rs [] .nil h
  intro rs
  induction rs with
  | nil => exact fun cs hc _ => hc
  | cons c r ih => exact fun cs hc h => ih _ (hc.add (h c List.mem_cons_self).1 (h c List.mem_cons_self).2) fun d hd => h d (List.mem_cons_of_mem _ hd)
def kFilG (C : Addr) (b nm r : D) (φ : En → Prop) : Prop := ∃ ss n rs, b = bookD ss ∧ BkOk ss ∧ nm = .str n ∧ n.length ≤ 8 ∧ letB nm 0 8 = true ∧ r = .lst (rs.map rwD) ∧ (∀ c ∈ rs, OkS ss c.1 ∧ 1 ≤ c.2) ∧ rs.length ≤ 1000 ∧ ∀ p T, φ (.ow (.ins C nsA (osA ss n (addL rs))) (p :: T))
theorem ok_filled_G (T : Txt K mg ad fd) (TM : TxtM K mg C am fm) (TG : TxtG mg) : FnOk P w K mg base CX0 9 (ad 17) (fd 17) ps_filled (spX K (sp3 (kFilG C))) := by
  refine (show Fun K "filled" "filled" st_filled (ad 17) (fd 17) from T.f 17 (by decide)).ok sc_filled (fun vs H Q E h => len3 h) (fun cdv A outer s H vs Q E hr h => ?_)
  have hu := hu_of hr
  have hu65 := hu65_of hr
  refine ⟨_, (pss_cons (ps_set (i := 3) sc_filled.nd rfl (Or.inl rfl) (pe_make TM.mkA (ok_Album___init__ (K := K) T TM TG) (hr.mono (by omega)) (by rfl) TM.mgC (bm___init___3 TM).choose_spec.2 (bm___init___3 TM).choose_spec.1 pass0 (pa_cons (pv 0) (pa_cons (pv 1) pa_nil))))
  (pss_cons (ps_for PassesOwn.never rfl (pi_listK (K := K) (pv 2)) (pg_tupK (K := K) (n := 2) rfl (pgs_cons (pg_name (i := 4) sc_filled.nd rfl (Or.inl rfl)) (pgs_cons (pg_name (i := 5) sc_filled.nd rfl (Or.inl rfl)) pgs_nil)))
    (pss_one (ps_expr (pe_meth (pv 3) TM.cl (TM.m 10 (by decide)) (ok_Album_put (K := K) T TM TG) (hr.mono (by omega)) (bm_put_3 TM).choose_spec.2 (bm_put_3 TM).choose_spec.1 pass0 (pa_cons (pv 4) (pa_cons (pv 5) pa_nil))))))
  (pss_one (ps_ret (pv 3))))), ?_⟩
  refine body3 h fun x y z φ hk => ?_
  rw [show st0 nm_filled [x, y, z] = [.d x, .d y, .d z, .no, .no, .no] from rfl]
  obtain ⟨ss, n, rs, rfl, bk, rfl, nl, hn, rfl, ok, rl, hk⟩ := hk
  refine ⟨rfl, rfl, rfl, ss, n, rfl, bk.good, bk.b, rfl, decide_eq_true (show n.length ≤ 1000 by omega), hn, .inl ⟨rfl, fun p T => ?_⟩⟩
  (try simp only [dVar, dC, dNil, dCons, dTup, dLst, dOp, onI, dI, dI0, dUn, dEq, dNe, dIxT, dIxL, dIxLv, dAndV, dOrV, dNotV, dB, dAnd, dOr, dNot, dYes, dIf, dChain, dCB, dLenR, dLenv, dListR, dTupR, dMxR, dMnR, dIntR, dIsi, dNoPart, dPart, dSl, dCatA, dCat, dRep, dIn, dInD, dIsN, D.isN, dCall, dCallP, dCallS, dPen0, dTruv, dRg1, dRg2, dLstRg, dTupRg, dLenSet, wf, wb, wi, wt, wl, vD, isSc, dSeq, dNext, dRet, dRetv, dRetN, dIfS, dAsg, dAsgT, dgTup, dgCons, dPar, dApp, dExt, dSetL, dPopAt, dRse, dNever, dDrop, dITup, dILst, dIRng1, dIRng2, dIDn, dIEnT, dIEnL, dIZip, po, poP, sp0, sp1, sp2, sp3, sp4, sp5, pp0, pp1, pp2, pp3, pp4, mo0, mo1, mo2, mo3, dBrw, immE, dMethO, dMake, dFSet, dFPut, fputK, dFDel, dGet2X, dOrT, dIStr, dLeStr, dAttr, dMeth, List.set_cons_zero, List.set_cons_succ, List.getElem?_cons_zero, List.getElem?_cons_succ, List.all_nil, List.map_nil, List.append_nil, List.cons_append, List.nil_append, true_and, ite_true, if_true])
  refine ⟨fun i Γ => ∃ (p : Addr) (T : List Addr) (v4 v5 : En), Γ = [.d (bookD ss), .d (.str n), .d (.lst (rs.map rwD)), .ow (.ins C nsA (osA ss n (addL (rs.take i)))) (p :: T), v4, v5], ⟨_, _, _, _, rfl⟩, ?_⟩
  rintro i Γ ⟨p, T, v4, v5, rfl⟩
  refine ⟨fun e => ?_, fun d hd => ?_⟩
  · rw [List.length_map] at e
    rw [e, List.take_length]
    exact ⟨_, rfl, (fun z => nomatch z), hk p T⟩
  · obtain ⟨c, hc, rfl⟩ := at_map hd
    have cm := List.mem_of_getElem? hc
    have al := addL_len (rs.take i)
    rw [List.length_take] at al
    refine ⟨rfl, rfl, ⟨_, _, _, rfl, many_out⟩, ?_⟩
    refine ⟨rfl, _, _, _, rfl, ss, n, addL (rs.take i), c.1, c.2, rfl, rfl, rfl, (ok c cm).1, rfl, (ok c cm).2, by omega, fun p2 T2 => ?_⟩
    refine ⟨p2, T2, .d (stD c.1), .d (.int c.2), ?_⟩
    rw [← addL_snoc, List.take_add_one, hc]
    rfl
/-! ### rows -/
def kNamX (ce : Er) (x : D) (φ : En → Prop) (ψ : Value → Prop) : Prop := ∃ r, x = .str r ∧ r.length ≤ 1000 ∧ (∀ n, namM r = some n → φ (.d (.str n))) ∧ (namM r = none → ψ (.ref ce.t))
theorem dot_go {Γ : List En} {i : Nat} {z : Str} {φ : En → List En → Prop} (g : Γ[i]? = some (.d (.str z))) (h : z.length ≤ 1000000) (q : φ (.d (.tup [.str (Txt.partition z (Str.ofString ".")).1, .str (Txt.partition z (Str.ofString ".")).2.1, .str (Txt.partition z (Str.ofString ".")).2.2])) Γ) : dPartn (dVar i) (dC (V.str (Str.ofString "."))) Γ φ := by
  refine dVar_r g ?_
  exact ⟨rfl, by decide +kernel, h, q⟩
theorem setM_good {z : Str} (h : z.length ≤ 1000) : (setM z).good = true := by
  obtain ⟨l1, l2⟩ := part_len z spc
  have ho : ∀ o, (oI o).good = true := fun o => by cases o <;> rfl
  refine good_tup (fun x hx => ?_) (show 3 ≤ 100 by decide)
  rcases List.mem_cons.mp hx with rfl | hx
  · split
    · exact decide_eq_true (show (Txt.partition z spc).1.length ≤ 1000 by omega)
    · rfl
  rcases List.mem_cons.mp hx with rfl | hx
  · exact ho _
  · rw [List.mem_singleton.mp hx]
    exact ho _
theorem setsM_good {z : Str} (h : z.length ≤ 1000) (hl : (Txt.split z ";").length ≤ 100) : (setsM z).good = true := by
  unfold setsM
  split
  · rfl
  · refine good_tup (fun x hx => ?_) (by rw [List.length_map]; exact hl)
    obtain ⟨t, ht, rfl⟩ := List.mem_map.mp hx
    have := split_item_le (z := z) (y := ";") (by rw [sem_tl]; simp) (by decide +kernel) ht
    exact setM_good (by omega)
theorem ok_name_read_X (T : Txt K mg ad fd) (TE : TxtE K mg ce) : FnOk P w K mg base (L2.CX P w) 3 (ad 26) (fd 26) ps_name_read (spX K (sx1 (kNamX ce))) := by
  refine (show Fun K "name_read" "name_read" st_name_read (ad 26) (fd 26) from T.f 26 (by decide)).okX sc_name_read (fun vs H Q E h => lex1 h) (fun cdv A outer s H vs Q E hr h => ?_)
  have hu := hu_of hr
  have hu65 := hu65_of hr
  refine ⟨_, (pss_cons (ps_asg (pe_partnK (pv 0) pe_str) (pg_tupK (K := K) (n := 3) rfl (pgs_cons (pg_name (i := 1) sc_name_read.nd rfl (Or.inl rfl)) (pgs_cons (pg_name (i := 2) sc_name_read.nd rfl (Or.inl rfl)) (pgs_cons (pg_name (i := 3) sc_name_read.nd rfl (Or.inl rfl)) pgs_nil)))))
  (pss_cons (ps_if (PW.pt (pw_or (pt_cmpR (r := rEqS true) op_neS (pv 1) pe_str (nomark _)) (pw_or1 (pt_not (pt_val (pe_call (ok_is_letters (K := K) T) (hr.mono (by omega)) (by rfl) (T.g 7 (by decide)) (T.k 7 (by decide)) (bd_is_letters T) .nil pass0 (pa_cons (pv 3) (pa_cons pe_int (pa_cons pe_int pa_nil)))))))))
    (pss_one (ps_rse TE.NoText rfl (takes_of rfl rfl rfl rfl) (by rfl)))
    pss_nil)
  (pss_one (ps_ret (pv 3))))), ?_⟩
  refine bodx1 h fun x φ ψ hk => ?_
  rw [show st0 nm_name_read [x] = [.d x, .no, .no, .no] from rfl]
  obtain ⟨r, rfl, rl, h1, h2⟩ := hk
  obtain ⟨l1, l2⟩ := part_len r spc
  unfold dAsgT
  (try dsimp only [dNext, dSeq, dIfS, dB, dOp, dNot, dOr, dAnd, dNotV, dOrV, dAndV, dAsg, dRet, dDrop, dCB, dIf, dTup, dLst, dCons, dNil, wf_d, wf_l, wb_b, wi_i, wt_t, wl_l, wl_d, tupR_t, tupR_l, lstR_t, lstR_l, List.set_cons_zero, List.set_cons_succ])
  refine spc_go (i := 0) (z := r) rfl (by omega) ?_
  refine ⟨rfl, rfl, ?_⟩
  (try dsimp only [dNext, dSeq, dIfS, dB, dOp, dNot, dOr, dAnd, dNotV, dOrV, dAndV, dAsg, dRet, dDrop, dCB, dIf, dTup, dLst, dCons, dNil, wf_d, wf_l, wb_b, wi_i, wt_t, wl_l, wl_d, tupR_t, tupR_l, lstR_t, lstR_l, List.set_cons_zero, List.set_cons_succ])
  refine ⟨rfl, ?_⟩
  (try dsimp only [dNext, dSeq, dIfS, dB, dOp, dNot, dOr, dAnd, dNotV, dOrV, dAndV, dAsg, dRet, dDrop, dCB, dIf, dTup, dLst, dCons, dNil, wf_d, wf_l, wb_b, wi_i, wt_t, wl_l, wl_d, tupR_t, tupR_l, lstR_t, lstR_l, List.set_cons_zero, List.set_cons_succ])
  refine eqS_b ?_
  unfold namM at h1 h2
  by_cases c1 : (Txt.partition r spc).1 = Str.ofString "album"
  · refine wb_t (ifF (by simp [c1]) ?_)
    refine ⟨rfl, rfl, rfl, 0, 8, rfl, rfl, decide_eq_true (show (Txt.partition r spc).2.2.length ≤ 1000 by omega), ?_⟩
    cases c2 : letB (.str (Txt.partition r spc).2.2) 0 8 with
    | true => exact wb_t (ifF rfl ⟨_, rfl, (fun z => nomatch z), h1 _ (if_pos ⟨c1, c2⟩)⟩)
    | false => exact wb_t (ifT rfl (h2 (if_neg fun z => by rw [c2] at z; cases z.2)))
  · exact wb_t (ifT (by simp [c1]) (ifT rfl (h2 (if_neg fun z => c1 z.1))))
def kBokX (ce : Er) (x : D) (φ : En → Prop) (ψ : Value → Prop) : Prop := ∃ r, x = .str r ∧ r.length ≤ 1000 ∧ (Txt.split (Txt.partition r spc).2.2 ";").length ≤ 100 ∧ (∀ b, bokM r = some b → φ (.d b)) ∧ (bokM r = none → ψ (.ref ce.t))
theorem ok_book_read_X (T : Txt K mg ad fd) (TE : TxtE K mg ce) : FnOk P w K mg base (L2.CX P w) 6 (ad 27) (fd 27) ps_book_read (spX K (sx1 (kBokX ce))) := by
  refine (show Fun K "book_read" "book_read" st_book_read (ad 27) (fd 27) from T.f 27 (by decide)).okX sc_book_read (fun vs H Q E h => lex1 h) (fun cdv A outer s H vs Q E hr h => ?_)
  have hu := hu_of hr
  have hu65 := hu65_of hr
  refine ⟨_, (pss_cons (ps_asg (pe_partnK (pv 0) pe_str) (pg_tupK (K := K) (n := 3) rfl (pgs_cons (pg_name (i := 1) sc_book_read.nd rfl (Or.inl rfl)) (pgs_cons (pg_name (i := 2) sc_book_read.nd rfl (Or.inl rfl)) (pgs_cons (pg_name (i := 3) sc_book_read.nd rfl (Or.inl rfl)) pgs_nil)))))
  (pss_cons (ps_set (i := 4) sc_book_read.nd rfl (Or.inl rfl) (pe_call (ok_sets_in (K := K) T) (hr.mono (by omega)) (by rfl) (T.g 23 (by decide)) (T.k 23 (by decide)) (bd_sets_in T) .nil pass0 (pa_cons (pv 3) pa_nil)))
  (pss_cons (ps_if (PW.pt (pw_or (pt_cmpR (r := rEqS true) op_neS (pv 1) pe_str (nomark _)) (pw_or1 (pt_not (pt_val (pe_call (ok_is_list (K := K) T) (hr.mono (by omega)) (by rfl) (T.g 12 (by decide)) (T.k 12 (by decide)) (bd_is_list T) .nil pass0 (pa_cons (pv 4) pa_nil)))))))
    (pss_one (ps_rse TE.NoText rfl (takes_of rfl rfl rfl rfl) (by rfl)))
    pss_nil)
  (pss_one (ps_ret (pv 4)))))), ?_⟩
  refine bodx1 h fun x φ ψ hk => ?_
  rw [show st0 nm_book_read [x] = [.d x, .no, .no, .no, .no] from rfl]
  obtain ⟨r, rfl, rl, sl, h1, h2⟩ := hk
  obtain ⟨l1, l2⟩ := part_len r spc
  unfold dAsgT
  (try dsimp only [dNext, dSeq, dIfS, dB, dOp, dNot, dOr, dAnd, dNotV, dOrV, dAndV, dAsg, dRet, dDrop, dCB, dIf, dTup, dLst, dCons, dNil, wf_d, wf_l, wb_b, wi_i, wt_t, wl_l, wl_d, tupR_t, tupR_l, lstR_t, lstR_l, List.set_cons_zero, List.set_cons_succ])
  refine spc_go (i := 0) (z := r) rfl (by omega) ?_
  refine ⟨rfl, rfl, ?_⟩
  (try dsimp only [dNext, dSeq, dIfS, dB, dOp, dNot, dOr, dAnd, dNotV, dOrV, dAndV, dAsg, dRet, dDrop, dCB, dIf, dTup, dLst, dCons, dNil, wf_d, wf_l, wb_b, wi_i, wt_t, wl_l, wl_d, tupR_t, tupR_l, lstR_t, lstR_l, List.set_cons_zero, List.set_cons_succ])
  refine ⟨rfl, _, rfl, by omega, rfl, ?_⟩
  (try dsimp only [dNext, dSeq, dIfS, dB, dOp, dNot, dOr, dAnd, dNotV, dOrV, dAndV, dAsg, dRet, dDrop, dCB, dIf, dTup, dLst, dCons, dNil, wf_d, wf_l, wb_b, wi_i, wt_t, wl_l, wl_d, tupR_t, tupR_l, lstR_t, lstR_l, List.set_cons_zero, List.set_cons_succ])
  refine eqS_b ?_
  unfold bokM at h1 h2
  have sg := setsM_good (z := (Txt.partition r spc).2.2) (by omega) sl
  generalize setsM (Txt.partition r spc).2.2 = b at *
  by_cases c1 : (Txt.partition r spc).1 = Str.ofString "list"
  · refine wb_t (ifF (by simp [c1]) ?_)
    refine ⟨rfl, sg, ?_⟩
    cases c2 : lstB b with
    | true => exact wb_t (ifF rfl ⟨_, rfl, (fun z => nomatch z), h1 _ (if_pos ⟨c1, c2⟩)⟩)
    | false => exact wb_t (ifT rfl (h2 (if_neg fun z => by rw [c2] at z; cases z.2)))
  · exact wb_t (ifT (by simp [c1]) (ifT rfl (h2 (if_neg fun z => c1 z.1))))
/-- its numbers are not too long -/
def fig6 (z : Str) : Prop := figB z = true → z.length ≤ 60
def rwOk (r : Str) : Prop := r.length ≤ 1000 ∧ fig6 (Txt.partition (Txt.partition r spc).1 (Str.ofString ".")).1 ∧ fig6 (Txt.partition (Txt.partition r spc).1 (Str.ofString ".")).2.2 ∧ fig6 (Txt.partition (Txt.partition r spc).2.2 spc).2.2
def kCntX (ce : Er) (b x : D) (φ : En → Prop) (ψ : Value → Prop) : Prop := ∃ ss r, b = bookD ss ∧ x = .str r ∧ rwOk r ∧ (∀ c, cntM ss r = some c → φ (.d c)) ∧ (cntM ss r = none → ψ (.ref ce.t))
theorem ok_count_read_X (T : Txt K mg ad fd) (TM : TxtM K mg C am fm) (TG : TxtG mg) (TE : TxtE K mg ce) : FnOk P w K mg base (L2.CX P w) 6 (ad 28) (fd 28) ps_count_read (spX K (sx2 (kCntX ce))) := by
  refine (show Fun K "count_read" "count_read" st_count_read (ad 28) (fd 28) from T.f 28 (by decide)).okX sc_count_read (fun vs H Q E h => lex2 h) (fun cdv A outer s H vs Q E hr h => ?_)
  have hu := hu_of hr
  have hu65 := hu65_of hr
  refine ⟨_, (pss_cons (ps_asg (pe_partnK (pv 1) pe_str) (pg_tupK (K := K) (n := 3) rfl (pgs_cons (pg_name (i := 2) sc_count_read.nd rfl (Or.inl rfl)) (pgs_cons (pg_name (i := 3) sc_count_read.nd rfl (Or.inl rfl)) (pgs_cons (pg_name (i := 4) sc_count_read.nd rfl (Or.inl rfl)) pgs_nil)))))
  (pss_cons (ps_asg (pe_partnK (pv 2) pe_str) (pg_tupK (K := K) (n := 3) rfl (pgs_cons (pg_name (i := 5) sc_count_read.nd rfl (Or.inl rfl)) (pgs_cons (pg_name (i := 3) sc_count_read.nd rfl (Or.inl rfl)) (pgs_cons (pg_name (i := 6) sc_count_read.nd rfl (Or.inl rfl)) pgs_nil)))))
  (pss_cons (ps_asg (pe_partnK (pv 4) pe_str) (pg_tupK (K := K) (n := 3) rfl (pgs_cons (pg_name (i := 7) sc_count_read.nd rfl (Or.inl rfl)) (pgs_cons (pg_name (i := 3) sc_count_read.nd rfl (Or.inl rfl)) (pgs_cons (pg_name (i := 8) sc_count_read.nd rfl (Or.inl rfl)) pgs_nil)))))
  (pss_cons (ps_set (i := 9) sc_count_read.nd rfl (Or.inl rfl) (pe_tup (pa_cons (pe_call (ok_number_in (K := K) T) (hr.mono (by omega)) (by rfl) (T.g 19 (by decide)) (T.k 19 (by decide)) (bd_number_in T) .nil pass0 (pa_cons (pv 5) pa_nil)) (pa_cons (pe_call (ok_number_in (K := K) T) (hr.mono (by omega)) (by rfl) (T.g 19 (by decide)) (T.k 19 (by decide)) (bd_number_in T) .nil pass0 (pa_cons (pv 6) pa_nil)) (pa_cons (pe_call (ok_grade_in (K := K) T TM TG) (hr.mono (by omega)) (by rfl) (T.g 21 (by decide)) (T.k 21 (by decide)) (bd_grade_in T) .nil pass0 (pa_cons (pv 7) pa_nil)) pa_nil)))))
  (pss_cons (ps_set (i := 10) sc_count_read.nd rfl (Or.inl rfl) (pe_call (ok_number_in (K := K) T) (hr.mono (by omega)) (by rfl) (T.g 19 (by decide)) (T.k 19 (by decide)) (bd_number_in T) .nil pass0 (pa_cons (pv 8) pa_nil)))
  (pss_cons (ps_if (PW.pt (pw_or (pt_not (pt_val (pe_call (ok_is_stamp (K := K) T TM TG) (hr.mono (by omega)) (by rfl) (T.g 15 (by decide)) (T.k 15 (by decide)) (bd_is_stamp T) .nil pass0 (pa_cons (pv 0) (pa_cons (pv 9) pa_nil))))) (pw_or1 (pt_not (pt_val (pe_call (ok_is_whole_from (K := K) T) (hr.mono (by omega)) (by rfl) (T.g 5 (by decide)) (T.k 5 (by decide)) (bd_is_whole_from T) .nil pass0 (pa_cons (pv 10) (pa_cons pe_int pa_nil))))))))
    (pss_one (ps_rse TE.NoText rfl (takes_of rfl rfl rfl rfl) (by rfl)))
    pss_nil)
  (pss_one (ps_ret (pe_tup (pa_cons (pv 9) (pa_cons (pv 10) pa_nil))))))))))), ?_⟩
  refine bodx2 h fun x y φ ψ hk => ?_
  rw [show st0 nm_count_read [x, y] = [.d x, .d y, .no, .no, .no, .no, .no, .no, .no, .no, .no] from rfl]
  obtain ⟨ss, r, rfl, rfl, ⟨rl, f1, f2, f3⟩, h1, h2⟩ := hk
  unfold dAsgT
  (try dsimp only [dNext, dSeq, dIfS, dB, dOp, dNot, dOr, dAnd, dNotV, dOrV, dAndV, dAsg, dRet, dDrop, dCB, dIf, dTup, dLst, dCons, dNil, wf_d, wf_l, wb_b, wi_i, wt_t, wl_l, wl_d, tupR_t, tupR_l, lstR_t, lstR_l, List.set_cons_zero, List.set_cons_succ])
  refine spc_go (i := 1) (z := r) rfl (by omega) ?_
  refine ⟨rfl, rfl, ?_⟩
  (try dsimp only [dNext, dSeq, dIfS, dB, dOp, dNot, dOr, dAnd, dNotV, dOrV, dAndV, dAsg, dRet, dDrop, dCB, dIf, dTup, dLst, dCons, dNil, wf_d, wf_l, wb_b, wi_i, wt_t, wl_l, wl_d, tupR_t, tupR_l, lstR_t, lstR_l, List.set_cons_zero, List.set_cons_succ])
  unfold cntM rstM rmaM at h1 h2
  obtain ⟨l1, l2⟩ := part_len r spc
  generalize (Txt.partition r spc).1 = p1 at *
  generalize (Txt.partition r spc).2.2 = p2 at *
  obtain ⟨l3, l4⟩ := part_len p1 (Str.ofString ".")
  obtain ⟨l5, l6⟩ := part_len p2 spc
  refine dot_go (i := 2) (z := p1) rfl (by omega) ?_
  refine ⟨rfl, rfl, ?_⟩
  (try dsimp only [dNext, dSeq, dIfS, dB, dOp, dNot, dOr, dAnd, dNotV, dOrV, dAndV, dAsg, dRet, dDrop, dCB, dIf, dTup, dLst, dCons, dNil, wf_d, wf_l, wb_b, wi_i, wt_t, wl_l, wl_d, tupR_t, tupR_l, lstR_t, lstR_l, List.set_cons_zero, List.set_cons_succ])
  generalize (Txt.partition p1 (Str.ofString ".")).1 = q1 at *
  generalize (Txt.partition p1 (Str.ofString ".")).2.2 = q2 at *
  refine spc_go (i := 4) (z := p2) rfl (by omega) ?_
  refine ⟨rfl, rfl, ?_⟩
  (try dsimp only [dNext, dSeq, dIfS, dB, dOp, dNot, dOr, dAnd, dNotV, dOrV, dAndV, dAsg, dRet, dDrop, dCB, dIf, dTup, dLst, dCons, dNil, wf_d, wf_l, wb_b, wi_i, wt_t, wl_l, wl_d, tupR_t, tupR_l, lstR_t, lstR_l, List.set_cons_zero, List.set_cons_succ])
  generalize (Txt.partition p2 spc).1 = q3 at *
  generalize (Txt.partition p2 spc).2.2 = q4 at *
  have g3 : (D.tup [oI (numM q1), oI (numM q2), oI (graM q3)]).good = true := by
    have ho : ∀ o, (oI o).good = true := fun o => by cases o <;> rfl
    refine good_tup (fun x hx => ?_) (show 3 ≤ 100 by decide)
    rcases List.mem_cons.mp hx with rfl | hx
    · exact ho _
    rcases List.mem_cons.mp hx with rfl | hx
    · exact ho _
    · rw [List.mem_singleton.mp hx]
      exact ho _
  refine ⟨rfl, _, rfl, by omega, f1, rfl, _, rfl, by omega, f2, rfl, _, rfl, show 3 ≤ 100000 by decide, rfl, _, rfl, by omega, f3, ?_⟩
  refine ⟨rfl, ss, rfl, g3, ?_⟩
  generalize D.tup [oI (numM q1), oI (numM q2), oI (graM q3)] = st at *
  have ht : (oI (numM q4)).ty.isSome = true := by cases numM q4 <;> rfl
  cases c1 : stB ss st with
  | false => exact wb_t (ifT rfl (ifT rfl (h2 (if_neg fun z => by rw [c1] at z; cases z.1))))
  | true =>
    refine wb_t (ifF rfl ?_)
    refine ⟨rfl, rfl, 1, rfl, ht, ?_⟩
    have em : (match oI (numM q4) with | .int n => decide (n ≥ 1) | _ => false) = from1 (oI (numM q4)) := by
      cases numM q4 <;> rfl
    show wb (.d (.bl (match oI (numM q4) with | .int n => decide (n ≥ 1) | _ => false))) _
    rw [em]
    cases c2 : from1 (oI (numM q4)) with
    | false => exact wb_t (ifT rfl (h2 (if_neg fun z => by rw [c2] at z; cases z.2)))
    | true => exact wb_t (ifF rfl ⟨show 2 ≤ 100000 by decide, h1 _ (if_pos ⟨c1, c2⟩)⟩)
end
end Dl

set_option Elab.async false
set_option maxRecDepth 100000
set_option maxHeartbeats 4000000
set_option linter.all false
set_option synthInstance.maxHeartbeats 4000000
set_option synthInstance.maxSize 10000




namespace Dl
open PySem PySem.Spec PyProof.Rows L2 RZ HmS Da
section
variable {P : Program} {w : World} {K : PySem.W.Frag} [HasT K] {mg : Str → Option Value} {base : Heap} {ad am : Nat → Addr} {fd fm : Nat → FuncData} {C : Addr} {ce : Er}
/-! ### an album read -/
def toRw (x : D) : St3 × Int := match x with
  | .tup [s, .int k] => (toS3 s, k)
  | _ => ((0, 0, 0), 0)
/-- all rows of stamps, if each is one -/
def rowsM (ss : List (Str × Int × Int)) : List Str → Option Cts
  | [] => some []
  | r :: t => match cntM ss r, rowsM ss t with
    | some c, some l => some (toRw c :: l)
    | _, _ => none
theorem dLc_may {vs gv : List Nat} {di : DA} {dg : D → List En → (List En → Prop) → Prop} {de : DT} {Γ Γ1 Γw : List En} {φ : En → List En → Prop} {items : List D} (f : D → Option D) (hgv : (gv.all fun i => vs.contains i) = true) (hdi : ∀ ψ : List D → List En → Prop, ψ items Γ1 → di Γ ψ)
    (hw1 : wipeE Γ1 vs = Γw) (hw : wipeE Γw vs = Γw) (hl : items.length ≤ 100000) (ev : ∀ d ∈ items, ∀ ψ : En → List En → Prop, (∀ e Γ4 y, f d = some y → e.frz = some y → wipeE Γ4 vs = Γw → ψ e Γ4) → dg d Γw fun Γ2 => de Γ2 ψ)
    (k : ∀ ys, items.map f = ys.map some → φ (.lst ys) Γw) : dLc vs gv di dg dYes de Γ φ := by
  refine ⟨hgv, hdi _ ⟨hl, fun i acc Γ' => Γ' = Γw ∧ (items.take i).map f = acc.map some, ⟨hw1, rfl⟩, ?_⟩⟩
  rintro i acc Γ' ⟨rfl, ha⟩
  refine ⟨fun e => ?_, fun d hd => ?_⟩
  · rw [e, List.take_length] at ha
    exact k acc ha
  · rw [hw]
    refine ev d (List.mem_of_getElem? hd) _ fun e Γ4 y h0 h1 h2 => ?_
    have et : items.take (i + 1) = items.take i ++ [d] := by rw [List.take_add_one, hd]; rfl
    exact wf_of h1 ⟨h2, by rw [et, List.map_append, List.map_append, ha, List.map_singleton, List.map_singleton, h0]⟩
theorem cntM_rw {ss : List (Str × Int × Int)} {r : Str} {c : D} (h : cntM ss r = some c) : c = rwD (toRw c) ∧ OkS ss (toRw c).1 ∧ 1 ≤ (toRw c).2 := by
  unfold cntM at h
  split at h
  · rename_i g
    cases h
    have e := stB_st g.1
    have ok : OkS ss (toS3 (rstM r)) := by
      show stB ss (stD (toS3 (rstM r))) = true
      rw [← e]
      exact g.1
    cases hm : rmaM r with
    | int k =>
      have g2 := g.2
      rw [hm] at g2
      refine ⟨?_, ok, of_decide_eq_true g2⟩
      show D.tup [rstM r, .int k] = .tup [stD (toS3 (rstM r)), .int k]
      rw [← e]
    | _ => rw [hm] at g; cases g.2
  · cases h
theorem rowsM_of {ss : List (Str × Int × Int)} : ∀ {rs : List Str} {ys : List D}, rs.map (cntM ss) = ys.map some → rowsM ss rs = some (ys.map toRw)
  | [], [], _ => rfl
  | [], _ :: _, h => by cases h
  | _ :: _, [], h => by cases h
  | r :: rs, y :: ys, h => by
    rw [List.map_cons, List.map_cons] at h
    injection h with h1 h2
    show (match cntM ss r, rowsM ss rs with | some c, some l => some (toRw c :: l) | _, _ => none) = _
    rw [h1, rowsM_of h2]
    rfl
theorem rowsM_none {ss : List (Str × Int × Int)} : ∀ {rs : List Str} {r : Str}, r ∈ rs → cntM ss r = none → rowsM ss rs = none
  | q :: rs, r, h, e => by
    show (match cntM ss q, rowsM ss rs with | some c, some l => some (toRw c :: l) | _, _ => none) = _
    rcases List.mem_cons.mp h with rfl | h
    · rw [e]
    · rw [rowsM_none h e]
      split
      · rename_i h2
        cases h2
      · rfl
theorem ys_rw {ss : List (Str × Int × Int)} {rs : List Str} {ys : List D} (h : rs.map (cntM ss) = ys.map some) : ys = (ys.map toRw).map rwD ∧ ∀ c ∈ ys.map toRw, OkS ss c.1 ∧ 1 ≤ c.2 := by
  have hm : ∀ y ∈ ys, ∃ r, cntM ss r = some y := fun y hy => by
    have : some y ∈ rs.map (cntM ss) := by
      rw [h]
      exact List.mem_map.mpr ⟨y, hy, rfl⟩
    obtain ⟨r, _, e⟩ := List.mem_map.mp this
    exact ⟨r, e⟩
  constructor
  · rw [List.map_map]
    refine (List.map_id ys).symm.trans (List.map_congr_left fun y hy => ?_)
    obtain ⟨r, e⟩ := hm y hy
    exact (cntM_rw e).1
  · intro c hc
    obtain ⟨y, hy, rfl⟩ := List.mem_map.mp hc
    obtain ⟨r, e⟩ := hm y hy
    exact (cntM_rw e).2
theorem small_of {ss : List (Str × Int × Int)} (bk : BkOk ss) : ∀ t ∈ ss, SetSmall t := fun t ht => by
  have k := bk.ok t ht
  have l := (let_len k.le).2
  have y0 := k.y0
  have y1 := k.y1
  have m0 := k.m0
  have m1 := k.m1
  exact ⟨by omega, by omega, by omega⟩
theorem nam_ok {r n : Str} (h : namM r = some n) : n.length ≤ 8 ∧ letB (.str n) 0 8 = true := by
  unfold namM at h
  split at h
  · rename_i g
    cases h
    have := let_len g.2
    exact ⟨by omega, g.2⟩
  · cases h
def kAlbX (C : Addr) (ce : Er) (x : D) (φ : En → Prop) (ψ : Value → Prop) : Prop := ∃ z r0 r1 rs, x = .str z ∧ z.length ≤ 1000000 ∧ Txt.split z "\n" = r0 :: r1 :: rs ∧ r0.length ≤ 1000 ∧ r1.length ≤ 1000 ∧ (Txt.split (Txt.partition r1 spc).2.2 ";").length ≤ 100 ∧ rs.length ≤ 1000 ∧ (∀ r ∈ rs, rwOk r) ∧
  (namM r0 = none → ψ (.ref ce.t)) ∧ (bokM r1 = none → ψ (.ref ce.t)) ∧
  (∀ n b, namM r0 = some n → bokM r1 = some b → ∃ ss, b = bookD ss ∧ BkOk ss ∧ (rowsM ss rs = none → ψ (.ref ce.t)) ∧ ∀ cs, rowsM ss rs = some cs → (∀ c ∈ addL cs, RowSmall c) ∧ (textW n ss (riseA (addL cs)) = z → ∀ p T, φ (.ow (.ins C nsA (osA ss n (addL cs))) (p :: T))) ∧ (textW n ss (riseA (addL cs)) ≠ z → ψ (.ref ce.t)))
theorem ok_album_read_X (T : Txt K mg ad fd) (TM : TxtM K mg C am fm) (TG : TxtG mg) (TE : TxtE K mg ce) : FnOk P w K mg base (L2.CX P w) 10 (ad 29) (fd 29) ps_album_read (spX K (sx1 (kAlbX C ce))) := by
  refine (show Fun K "album_read" "album_read" st_album_read (ad 29) (fd 29) from T.f 29 (by decide)).okX sc_album_read (fun vs H Q E h => lex1 h) (fun cdv A outer s H vs Q E hr h => ?_)
  have hu := hu_of hr
  have hu65 := hu65_of hr
  refine ⟨_, (pss_cons (ps_if (pt_not (pt_val (pe_callB (r := rIsi K) call_isi (by rfl) (T.z 6 (by decide)) (by decide +kernel) (pa_cons (pv 0) (pa_cons (pe_bltn (v := .ty "str") (by rfl) (T.z 8 (by decide)) (by decide +kernel) rfl) pa_nil)))))
    (pss_one (ps_rse TE.NoText rfl (takes_of rfl rfl rfl rfl) (by rfl)))
    pss_nil)
  (pss_cons (ps_set (i := 1) sc_album_read.nd rfl (Or.inl rfl) (pe_splitK (pv 0) pe_str))
  (pss_cons (ps_if (pt_cmpR op_lt (pe_callB (r := Da.rLen K) cl_len (by rfl) (T.z 0 (by decide)) (by decide +kernel) (pa_cons (pv 1) pa_nil)) pe_int (nomark _))
    (pss_one (ps_rse TE.NoText rfl (takes_of rfl rfl rfl rfl) (by rfl)))
    pss_nil)
  (pss_cons (ps_set (i := 2) sc_album_read.nd rfl (Or.inl rfl) (pe_call (ok_name_read_X (K := K) T TE) (hr.mono (by omega)) (by rfl) (T.g 26 (by decide)) (T.k 26 (by decide)) (bd_name_read T) .nil (passes_call (W := fun cls d _ H => E cls d H) (takes_of rfl rfl rfl rfl) fun _ _ _ _ h => h) (pa_cons (pe_ix (r := rIxL K) ix_list (pv 1) pe_int (fun _ _ => rfl)) pa_nil)))
  (pss_cons (ps_set (i := 3) sc_album_read.nd rfl (Or.inr rfl) (pe_call (ok_book_read_X (K := K) T TE) (hr.mono (by omega)) (by rfl) (T.g 27 (by decide)) (T.k 27 (by decide)) (bd_book_read T) .nil (passes_call (W := fun cls d _ H => E cls d H) (takes_of rfl rfl rfl rfl) fun _ _ _ _ h => h) (pa_cons (pe_ix (r := rIxL K) ix_list (pv 1) pe_int (fun _ _ => rfl)) pa_nil)))
  (pss_cons (ps_set (i := 4) sc_album_read.nd rfl (Or.inl rfl) (pe_call (ok_filled_G (K := K) T TM TG) (hr.mono (by omega)) (by rfl) (T.g 17 (by decide)) (T.k 17 (by decide)) (bd_filled T) .nil pass0 (pa_cons (pv 3) (pa_cons (pv 2) (pa_cons (CQ.pe_lcX (E := E) (takes_of rfl rfl rfl rfl) (fun _ _ _ _ h => h) rfl rfl (own := [("row", 5)]) (g := (gName 5)) (tt := tYes) rfl sc_album_read.nd (pi_listK (K := K) (pe_slice (r := rSlL K) sl_list (pv 1) (po_some pe_int) po_none))
      (blkOk_by (N := nm_album_read) (sc := defScope st_album_read) (by decide +kernel)) (fun _ _ _ _ _ => by exact (pg_name (i := 5) sc_album_read.nd rfl (Or.inl rfl))) (fun _ _ _ _ _ => pts_nil)
      (fun _ _ _ _ _ _ hLets => by exact (pe_call (ok_count_read_X (K := K) T TM TG TE) (hr.mono (by omega)) (by rfl) (T.g 28 (by decide)) (T.k 28 (by decide)) (bd_count_read T) .nil hLets (pa_cons (pv 3) (pa_cons (pv 5) pa_nil))))) pa_nil)))))
  (pss_cons (ps_if (pt_cmpR (r := rEqS true) op_neS (pe_brw 4 (pe_call (ok_album_text (K := K) T TM TG) (hr.mono (by omega)) (by rfl) (T.g 25 (by decide)) (T.k 25 (by decide)) (bd_album_text T) .nil pass0 (pa_cons (pv 4) pa_nil))) (pv 0) (nomark _))
    (pss_one (ps_rse TE.NoText rfl (takes_of rfl rfl rfl rfl) (by rfl)))
    pss_nil)
  (pss_one (ps_ret (pv 4)))))))))), ?_⟩
  refine bodx1 h fun x φ ψ hk => ?_
  rw [show st0 nm_album_read [x] = [.d x, .no, .no, .no, .no, .no] from rfl]
  obtain ⟨z, r0, r1, rs, rfl, zl, es, l0, l1, sl, rl, ro, n0, n1, hk⟩ := hk
  refine ⟨by decide, true, rfl, ?_⟩
  refine wb_t (ifF rfl ?_)
  refine ⟨rfl, by decide +kernel, zl, ?_⟩
  rw [es]
  refine ⟨rfl, rfl, ?_⟩
  refine wb_t (ifF (decide_eq_false (by rw [List.length_map, List.length_cons, List.length_cons]; omega)) ?_)
  (try dsimp only [dNext, dSeq, dIfS, dB, dOp, dNot, dOr, dAnd, dNotV, dOrV, dAndV, dAsg, dRet, dDrop, dCB, dIf, dTup, dLst, dCons, dNil, wf_d, wf_l, wb_b, wi_i, wt_t, wl_l, wl_d, tupR_t, tupR_l, lstR_t, lstR_l, List.set_cons_zero, List.set_cons_succ])
  refine ⟨rfl, rfl, .str r0, atI_ok (i := 0) rfl, rfl, ?_⟩
  refine ⟨r0, rfl, l0, fun n hn => ?_, n0⟩
  refine ⟨rfl, rfl, .str r1, atI_ok (i := 1) rfl, rfl, ?_⟩
  refine ⟨r1, rfl, l1, sl, fun b hb => ?_, n1⟩
  obtain ⟨ss, rfl, bk, hn2, hk⟩ := hk n b hn hb
  have sm := small_of bk
  obtain ⟨nl, nlet⟩ := nam_ok hn
  unfold dCall dCons
  (try dsimp only [dNext, dSeq, dIfS, dB, dOp, dNot, dOr, dAnd, dNotV, dOrV, dAndV, dAsg, dRet, dDrop, dCB, dIf, dTup, dLst, dCons, dNil, wf_d, wf_l, wb_b, wi_i, wt_t, wl_l, wl_d, tupR_t, tupR_l, lstR_t, lstR_l, List.set_cons_zero, List.set_cons_succ])
  refine dVar_r (x := bookD ss) rfl ?_
  (try dsimp only [dNext, dSeq, dIfS, dB, dOp, dNot, dOr, dAnd, dNotV, dOrV, dAndV, dAsg, dRet, dDrop, dCB, dIf, dTup, dLst, dCons, dNil, wf_d, wf_l, wb_b, wi_i, wt_t, wl_l, wl_d, tupR_t, tupR_l, lstR_t, lstR_l, List.set_cons_zero, List.set_cons_succ])
  refine dVar_r (x := .str n) rfl ?_
  (try dsimp only [dNext, dSeq, dIfS, dB, dOp, dNot, dOr, dAnd, dNotV, dOrV, dAndV, dAsg, dRet, dDrop, dCB, dIf, dTup, dLst, dCons, dNil, wf_d, wf_l, wb_b, wi_i, wt_t, wl_l, wl_d, tupR_t, tupR_l, lstR_t, lstR_l, List.set_cons_zero, List.set_cons_succ])
  refine dLc_may (items := rs.map .str) (Γ1 := [.d (.str z), .d (.lst ((r0 :: r1 :: rs).map .str)), .d (.str n), .d (bookD ss), .no, .no]) (Γw := [.d (.str z), .d (.lst ((r0 :: r1 :: rs).map .str)), .d (.str n), .d (bookD ss), .no, .no]) (fun x => match x with | .str r => cntM ss r | _ => none) rfl (fun ψ' h => ?_) rfl rfl (by rw [List.length_map]; omega) (fun d hd ψ' q => ?_) (fun ys hys => ?_)
  · refine ⟨rfl, rfl, ?_⟩
    (try dsimp only [dNext, dSeq, dIfS, dB, dOp, dNot, dOr, dAnd, dNotV, dOrV, dAndV, dAsg, dRet, dDrop, dCB, dIf, dTup, dLst, dCons, dNil, wf_d, wf_l, wb_b, wi_i, wt_t, wl_l, wl_d, tupR_t, tupR_l, lstR_t, lstR_l, List.set_cons_zero, List.set_cons_succ])
    have e : cutL ((r0 :: r1 :: rs).map D.str) (some 2) none = rs.map D.str := cutL_from (n := 2)
    rw [e]
    exact h
  · obtain ⟨r, hr, rfl⟩ := List.mem_map.mp hd
    refine ⟨rfl, ss, r, rfl, rfl, ro r hr, fun c hc => q _ _ c hc rfl rfl, fun hc => hn2 (rowsM_none hr hc)⟩
  have hys : rs.map (cntM ss) = ys.map some := by
    rw [List.map_map] at hys
    exact hys
  obtain ⟨ey, oky⟩ := ys_rw hys
  have yl : ys.length ≤ 1000 := by
    have := congrArg List.length hys
    rw [List.length_map, List.length_map] at this
    omega
  obtain ⟨rsm, fin1, fin2⟩ := hk _ (rowsM_of hys)
  have ok := addL_ok (ys.map toRw) oky
  have al := addL_len (ys.map toRw)
  rw [List.length_map] at al
  refine ⟨rfl, ss, n, ys.map toRw, rfl, bk, rfl, nl, nlet, congrArg D.lst ey, oky, by rw [List.length_map]; exact yl, fun p T => ?_⟩
  refine ⟨_, _, rfl, ?_⟩
  rw [alb_dt]
  refine ⟨rfl, ss, n, _, rfl, nl, bk.l1, sm, by omega, ok.nd, rsm, ?_⟩
  (try dsimp only [dNext, dSeq, dIfS, dB, dOp, dNot, dOr, dAnd, dNotV, dOrV, dAndV, dAsg, dRet, dDrop, dCB, dIf, dTup, dLst, dCons, dNil, wf_d, wf_l, wb_b, wi_i, wt_t, wl_l, wl_d, tupR_t, tupR_l, lstR_t, lstR_l, List.set_cons_zero, List.set_cons_succ])
  unfold immE
  (try dsimp only [dNext, dSeq, dIfS, dB, dOp, dNot, dOr, dAnd, dNotV, dOrV, dAndV, dAsg, dRet, dDrop, dCB, dIf, dTup, dLst, dCons, dNil, wf_d, wf_l, wb_b, wi_i, wt_t, wl_l, wl_d, tupR_t, tupR_l, lstR_t, lstR_l, List.set_cons_zero, List.set_cons_succ])
  refine ⟨rfl, dVar_r (x := .str z) rfl ?_⟩
  (try dsimp only [dNext, dSeq, dIfS, dB, dOp, dNot, dOr, dAnd, dNotV, dOrV, dAndV, dAsg, dRet, dDrop, dCB, dIf, dTup, dLst, dCons, dNil, wf_d, wf_l, wb_b, wi_i, wt_t, wl_l, wl_d, tupR_t, tupR_l, lstR_t, lstR_l, List.set_cons_zero, List.set_cons_succ])
  refine eqS_b ?_
  by_cases he : textW n ss (riseA (addL (ys.map toRw))) = z
  · exact wb_t (ifF (by simp [he]) ⟨_, rfl, (fun z => nomatch z), fin1 he p T⟩)
  · exact wb_t (ifT (by simp [he]) (fin2 he))
end
end Dl

set_option Elab.async false
set_option maxRecDepth 100000
set_option maxHeartbeats 4000000
set_option linter.all false
/-! try: return e / except C: return None -/
namespace Da
open PySem PySem.Spec PyProof.Rows L2 RZ HmS
def tTryRN (K : PySem.W.Frag) (CS : Addr) (t : XK → TE) : TS := fun D σ H => ∃ Ech : XK, (∀ cls d H', Ech cls d H' → ∃ b, PySem.W.exmOne K cls (.ref CS) = some b ∧ (b = true → D.rt .non H') ∧ (b = false → False)) ∧ t Ech σ H D.rt
theorem ps_tryRN {X : Cx} {K : PySem.W.Frag} {x : Str} {CS : Addr} {e : Expr} {t : XK → TE} {rp rp2 np pos pos' cp : Pos} {j : Nat} (hs : X.stack = X.env :: X.outer) (hf : X.env.frame = some X.env.locals) (hc : Names X x (.ref CS))
    (he : ∀ (W : WX) (pn : List (Addr × Obj)) (xe : Value → Shared → Prop) (Ech : XK), Takes (X.tr pn xe) W → (∀ cls d σ H, Ech cls d H → W cls d σ H) → PE (X.tr pn xe) e (t Ech)) (hK : X.K = K := by rfl) :
    PS X (.Try [.Return (some e) rp] [.ExceptHandler (some (.Name x np)) none [.Return (some (.Constant .none j cp)) rp2] pos'] [] [] pos) (tTryRN K CS t) := by
  subst hK
  have base := ps_try_only (X := X) (x := x) (c := .ref CS) (np := np) (pos := pos) (pos' := pos') (body := [.Return (some e) rp]) (b₀ := .Return (some (.Constant .none j cp)) rp2) (suite := []) (Wout := fun _ _ _ _ => False) (tb := fun W D σ H => ∃ Ech : XK, (∀ cls d σ' H', Ech cls d H' → W cls d σ' H') ∧ t Ech σ H D.rt)
    (ts := fun _ _ _ => tRet (tC .non)) hs hf hc LamX.takes0 (fun W pn xe tk _ => ⟨fun pins s' σ H' D I h' => by
      obtain ⟨Ech, hW, h3⟩ := h'
      exact (pss_one (ps_ret (pos := rp) (he W pn xe Ech tk hW))).run pins s' σ H' D I h3⟩) (fun a oe cls d pn _ _ => pss_one (ps_ret pe_non))
  refine ⟨fun pins s σ H D I h => base.run pins s σ H D I ?_⟩
  obtain ⟨Ech, h1, h2⟩ := h
  refine ⟨Ech, fun cls d σ' H' z => ?_, h2⟩
  obtain ⟨b, e1, e2, e3⟩ := h1 cls d H' z
  exact ⟨b, e1, fun hb a _ => e2 hb, fun hb => e3 hb⟩
section
variable {K : PySem.W.Frag} [HasT K]
theorem Held.up {c : Ct K} {F1 F2 H1 H2 : Hp} {e : En} {v : V} (k : ∀ a, ntH H1 a = none → c.H0 a = none) (h : Held (c0 K F1 H1) F2 H2 e v) : Held c F2 H2 e v := by
  cases e with
  | no => trivial
  | d x => exact h
  | lst ds =>
    obtain ⟨a, vs, h1, h2, h3, h4⟩ := h
    exact ⟨a, vs, h1, h2, k a h3, h4⟩
  | dK ks ds =>
    obtain ⟨a, vs, h1, h2, h3, h4⟩ := h
    exact ⟨a, vs, h1, h2, k a h3, h4⟩
  | dT ks ds =>
    obtain ⟨a, vs, h1, h2, h3, h4⟩ := h
    exact ⟨a, vs, h1, h2, k a h3, h4⟩
  | pen =>
    obtain ⟨a, h1, h2, h3, h4⟩ := h
    exact ⟨a, h1, h2, .inl (k a (h3.elim id fun z => nomatch z)), h4⟩
  | scr ns =>
    obtain ⟨a, h1, h2⟩ := h
    cases h2
  | ow o S =>
    obtain ⟨h1, h2, h3⟩ := h
    exact ⟨h1, h2, fun a m => k a (h3 a m)⟩
  | nd ks ds =>
    obtain ⟨a, vs, h1, h2, h3, h4⟩ := h
    exact ⟨a, vs, h1, h2, k a h3, h4⟩
def dTryRN (K : PySem.W.Frag) (CS : Addr) (den : (Value → Prop) → DT) : DSt := fun Γ P => PySem.W.exmOne K (.ref CS) (.ref CS) = some true ∧ ∃ fs : List Nat, dFz fs Γ fun Γ0 =>
  ∃ ψ : Value → Prop, (∀ C, ψ C → C = .ref CS ∧ P.rt (.d .non) Γ0) ∧ den ψ (Γ0.map onlyE) fun e _ => P.rt e Γ0
instance snds_tryRN {E : XK} {ψ : Value → Prop} {CS : Addr} {t : XK → TE} {den : (Value → Prop) → DT} [s : ∀ E' ψ', Snd K E' ψ' (t E') (den ψ')] : SndS K E ψ (tTryRN K CS t) (dTryRN K CS den) := ⟨fun {c F H σ Γ P D} I eo h m => by
  obtain ⟨ex1, fs, h⟩ := h
  obtain ⟨F1, Γ0, I1, s1, ψ', h1, h2⟩ := fz_is I h
  have bk : ∀ {H2 : Hp}, NS H H2 → TbOk K H2 → Is c F1 H2 σ Γ0 := fun {H2} s2 t2 => I1.growN (Same.refl F1) s2 t2 (fun a o e => s2 a o (I1.fn a o e) (I1.fh a o e)) I1.fn fun a o e => .inl e
  have lo : ∀ a, ntH H a = none → c.H0 a = none := fun a z => by
    cases q : c.H0 a with
    | none => rfl
    | some o =>
      by_cases p : c.pn = some a
      · obtain ⟨_, ⟨i1, i2, i3, i4, hp, _⟩, _⟩ := I1.pp a p
        rw [ntH_of hp (fun _ z => nomatch z)] at z
        cases z
      · rw [ntH_of (I1.h0 a o p q) (I1.hn a o q)] at z
        cases z
  refine ⟨fun cls _ H' => ∃ b, PySem.W.exmOne K cls (.ref CS) = some b ∧ (b = true → D.rt .non H') ∧ (b = false → False), fun cls d H' z => z, ?_⟩
  refine (s _ ψ').run (I1.only (NS.refl H) I1.tb) (fun C H' k _ t2 z => ?_) h2 fun F2 H2 v e Γ2 I2 s2 r2 z => ?_
  · obtain ⟨rfl, hφ⟩ := h1 C z
    exact ⟨true, ex1, fun _ => m.rt _ _ _ _ _ (.d .non) (bk (fun b o n e => k b o (fun z => nomatch z) (ntH_of e n)) t2) (.non : Rep F1 .non .non) (fun z => nomatch z) hφ, fun z => by cases z⟩
  · have sh2 : NS H H2 := fun b o n e => I2.h0 b o (fun z => nomatch z) (ntH_of e n)
    have I3 : Is c F2 H2 σ Γ0 := I1.growN s2 sh2 I2.tb I2.fh I2.fn fun a o e => (I2.nw a o e).imp id fun w => w
    exact m.rt F2 H2 _ _ v e I3 (r2.1.up lo) r2.2.1 z⟩
end
end Da

set_option Elab.async false
set_option maxRecDepth 100000
set_option maxHeartbeats 4000000
set_option linter.all false
namespace Dl
open PySem PySem.Spec PyProof.Rows L2 RZ HmS Da
/-! ### alike counts, counts less -/
def eqC (as bs : Cts) : Bool := HmQ.sameD (as.map kcT) (bs.map kcT)
theorem find_kcT (s : St3) : ∀ ds : Cts, ((ds.map kcT).find? fun z => decide (z.1 = keyT s)) = (getA ds s).map fun n => (keyT s, n)
  | [] => rfl
  | (t, n) :: r => by
    show List.find? _ (kcT (t, n) :: r.map kcT) = (if t = s then some n else getA r s).map _
    by_cases c : t = s
    · rw [if_pos c, List.find?_cons_of_pos (by show decide (keyT t = keyT s) = true; simp [c]), ← c]
      rfl
    · rw [if_neg c, List.find?_cons_of_neg (by show ¬ decide (keyT t = keyT s) = true; simpa using fun z => c (keyT_inj z))]
      exact find_kcT s r
theorem eqC_all (cs ds : Cts) : eqC cs ds = true ↔ cs.length = ds.length ∧ ∀ c ∈ cs, getA ds c.1 = some c.2 := by
  unfold eqC HmQ.sameD
  rw [Bool.and_eq_true, List.length_map, List.length_map, beq_iff_eq, List.all_eq_true]
  refine and_congr_right fun _ => ⟨fun h c hc => ?_, fun h e he => ?_⟩
  · have := h (kcT c) (List.mem_map.mpr ⟨c, hc, rfl⟩)
    rw [show (kcT c).1 = keyT c.1 from rfl, find_kcT] at this
    cases e : getA ds c.1 with
    | none =>
      rw [e] at this
      cases this
    | some n =>
      rw [e] at this
      have : (c.2 == n) = true := this
      rw [beq_iff_eq.mp this]
  · obtain ⟨c, hc, rfl⟩ := List.mem_map.mp he
    rw [show (kcT c).1 = keyT c.1 from rfl, find_kcT, h c hc]
    show (c.2 == c.2) = true
    exact beq_self_eq_true _
theorem cntA_mem {ok : St3 → Prop} {cs : Cts} (h : CtOk ok cs) {c : St3 × Int} (hc : c ∈ cs) : cntA cs c.1 = c.2 := by
  unfold cntA
  rw [get_nd h.nd hc]
  rfl
theorem cntA_no {cs : Cts} {s : St3} (h : s ∉ cs.map (·.1)) : cntA cs s = 0 := by
  unfold cntA
  cases e : getA cs s with
  | none => rfl
  | some n => exact absurd (List.mem_map.mpr ⟨_, getA_mem e, rfl⟩) h
theorem getA_cnt {ok : St3 → Prop} {cs : Cts} (h : CtOk ok cs) (s : St3) : getA cs s = if cntA cs s = 0 then none else some (cntA cs s) := by
  unfold cntA
  cases e : getA cs s with
  | none => rfl
  | some n =>
    have z := h.pos _ (getA_mem e)
    have z : 1 ≤ n := z
    show some n = if n = 0 then none else some n
    rw [if_neg (by omega)]
theorem perm_cnt {ok ok' : St3 → Prop} {as bs : Cts} (ha : CtOk ok as) (hb : CtOk ok' bs) (h : ∀ s, cntA as s = cntA bs s) : as.Perm bs := by
  have sub : ∀ {ok ok' : St3 → Prop} {as bs : Cts}, CtOk ok as → CtOk ok' bs → (∀ s, cntA as s = cntA bs s) → ∀ c ∈ as, c ∈ bs := fun {ok ok' as bs} ha hb h c hc => by
    have g := getA_cnt hb c.1
    rw [← h, cntA_mem ha hc] at g
    have := ha.pos c hc
    rw [if_neg (by omega)] at g
    exact getA_mem g
  have nda : as.Nodup := List.Pairwise.of_map (S := fun a b => a ≠ b) (fun c : St3 × Int => c.1) (fun a b z w => z (by rw [w])) ha.nd
  have ndb : bs.Nodup := List.Pairwise.of_map (S := fun a b => a ≠ b) (fun c : St3 × Int => c.1) (fun a b z w => z (by rw [w])) hb.nd
  exact (List.perm_ext_iff_of_nodup nda ndb).mpr fun c => ⟨sub ha hb h c, sub hb ha (fun s => (h s).symm) c⟩
theorem eqC_iff {ok ok' : St3 → Prop} {as bs : Cts} (ha : CtOk ok as) (hb : CtOk ok' bs) : eqC as bs = true ↔ ∀ s, cntA as s = cntA bs s := by
  rw [eqC_all]
  constructor
  · rintro ⟨hl, h⟩ s
    by_cases m : s ∈ as.map (·.1)
    · obtain ⟨c, hc, rfl⟩ := List.mem_map.mp m
      rw [cntA_mem ha hc]
      unfold cntA
      rw [h c hc]
      rfl
    · rw [cntA_no m]
      refine (cntA_no fun m2 => ?_).symm
      have nd : (s :: as.map (·.1)).Nodup := List.nodup_cons.mpr ⟨m, ha.nd⟩
      have sub : (s :: as.map (·.1)) ⊆ bs.map (·.1) := by
        intro t ht
        rcases List.mem_cons.mp ht with rfl | ht
        · exact m2
        · obtain ⟨c, hc, rfl⟩ := List.mem_map.mp ht
          exact List.mem_map.mpr ⟨_, getA_mem (h c hc), rfl⟩
      have := nd.length_le_of_subset sub
      rw [List.length_cons, List.length_map, List.length_map] at this
      omega
  · intro h
    have p := perm_cnt ha hb h
    exact ⟨p.length_eq, fun c hc => get_nd hb.nd (p.mem_iff.mp hc)⟩
def takeA (cs : Cts) (s : St3) (m : Int) : Cts := if cntA cs s - m = 0 then delA cs s else putA cs s (cntA cs s - m)
theorem CtOk.filt {ok : St3 → Prop} {cs : Cts} (h : CtOk ok cs) (f : St3 × Int → Bool) : CtOk ok (cs.filter f) :=
  ⟨h.nd.sublist ((List.filter_sublist (p := f)).map _), fun c hc => h.pos c (List.mem_filter.mp hc).1, fun c hc => h.st c (List.mem_filter.mp hc).1⟩
theorem CtOk.take {ok : St3 → Prop} {cs : Cts} (h : CtOk ok cs) {s : St3} (hs : ok s) {m : Int} (hm : m ≤ cntA cs s) : CtOk ok (takeA cs s m) := by
  unfold takeA
  by_cases e : cntA cs s - m = 0
  · rw [if_pos e]
    exact h.filt _
  · rw [if_neg e]
    exact h.put hs (by omega)
theorem cnt_perm {ok : St3 → Prop} {as bs : Cts} (ha : CtOk ok as) (p : as.Perm bs) (s : St3) : cntA as s = cntA bs s := by
  have hb : CtOk ok bs := ha.perm p.symm
  by_cases m : s ∈ as.map (·.1)
  · obtain ⟨c, hc, rfl⟩ := List.mem_map.mp m
    rw [cntA_mem ha hc, cntA_mem hb (p.mem_iff.mp hc)]
  · rw [cntA_no m, cntA_no fun z => m ((p.map _).mem_iff.mpr z)]
theorem rise_ext {ok ok' : St3 → Prop} {as bs : Cts} (ha : CtOk ok as) (hb : CtOk ok' bs) (h : ∀ s, cntA as s = cntA bs s) : riseA as = riseA bs := by
  have p : (riseA as).Perm (riseA bs) := (riseA_perm as).trans ((perm_cnt ha hb h).trans (riseA_perm bs).symm)
  exact List.Perm.eq_of_pairwise (le := stLt) (fun a b _ _ h h' => (stLt_asym h h').elim) (riseA_rise ha.nd) (riseA_rise hb.nd) p
end Dl

set_option Elab.async false
set_option maxRecDepth 100000
set_option maxHeartbeats 4000000
set_option linter.all false
set_option synthInstance.maxHeartbeats 4000000
set_option synthInstance.maxSize 10000




namespace Dl
open PySem PySem.Spec PyProof.Rows L2 RZ HmS Da
section
variable {P : Program} {w : World} {K : PySem.W.Frag} [HasT K] {mg : Str → Option Value} {base : Heap} {ad am : Nat → Addr} {fd fm : Nat → FuncData} {C : Addr} {ce : Er}
theorem ok__law_list_text (T : Txt K mg ad fd) : FnOk P w K mg base CX0 1 (ad 34) (fd 34) ps__law_list_text (spX K (sp1 kLw)) := by
  refine (show Fun K "_law_list_text" "_law_list_text" st__law_list_text (ad 34) (fd 34) from T.f 34 (by decide)).ok sc__law_list_text (fun vs H Q E h => len1 h) (fun cdv A outer s H vs Q E hr h => ?_)
  have hu := hu_of hr
  have hu65 := hu65_of hr
  refine ⟨_, (pss_one (ps_ret (pe_joinK (K := K) pe_str (pe_lc (own := [("_law_land", 1), ("_law_year", 2), ("_law_many", 3)]) (g := (gTup K 3 (gCons (gName 1) (gCons (gName 2) (gCons (gName 3) gNil))))) (tt := tYes) rfl sc__law_list_text.nd (pi_tupK (K := K) (pv 0))
      (blkOk_by (N := nm__law_list_text) (sc := defScope st__law_list_text) (by decide +kernel)) (fun _ _ _ _ _ => by exact (pg_tupK (K := K) (n := 3) rfl (pgs_cons (pg_name (i := 1) sc__law_list_text.nd rfl (Or.inl rfl)) (pgs_cons (pg_name (i := 2) sc__law_list_text.nd rfl (Or.inl rfl)) (pgs_cons (pg_name (i := 3) sc__law_list_text.nd rfl (Or.inl rfl)) pgs_nil))))) (fun _ _ _ _ _ => pts_nil)
      (fun _ _ _ _ _ => by exact (pe_op (r := Da.rAddS) op_addS (pe_op (r := Da.rAddS) op_addS (pe_op (r := Da.rAddS) op_addS (pe_op (r := Da.rAddS) op_addS (pv 1) pe_str) (pe_callTy (r := rStrI) cl_strI (by rfl) (T.z 8 (by decide)) (by decide +kernel) (pa_cons (pv 2) pa_nil))) pe_str) (pe_callTy (r := rStrI) cl_strI (by rfl) (T.z 8 (by decide)) (by decide +kernel) (pa_cons (pv 3) pa_nil)))))))), ?_⟩
  refine body1 h fun x φ hk => ?_
  rw [show st0 nm__law_list_text [x] = [.d x, .no, .no, .no] from rfl]
  obtain ⟨ss, rfl, sl, sm, hk⟩ := hk
  have c1 : (Str.ofString "\n").length = 1 := by decide +kernel
  have c2 : (Str.ofString " ").length = 1 := by decide +kernel
  unfold dRet
  refine join_c ?_
  refine dLc_pure (items := ss.map setD) (Γ1 := [.d (bookD ss), .no, .no, .no]) (Γw := [.d (bookD ss), .no, .no, .no]) (fun x => .str (setW (toSet x))) rfl (fun ψ h => ?_) rfl rfl (by rw [List.length_map]; omega) (fun d hd ψ q => ?_) ?_
  · exact h
  · obtain ⟨t, ht, rfl⟩ := List.mem_map.mp hd
    obtain ⟨h1, h2, h3⟩ := sm t ht
    have e2 : (Str.ofString (toString t.2.1)).length ≤ 1921 := tI_len h2
    have e3 : (Str.ofString (toString t.2.2)).length ≤ 1921 := tI_len h3
    refine ⟨rfl, rfl, rfl, by show t.1.length + (Str.ofString " ").length ≤ _; omega, log_of h2, ?_⟩
    refine ⟨by simp only [str_app]; show _ + (Str.ofString " ").length + _ ≤ _; omega, rfl, ?_⟩
    refine ⟨by simp only [str_app]; show _ + (Str.ofString " ").length + _ + (Str.ofString " ").length ≤ _; omega, log_of h3, ?_⟩
    refine ⟨by simp only [str_app]; show _ + (Str.ofString " ").length + _ + (Str.ofString " ").length + _ ≤ _; omega, ?_⟩
    exact q _ _ rfl rfl
  · refine ⟨ss.map setW, .inl ?_, ?_, hk⟩
    · show some (D.lst ((ss.map setD).map fun x => .str (setW (toSet x)))) = some (.lst ((ss.map setW).map .str))
      rw [List.map_map, List.map_map]
      rfl
    · have z := sum_le (fun y : Str => y.length) 5000 (ss.map setW) fun a ha => by
        obtain ⟨t, ht, rfl⟩ := List.mem_map.mp ha
        exact setW_len (sm t ht)
      have d1 : (Str.ofString ";").length = 1 := by decide +kernel
      have l : (ss.map setW).length = ss.length := List.length_map _
      rw [l] at z ⊢
      rw [d1]
      omega
theorem putA_le {cs : Cts} {s : St3} {m b : Int} (h : ∀ c ∈ cs, c.2 ≤ b) (hm : m ≤ b) : ∀ c ∈ putA cs s m, c.2 ≤ b := by
  unfold putA
  intro c hc
  split at hc
  · obtain ⟨d, hd, rfl⟩ := List.mem_map.mp hc
    split
    · exact hm
    · exact h d hd
  · rcases List.mem_append.mp hc with hc | hc
    · exact h c hc
    · rw [List.mem_singleton.mp hc]
      exact hm
def kCnt5 (x : D) (φ : En → Prop) : Prop := ∃ ss, x = bookD ss ∧ BkOk ss ∧ ∀ cs : Cts, CtOk (OkS ss) cs → cs.length ≤ 48 → (∀ c ∈ cs, c.2 ≤ 5) → φ (.dT (kyA cs) (vlA cs))
theorem ok__law_counts_B (T : Txt K mg ad fd) : FnOk P w K mg base CX0 5 (ad 36) (fd 36) ps__law_counts (spP K (pp1 kCnt5)) := by
  refine (show Fun K "_law_counts" "_law_counts" st__law_counts (ad 36) (fd 36) from T.f 36 (by decide)).ok sc__law_counts (fun vs H Q E h => lep1 h) (fun cdv A outer s H vs Q E hr h => ?_)
  have hu := hu_of hr
  have hu65 := hu65_of hr
  refine ⟨_, (pss_cons (ps_set (i := 2) sc__law_counts.nd rfl (Or.inl rfl) pe_dnewT)
  (pss_cons (ps_for PassesOwn.never rfl (pi_listK (K := K) (pe_call (ok__law_places (K := K) T) (hr.mono (by omega)) (by rfl) (T.g 35 (by decide)) (T.k 35 (by decide)) (bd__law_places T) .nil pass0 (pa_cons (pv 1) pa_nil))) (pg_name (i := 3) sc__law_counts.nd rfl (Or.inl rfl))
    (pss_one (ps_if (pt_cmpR op_gt (pe_call (ok__law_draw (K := K) T) (hr.mono (by omega)) (by rfl) (T.g 32 (by decide)) (T.k 32 (by decide)) (bd__law_draw T) .nil pass0 (pa_cons (pv 0) (pa_cons pe_int pa_nil))) pe_int (nomark _))
    (pss_one (ps_for PassesOwn.never rfl (pi_range1 (by rfl) (T.z 2 (by decide)) (pa_cons pe_int pa_nil)) (pg_name (i := 4) sc__law_counts.nd rfl (Or.inl rfl))
    (pss_cons (ps_set (i := 5) sc__law_counts.nd rfl (Or.inl rfl) (pe_ix (r := rIxL K) ix_list (pe_lst (pa_cons pe_int (pa_cons pe_int (pa_cons pe_int (pa_cons pe_int (pa_cons (pe_op op_add pe_int (pe_call (ok__law_draw (K := K) T) (hr.mono (by omega)) (by rfl) (T.g 32 (by decide)) (T.k 32 (by decide)) (bd__law_draw T) .nil pass0 (pa_cons (pv 0) (pa_cons pe_int pa_nil)))) pa_nil)))))) (pe_call (ok__law_draw (K := K) T) (hr.mono (by omega)) (by rfl) (T.g 32 (by decide)) (T.k 32 (by decide)) (bd__law_draw T) .nil pass0 (pa_cons (pv 0) (pa_cons pe_int pa_nil))) (fun _ _ => rfl)))
  (pss_one (ps_if (pt_cmpR op_gt (pv 5) pe_int (nomark _))
    (pss_one (ps_dputT hu (pv 2) (pe_op (r := rCatA K) op_catA (pv 3) (pe_tup (pa_cons (pv 4) pa_nil))) (pv 5) rfl))
    pss_nil)))))
    pss_nil)))
  (pss_one (ps_ret (pv 2))))), ?_⟩
  refine bodp1 h fun x φ hk => ?_
  rw [show stP nm__law_counts [x] = [.pen, .d x, .no, .no, .no, .no] from rfl]
  obtain ⟨ss, rfl, bk, hk⟩ := hk
  have p24 := bk.plc
  refine ⟨rfl, ss, rfl, bk, ?_⟩
  refine ⟨fun i Γ => ∃ (cs : Cts) (v3 v4 v5 : En), Γ = [.pen, .d (bookD ss), .dT (kyA cs) (vlA cs), v3, v4, v5] ∧ CtOk (OkS ss) cs ∧ cs.length ≤ 2 * i ∧ (∀ c ∈ cs, c.2 ≤ 5), ⟨[], _, _, _, rfl, .nil, Nat.le_refl _, fun _ h => nomatch h⟩, ?_⟩
  rintro i Γ ⟨cs, v3, v4, v5, rfl, ok, cl, c5⟩
  refine ⟨fun e => ?_, fun d hd => ?_⟩
  · have e : i = ((plcA 0 ss).map plD).length := e
    rw [List.length_map] at e
    exact ⟨_, rfl, (fun z => nomatch z), (fun z => nomatch z), hk cs ok (by omega) c5⟩
  · have hd : ((plcA 0 ss).map plD)[i]? = some d := hd
    obtain ⟨p, hp, rfl⟩ := at_map hd
    have pm := List.mem_of_getElem? hp
    have il := (List.getElem?_eq_some_iff.mp hp).1
    have stay : ∀ (v3 v4 v5 : En), ∃ (cs' : Cts) (w3 w4 w5 : En), ([En.pen, .d (bookD ss), .dT (kyA cs) (vlA cs), v3, v4, v5] : List En) = [.pen, .d (bookD ss), .dT (kyA cs') (vlA cs'), w3, w4, w5] ∧ CtOk (OkS ss) cs' ∧ cs'.length ≤ 2 * (i + 1) ∧ (∀ c ∈ cs', c.2 ≤ 5) := fun v3 v4 v5 => ⟨cs, _, _, _, rfl, ok, by omega, c5⟩
    refine ⟨rfl, rfl, rfl, rfl, 3, rfl, by decide, by decide, fun r r0 r1 => ?_⟩
    refine ⟨rfl, rfl, ?_⟩
    refine ifB (fun _ => ?_) (fun _ => stay _ _ _)
    refine ⟨rfl, by decide, by decide, ?_⟩
    refine ⟨fun j Γ => ∃ (cs' : Cts) (w4 w5 : En), Γ = [.pen, .d (bookD ss), .dT (kyA cs') (vlA cs'), .d (plD p), w4, w5] ∧ CtOk (OkS ss) cs' ∧ cs'.length ≤ 2 * i + j ∧ (∀ c ∈ cs', c.2 ≤ 5), ⟨cs, _, _, rfl, ok, cl, c5⟩, ?_⟩
    rintro j Γ ⟨cs', w4, w5, rfl, ok', cl', c5'⟩
    refine ⟨fun e => ?_, fun g hg => ?_⟩
    · have e : j = (upI 0 (2 : Int).toNat).length := e
      rw [upI_len] at e
      exact ⟨cs', _, _, _, rfl, ok', by have : (2 : Int).toNat = 2 := rfl; omega, c5'⟩
    · obtain ⟨jl, rfl⟩ := upI_get hg
      have jl : j < 2 := jl
      refine ⟨rfl, rfl, rfl, rfl, rfl, rfl, rfl, rfl, rfl, 5, rfl, by decide, by decide, fun m m0 m1 => ?_⟩
      refine ⟨rfl, show 5 ≤ 100000 by decide, ?_⟩
      refine ⟨rfl, rfl, rfl, rfl, 5, rfl, by decide, by decide, fun u u0 u1 => ?_⟩
      obtain ⟨n, hn, n0, n5⟩ : ∃ n : Int, atI [D.int 0, .int 1, .int 1, .int 2, .int (1 + m)] u = some (.int n) ∧ 0 ≤ n ∧ n ≤ 5 := by
        have : u = 0 ∨ u = 1 ∨ u = 2 ∨ u = 3 ∨ u = 4 := by omega
        rcases this with rfl | rfl | rfl | rfl | rfl <;> exact ⟨_, rfl, by omega, by omega⟩
      refine ⟨.int n, hn, rfl, rfl, ?_⟩
      have stay' : ∃ (cs'' : Cts) (w4 w5 : En), ([En.pen, .d (bookD ss), .dT (kyA cs') (vlA cs'), .d (plD p), .d (.int (0 + (j : Int))), .d (.int n)] : List En) = [.pen, .d (bookD ss), .dT (kyA cs'') (vlA cs''), .d (plD p), w4, w5] ∧ CtOk (OkS ss) cs'' ∧ cs''.length ≤ 2 * i + (j + 1) ∧ (∀ c ∈ cs'', c.2 ≤ 5) := ⟨cs', _, _, rfl, ok', by omega, c5'⟩
      refine ifB (fun c => ?_) (fun _ => stay')
      have c : decide (0 < n) = true := c
      have n1 : 1 ≤ n := by have := of_decide_eq_true c; omega
      refine ⟨⟨_, _, rfl⟩, show 1 ≤ 100000 by decide, show 2 + 1 ≤ 1000000 by decide, _, _, keyT (p.1, p.2, 0 + (j : Int)), rfl, rfl, by rw [kyA_len]; omega, ?_⟩
      obtain ⟨p1, p2⟩ := put_A cs' (p.1, p.2, 0 + (j : Int)) n
      have e1 : En.dT (putTs (kyA cs') (keyT (p.1, p.2, 0 + (j : Int)))) (putTD (kyA cs') (vlA cs') (keyT (p.1, p.2, 0 + (j : Int))) (.int n)) = .dT (kyA (putA cs' (p.1, p.2, 0 + (j : Int)) n)) (vlA (putA cs' (p.1, p.2, 0 + (j : Int)) n)) := by rw [p1, p2]
      refine ⟨putA cs' (p.1, p.2, 0 + (j : Int)) n, .d (.int (0 + (j : Int))), .d (.int n), congrArg (fun x : En => ([En.pen, .d (bookD ss), x, .d (plD p), .d (.int (0 + (j : Int))), .d (.int n)] : List En)) e1, ok'.put (okS_of pm (by omega) (by omega)) n1, ?_, putA_le c5' n5⟩
      have := putA_len cs' (p.1, p.2, 0 + (j : Int)) n
      omega
def kTxt (s c n : D) (φ : En → Prop) : Prop := ∃ nm ss cs, s = bookD ss ∧ n = .str nm ∧ c = .dT (kyA cs) (vlA cs) ∧ nm.length ≤ 8 ∧ ss.length ≤ 4 ∧ (∀ t ∈ ss, SetSmall t) ∧ (cs.map (·.1)).Nodup ∧ cs.length ≤ 1000 ∧ (∀ c ∈ cs, RowSmall c) ∧ φ (.d (.str (textW nm ss (riseA cs))))
theorem ok__law_text (T : Txt K mg ad fd) : FnOk P w K mg base CX0 3 (ad 38) (fd 38) ps__law_text (spX K (sp3 kTxt)) := by
  refine (show Fun K "_law_text" "_law_text" st__law_text (ad 38) (fd 38) from T.f 38 (by decide)).ok sc__law_text (fun vs H Q E h => len3 h) (fun cdv A outer s H vs Q E hr h => ?_)
  have hu := hu_of hr
  have hu65 := hu65_of hr
  refine ⟨_, (pss_cons (ps_set (i := 3) sc__law_text.nd rfl (Or.inl rfl) (pe_lst (pa_cons pe_str (pa_cons (pe_op (r := Da.rAddS) op_addS pe_str (pe_call (ok__law_list_text (K := K) T) (hr.mono (by omega)) (by rfl) (T.g 34 (by decide)) (T.k 34 (by decide)) (bd__law_list_text T) .nil pass0 (pa_cons (pv 0) pa_nil))) pa_nil))))
  (pss_cons (ps_if (pt_cmpR (r := rEqS true) op_neS (pv 2) pe_str (nomark _))
    (pss_one (ps_asg (pe_op (r := Da.rAddS) op_addS pe_str (pv 2)) (pg_sub (pv 3) pe_int set_list)))
    pss_nil)
  (pss_cons (ps_for PassesOwn.never rfl (pi_listK (K := K) (pe_callB (r := rSortL K) (cr_sortL hr.units) (by rfl) (T.z 3 (by decide)) (by decide +kernel) (pa_cons (pe_callTy (r := rListT) (cl_listT rfl) (by rfl) (T.z 14 (by decide)) (by decide +kernel) (pa_cons (pv 1) pa_nil)) pa_nil))) (pg_name (i := 4) sc__law_text.nd rfl (Or.inl rfl))
    (pss_cons (ps_par (i := 5) (j := 6) (by rfl) sc__law_text.nd rfl rfl (by decide) rfl rfl (pa_cons (pe_op (r := Da.rAddS) op_addS (pe_op (r := Da.rAddS) op_addS (pe_callTy (r := rStrI) cl_strI (by rfl) (T.z 8 (by decide)) (by decide +kernel) (pa_cons (pe_ix (r := rIxT K) ix_tup (pv 4) pe_int (fun _ _ => rfl)) pa_nil)) pe_str) (pe_callTy (r := rStrI) cl_strI (by rfl) (T.z 8 (by decide)) (by decide +kernel) (pa_cons (pe_ix (r := rIxT K) ix_tup (pv 4) pe_int (fun _ _ => rfl)) pa_nil))) (pa_cons (pe_ix (r := rIxL K) ix_list (pe_lst (pa_cons pe_str (pa_cons pe_str pa_nil))) (pe_ix (r := rIxT K) ix_tup (pv 4) pe_int (fun _ _ => rfl)) (fun _ _ => rfl)) pa_nil)) (by rfl))
  (pss_one (ps_expr (pe_bmK (K := K) PySem.F.plainAttrs_list PySem.F.slot_list_append PySem.F.type_list_append mt_append (pv 3) (pa_cons (pe_op (r := Da.rAddS) op_addS (pe_op (r := Da.rAddS) op_addS (pe_op (r := Da.rAddS) op_addS (pe_op (r := Da.rAddS) op_addS (pv 5) pe_str) (pv 6)) pe_str) (pe_callTy (r := rStrI) cl_strI (by rfl) (T.z 8 (by decide)) (by decide +kernel) (pa_cons (pe_dgetT hu (pv 1) (pv 4) (fun _ _ => rfl)) pa_nil))) pa_nil))))))
  (pss_one (ps_ret (pe_joinK (K := K) pe_str (pv 3))))))), ?_⟩
  refine body3 h fun x y z φ hk => ?_
  rw [show st0 nm__law_text [x, y, z] = [.d x, .d y, .d z, .no, .no, .no, .no] from rfl]
  obtain ⟨nm, ss, cs, rfl, rfl, rfl, nl, sl, sm, nd, cl, rs, hk⟩ := hk
  have c6 : (Str.ofString "album ").length = 6 := by decide +kernel
  have c5 : (Str.ofString "list ").length = 5 := by decide +kernel
  have c1 : (Str.ofString "\n").length = 1 := by decide +kernel
  have c2 : (Str.ofString " ").length = 1 := by decide +kernel
  have c3 : (Str.ofString ".").length = 1 := by decide +kernel
  have ll := listW_len sl sm
  refine seqMidT (fun Γ => Γ = [.d (bookD ss), .d (.dT (kyA cs) (vlA cs)), .d (.str nm), .lst [.str "album", .str (Str.ofString "list " ++ listW ss)], .no, .no, .no]) (fun N hN => ?_) ?_
  · exact ⟨rfl, rfl, rfl, ss, rfl, sl, sm, show (Str.ofString "list ").length + (listW ss).length ≤ 1000000 by omega, show 2 ≤ 100000 by decide, hN _ rfl⟩
  rintro _ rfl
  refine seqMidT (fun Γ => Γ = [.d (bookD ss), .d (.dT (kyA cs) (vlA cs)), .d (.str nm), .lst [.str (headW nm), .str (Str.ofString "list " ++ listW ss)], .no, .no, .no]) (fun N hN => ?_) ?_
  · by_cases z : nm = Str.ofString ""
    · have e : headW nm = Str.ofString "album" := by
        rw [z]
        decide +kernel
      rw [e] at hN
      refine ⟨rfl, ?_⟩
      (try dsimp only [dNext, dSeq, dIfS, dB, dOp, dNot, dOr, dAnd, dNotV, dOrV, dAndV, dAsg, dRet, dDrop, dCB, dIf, dTup, dLst, dCons, dNil, wf_d, wf_l, wb_b, wi_i, wt_t, wl_l, wl_d, tupR_t, tupR_l, lstR_t, lstR_l, List.set_cons_zero, List.set_cons_succ])
      refine eqS_b ?_
      exact wb_t (ifF (by simp [z]) (hN _ rfl))
    · have zl : nm.length ≠ 0 := fun h => z (by
        obtain ⟨a⟩ := nm
        have h : a.size = 0 := h
        rw [Array.size_eq_zero_iff.mp h]
        decide +kernel)
      have e : headW nm = Str.ofString "album " ++ nm := by
        unfold headW
        rw [if_neg zl]
      rw [e] at hN
      refine ⟨rfl, ?_⟩
      (try dsimp only [dNext, dSeq, dIfS, dB, dOp, dNot, dOr, dAnd, dNotV, dOrV, dAndV, dAsg, dRet, dDrop, dCB, dIf, dTup, dLst, dCons, dNil, wf_d, wf_l, wb_b, wi_i, wt_t, wl_l, wl_d, tupR_t, tupR_l, lstR_t, lstR_l, List.set_cons_zero, List.set_cons_succ])
      refine eqS_b ?_
      refine wb_t (ifT (by simp [z]) ?_)
      exact ⟨rfl, show (Str.ofString "album ").length + nm.length ≤ 1000000 by omega, ⟨_, rfl⟩, rfl, _, 0, rfl, rfl, hN _ rfl⟩
  rintro _ rfl
  have ek : (kyA cs).map tupD = (cs.map (·.1)).map stD := by
    unfold kyA
    rw [List.map_map, List.map_map, List.map_map]
    rfl
  have rl := riseA_len cs
  have rs2 : ∀ c ∈ riseA cs, RowSmall c := fun c hc => rs c ((riseA_perm cs).mem_iff.mp hc)
  have gt : ∀ c ∈ riseA cs, lookD (kyA cs) (vlA cs) (keyT c.1) = some (.int c.2) := fun c hc => by
    rw [look_A, get_nd nd ((riseA_perm cs).mem_iff.mp hc)]
    rfl
  generalize hR : riseA cs = R at *
  refine seqMidT (fun Γ => ∃ v4 v5 v6, Γ = [.d (bookD ss), .d (.dT (kyA cs) (vlA cs)), .d (.str nm), .lst ((rowsW nm ss R).map .str), v4, v5, v6]) (fun N hN => ?_) ?_
  · (try simp only [dVar, dC, dNil, dCons, dTup, dLst, dOp, onI, dI, dI0, dUn, dEq, dNe, dIxT, dIxL, dIxLv, dAndV, dOrV, dNotV, dB, dAnd, dOr, dNot, dYes, dIf, dChain, dCB, dLenR, dLenv, dListR, dTupR, dMxR, dMnR, dIntR, dIsi, dNoPart, dPart, dSl, dCatA, dCat, dRep, dIn, dInD, dIsN, D.isN, dCall, dCallP, dCallS, dPen0, dTruv, dRg1, dRg2, dLstRg, dTupRg, dLenSet, wf, wb, wi, wt, wl, vD, isSc, dSeq, dNext, dRet, dRetv, dRetN, dIfS, dAsg, dAsgT, dgTup, dgCons, dPar, dApp, dExt, dSetL, dPopAt, dRse, dNever, dDrop, dITup, dILst, dIRng1, dIRng2, dIDn, dIEnT, dIEnL, dIZip, po, poP, sp0, sp1, sp2, sp3, sp4, sp5, pp0, pp1, pp2, pp3, pp4, mo0, mo1, mo2, mo3, dBrw, immE, dMethO, dMake, dFSet, dFPut, fputK, dFDel, dGet2X, dOrT, dIStr, dLeStr, dAttr, dMeth, List.set_cons_zero, List.set_cons_succ, List.getElem?_cons_zero, List.getElem?_cons_succ, List.all_nil, List.map_nil, List.append_nil, List.cons_append, List.nil_append, true_and, ite_true, if_true])
    refine it_sorted (i := 1) (Γ := [.d (bookD ss), .d (.dT (kyA cs) (vlA cs)), .d (.str nm), .lst [.str (headW nm), .str (Str.ofString "list " ++ listW ss)], .no, .no, .no]) (ks := kyA cs) (xs := vlA cs) rfl (by rw [kyA_len]; omega) (by rw [ek]; exact st_srt _) ?_
    rw [ek, sort_st, hR]
    refine ⟨fun i Γ => ∃ v4 v5 v6, Γ = [.d (bookD ss), .d (.dT (kyA cs) (vlA cs)), .d (.str nm), .lst ((rowsW nm ss (R.take i)).map .str), v4, v5, v6], ⟨_, _, _, rfl⟩, ?_⟩
    rintro i Γ ⟨v4, v5, v6, rfl⟩
    refine ⟨fun e => ?_, fun y hy => ?_⟩
    · rw [List.length_map, List.length_map] at e
      rw [e, List.take_length]
      exact hN _ ⟨_, _, _, rfl⟩
    · obtain ⟨t, ht, rfl⟩ := at_map hy
      obtain ⟨c, hc, rfl⟩ := at_map ht
      have cm := List.mem_of_getElem? hc
      obtain ⟨hg, h1, h2, k0, k1⟩ := rs2 c cm
      have il : i < R.length := (List.getElem?_eq_some_iff.mp hc).1
      have e1 : (Str.ofString (toString c.1.1)).length ≤ 1921 := tI_len h1
      have e2 : (Str.ofString (toString c.1.2.1)).length ≤ 1921 := tI_len h2
      have e3 : (Str.ofString (toString c.2)).length ≤ 1921 := tI_len (by omega)
      have w1 : (stW c.1.2.2).length ≤ 6 := by
        unfold stW
        split <;> decide +kernel
      have wd : atI [D.str (Str.ofString "hinged"), .str (Str.ofString "whole")] c.1.2.2 = some (.str (stW c.1.2.2)) := by
        rcases hg with z | z
        · rw [z]
          rfl
        · rw [z]
          rfl
      refine ⟨rfl, .int c.1.1, rfl, log_of h1, rfl, ?_⟩
      refine ⟨by show _ + (Str.ofString ".").length ≤ _; omega, rfl, .int c.1.2.1, rfl, log_of h2, ?_⟩
      refine ⟨by simp only [str_app]; show _ + (Str.ofString ".").length + _ ≤ _; omega, rfl, rfl, show 2 ≤ 100000 by decide, rfl, .int c.1.2.2, rfl, .str (stW c.1.2.2), wd, ?_⟩
      refine ⟨⟨_, rfl⟩, rfl, by simp only [str_app]; show _ + (Str.ofString ".").length + _ + (Str.ofString " ").length ≤ _; omega, ?_⟩
      refine ⟨by simp only [str_app]; show _ + (Str.ofString ".").length + _ + (Str.ofString " ").length + _ ≤ _; omega, rfl, ?_⟩
      refine ⟨by simp only [str_app]; show _ + (Str.ofString ".").length + _ + (Str.ofString " ").length + _ + (Str.ofString " ").length ≤ _; omega, ?_⟩
      refine ⟨⟨_, _, _, rfl, rfl⟩, _, _, _, keyT c.1, .int c.2, rfl, rfl, rfl, gt c cm, log_of (by omega), ?_⟩
      refine ⟨by simp only [str_app]; show _ + (Str.ofString ".").length + _ + (Str.ofString " ").length + _ + (Str.ofString " ").length + _ ≤ _; omega, ?_⟩
      have tl : (R.take i).length ≤ 1000 := by
        rw [List.length_take]
        omega
      have et : R.take (i + 1) = R.take i ++ [c] := by rw [List.take_add_one, hc]; rfl
      have er : (rowsW nm ss (R.take i)).map D.str ++ [.str (rowW c)] = (rowsW nm ss (R.take (i + 1))).map .str := by
        rw [et]
        unfold rowsW
        rw [List.map_append, List.map_cons, List.map_cons, List.map_cons, List.map_cons, List.map_append]
        rfl
      refine ⟨_, rfl, by rw [List.length_map]; show ((R.take i).map rowW).length + 1 + 1 ≤ 100000; rw [List.length_map]; omega, .d (stD c.1), .d (.str (tI c.1.1 ++ Str.ofString "." ++ tI c.1.2.1)), .d (.str (stW c.1.2.2)), ?_⟩
      exact congrArg (fun l => [En.d (bookD ss), .d (.dT (kyA cs) (vlA cs)), .d (.str nm), .lst l, .d (stD c.1), .d (.str (tI c.1.1 ++ Str.ofString "." ++ tI c.1.2.1)), .d (.str (stW c.1.2.2))]) er
  rintro _ ⟨v4, v5, v6, rfl⟩
  unfold dRet
  refine join_c ?_
  refine ⟨rowsW nm ss R, .inl rfl, ?_, hk⟩
  have hl : (headW nm).length ≤ 14 := by
    unfold headW
    split
    · decide +kernel
    · rw [str_app]
      show (Str.ofString "album ").length + _ ≤ _
      omega
  have z := sum_le (fun y : Str => y.length) 6000 (R.map rowW) fun a ha => by
    obtain ⟨c, hc, rfl⟩ := List.mem_map.mp ha
    exact rowW_len (rs2 c hc)
  have l2 : (R.map rowW).length ≤ 1000 := by rw [List.length_map]; omega
  have e : (Str.ofString "list " ++ listW ss).length = 5 + (listW ss).length := by rw [str_app, c5]
  show (headW nm).length + ((Str.ofString "list " ++ listW ss).length + ((R.map rowW).map fun x => x.length).sum) + ((R.map rowW).length + 1 + 1) * (Str.ofString "\n").length ≤ _
  rw [e, c1]
  omega
theorem many_6 {ss : List (Str × Int × Int)} (bk : BkOk ss) (i : Int) : manyAt ss i ≤ 6 := by
  unfold manyAt
  split
  · rename_i t h
    exact (bk.ok t (List.mem_of_getElem? h)).m1
  · decide
theorem okS_num {ss : List (Str × Int × Int)} {s : St3} (bk : BkOk ss) (h : OkS ss s) : (0 ≤ s.1 ∧ s.1 < 4) ∧ (0 ≤ s.2.1 ∧ s.2.1 < 6) ∧ (s.2.2 = 0 ∨ s.2.2 = 1) := by
  obtain ⟨a, n, g⟩ := s
  have h : ((inB (.int a) 0 ((ss.length : Int) - 1) && inB (.int n) 0 (manyAt ss a - 1)) && inB (.int g) 0 1) = true := h
  simp only [inB, Bool.and_eq_true, decide_eq_true_eq] at h
  have l1 := bk.l1
  have m6 := many_6 bk a
  refine ⟨⟨h.1.1.1, ?_⟩, ⟨h.1.2.1, ?_⟩, ?_⟩
  · show a < 4
    omega
  · show n < 6
    omega
  · show g = 0 ∨ g = 1
    omega
theorem rowW_of {ss : List (Str × Int × Int)} (bk : BkOk ss) {c : St3 × Int} (h : OkS ss c.1) (h1 : 1 ≤ c.2) (h6 : c.2 < 10 ^ 60) : rwOk (rowW c) ∧ cntM ss (rowW c) = some (rwD c) ∧ RowSmall c ∧ 10 ∉ TL.tl (rowW c) := by
  obtain ⟨⟨a, b, g⟩, k⟩ := c
  obtain ⟨⟨a0, a1⟩, ⟨b0, b1⟩, hg⟩ := okS_num bk h
  have a0 : 0 ≤ a := a0
  have a1 : a < 4 := a1
  have b0 : 0 ≤ b := b0
  have b1 : b < 6 := b1
  have hg : g = 0 ∨ g = 1 := hg
  have h1 : 1 ≤ k := h1
  have h6 : k < 10 ^ 60 := h6
  obtain ⟨p1, p2, p3⟩ := parts_row (a := a) (b := b) (g := g) (k := k) a0 b0 (by omega)
  obtain ⟨q1, q2⟩ := rows_read (a := a) (b := b) (g := g) (k := k) a0 b0 (by omega) hg
  have la := tI_len_le a0 (k := 1) (by decide) (by omega)
  have lb := tI_len_le b0 (k := 1) (by decide) (by omega)
  have lk := tI_len_le (i := k) (by omega) (k := 60) (by decide) h6
  have lw : (stW g).length ≤ 6 := by
    unfold stW
    split <;> decide +kernel
  have c1 : (Str.ofString ".").length = 1 := by decide +kernel
  have c2 : spc.length = 1 := by decide +kernel
  have lr : (rowW ((a, b, g), k)).length ≤ 100 := by
    show (tI a ++ Str.ofString "." ++ tI b ++ spc ++ stW g ++ spc ++ tI k).length ≤ 100
    simp only [str_app]
    omega
  refine ⟨⟨by omega, ?_, ?_, ?_⟩, ?_, ⟨hg, by show a.natAbs < 10 ^ 60; omega, by show b.natAbs < 10 ^ 60; omega, by show 0 ≤ k; omega, h6⟩, ?_⟩
  · rw [p1, p2]
    exact fun _ => by show (tI a).length ≤ 60; omega
  · rw [p1, p2]
    exact fun _ => by show (tI b).length ≤ 60; omega
  · rw [p1, p3]
    exact fun _ => lk
  · unfold cntM
    rw [q1, q2, if_pos ⟨h, decide_eq_true h1⟩]
    rfl
  · show 10 ∉ TL.tl (tI a ++ Str.ofString "." ++ tI b ++ spc ++ stW g ++ spc ++ tI k)
    simp only [TL.tl_append, dot_tl, spc_tl, List.mem_append, List.mem_singleton, not_or]
    exact ⟨⟨⟨⟨⟨⟨tI_free a0 (by decide), by decide⟩, tI_free b0 (by decide)⟩, by decide⟩, stW_free (by decide)⟩, by decide⟩, tI_free (by omega) (by decide)⟩
theorem rowsM_W {ss : List (Str × Int × Int)} (bk : BkOk ss) : ∀ {cs : Cts}, (∀ c ∈ cs, OkS ss c.1 ∧ 1 ≤ c.2 ∧ c.2 < 10 ^ 60) → rowsM ss (cs.map rowW) = some cs
  | [], _ => rfl
  | c :: r, h => by
    obtain ⟨h1, h2, h3⟩ := h c List.mem_cons_self
    have e := (rowW_of bk h1 h2 h3).2.1
    have ih := rowsM_W bk fun d hd => h d (List.mem_cons_of_mem _ hd)
    show (match cntM ss (rowW c), rowsM ss (r.map rowW) with | some c, some l => some (toRw c :: l) | _, _ => none) = _
    rw [e, ih]
    rfl
theorem addL_nd {rs : Cts} (nd : (rs.map (·.1)).Nodup) : addL rs = rs := by
  suffices h : ∀ i, i ≤ rs.length → addL (rs.take i) = rs.take i by
    have := h rs.length (Nat.le_refl _)
    rwa [List.take_length] at this
  intro i
  induction i with
  | zero => exact fun _ => rfl
  | succ i ih =>
    intro il
    have hc : rs[i]? = some rs[i] := List.getElem?_eq_getElem (by omega)
    have nw : rs[i].1 ∉ ((rs.take i).map (·.1)) := fun z => by
      have e : rs = rs.take i ++ rs[i] :: rs.drop (i + 1) := by
        have e2 := List.take_append_drop i rs
        rw [List.drop_eq_getElem_cons (by omega)] at e2
        exact e2.symm
      have nd2 := nd
      rw [e, List.map_append, List.map_cons] at nd2
      exact (List.nodup_append.mp nd2).2.2 _ z _ List.mem_cons_self rfl
    rw [List.take_add_one, hc]
    show addL (rs.take i ++ [rs[i]]) = rs.take i ++ [rs[i]]
    rw [addL_snoc, ih (by omega), addA_new nw]
theorem setW_short {t : Str × Int × Int} (h : SOk t) : (setW t).length ≤ 20 := by
  have l := (let_len h.le).2
  have y0 := h.y0
  have y1 := h.y1
  have m0 := h.m0
  have m1 := h.m1
  have ly := tI_len_le (i := t.2.1) (by omega) (k := 4) (by decide) (by omega)
  have lm := tI_len_le (i := t.2.2) (by omega) (k := 1) (by decide) (by omega)
  have c2 : spc.length = 1 := by decide +kernel
  show (t.1 ++ spc ++ tI t.2.1 ++ spc ++ tI t.2.2).length ≤ 20
  simp only [str_app]
  omega
theorem listW_short {ss : List (Str × Int × Int)} (bk : BkOk ss) : (listW ss).length ≤ 100 := by
  have z := sum_le (fun y : Str => y.length) 20 (ss.map setW) fun a ha => by
    obtain ⟨t, ht, rfl⟩ := List.mem_map.mp ha
    exact setW_short (bk.ok t ht)
  have c1 : (Str.ofString ";").length = 1 := by decide +kernel
  have l : (ss.map setW).length = ss.length := List.length_map _
  have j := join_len (Str.ofString ";") (ss.map setW)
  have l1 := bk.l1
  rw [l] at z
  rw [l, c1] at j
  show (Txt.join (Str.ofString ";") (ss.map setW)).length ≤ _
  omega
theorem split_textW {nm : Str} {ss : List (Str × Int × Int)} {R : Cts} (hn : letB (.str nm) 0 8 = true) (bk : BkOk ss) (h : ∀ c ∈ R, OkS ss c.1 ∧ 1 ≤ c.2 ∧ c.2 < 10 ^ 60) : Txt.split (textW nm ss R) "\n" = headW nm :: (Str.ofString "list " ++ listW ss) :: R.map rowW := by
  refine TL.split_join nl_tl (by decide +kernel) (by simp [rowsW]) fun p hp => ?_
  rcases List.mem_cons.mp hp with rfl | hp
  · unfold headW
    split
    · decide +kernel
    · rw [TL.tl_append, List.mem_append, not_or]
      exact ⟨by decide +kernel, lets_free hn (by decide)⟩
  rcases List.mem_cons.mp hp with rfl | hp
  · rw [TL.tl_append, List.mem_append, not_or]
    refine ⟨by decide +kernel, ?_⟩
    have e : TL.tl (listW ss) = TL.joinL [59] ((ss.map setW).map TL.tl) := by
      show TL.tl (Txt.join (Str.ofString ";") (ss.map setW)) = _
      rw [TL.join_eq, TL.tl_join, sem_tl]
    rw [e]
    have go : ∀ (ps : List (List Nat)), (∀ p ∈ ps, 10 ∉ p) → 10 ∉ TL.joinL [59] ps := by
      intro ps
      induction ps with
      | nil => exact fun _ => by decide
      | cons q r ih =>
        intro hq
        cases r with
        | nil => exact hq q List.mem_cons_self
        | cons u v =>
          show 10 ∉ q ++ ([59] ++ TL.joinL [59] (u :: v))
          rw [List.mem_append, List.mem_append, not_or, not_or]
          exact ⟨hq q List.mem_cons_self, by decide, ih fun p hp => hq p (List.mem_cons_of_mem _ hp)⟩
    refine go _ fun p hp => ?_
    obtain ⟨q, hq, rfl⟩ := List.mem_map.mp hp
    obtain ⟨t, ht, rfl⟩ := List.mem_map.mp hq
    exact setW_free (bk.ok t ht) (by decide) (by decide) (by decide)
  · obtain ⟨c, hc, rfl⟩ := List.mem_map.mp hp
    obtain ⟨h1, h2, h3⟩ := h c hc
    exact (rowW_of bk h1 h2 h3).2.2.2
def kRead (C : Addr) (x : D) (φ : En → Prop) : Prop := ∃ nm ss cs, x = .str (textW nm ss (riseA cs)) ∧ nm.length ≤ 8 ∧ letB (.str nm) 0 8 = true ∧ BkOk ss ∧ CtOk (OkS ss) cs ∧ cs.length ≤ 60 ∧ (∀ c ∈ cs, c.2 < 10 ^ 60) ∧ ∀ p T, φ (.ow (.ins C nsA (osA ss nm (riseA cs))) (p :: T))
theorem ok__law_read (T : Txt K mg ad fd) (TM : TxtM K mg C am fm) (TG : TxtG mg) (TE : TxtE K mg ce) : FnOk P w K mg base CX0 11 (ad 39) (fd 39) ps__law_read (spX K (sp1 (kRead C))) := by
  refine (show Fun K "_law_read" "_law_read" st__law_read (ad 39) (fd 39) from T.f 39 (by decide)).ok sc__law_read (fun vs H Q E h => len1 h) (fun cdv A outer s H vs Q E hr h => ?_)
  have hu := hu_of hr
  have hu65 := hu65_of hr
  refine ⟨_, (pss_one (ps_tryRN (K := K) rfl rfl ⟨rfl, by decide, .inl TE.NoText.g⟩ (fun W pn xe Ech tkq hWq => by exact (pe_call (ok_album_read_X (K := K) T TM TG TE) (hr.mono (by omega)) (by rfl) (T.g 29 (by decide)) (T.k 29 (by decide)) (bd_album_read T) .nil (passes_call (W := W) tkq hWq) (pa_cons (pv 0) pa_nil))))), ?_⟩
  refine body1 h fun x φ hk => ?_
  rw [show st0 nm__law_read [x] = [.d x] from rfl]
  obtain ⟨nm, ss, cs, rfl, nl, hn, bk, ok, cl, c60, hk⟩ := hk
  have rok := ok.perm (riseA_perm cs)
  have rl := riseA_len cs
  have hR : ∀ c ∈ riseA cs, OkS ss c.1 ∧ 1 ≤ c.2 ∧ c.2 < 10 ^ 60 := fun c hc => ⟨rok.st c hc, rok.pos c hc, c60 c ((riseA_perm cs).mem_iff.mp hc)⟩
  have eL := addL_nd rok.nd
  have er : riseA (riseA cs) = riseA cs := rise_ext rok ok fun s => cnt_perm rok (riseA_perm cs) s
  generalize riseA cs = R at *
  have es := split_textW hn bk hR
  have hl : (headW nm).length ≤ 14 := by
    unfold headW
    split
    · decide +kernel
    · rw [str_app]
      have c6 : (Str.ofString "album ").length = 6 := by decide +kernel
      show (Str.ofString "album ").length + _ ≤ _
      omega
  have ls := listW_short bk
  have c5 : (Str.ofString "list ").length = 5 := by decide +kernel
  have c1 : (Str.ofString "\n").length = 1 := by decide +kernel
  have tl : (textW nm ss R).length ≤ 1000000 := by
    have j := join_len (Str.ofString "\n") (rowsW nm ss R)
    have z := sum_le (fun y : Str => y.length) 6000 (R.map rowW) fun a ha => by
      obtain ⟨c, hc, rfl⟩ := List.mem_map.mp ha
      obtain ⟨h1, h2, h3⟩ := hR c hc
      exact rowW_len (rowW_of bk h1 h2 h3).2.2.1
    have l2 : (R.map rowW).length ≤ 60 := by rw [List.length_map]; omega
    have e : (Str.ofString "list " ++ listW ss).length = 5 + (listW ss).length := by rw [str_app, c5]
    have j : (Txt.join (Str.ofString "\n") (rowsW nm ss R)).length ≤ (headW nm).length + ((Str.ofString "list " ++ listW ss).length + ((R.map rowW).map fun x => x.length).sum) + ((R.map rowW).length + 1 + 1) * (Str.ofString "\n").length := j
    rw [e, c1] at j
    show (Txt.join (Str.ofString "\n") (rowsW nm ss R)).length ≤ _
    omega
  have nM := namM_W hn
  have bM := bokM_W bk
  have sp : (Txt.split (Txt.partition (Str.ofString "list " ++ listW ss) spc).2.2 ";").length ≤ 100 := by
    rw [lis_split, TL.partition_app spc_tl (by decide +kernel)]
    show (Txt.split (listW ss) ";").length ≤ 100
    rw [split_listW bk, List.length_map]
    have := bk.l1
    omega
  refine ⟨TE.ett, [], fun _ => False, fun _ z => z.elim, rfl, textW nm ss R, headW nm, Str.ofString "list " ++ listW ss, R.map rowW, rfl, tl, es, by omega, by rw [str_app]; omega, sp, by rw [List.length_map]; omega, fun r hr => ?_, fun z => ?_, fun z => ?_, fun n b hn2 hb => ?_⟩
  · obtain ⟨c, hc, rfl⟩ := List.mem_map.mp hr
    obtain ⟨h1, h2, h3⟩ := hR c hc
    exact (rowW_of bk h1 h2 h3).1
  · rw [nM] at z
    cases z
  · rw [bM] at z
    cases z
  · rw [nM] at hn2
    rw [bM] at hb
    cases hn2
    cases hb
    have eR := rowsM_W bk hR
    refine ⟨ss, rfl, bk, fun z => ?_, fun ds hds => ?_⟩
    · rw [eR] at z
      cases z
    · rw [eR] at hds
      cases hds
      rw [eL, er]
      refine ⟨fun c hc => ?_, fun _ p T => hk p T, fun z => absurd rfl z⟩
      obtain ⟨h1, h2, h3⟩ := hR c hc
      exact (rowW_of bk h1 h2 h3).2.2.1
end
end Dl

set_option Elab.async false
set_option maxRecDepth 100000
set_option maxHeartbeats 4000000
set_option linter.all false
set_option synthInstance.maxHeartbeats 4000000
set_option synthInstance.maxSize 10000


namespace Dl
open PySem PySem.Spec PyProof.Rows L2 RZ HmS Da
section
variable {P : Program} {w : World} {K : PySem.W.Frag} [HasT K] {mg : Str → Option Value} {base : Heap} {ad am : Nat → Addr} {fd fm : Nat → FuncData} {C : Addr}
/-! ### == of albums, take -/
theorem let_fit {s : Str} {a b : Int} (h : letB (.str s) a b = true) : (D.str s).fitb 1 = true := by
  have h : ((decide (a ≤ (s.length : Int)) && decide ((s.length : Int) ≤ b)) && s.cps.toList.all signB) = true := h
  rw [Bool.and_eq_true, List.all_eq_true] at h
  have : PyData.strOk s = true := by
    unfold PyData.strOk
    rw [← Array.all_toList, List.all_eq_true]
    intro c hc
    have z := h.2 c hc
    have z : (!decide ([c] < [97]) && !decide ([122] < [c])) = true := z
    rw [Bool.and_eq_true, Bool.not_eq_true', decide_eq_false_iff_not, Bool.not_eq_true', decide_eq_false_iff_not] at z
    have z2 : ¬ 122 < c := fun q => z.2 (List.Lex.rel q)
    exact decide_eq_true (by omega)
  simp [D.fitb, D.flat, D.py, PyData.canLay0, PyData.depth, this]
theorem fit_book {ss : List (Str × Int × Int)} (bk : BkOk ss) : (bookD ss).fit = true := fit_of (fitb_tupm (k := 2) fun t ht => fitb_tup (k := 1) fun x hx => by
  simp only [List.mem_cons, List.not_mem_nil, or_false] at hx
  rcases hx with rfl | rfl | rfl
  · exact let_fit (bk.ok t ht).le
  · exact fitb_int _
  · exact fitb_int _) (by decide)
def kEqX (C : Addr) (x y : D) (φ : En → Prop) : Prop := ∃ ss n cs, x = albD C ss n cs ∧ BkOk ss ∧ ((y.pln ∧ φ (.d (.bl false))) ∨ ∃ ss2 n2 cs2, y = albD C ss2 n2 cs2 ∧ BkOk ss2 ∧ φ (.d (.bl ((bookD ss).eqv (bookD ss2) && eqC cs cs2))))
theorem ok_Album___eq__ (T : Txt K mg ad fd) (TM : TxtM K mg C am fm) (TG : TxtG mg) : FnOk P w K mg base CX0 1 (am 6) (fm 6) ps_Album___eq__ (spX K (sp2 (kEqX C))) := by
  refine (show Fun K "__eq__" "Album.__eq__" st_Album___eq__ (am 6) (fm 6) from TM.f 6 (by decide)).ok sc_Album___eq__ (fun vs H Q E h => len2 h) (fun cdv A outer s H vs Q E hr h => ?_)
  have hu := hu_of hr
  have hu65 := hu65_of hr
  refine ⟨_, (pss_one (ps_ret (pe_and (pe_callB (r := rIsi K) call_isi (by rfl) (T.z 6 (by decide)) (by decide +kernel) (pa_cons (pv 1) (pa_cons (pe_glob (v := .ref C) (by rfl) TM.mgC rfl) pa_nil))) (pe_and (pe_cmpR (r := rEqD K) (op_eqD hr.units) (pe_fldK (K := K) (pv 0) rfl) (pe_fldK (K := K) (pv 1) rfl) (nomark _)) (pe_one (pe_cmpR (r := HmQ.rEqD) (HmQ.op_eqDi hr.units) (pe_fldK (K := K) (pv 0) rfl) (pe_fldK (K := K) (pv 1) rfl) (nomark _))))))), ?_⟩
  refine body2 h fun x y φ hk => ?_
  rw [show st0 nm_Album___eq__ [x, y] = [.d x, .d y] from rfl]
  obtain ⟨ss, n, cs, rfl, bk, hk⟩ := hk
  refine ⟨TM.oi, TM.sb, ?_⟩
  rcases hk with ⟨hp, hk⟩ | ⟨ss2, n2, cs2, rfl, bk2, hk⟩
  · exact .inr ⟨hp, wb_t (ifF rfl hk)⟩
  refine .inl ⟨⟨_, _, rfl⟩, ?_⟩
  refine wb_t (ifT rfl ?_)
  refine ⟨C, _, _, bookD ss, rfl, TM.cl, TM.nB, rfl, C, _, _, bookD ss2, rfl, TM.cl, TM.nB, rfl, fit_book bk, fit_book bk2, ?_⟩
  refine wb_t (ifB (fun c => ?_) (fun c => ?_))
  · have c : (bookD ss).eqv (bookD ss2) = true := c
    rw [c, Bool.true_and] at hk
    exact ⟨C, _, _, .dT (kyA cs) (vlA cs), rfl, TM.cl, TM.nM, rfl, C, _, _, .dT (kyA cs2) (vlA cs2), rfl, TM.cl, TM.nM, rfl, cs.map kcT, cs2.map kcT, rfl, rfl, hk⟩
  · have c : (bookD ss).eqv (bookD ss2) = false := c
    rw [c, Bool.false_and] at hk
    exact hk
theorem look_some {cs : Cts} {t : St3} (h : 1 ≤ cntA cs t) : (lookD (kyA cs) (vlA cs) (keyT t)).isSome = true := by
  rw [look_A]
  unfold cntA at h
  cases q : getA cs t with
  | none =>
    rw [q] at h
    exact absurd h (by decide)
  | some n => rfl
end
end Dl

set_option Elab.async false
set_option maxRecDepth 100000
set_option maxHeartbeats 4000000
set_option linter.all false
/-! what doesn't look at a slot: displays of constants, an item of one -/
namespace Da
open PySem PySem.Spec PyProof.Rows L2 RZ HmS
def IgnAM (i : Nat) (t : TA) : Prop := ∀ σ x H Q Q', t (List.set σ i (some x)) H Q → (∀ v H1, Q v H1 → Q' v H1) → t σ H Q'
theorem ignM_c {i : Nat} {v : V} : IgnM i (tC v) := fun σ x H Q Q' q k => k _ _ q
theorem ignAM_nil {i : Nat} : IgnAM i tNil := fun _ _ _ _ _ q k => k _ _ q
theorem ignAM_cons {i : Nat} {ta : TE} {tr : TA} (a : IgnM i ta) (r : IgnAM i tr) : IgnAM i (tCons ta tr) := fun σ x H Q Q' q k => a σ x H _ _ q fun v H1 z => r σ x H1 _ _ z fun vs H2 y => k _ _ y
theorem ignM_lst {i : Nat} {ta : TA} (a : IgnAM i ta) : IgnM i (tLst ta) := fun σ x H Q Q' q k => a σ x H _ _ q fun vs H1 z => ⟨z.1, fun p hp => k _ _ (z.2 p hp)⟩
theorem ign_op {i : Nat} {r : R2} {ta tb : TE} (a : IgnM i ta) (b : Ign i tb) : Ign i (tOp r ta tb) := fun σ x H Q q => a σ x H _ _ q fun v H1 z => b σ x H1 _ z
/-! ### an owned instance is not None -/
def tIsO (i : Nat) : TE := tOp rIsN (tVar i) (tC .non)
theorem pt_isO {X : Cx} {e : Expr} {i : Nat} (h : PT X e (tTest (tOp rIsN (tVar i) (tC .non)))) : PT X e (tTest (tIsO i)) := h
def dIsO (i : Nat) : DT := fun Γ φ => ∃ C ns os S, Γ[i]? = some (.ow (.ins C ns os) S) ∧ φ (.d (.bl false)) Γ
section
variable {K : PySem.W.Frag} [HasT K] {E : XK} {ψ : Value → Prop}
instance snd_isO {i : Nat} : Snd K E ψ (tIsO i) (dIsO i) := ⟨fun {c F H σ Γ φ Q} I eo h q => by
  obtain ⟨C, ns, os, S, g, h⟩ := h
  obtain ⟨v, hv, hh⟩ := I.at_ i _ g (fun z => nomatch z)
  have hr : ∃ a, v = .ref a := by
    have h1 := hh.1
    cases h1 with
    | ins _ _ _ _ => exact ⟨_, rfl⟩
  obtain ⟨a, rfl⟩ := hr
  refine ⟨_, hv, rfl, ?_⟩
  rw [show decide (V.ref a = V.non) = false from decide_eq_false (fun z => nomatch z)]
  exact q F H _ _ Γ I (Same.refl F) (Res.d (.bl _)) h⟩
end
/-! ### the text of an album -/
end Da

set_option Elab.async false
set_option maxRecDepth 100000
set_option maxHeartbeats 4000000
set_option linter.all false
set_option synthInstance.maxHeartbeats 4000000
set_option synthInstance.maxSize 10000



namespace Dl
open PySem PySem.Spec PyProof.Rows L2 RZ HmS Da
section
variable {P : Program} {w : World} {K : PySem.W.Frag} [HasT K] {mg : Str → Option Value} {base : Heap} {ad am : Nat → Addr} {fd fm : Nat → FuncData} {C : Addr} {ce : Er}
def g85 (ns : List Int) (i j : Nat) (ss : List (Str × Int × Int)) (cs : Cts) (nm : Str) (v7 v8 v9 v10 : En) : List En := [.scr ns, .d (.int i), .pen, .d (bookD ss), .d (.int j), .dT (kyA cs) (vlA cs), .d (.str nm), v7, v8, v9, v10]
structure N85 (nm : Str) : Prop where
  l : nm.length ≤ 8
  b : letB (.str nm) 0 8 = true
theorem name4 {r : Int} (r0 : 0 ≤ r) (r1 : r < 4) : ∃ nm, atI [D.str (Str.ofString ""), .str (Str.ofString "a"), .str (Str.ofString "abcdefgh"), .str (Str.ofString "zz")] r = some (.str nm) ∧ N85 nm := by
  have : r = 0 ∨ r = 1 ∨ r = 2 ∨ r = 3 := by omega
  rcases this with rfl | rfl | rfl | rfl
  · exact ⟨_, rfl, by decide +kernel, by decide +kernel⟩
  · exact ⟨_, rfl, by decide +kernel, by decide +kernel⟩
  · exact ⟨_, rfl, by decide +kernel, by decide +kernel⟩
  · exact ⟨_, rfl, by decide +kernel, by decide +kernel⟩
structure C85 (ss : List (Str × Int × Int)) (cs : Cts) : Prop where
  ok : CtOk (OkS ss) cs
  l : cs.length ≤ 50
  m : ∀ c ∈ cs, c.2 ≤ 10 ^ 39
theorem ok00 {ss : List (Str × Int × Int)} (bk : BkOk ss) {g : Int} (g0 : 0 ≤ g) (g1 : g < 2) : OkS ss (0, 0, g) := by
  have l0 := bk.l0
  have hm : 1 ≤ manyAt ss 0 := by
    unfold manyAt
    have e : ss[(0 : Int).toNat]? = some ss[0] := List.getElem?_eq_getElem (by omega)
    rw [e]
    exact (bk.ok _ (List.getElem_mem _)).m0
  show ((inB (.int 0) 0 ((ss.length : Int) - 1) && inB (.int 0) 0 (manyAt ss 0 - 1)) && inB (.int g) 0 1) = true
  simp only [inB, Bool.and_eq_true, decide_eq_true_eq]
  omega
theorem brw_txt {i : Nat} {Γ : List En} {S : List Addr} {ss : List (Str × Int × Int)} {nm : Str} {cs : Cts} {φ : En → List En → Prop} (g : Γ[i]? = some (.ow (.ins C nsA (osA ss nm cs)) S)) (nl : nm.length ≤ 8) (bk : BkOk ss) (cl : cs.length ≤ 1000) (nd : (cs.map (·.1)).Nodup) (rs : ∀ c ∈ cs, RowSmall c) (q : φ (.d (.str (textW nm ss (riseA cs)))) Γ) :
    dBrw i (dCall (sp1 (kStr C)) [] (fun _ => False) (dCons (dVar i) dNil)) Γ φ := by
  have il := (List.getElem?_eq_some_iff.mp g).1
  refine ⟨_, _, g, ?_⟩
  rw [alb_dt]
  unfold dCall dCons
  refine dVar_r (x := albD C ss nm cs) ?_ ?_
  · rw [List.getElem?_set_self (by rw [List.length_map]; exact il)]
  exact ⟨rfl, ss, nm, cs, rfl, nl, bk.l1, small_of bk, cl, nd, rs, rfl, q⟩
theorem brw_str {i : Nat} {Γ : List En} {S : List Addr} {ss : List (Str × Int × Int)} {nm : Str} {cs : Cts} {φ : En → List En → Prop} (g : Γ[i]? = some (.ow (.ins C nsA (osA ss nm cs)) S)) (nl : nm.length ≤ 8) (bk : BkOk ss) (cl : cs.length ≤ 1000) (nd : (cs.map (·.1)).Nodup) (rs : ∀ c ∈ cs, RowSmall c) (q : φ (.d (.str (textW nm ss (riseA cs)))) Γ) :
    dBrw i (dCB (dStrO C (kStr C)) (dCons (dVar i) dNil)) Γ φ := by
  have il := (List.getElem?_eq_some_iff.mp g).1
  refine ⟨_, _, g, ?_⟩
  rw [alb_dt]
  unfold dCB dCons
  refine dVar_r (x := albD C ss nm cs) ?_ ?_
  · rw [List.getElem?_set_self (by rw [List.length_map]; exact il)]
  exact ⟨⟨_, _, rfl⟩, ss, nm, cs, rfl, nl, bk.l1, small_of bk, cl, nd, rs, _, rfl, rfl, q⟩
theorem eq_alb {ss : List (Str × Int × Int)} (bk : BkOk ss) {ok ok' : St3 → Prop} {as bs : Cts} (ha : CtOk ok as) (hb : CtOk ok' bs) (h : ∀ s, cntA as s = cntA bs s) : ((bookD ss).eqv (bookD ss) && eqC as bs) = true := by
  rw [eqv_self (fit_book bk), (eqC_iff ha hb).mpr h]
  rfl
theorem wf_ow_go {o : O} {S : List Addr} {k : D → Prop} (h : k o.dt) : wf (.ow o S) k := h
theorem book_imm (ss : List (Str × Int × Int)) : (bookD ss).imm = true := by
  show imms (ss.map setD) = true
  induction ss with
  | nil => rfl
  | cons t r ih =>
    show ((setD t).imm && imms (r.map setD)) = true
    rw [ih]
    rfl
theorem getA_le {b : Int} : ∀ {cs : Cts} {s : St3}, (∀ c ∈ cs, c.2 ≤ b) → 0 ≤ b → (getA cs s).getD 0 ≤ b
  | [], _, _, h0 => h0
  | (t, n) :: r, s, h, h0 => by
    unfold getA
    split
    · exact h (t, n) List.mem_cons_self
    · exact getA_le (fun c hc => h c (List.mem_cons_of_mem _ hc)) h0
theorem addA_le {cs : Cts} {s : St3} {m b : Int} (h : ∀ c ∈ cs, c.2 ≤ b) (h0 : 0 ≤ b) (hm : 0 ≤ m) : ∀ c ∈ addA cs s m, c.2 ≤ b + m := by
  have g : cntA cs s ≤ b := getA_le h h0
  exact putA_le (fun c hc => by have := h c hc; omega) (by omega)
def b85 (m : Nat) : Int := 10 ^ 39 + (m : Int) * (9 * 10 ^ 39)
theorem ok_law (T : Txt K mg ad fd) (TM : TxtM K mg C am fm) (TG : TxtG mg) (TE : TxtE K mg ce) : FnOk P w K mg base CX0 14 (ad 40) (fd 40) ps_law (spLaw K) := by
  refine (show Fun K "law" "law" st_law (ad 40) (fd 40) from T.f 40 (by decide)).ok sc_law (fun vs H Q E h => by obtain ⟨a, ns, rfl, _⟩ := h; rfl) (fun cdv A outer s H vs Q E hr h => ?_)
  have hu := hu_of hr
  have hu65 := hu65_of hr
  refine ⟨_, (pss_cons (ps_for PassesOwn.never rfl (pi_range1 (by rfl) (T.z 2 (by decide)) (pa_cons (pe_callB (cl_max rfl) (by rfl) (T.z 12 (by decide)) (by decide +kernel) (pa_cons pe_int (pa_cons (pe_callB (cl_min rfl) (by rfl) (T.z 13 (by decide)) (by decide +kernel) (pa_cons (pe_callB (r := Da.rLen K) cl_len (by rfl) (T.z 0 (by decide)) (by decide +kernel) (pa_cons (pv 0) pa_nil)) (pa_cons pe_int pa_nil))) pa_nil))) pa_nil)) (pg_name (i := 1) sc_law.nd rfl (Or.inl rfl))
    (pss_cons (ps_set (i := 2) sc_law.nd rfl (Or.inl rfl) (pe_call (ok__law_pen (K := K) T) (hr.mono (by omega)) (by rfl) (T.g 30 (by decide)) (T.k 30 (by decide)) (bd__law_pen T) .nil pass0 (pa_cons (pe_call (ok__law_cell_at (K := K) T) (hr.mono (by omega)) (by rfl) (T.g 31 (by decide)) (T.k 31 (by decide)) (bd__law_cell_at T) .nil pass0 (pa_cons (pv 0) (pa_cons (pv 1) pa_nil))) pa_nil)))
  (pss_cons (ps_set (i := 3) sc_law.nd rfl (Or.inl rfl) (pe_call (ok__law_sets (K := K) T) (hr.mono (by omega)) (by rfl) (T.g 33 (by decide)) (T.k 33 (by decide)) (bd__law_sets T) .nil pass0 (pa_cons (pv 2) pa_nil)))
  (pss_cons (ps_if (pt_cmpR (r := rEqS true) op_neS (pe_call (ok_list_text (K := K) T) (hr.mono (by omega)) (by rfl) (T.g 24 (by decide)) (T.k 24 (by decide)) (bd_list_text T) .nil pass0 (pa_cons (pv 3) pa_nil)) (pe_call (ok__law_list_text (K := K) T) (hr.mono (by omega)) (by rfl) (T.g 34 (by decide)) (T.k 34 (by decide)) (bd__law_list_text T) .nil pass0 (pa_cons (pv 3) pa_nil)) (nomark _))
    (pss_one (ps_ret pe_bl))
    pss_nil)
  (pss_one (ps_for PassesOwn.never rfl (pi_range1 (by rfl) (T.z 2 (by decide)) (pa_cons pe_int pa_nil)) (pg_name (i := 4) sc_law.nd rfl (Or.inl rfl))
    (pss_cons (ps_parS (i := 5) (j := 6) (by first | exact ign_call (ignA_cons (ignM_var (by decide)) ignA_nil) | exact ign_sl (ign_call (ignA_cons (ignM_var (by decide)) ignA_nil)) (fun _ _ => rfl) (fun _ _ => rfl) | (refine ign_call ?_; repeat (first | exact ignA_nil | refine ignA_cons (ignM_var (by decide)) ?_ | refine ignA_cons ignM_c ?_)) | (refine ign_op (ignM_lst ?_) (ign_call ?_) <;> repeat (first | exact ignAM_nil | exact ignA_nil | refine ignAM_cons ignM_c ?_ | refine ignA_cons (ignM_var (by decide)) ?_ | refine ignA_cons ignM_c ?_))) (ps_par (i := 5) (j := 6) (by rfl) sc_law.nd rfl rfl (by decide) rfl rfl (pa_cons (pe_call (ok__law_counts_B (K := K) T) (hr.mono (by omega)) (by rfl) (T.g 36 (by decide)) (T.k 36 (by decide)) (bd__law_counts T) .nil pass0 (pa_cons (pv 2) (pa_cons (pv 3) pa_nil))) (pa_cons (pe_ix (r := rIxL K) ix_list (pe_lst (pa_cons pe_str (pa_cons pe_str (pa_cons pe_str (pa_cons pe_str pa_nil))))) (pe_call (ok__law_draw (K := K) T) (hr.mono (by omega)) (by rfl) (T.g 32 (by decide)) (T.k 32 (by decide)) (bd__law_draw T) .nil pass0 (pa_cons (pv 2) (pa_cons pe_int pa_nil))) (fun _ _ => rfl)) pa_nil)) (by rfl)))
  (pss_cons (ps_if (pt_cmpR (r := rEqD K) (op_eqD hr.units) (pv 4) pe_int (nomark _))
    (pss_one (ps_dputT hu (pv 5) (pe_tup (pa_cons pe_int (pa_cons pe_int (pa_cons (pe_call (ok__law_draw (K := K) T) (hr.mono (by omega)) (by rfl) (T.g 32 (by decide)) (T.k 32 (by decide)) (bd__law_draw T) .nil pass0 (pa_cons (pv 2) (pa_cons pe_int pa_nil))) pa_nil)))) (pe_ix (r := rIxL K) ix_list (pe_lst (pa_cons pe_int (pa_cons pe_int (pa_cons (pe_op op_pow pe_int pe_int) (pa_cons (pe_op op_pow pe_int pe_int) pa_nil))))) (pe_call (ok__law_draw (K := K) T) (hr.mono (by omega)) (by rfl) (T.g 32 (by decide)) (T.k 32 (by decide)) (bd__law_draw T) .nil pass0 (pa_cons (pv 2) (pa_cons pe_int pa_nil))) (fun _ _ => rfl)) rfl))
    pss_nil)
  (pss_cons (ps_if (pt_cmpR (r := rEqD K) (op_eqD hr.units) (pv 4) pe_int (nomark _))
    (pss_one (ps_set (i := 5) sc_law.nd rfl (Or.inl rfl) pe_dnewT))
    pss_nil)
  (pss_cons (ps_parS (i := 7) (j := 8) (by first | exact ign_call (ignA_cons (ignM_var (by decide)) ignA_nil) | exact ign_sl (ign_call (ignA_cons (ignM_var (by decide)) ignA_nil)) (fun _ _ => rfl) (fun _ _ => rfl) | (refine ign_call ?_; repeat (first | exact ignA_nil | refine ignA_cons (ignM_var (by decide)) ?_ | refine ignA_cons ignM_c ?_)) | (refine ign_op (ignM_lst ?_) (ign_call ?_) <;> repeat (first | exact ignAM_nil | exact ignA_nil | refine ignAM_cons ignM_c ?_ | refine ignA_cons (ignM_var (by decide)) ?_ | refine ignA_cons ignM_c ?_))) (ps_par (i := 7) (j := 8) (by rfl) sc_law.nd rfl rfl (by decide) rfl rfl (pa_cons (pe_call (ok__law_album (K := K) T TM TG) (hr.mono (by omega)) (by rfl) (T.g 37 (by decide)) (T.k 37 (by decide)) (bd__law_album T) .nil pass0 (pa_cons (pv 3) (pa_cons (pv 5) (pa_cons (pv 6) pa_nil)))) (pa_cons (pe_call (ok__law_text (K := K) T) (hr.mono (by omega)) (by rfl) (T.g 38 (by decide)) (T.k 38 (by decide)) (bd__law_text T) .nil pass0 (pa_cons (pv 3) (pa_cons (pv 5) (pa_cons (pv 6) pa_nil)))) pa_nil)) (by rfl)))
  (pss_cons (ps_if (PW.pt (pw_or (pt_cmpR (r := rEqS true) op_neS (pe_brw 7 (pe_call (ok_album_text (K := K) T TM TG) (hr.mono (by omega)) (by rfl) (T.g 25 (by decide)) (T.k 25 (by decide)) (bd_album_text T) .nil pass0 (pa_cons (pv 7) pa_nil))) (pv 8) (nomark _)) (pw_or1 (pt_cmpR (r := rEqS true) op_neS (pe_brw 7 (pe_callTy (cl_strO TM.os (ok_Album___str__ (K := K) T TM TG) (hr.mono (by omega)) (bm___str__ TM) pass0) (by rfl) (T.z 8 (by decide)) (by decide +kernel) (pa_cons (pv 7) pa_nil))) (pv 8) (nomark _)))))
    (pss_one (ps_ret pe_bl))
    pss_nil)
  (pss_cons (ps_set (i := 9) sc_law.nd rfl (Or.inl rfl) (pe_call (ok__law_read (K := K) T TM TG TE) (hr.mono (by omega)) (by rfl) (T.g 39 (by decide)) (T.k 39 (by decide)) (bd__law_read T) .nil pass0 (pa_cons (pv 8) pa_nil)))
  (pss_cons (ps_if (PW.pt (pw_or (pt_isO (pt_cmpR (r := rIsN) op_isN1 (pv 9) pe_non (nomark _))) (pw_or1 (pt_cmpR (r := rEqS true) op_neS (pe_brw 9 (pe_call (ok_album_text (K := K) T TM TG) (hr.mono (by omega)) (by rfl) (T.g 25 (by decide)) (T.k 25 (by decide)) (bd_album_text T) .nil pass0 (pa_cons (pv 9) pa_nil))) (pv 8) (nomark _)))))
    (pss_one (ps_ret pe_bl))
    pss_nil)
  (pss_cons (ps_if (PW.pt (pw_or (pt_brw2 9 7 (pt_cmpR (HmQ.op_ownNe TM.oc (ok_Album___eq__ (K := K) T TM TG) (hr.mono (by omega)) (bm___eq__ TM) pass0) (pv 9) (pv 7) (nomark _))) (pw_or (pt_cmpR (r := rEqS true) op_neS (pe_brw 9 (pe_meth0 (pv 9) TM.cl (TM.m 3 (by decide)) (ok_Album_called (K := K) T TM TG) (hr.mono (by omega)) (bm_called TM) .nil pass0)) (pv 6) (nomark _)) (pw_or1 (pt_cmpR (r := rNeD K) (op_neD hr.units) (pe_brw 9 (pe_meth0 (pv 9) TM.cl (TM.m 2 (by decide)) (ok_Album_book (K := K) T TM TG) (hr.mono (by omega)) (bm_book TM) .nil pass0)) (pv 3) (nomark _))))))
    (pss_one (ps_ret pe_bl))
    pss_nil)
  (pss_cons (ps_expr (pe_meth (pv 9) TM.cl (TM.m 10 (by decide)) (ok_Album_put (K := K) T TM TG) (hr.mono (by omega)) (bm_put_2 TM).choose_spec.2 (bm_put_2 TM).choose_spec.1 pass0 (pa_cons (pe_tup (pa_cons pe_int (pa_cons pe_int (pa_cons pe_int pa_nil)))) pa_nil)))
  (pss_cons (ps_if (PW.pt (pw_or (pt_cmpR (r := rEqS true) op_neS (pe_brw 7 (pe_call (ok_album_text (K := K) T TM TG) (hr.mono (by omega)) (by rfl) (T.g 25 (by decide)) (T.k 25 (by decide)) (bd_album_text T) .nil pass0 (pa_cons (pv 7) pa_nil))) (pv 8) (nomark _)) (pw_or1 (pt_brw 7 (pt_cmpR (HmQ.op_ownNe TM.oc (ok_Album___eq__ (K := K) T TM TG) (hr.mono (by omega)) (bm___eq__ TM) pass0) (pe_call (ok__law_read (K := K) T TM TG TE) (hr.mono (by omega)) (by rfl) (T.g 39 (by decide)) (T.k 39 (by decide)) (bd__law_read T) .nil pass0 (pa_cons (pv 8) pa_nil)) (pv 7) (nomark _))))))
    (pss_one (ps_ret pe_bl))
    pss_nil)
  (pss_cons (ps_for PassesOwn.never rfl (pi_tupK (K := K) (pe_tup (pa_cons pe_int (pa_cons pe_int pa_nil)))) (pg_name (i := 10) sc_law.nd rfl (Or.inl rfl))
    (pss_one (ps_expr (pe_meth (pv 7) TM.cl (TM.m 10 (by decide)) (ok_Album_put (K := K) T TM TG) (hr.mono (by omega)) (bm_put_3 TM).choose_spec.2 (bm_put_3 TM).choose_spec.1 pass0 (pa_cons (pe_tup (pa_cons pe_int (pa_cons pe_int (pa_cons pe_int pa_nil)))) (pa_cons (pe_op op_mul pe_int (pe_op op_pow pe_int pe_int)) pa_nil))))))
  (pss_one (ps_if (pt_brw 7 (pt_cmpR (HmQ.op_ownNe TM.oc (ok_Album___eq__ (K := K) T TM TG) (hr.mono (by omega)) (bm___eq__ TM) pass0) (pe_call (ok__law_read (K := K) T TM TG TE) (hr.mono (by omega)) (by rfl) (T.g 39 (by decide)) (T.k 39 (by decide)) (bd__law_read T) .nil pass0 (pa_cons (pe_call (ok_album_text (K := K) T TM TG) (hr.mono (by omega)) (by rfl) (T.g 25 (by decide)) (T.k 25 (by decide)) (bd_album_text T) .nil pass0 (pa_cons (pv 7) pa_nil)) pa_nil)) (pv 7) (nomark _)))
    (pss_one (ps_ret pe_bl))
    pss_nil)))))))))))))))))))
  (pss_one (ps_ret pe_bl))), ?_⟩
  obtain ⟨a, ns, rfl, tb, hS, hl, q⟩ := h
  refine bodyS tb hS q ?_
  rw [show stS nm_law ns = [.scr ns, .no, .no, .no, .no, .no, .no, .no, .no, .no, .no] from rfl]
  refine ⟨rfl, rfl, by repeat' split <;> omega, by repeat' split <;> omega, fun i Γ => ∃ v1 v2 v3 v4 v5 v6 v7 v8 v9 v10, Γ = [.scr ns, v1, v2, v3, v4, v5, v6, v7, v8, v9, v10], ⟨_, _, _, _, _, _, _, _, _, _, rfl⟩, ?_⟩
  rintro i Γ ⟨v1, v2, v3, v4, v5, v6, v7, v8, v9, v10, rfl⟩
  refine ⟨fun e => ⟨rfl, rfl⟩, fun y hy => ?_⟩
  obtain ⟨_, rfl⟩ := upI_get hy
  rw [Int.zero_add]
  refine ⟨⟨_, rfl⟩, ⟨_, rfl⟩, rfl, i, rfl, fun z => ⟨z, rfl, ?_⟩⟩
  refine ⟨rfl, rfl, rfl, fun ss bk => ?_⟩
  have sm := small_of bk
  refine ⟨rfl, ss, rfl, bk.l1, sm, rfl, ss, rfl, bk.l1, sm, ?_⟩
  (try dsimp only [dNext, dSeq, dIfS, dB, dOp, dNot, dOr, dAnd, dNotV, dOrV, dAndV, dAsg, dRet, dDrop, dCB, dIf, dTup, dLst, dCons, dNil, wf_d, wf_l, wb_b, wi_i, wt_t, wl_l, wl_d, tupR_t, tupR_l, lstR_t, lstR_l, List.set_cons_zero, List.set_cons_succ])
  refine eqS_b ?_
  refine wb_t (ifF (by simp) ?_)
  refine ⟨rfl, by decide, by decide, fun j Γ => ∃ v4 v5 v6 v7 v8 v9 v10, Γ = [.scr ns, .d (.int i), .pen, .d (bookD ss), v4, v5, v6, v7, v8, v9, v10], ⟨_, _, _, _, _, _, _, rfl⟩, ?_⟩
  rintro j Γ ⟨v4, v5, v6, v7, v8, v9, v10, rfl⟩
  refine ⟨fun e => ⟨_, _, _, _, _, _, _, _, _, _, rfl⟩, fun y hy => ?_⟩
  obtain ⟨j4, rfl⟩ := upI_get hy
  rw [Int.zero_add]
  dsimp only [List.set_cons_zero, List.set_cons_succ]
  refine seqMidT (fun Γ => ∃ cs nm, C85 ss cs ∧ N85 nm ∧ cs.length ≤ 48 ∧ Γ = g85 ns i j ss cs nm v7 v8 v9 v10) (fun N hN => ?_) ?_
  · refine ⟨rfl, rfl, rfl, ss, rfl, bk, fun cs ok cl c5 => ?_⟩
    (try dsimp only [dNext, dSeq, dIfS, dB, dOp, dNot, dOr, dAnd, dNotV, dOrV, dAndV, dAsg, dRet, dDrop, dCB, dIf, dTup, dLst, dCons, dNil, wf_d, wf_l, wb_b, wi_i, wt_t, wl_l, wl_d, tupR_t, tupR_l, lstR_t, lstR_l, List.set_cons_zero, List.set_cons_succ])
    refine ⟨rfl, rfl, rfl, rfl, show 4 ≤ 100000 by decide, rfl, rfl, rfl, rfl, 4, rfl, by decide, by decide, fun r r0 r1 => ?_⟩
    obtain ⟨nm, hnm, n8⟩ := name4 r0 r1
    exact ⟨_, hnm, hN _ ⟨cs, nm, ⟨ok, by omega, fun c hc => Int.le_trans (c5 c hc) (by decide)⟩, n8, cl, rfl⟩⟩
  rintro _ ⟨cs, nm, hc, n8, cl, rfl⟩
  refine seqMidT (fun Γ => ∃ cs nm, C85 ss cs ∧ N85 nm ∧ Γ = g85 ns i j ss cs nm v7 v8 v9 v10) (fun N hN => ?_) ?_
  · refine ⟨rfl, fit_int _, fit_int _, ?_⟩
    refine wb_t (ifB (fun _ => ?_) (fun _ => hN _ ⟨cs, nm, hc, n8, rfl⟩))
    refine ⟨rfl, rfl, rfl, rfl, ⟨by decide, by decide, by decide⟩, rfl, rfl, rfl, ⟨by decide, by decide, by decide⟩, rfl, show 4 ≤ 100000 by decide, rfl, rfl, rfl, rfl, 4, rfl, by decide, by decide, fun r r0 r1 => ?_⟩
    obtain ⟨n, hn, n1, n39⟩ : ∃ n : Int, atI [D.int 1, .int 10, .int (10 ^ (9 : Int).toNat), .int (10 ^ (39 : Int).toNat)] r = some (.int n) ∧ 1 ≤ n ∧ n ≤ 10 ^ 39 := by
      have : r = 0 ∨ r = 1 ∨ r = 2 ∨ r = 3 := by omega
      rcases this with rfl | rfl | rfl | rfl <;> exact ⟨_, rfl, by decide, by decide⟩
    refine ⟨_, hn, ?_⟩
    refine ⟨⟨_, _, rfl⟩, rfl, rfl, rfl, rfl, rfl, rfl, 2, rfl, by decide, by decide, fun g g0 g1 => ?_⟩
    refine ⟨show 3 ≤ 100000 by decide, _, _, keyT (0, 0, g), rfl, rfl, by rw [kyA_len]; omega, ?_⟩
    obtain ⟨p1, p2⟩ := put_A cs (0, 0, g) n
    have e1 : En.dT (putTs (kyA cs) (keyT (0, 0, g))) (putTD (kyA cs) (vlA cs) (keyT (0, 0, g)) (.int n)) = .dT (kyA (putA cs (0, 0, g) n)) (vlA (putA cs (0, 0, g) n)) := by rw [p1, p2]
    refine hN _ ⟨putA cs (0, 0, g) n, nm, ⟨hc.ok.put (ok00 bk g0 g1) n1, ?_, putA_le hc.m n39⟩, n8, ?_⟩
    · have := putA_len cs (0, 0, g) n
      omega
    · exact congrArg (fun x : En => ([.scr ns, .d (.int i), .pen, .d (bookD ss), .d (.int j), x, .d (.str nm), v7, v8, v9, v10] : List En)) e1
  rintro _ ⟨cs, nm, hc, n8, rfl⟩
  refine seqMidT (fun Γ => ∃ cs nm, C85 ss cs ∧ N85 nm ∧ Γ = g85 ns i j ss cs nm v7 v8 v9 v10) (fun N hN => ?_) ?_
  · refine ⟨rfl, fit_int _, fit_int _, ?_⟩
    refine wb_t (ifB (fun _ => ?_) (fun _ => hN _ ⟨cs, nm, hc, n8, rfl⟩))
    exact hN _ ⟨[], nm, ⟨CtOk.nil, by decide, fun _ h => nomatch h⟩, n8, rfl⟩
  rintro _ ⟨cs, nm, ⟨ok, cl, cm⟩, ⟨nl, nb⟩, rfl⟩
  have rsm : ∀ c ∈ cs, RowSmall c := fun c hc => (rowW_of bk (ok.st c hc) (ok.pos c hc) (Int.lt_of_le_of_lt (cm c hc) (by decide))).2.2.1
  refine seqMidT (fun Γ => ∃ p T, Γ = [.scr ns, .d (.int i), .pen, .d (bookD ss), .d (.int j), .d (.dT (kyA cs) (vlA cs)), .d (.str nm), .ow (.ins C nsA (osA ss nm (riseA cs))) (p :: T), .d (.str (textW nm ss (riseA cs))), v9, v10]) (fun N hN => ?_) ?_
  · refine ⟨rfl, ss, cs, nm, rfl, bk, rfl, ok, by omega, rfl, nl, nb, fun p T => ?_⟩
    exact ⟨rfl, nm, ss, cs, rfl, rfl, rfl, nl, bk.l1, sm, ok.nd, by omega, rsm, hN _ ⟨p, T, rfl⟩⟩
  rintro _ ⟨p, T, rfl⟩
  have rok := ok.perm (riseA_perm cs)
  have er : riseA (riseA cs) = riseA cs := rise_ext rok ok fun s => cnt_perm rok (riseA_perm cs) s
  have rl := riseA_len cs
  have rsm2 : ∀ c ∈ riseA cs, RowSmall c := fun c hc => rsm c ((riseA_perm cs).mem_iff.mp hc)
  have cm2 : ∀ c ∈ riseA cs, c.2 ≤ 10 ^ 39 := fun c hc => cm c ((riseA_perm cs).mem_iff.mp hc)
  generalize hR : riseA cs = R at *
  refine seqMidT (fun Γ => Γ = [.scr ns, .d (.int i), .pen, .d (bookD ss), .d (.int j), .d (.dT (kyA cs) (vlA cs)), .d (.str nm), .ow (.ins C nsA (osA ss nm R)) (p :: T), .d (.str (textW nm ss R)), v9, v10]) (fun N hN => ?_) ?_
  · (try dsimp only [dNext, dSeq, dIfS, dB, dOp, dNot, dOr, dAnd, dNotV, dOrV, dAndV, dAsg, dRet, dDrop, dCB, dIf, dTup, dLst, dCons, dNil, wf_d, wf_l, wb_b, wi_i, wt_t, wl_l, wl_d, tupR_t, tupR_l, lstR_t, lstR_l, List.set_cons_zero, List.set_cons_succ])
    refine brw_txt rfl nl bk (by omega) rok.nd rsm2 ?_
    rw [er]
    (try dsimp only [dNext, dSeq, dIfS, dB, dOp, dNot, dOr, dAnd, dNotV, dOrV, dAndV, dAsg, dRet, dDrop, dCB, dIf, dTup, dLst, dCons, dNil, wf_d, wf_l, wb_b, wi_i, wt_t, wl_l, wl_d, tupR_t, tupR_l, lstR_t, lstR_l, List.set_cons_zero, List.set_cons_succ])
    refine dVar_r (x := .str (textW nm ss R)) rfl ?_
    (try dsimp only [dNext, dSeq, dIfS, dB, dOp, dNot, dOr, dAnd, dNotV, dOrV, dAndV, dAsg, dRet, dDrop, dCB, dIf, dTup, dLst, dCons, dNil, wf_d, wf_l, wb_b, wi_i, wt_t, wl_l, wl_d, tupR_t, tupR_l, lstR_t, lstR_l, List.set_cons_zero, List.set_cons_succ])
    refine eqS_b ?_
    refine wb_t (ifF (by simp) ?_)
    refine brw_str rfl nl bk (by omega) rok.nd rsm2 ?_
    rw [er]
    (try dsimp only [dNext, dSeq, dIfS, dB, dOp, dNot, dOr, dAnd, dNotV, dOrV, dAndV, dAsg, dRet, dDrop, dCB, dIf, dTup, dLst, dCons, dNil, wf_d, wf_l, wb_b, wi_i, wt_t, wl_l, wl_d, tupR_t, tupR_l, lstR_t, lstR_l, List.set_cons_zero, List.set_cons_succ])
    refine dVar_r (x := .str (textW nm ss R)) rfl ?_
    (try dsimp only [dNext, dSeq, dIfS, dB, dOp, dNot, dOr, dAnd, dNotV, dOrV, dAndV, dAsg, dRet, dDrop, dCB, dIf, dTup, dLst, dCons, dNil, wf_d, wf_l, wb_b, wi_i, wt_t, wl_l, wl_d, tupR_t, tupR_l, lstR_t, lstR_l, List.set_cons_zero, List.set_cons_succ])
    refine eqS_b ?_
    exact wb_t (ifF (by simp) (hN _ rfl))
  rintro _ rfl
  refine seqMidT (fun Γ => ∃ q S, Γ = [.scr ns, .d (.int i), .pen, .d (bookD ss), .d (.int j), .d (.dT (kyA cs) (vlA cs)), .d (.str nm), .ow (.ins C nsA (osA ss nm R)) (p :: T), .d (.str (textW nm ss R)), .ow (.ins C nsA (osA ss nm R)) (q :: S), v10]) (fun N hN => ?_) ?_
  · refine ⟨rfl, nm, ss, R, by rw [er], nl, nb, bk, rok, by omega, fun c hc => Int.lt_of_le_of_lt (cm2 c hc) (by decide), fun q S => ?_⟩
    rw [er]
    exact hN _ ⟨q, S, rfl⟩
  rintro _ ⟨q, S, rfl⟩
  refine seqMidT (fun Γ => Γ = [.scr ns, .d (.int i), .pen, .d (bookD ss), .d (.int j), .d (.dT (kyA cs) (vlA cs)), .d (.str nm), .ow (.ins C nsA (osA ss nm R)) (p :: T), .d (.str (textW nm ss R)), .ow (.ins C nsA (osA ss nm R)) (q :: S), v10]) (fun N hN => ?_) ?_
  · refine ⟨C, _, _, _, rfl, ?_⟩
    refine wb_t (ifF rfl ?_)
    (try dsimp only [dNext, dSeq, dIfS, dB, dOp, dNot, dOr, dAnd, dNotV, dOrV, dAndV, dAsg, dRet, dDrop, dCB, dIf, dTup, dLst, dCons, dNil, wf_d, wf_l, wb_b, wi_i, wt_t, wl_l, wl_d, tupR_t, tupR_l, lstR_t, lstR_l, List.set_cons_zero, List.set_cons_succ])
    refine brw_txt rfl nl bk (by omega) rok.nd rsm2 ?_
    rw [er]
    (try dsimp only [dNext, dSeq, dIfS, dB, dOp, dNot, dOr, dAnd, dNotV, dOrV, dAndV, dAsg, dRet, dDrop, dCB, dIf, dTup, dLst, dCons, dNil, wf_d, wf_l, wb_b, wi_i, wt_t, wl_l, wl_d, tupR_t, tupR_l, lstR_t, lstR_l, List.set_cons_zero, List.set_cons_succ])
    refine dVar_r (x := .str (textW nm ss R)) rfl ?_
    (try dsimp only [dNext, dSeq, dIfS, dB, dOp, dNot, dOr, dAnd, dNotV, dOrV, dAndV, dAsg, dRet, dDrop, dCB, dIf, dTup, dLst, dCons, dNil, wf_d, wf_l, wb_b, wi_i, wt_t, wl_l, wl_d, tupR_t, tupR_l, lstR_t, lstR_l, List.set_cons_zero, List.set_cons_succ])
    refine eqS_b ?_
    exact wb_t (ifF (by simp) (hN _ rfl))
  rintro _ rfl
  refine seqMidT (fun Γ => Γ = [.scr ns, .d (.int i), .pen, .d (bookD ss), .d (.int j), .d (.dT (kyA cs) (vlA cs)), .d (.str nm), .ow (.ins C nsA (osA ss nm R)) (p :: T), .d (.str (textW nm ss R)), .ow (.ins C nsA (osA ss nm R)) (q :: S), v10]) (fun N hN => ?_) ?_
  · refine ⟨_, _, _, _, by decide, rfl, rfl, rfl, ?_⟩
    rw [alb_dt]
    refine ⟨⟨_, _, rfl⟩, ⟨_, _, rfl⟩, ss, nm, R, rfl, bk, .inr ⟨ss, nm, R, rfl, bk, _, rfl, ?_⟩⟩
    rw [eq_alb bk rok rok (fun _ => rfl)]
    refine wb_t (ifF rfl ?_)
    refine ⟨_, _, rfl, ?_⟩
    rw [alb_dt]
    refine ⟨⟨_, _, rfl, rfl⟩, rfl, ss, nm, R, rfl, rfl, ?_⟩
    (try dsimp only [dNext, dSeq, dIfS, dB, dOp, dNot, dOr, dAnd, dNotV, dOrV, dAndV, dAsg, dRet, dDrop, dCB, dIf, dTup, dLst, dCons, dNil, wf_d, wf_l, wb_b, wi_i, wt_t, wl_l, wl_d, tupR_t, tupR_l, lstR_t, lstR_l, List.set_cons_zero, List.set_cons_succ])
    refine dVar_r (x := .str nm) rfl ?_
    (try dsimp only [dNext, dSeq, dIfS, dB, dOp, dNot, dOr, dAnd, dNotV, dOrV, dAndV, dAsg, dRet, dDrop, dCB, dIf, dTup, dLst, dCons, dNil, wf_d, wf_l, wb_b, wi_i, wt_t, wl_l, wl_d, tupR_t, tupR_l, lstR_t, lstR_l, List.set_cons_zero, List.set_cons_succ])
    refine eqS_b ?_
    refine wb_t (ifF (by simp) ?_)
    refine ⟨_, _, rfl, ?_⟩
    rw [alb_dt]
    refine ⟨⟨_, _, rfl, rfl⟩, rfl, ss, nm, R, rfl, book_imm ss, ?_⟩
    (try dsimp only [dNext, dSeq, dIfS, dB, dOp, dNot, dOr, dAnd, dNotV, dOrV, dAndV, dAsg, dRet, dDrop, dCB, dIf, dTup, dLst, dCons, dNil, wf_d, wf_l, wb_b, wi_i, wt_t, wl_l, wl_d, tupR_t, tupR_l, lstR_t, lstR_l, List.set_cons_zero, List.set_cons_succ])
    refine dVar_r (x := bookD ss) rfl ?_
    (try dsimp only [dNext, dSeq, dIfS, dB, dOp, dNot, dOr, dAnd, dNotV, dOrV, dAndV, dAsg, dRet, dDrop, dCB, dIf, dTup, dLst, dCons, dNil, wf_d, wf_l, wb_b, wi_i, wt_t, wl_l, wl_d, tupR_t, tupR_l, lstR_t, lstR_l, List.set_cons_zero, List.set_cons_succ])
    refine ⟨fit_book bk, fit_book bk, ?_⟩
    rw [eqv_self (fit_book bk)]
    exact wb_t (ifF rfl (hN _ rfl))
  rintro _ rfl
  refine seqMidT (fun Γ => ∃ e9, Γ = [.scr ns, .d (.int i), .pen, .d (bookD ss), .d (.int j), .d (.dT (kyA cs) (vlA cs)), .d (.str nm), .ow (.ins C nsA (osA ss nm R)) (p :: T), .d (.str (textW nm ss R)), e9, v10]) (fun N hN => ?_) ?_
  · refine ⟨⟨_, _, _, rfl, many_out⟩, rfl, rfl, rfl, show 3 ≤ 100000 by decide, rfl, _, _, _, rfl, ss, nm, R, (0, 0, 0), 1, rfl, rfl, rfl, ok00 bk (by decide) (by decide), rfl, by decide, by omega, fun q2 S2 => ?_⟩
    exact hN _ ⟨_, rfl⟩
  rintro _ ⟨e9, rfl⟩
  refine seqMidT (fun Γ => Γ = [.scr ns, .d (.int i), .pen, .d (bookD ss), .d (.int j), .d (.dT (kyA cs) (vlA cs)), .d (.str nm), .ow (.ins C nsA (osA ss nm R)) (p :: T), .d (.str (textW nm ss R)), e9, v10]) (fun N hN => ?_) ?_
  · (try dsimp only [dNext, dSeq, dIfS, dB, dOp, dNot, dOr, dAnd, dNotV, dOrV, dAndV, dAsg, dRet, dDrop, dCB, dIf, dTup, dLst, dCons, dNil, wf_d, wf_l, wb_b, wi_i, wt_t, wl_l, wl_d, tupR_t, tupR_l, lstR_t, lstR_l, List.set_cons_zero, List.set_cons_succ])
    refine brw_txt rfl nl bk (by omega) rok.nd rsm2 ?_
    rw [er]
    (try dsimp only [dNext, dSeq, dIfS, dB, dOp, dNot, dOr, dAnd, dNotV, dOrV, dAndV, dAsg, dRet, dDrop, dCB, dIf, dTup, dLst, dCons, dNil, wf_d, wf_l, wb_b, wi_i, wt_t, wl_l, wl_d, tupR_t, tupR_l, lstR_t, lstR_l, List.set_cons_zero, List.set_cons_succ])
    refine dVar_r (x := .str (textW nm ss R)) rfl ?_
    (try dsimp only [dNext, dSeq, dIfS, dB, dOp, dNot, dOr, dAnd, dNotV, dOrV, dAndV, dAsg, dRet, dDrop, dCB, dIf, dTup, dLst, dCons, dNil, wf_d, wf_l, wb_b, wi_i, wt_t, wl_l, wl_d, tupR_t, tupR_l, lstR_t, lstR_l, List.set_cons_zero, List.set_cons_succ])
    refine eqS_b ?_
    refine wb_t (ifF (by simp) ?_)
    refine ⟨_, _, rfl, ?_⟩
    rw [alb_dt]
    refine ⟨rfl, nm, ss, R, by rw [er], nl, nb, bk, rok, by omega, fun c hc => Int.lt_of_le_of_lt (cm2 c hc) (by decide), fun q S => ?_⟩
    rw [er]
    (try dsimp only [dNext, dSeq, dIfS, dB, dOp, dNot, dOr, dAnd, dNotV, dOrV, dAndV, dAsg, dRet, dDrop, dCB, dIf, dTup, dLst, dCons, dNil, wf_d, wf_l, wb_b, wi_i, wt_t, wl_l, wl_d, tupR_t, tupR_l, lstR_t, lstR_l, List.set_cons_zero, List.set_cons_succ])
    refine wf_ow_go ?_
    (try dsimp only [dNext, dSeq, dIfS, dB, dOp, dNot, dOr, dAnd, dNotV, dOrV, dAndV, dAsg, dRet, dDrop, dCB, dIf, dTup, dLst, dCons, dNil, wf_d, wf_l, wb_b, wi_i, wt_t, wl_l, wl_d, tupR_t, tupR_l, lstR_t, lstR_l, List.set_cons_zero, List.set_cons_succ])
    refine dVar_r (x := albD C ss nm R) rfl ?_
    (try dsimp only [dNext, dSeq, dIfS, dB, dOp, dNot, dOr, dAnd, dNotV, dOrV, dAndV, dAsg, dRet, dDrop, dCB, dIf, dTup, dLst, dCons, dNil, wf_d, wf_l, wb_b, wi_i, wt_t, wl_l, wl_d, tupR_t, tupR_l, lstR_t, lstR_l, List.set_cons_zero, List.set_cons_succ])
    rw [alb_dt]
    refine ⟨⟨_, _, rfl⟩, ⟨_, _, rfl⟩, ss, nm, R, rfl, bk, .inr ⟨ss, nm, R, rfl, bk, _, rfl, ?_⟩⟩
    rw [eq_alb bk rok rok (fun _ => rfl)]
    exact wb_t (ifF rfl (hN _ rfl))
  rintro _ rfl
  refine seqMidT (fun Γ => ∃ cs' p T v10, CtOk (OkS ss) cs' ∧ cs'.length ≤ 52 ∧ (∀ c ∈ cs', c.2 < 10 ^ 60) ∧ Γ = [.scr ns, .d (.int i), .pen, .d (bookD ss), .d (.int j), .d (.dT (kyA cs) (vlA cs)), .d (.str nm), .ow (.ins C nsA (osA ss nm cs')) (p :: T), .d (.str (textW nm ss R)), e9, v10]) (fun N hN => ?_) ?_
  · refine ⟨rfl, rfl, show 2 ≤ 100000 by decide, fun m Γ => ∃ cs' p T v10, CtOk (OkS ss) cs' ∧ cs'.length ≤ 50 + m ∧ (∀ c ∈ cs', c.2 ≤ b85 m) ∧ Γ = [.scr ns, .d (.int i), .pen, .d (bookD ss), .d (.int j), .d (.dT (kyA cs) (vlA cs)), .d (.str nm), .ow (.ins C nsA (osA ss nm cs')) (p :: T), .d (.str (textW nm ss R)), e9, v10], ⟨R, p, T, _, rok, by omega, fun c hc => by have := cm2 c hc; unfold b85; omega, rfl⟩, ?_⟩
    rintro m Γ ⟨cs', p, T, v10, ok', cl', cb, rfl⟩
    refine ⟨fun e => ?_, fun d hd => ?_⟩
    · have e : m = 2 := e
      subst e
      exact hN _ ⟨cs', p, T, v10, ok', cl', fun c hc => Int.lt_of_le_of_lt (cb c hc) (by decide), rfl⟩
    · have ml : m < 2 := (List.getElem?_eq_some_iff.mp hd).1
      have al := addA_len cs' (0, 0, 0) (9 * 10 ^ (39 : Int).toNat)
      have hb0 : 0 ≤ b85 m := by unfold b85; omega
      refine ⟨⟨_, _, _, rfl, many_out⟩, rfl, rfl, rfl, show 3 ≤ 100000 by decide, rfl, rfl, rfl, ⟨by decide, by decide, by decide⟩, rfl, .inl ⟨by decide, by decide⟩, rfl, rfl, _, _, _, rfl, ss, nm, cs', (0, 0, 0), 9 * 10 ^ (39 : Int).toNat, rfl, rfl, rfl, ok00 bk (by decide) (by decide), rfl, by decide, by omega, fun q2 S2 => ?_⟩
      refine ⟨addA cs' (0, 0, 0) (9 * 10 ^ (39 : Int).toNat), q2, S2, .d d, ok'.add (ok00 bk (by decide) (by decide)) (by decide), by omega, fun c hc => ?_, rfl⟩
      have h1 := addA_le (s := (0, 0, 0)) (m := 9 * 10 ^ (39 : Int).toNat) cb hb0 (by decide) c hc
      have h2 : b85 m + 9 * 10 ^ (39 : Int).toNat = b85 (m + 1) := by
        unfold b85
        show 10 ^ 39 + (m : Int) * (9 * 10 ^ 39) + 9 * 10 ^ 39 = 10 ^ 39 + ((m + 1 : Nat) : Int) * (9 * 10 ^ 39)
        omega
      rw [h2] at h1
      exact h1
  rintro _ ⟨cs', p, T, v10, ok', cl', c60, rfl⟩
  have rs' : ∀ c ∈ cs', RowSmall c := fun c hc => (rowW_of bk (ok'.st c hc) (ok'.pos c hc) (c60 c hc)).2.2.1
  have rok' := ok'.perm (riseA_perm cs')
  refine ⟨_, _, rfl, ?_⟩
  rw [alb_dt]
  unfold dB dOp dCall dCons
  (try dsimp only [dNext, dSeq, dIfS, dB, dOp, dNot, dOr, dAnd, dNotV, dOrV, dAndV, dAsg, dRet, dDrop, dCB, dIf, dTup, dLst, dCons, dNil, wf_d, wf_l, wb_b, wi_i, wt_t, wl_l, wl_d, tupR_t, tupR_l, lstR_t, lstR_l, List.set_cons_zero, List.set_cons_succ])
  refine dVar_r (x := albD C ss nm cs') rfl ?_
  (try dsimp only [dNext, dSeq, dIfS, dB, dOp, dNot, dOr, dAnd, dNotV, dOrV, dAndV, dAsg, dRet, dDrop, dCB, dIf, dTup, dLst, dCons, dNil, wf_d, wf_l, wb_b, wi_i, wt_t, wl_l, wl_d, tupR_t, tupR_l, lstR_t, lstR_l, List.set_cons_zero, List.set_cons_succ])
  refine ⟨rfl, ss, nm, cs', rfl, nl, bk.l1, sm, by omega, ok'.nd, rs', rfl, nm, ss, cs', rfl, nl, nb, bk, ok', by omega, c60, fun q S => ?_⟩
  refine wf_ow_go ?_
  (try dsimp only [dNext, dSeq, dIfS, dB, dOp, dNot, dOr, dAnd, dNotV, dOrV, dAndV, dAsg, dRet, dDrop, dCB, dIf, dTup, dLst, dCons, dNil, wf_d, wf_l, wb_b, wi_i, wt_t, wl_l, wl_d, tupR_t, tupR_l, lstR_t, lstR_l, List.set_cons_zero, List.set_cons_succ])
  refine dVar_r (x := albD C ss nm cs') rfl ?_
  (try dsimp only [dNext, dSeq, dIfS, dB, dOp, dNot, dOr, dAnd, dNotV, dOrV, dAndV, dAsg, dRet, dDrop, dCB, dIf, dTup, dLst, dCons, dNil, wf_d, wf_l, wb_b, wi_i, wt_t, wl_l, wl_d, tupR_t, tupR_l, lstR_t, lstR_l, List.set_cons_zero, List.set_cons_succ])
  rw [alb_dt]
  refine ⟨⟨_, _, rfl⟩, ⟨_, _, rfl⟩, ss, nm, riseA cs', rfl, bk, .inr ⟨ss, nm, cs', rfl, bk, _, rfl, ?_⟩⟩
  rw [eq_alb bk rok' ok' (fun s => cnt_perm rok' (riseA_perm cs') s)]
  exact wb_t (ifF rfl ⟨_, _, _, _, _, _, _, rfl⟩)
end
end Dl

set_option Elab.async false
set_option maxRecDepth 100000
set_option maxHeartbeats 4000000
set_option linter.all false
namespace Dl
open PySem PySem.Spec PyProof.Rows L2 HmS Da
theorem all_mk {l : PySem.W.OpenLaw} {w : World} {K : PySem.W.Frag} {h : Heap} {mg : Str → Option Value} {fa : Addr} (X : K.In h) (G : h.Ns mainGlobals mg) (hfa : mg "law" = some (.ref fa))
    {ex_t : Addr}
    {C : Addr} {tH tW : Tok}
    {gw : Addr} {gws : Array (Option Value)} {gwn : Nat} {gt0 gt1 : Tok}
    {f0 : Addr} {od0 an0 : Option Addr} {sl0 : Array (Option Value)} {oc0 kV0 dc0 pm0 ct0 cd0 : Value}
    {f1 : Addr} {od1 an1 : Option Addr} {sl1 : Array (Option Value)} {oc1 kV1 dc1 pm1 ct1 cd1 : Value}
    {f2 : Addr} {od2 an2 : Option Addr} {sl2 : Array (Option Value)} {oc2 kV2 dc2 pm2 ct2 cd2 : Value}
    {f3 : Addr} {od3 an3 : Option Addr} {sl3 : Array (Option Value)} {oc3 kV3 dc3 pm3 ct3 cd3 : Value}
    {f4 : Addr} {od4 an4 : Option Addr} {sl4 : Array (Option Value)} {oc4 kV4 dc4 pm4 ct4 cd4 : Value}
    {f5 : Addr} {od5 an5 : Option Addr} {sl5 : Array (Option Value)} {oc5 kV5 dc5 pm5 ct5 cd5 : Value}
    {f6 : Addr} {od6 an6 : Option Addr} {sl6 : Array (Option Value)} {oc6 kV6 dc6 pm6 ct6 cd6 : Value}
    {f7 : Addr} {od7 an7 : Option Addr} {sl7 : Array (Option Value)} {oc7 kV7 dc7 pm7 ct7 cd7 : Value}
    {f8 : Addr} {od8 an8 : Option Addr} {sl8 : Array (Option Value)} {oc8 kV8 dc8 pm8 ct8 cd8 : Value}
    {f9 : Addr} {od9 an9 : Option Addr} {sl9 : Array (Option Value)} {oc9 kV9 dc9 pm9 ct9 cd9 : Value}
    {f10 : Addr} {od10 an10 : Option Addr} {sl10 : Array (Option Value)} {oc10 kV10 dc10 pm10 ct10 cd10 : Value}
    {f11 : Addr} {od11 an11 : Option Addr} {sl11 : Array (Option Value)} {oc11 kV11 dc11 pm11 ct11 cd11 : Value}
    {f12 : Addr} {od12 an12 : Option Addr} {sl12 : Array (Option Value)} {oc12 kV12 dc12 pm12 ct12 cd12 : Value}
    {f13 : Addr} {od13 an13 : Option Addr} {sl13 : Array (Option Value)} {oc13 kV13 dc13 pm13 ct13 cd13 : Value}
    {f14 : Addr} {od14 an14 : Option Addr} {sl14 : Array (Option Value)} {oc14 kV14 dc14 pm14 ct14 cd14 : Value}
    {f15 : Addr} {od15 an15 : Option Addr} {sl15 : Array (Option Value)} {oc15 kV15 dc15 pm15 ct15 cd15 : Value}
    {f16 : Addr} {od16 an16 : Option Addr} {sl16 : Array (Option Value)} {oc16 kV16 dc16 pm16 ct16 cd16 : Value}
    {f17 : Addr} {od17 an17 : Option Addr} {sl17 : Array (Option Value)} {oc17 kV17 dc17 pm17 ct17 cd17 : Value}
    {f18 : Addr} {od18 an18 : Option Addr} {sl18 : Array (Option Value)} {oc18 kV18 dc18 pm18 ct18 cd18 : Value}
    {f19 : Addr} {od19 an19 : Option Addr} {sl19 : Array (Option Value)} {oc19 kV19 dc19 pm19 ct19 cd19 : Value}
    {f20 : Addr} {od20 an20 : Option Addr} {sl20 : Array (Option Value)} {oc20 kV20 dc20 pm20 ct20 cd20 : Value}
    {f21 : Addr} {od21 an21 : Option Addr} {sl21 : Array (Option Value)} {oc21 kV21 dc21 pm21 ct21 cd21 : Value}
    {f22 : Addr} {od22 an22 : Option Addr} {sl22 : Array (Option Value)} {oc22 kV22 dc22 pm22 ct22 cd22 : Value}
    {f23 : Addr} {od23 an23 : Option Addr} {sl23 : Array (Option Value)} {oc23 kV23 dc23 pm23 ct23 cd23 : Value}
    {f24 : Addr} {od24 an24 : Option Addr} {sl24 : Array (Option Value)} {oc24 kV24 dc24 pm24 ct24 cd24 : Value}
    {f25 : Addr} {od25 an25 : Option Addr} {sl25 : Array (Option Value)} {oc25 kV25 dc25 pm25 ct25 cd25 : Value}
    {f26 : Addr} {od26 an26 : Option Addr} {sl26 : Array (Option Value)} {oc26 kV26 dc26 pm26 ct26 cd26 : Value}
    {f27 : Addr} {od27 an27 : Option Addr} {sl27 : Array (Option Value)} {oc27 kV27 dc27 pm27 ct27 cd27 : Value}
    {f28 : Addr} {od28 an28 : Option Addr} {sl28 : Array (Option Value)} {oc28 kV28 dc28 pm28 ct28 cd28 : Value}
    {f29 : Addr} {od29 an29 : Option Addr} {sl29 : Array (Option Value)} {oc29 kV29 dc29 pm29 ct29 cd29 : Value}
    {f30 : Addr} {od30 an30 : Option Addr} {sl30 : Array (Option Value)} {oc30 kV30 dc30 pm30 ct30 cd30 : Value}
    {f31 : Addr} {od31 an31 : Option Addr} {sl31 : Array (Option Value)} {oc31 kV31 dc31 pm31 ct31 cd31 : Value}
    {f32 : Addr} {od32 an32 : Option Addr} {sl32 : Array (Option Value)} {oc32 kV32 dc32 pm32 ct32 cd32 : Value}
    {f33 : Addr} {od33 an33 : Option Addr} {sl33 : Array (Option Value)} {oc33 kV33 dc33 pm33 ct33 cd33 : Value}
    {f34 : Addr} {od34 an34 : Option Addr} {sl34 : Array (Option Value)} {oc34 kV34 dc34 pm34 ct34 cd34 : Value}
    {f35 : Addr} {od35 an35 : Option Addr} {sl35 : Array (Option Value)} {oc35 kV35 dc35 pm35 ct35 cd35 : Value}
    {f36 : Addr} {od36 an36 : Option Addr} {sl36 : Array (Option Value)} {oc36 kV36 dc36 pm36 ct36 cd36 : Value}
    {f37 : Addr} {od37 an37 : Option Addr} {sl37 : Array (Option Value)} {oc37 kV37 dc37 pm37 ct37 cd37 : Value}
    {f38 : Addr} {od38 an38 : Option Addr} {sl38 : Array (Option Value)} {oc38 kV38 dc38 pm38 ct38 cd38 : Value}
    {f39 : Addr} {od39 an39 : Option Addr} {sl39 : Array (Option Value)} {oc39 kV39 dc39 pm39 ct39 cd39 : Value}
    {f40 : Addr} {od40 an40 : Option Addr} {sl40 : Array (Option Value)} {oc40 kV40 dc40 pm40 ct40 cd40 : Value}
    {fm0 : Addr} {mod0 man0 : Option Addr} {msl0 : Array (Option Value)} {moc0 mkV0 mdc0 mpm0 mct0 mcd0 : Value}
    {fm1 : Addr} {mod1 man1 : Option Addr} {msl1 : Array (Option Value)} {moc1 mkV1 mdc1 mpm1 mct1 mcd1 : Value}
    {fm2 : Addr} {mod2 man2 : Option Addr} {msl2 : Array (Option Value)} {moc2 mkV2 mdc2 mpm2 mct2 mcd2 : Value}
    {fm3 : Addr} {mod3 man3 : Option Addr} {msl3 : Array (Option Value)} {moc3 mkV3 mdc3 mpm3 mct3 mcd3 : Value}
    {fm4 : Addr} {mod4 man4 : Option Addr} {msl4 : Array (Option Value)} {moc4 mkV4 mdc4 mpm4 mct4 mcd4 : Value}
    {fm5 : Addr} {mod5 man5 : Option Addr} {msl5 : Array (Option Value)} {moc5 mkV5 mdc5 mpm5 mct5 mcd5 : Value}
    {fm6 : Addr} {mod6 man6 : Option Addr} {msl6 : Array (Option Value)} {moc6 mkV6 mdc6 mpm6 mct6 mcd6 : Value}
    {fm7 : Addr} {mod7 man7 : Option Addr} {msl7 : Array (Option Value)} {moc7 mkV7 mdc7 mpm7 mct7 mcd7 : Value}
    {fm8 : Addr} {mod8 man8 : Option Addr} {msl8 : Array (Option Value)} {moc8 mkV8 mdc8 mpm8 mct8 mcd8 : Value}
    {fm9 : Addr} {mod9 man9 : Option Addr} {msl9 : Array (Option Value)} {moc9 mkV9 mdc9 mpm9 mct9 mcd9 : Value}
    {TD9 : Addr} {mtod9 : Option Addr} {mtsl9 : Array (Option Value)} {mtoc9 : Value} {mtn9 : Nat} {mt9_0 : Tok}
    {fm10 : Addr} {mod10 man10 : Option Addr} {msl10 : Array (Option Value)} {moc10 mkV10 mdc10 mpm10 mct10 mcd10 : Value}
    {TD10 : Addr} {mtod10 : Option Addr} {mtsl10 : Array (Option Value)} {mtoc10 : Value} {mtn10 : Nat} {mt10_0 : Tok}
    (a0 : PySem.W.nsIn K mainGlobals "in_figures" = some (some (.ref f0)))
    (l0 : K.lookup f0 = some ⟨oc0, od0, .func (PySem.W.fnOf "in_figures" "in_figures" (defArgs st_in_figures) (defBody st_in_figures) (defScope st_in_figures) .none kV0 dc0 pm0 an0 cd0 ct0), sl0⟩)
    (c0 : PySem.W.codeIn K cd0 "in_figures" = true)
    (k0 : PySem.W.keepIn K (.ref f0) = true)
    (a1 : PySem.W.nsIn K mainGlobals "list_words" = some (some (.ref f1)))
    (l1 : K.lookup f1 = some ⟨oc1, od1, .func (PySem.W.fnOf "list_words" "list_words" (defArgs st_list_words) (defBody st_list_words) (defScope st_list_words) .none kV1 dc1 pm1 an1 cd1 ct1), sl1⟩)
    (c1 : PySem.W.codeIn K cd1 "list_words" = true)
    (k1 : PySem.W.keepIn K (.ref f1) = true)
    (a2 : PySem.W.nsIn K mainGlobals "stamp_row" = some (some (.ref f2)))
    (l2 : K.lookup f2 = some ⟨oc2, od2, .func (PySem.W.fnOf "stamp_row" "stamp_row" (defArgs st_stamp_row) (defBody st_stamp_row) (defScope st_stamp_row) .none kV2 dc2 pm2 an2 cd2 ct2), sl2⟩)
    (c2 : PySem.W.codeIn K cd2 "stamp_row" = true)
    (k2 : PySem.W.keepIn K (.ref f2) = true)
    (a3 : PySem.W.nsIn K mainGlobals "album_rows" = some (some (.ref f3)))
    (l3 : K.lookup f3 = some ⟨oc3, od3, .func (PySem.W.fnOf "album_rows" "album_rows" (defArgs st_album_rows) (defBody st_album_rows) (defScope st_album_rows) .none kV3 dc3 pm3 an3 cd3 ct3), sl3⟩)
    (c3 : PySem.W.codeIn K cd3 "album_rows" = true)
    (k3 : PySem.W.keepIn K (.ref f3) = true)
    (a4 : PySem.W.nsIn K mainGlobals "is_whole" = some (some (.ref f4)))
    (l4 : K.lookup f4 = some ⟨oc4, od4, .func (PySem.W.fnOf "is_whole" "is_whole" (defArgs st_is_whole) (defBody st_is_whole) (defScope st_is_whole) .none kV4 dc4 pm4 an4 cd4 ct4), sl4⟩)
    (c4 : PySem.W.codeIn K cd4 "is_whole" = true)
    (k4 : PySem.W.keepIn K (.ref f4) = true)
    (a5 : PySem.W.nsIn K mainGlobals "is_whole_from" = some (some (.ref f5)))
    (l5 : K.lookup f5 = some ⟨oc5, od5, .func (PySem.W.fnOf "is_whole_from" "is_whole_from" (defArgs st_is_whole_from) (defBody st_is_whole_from) (defScope st_is_whole_from) .none kV5 dc5 pm5 an5 cd5 ct5), sl5⟩)
    (c5 : PySem.W.codeIn K cd5 "is_whole_from" = true)
    (k5 : PySem.W.keepIn K (.ref f5) = true)
    (a6 : PySem.W.nsIn K mainGlobals "is_whole_within" = some (some (.ref f6)))
    (l6 : K.lookup f6 = some ⟨oc6, od6, .func (PySem.W.fnOf "is_whole_within" "is_whole_within" (defArgs st_is_whole_within) (defBody st_is_whole_within) (defScope st_is_whole_within) .none kV6 dc6 pm6 an6 cd6 ct6), sl6⟩)
    (c6 : PySem.W.codeIn K cd6 "is_whole_within" = true)
    (k6 : PySem.W.keepIn K (.ref f6) = true)
    (a7 : PySem.W.nsIn K mainGlobals "is_letters" = some (some (.ref f7)))
    (l7 : K.lookup f7 = some ⟨oc7, od7, .func (PySem.W.fnOf "is_letters" "is_letters" (defArgs st_is_letters) (defBody st_is_letters) (defScope st_is_letters) .none kV7 dc7 pm7 an7 cd7 ct7), sl7⟩)
    (c7 : PySem.W.codeIn K cd7 "is_letters" = true)
    (k7 : PySem.W.keepIn K (.ref f7) = true)
    (a8 : PySem.W.nsIn K mainGlobals "is_tuple" = some (some (.ref f8)))
    (l8 : K.lookup f8 = some ⟨oc8, od8, .func (PySem.W.fnOf "is_tuple" "is_tuple" (defArgs st_is_tuple) (defBody st_is_tuple) (defScope st_is_tuple) .none kV8 dc8 pm8 an8 cd8 ct8), sl8⟩)
    (c8 : PySem.W.codeIn K cd8 "is_tuple" = true)
    (k8 : PySem.W.keepIn K (.ref f8) = true)
    (a9 : PySem.W.nsIn K mainGlobals "is_rising" = some (some (.ref f9)))
    (l9 : K.lookup f9 = some ⟨oc9, od9, .func (PySem.W.fnOf "is_rising" "is_rising" (defArgs st_is_rising) (defBody st_is_rising) (defScope st_is_rising) .none kV9 dc9 pm9 an9 cd9 ct9), sl9⟩)
    (c9 : PySem.W.codeIn K cd9 "is_rising" = true)
    (k9 : PySem.W.keepIn K (.ref f9) = true)
    (a10 : PySem.W.nsIn K mainGlobals "is_year" = some (some (.ref f10)))
    (l10 : K.lookup f10 = some ⟨oc10, od10, .func (PySem.W.fnOf "is_year" "is_year" (defArgs st_is_year) (defBody st_is_year) (defScope st_is_year) .none kV10 dc10 pm10 an10 cd10 ct10), sl10⟩)
    (c10 : PySem.W.codeIn K cd10 "is_year" = true)
    (k10 : PySem.W.keepIn K (.ref f10) = true)
    (a11 : PySem.W.nsIn K mainGlobals "is_set" = some (some (.ref f11)))
    (l11 : K.lookup f11 = some ⟨oc11, od11, .func (PySem.W.fnOf "is_set" "is_set" (defArgs st_is_set) (defBody st_is_set) (defScope st_is_set) .none kV11 dc11 pm11 an11 cd11 ct11), sl11⟩)
    (c11 : PySem.W.codeIn K cd11 "is_set" = true)
    (k11 : PySem.W.keepIn K (.ref f11) = true)
    (a12 : PySem.W.nsIn K mainGlobals "is_list" = some (some (.ref f12)))
    (l12 : K.lookup f12 = some ⟨oc12, od12, .func (PySem.W.fnOf "is_list" "is_list" (defArgs st_is_list) (defBody st_is_list) (defScope st_is_list) .none kV12 dc12 pm12 an12 cd12 ct12), sl12⟩)
    (c12 : PySem.W.codeIn K cd12 "is_list" = true)
    (k12 : PySem.W.keepIn K (.ref f12) = true)
    (a13 : PySem.W.nsIn K mainGlobals "is_set_number" = some (some (.ref f13)))
    (l13 : K.lookup f13 = some ⟨oc13, od13, .func (PySem.W.fnOf "is_set_number" "is_set_number" (defArgs st_is_set_number) (defBody st_is_set_number) (defScope st_is_set_number) .none kV13 dc13 pm13 an13 cd13 ct13), sl13⟩)
    (c13 : PySem.W.codeIn K cd13 "is_set_number" = true)
    (k13 : PySem.W.keepIn K (.ref f13) = true)
    (a14 : PySem.W.nsIn K mainGlobals "is_place" = some (some (.ref f14)))
    (l14 : K.lookup f14 = some ⟨oc14, od14, .func (PySem.W.fnOf "is_place" "is_place" (defArgs st_is_place) (defBody st_is_place) (defScope st_is_place) .none kV14 dc14 pm14 an14 cd14 ct14), sl14⟩)
    (c14 : PySem.W.codeIn K cd14 "is_place" = true)
    (k14 : PySem.W.keepIn K (.ref f14) = true)
    (a15 : PySem.W.nsIn K mainGlobals "is_stamp" = some (some (.ref f15)))
    (l15 : K.lookup f15 = some ⟨oc15, od15, .func (PySem.W.fnOf "is_stamp" "is_stamp" (defArgs st_is_stamp) (defBody st_is_stamp) (defScope st_is_stamp) .none kV15 dc15 pm15 an15 cd15 ct15), sl15⟩)
    (c15 : PySem.W.codeIn K cd15 "is_stamp" = true)
    (k15 : PySem.W.keepIn K (.ref f15) = true)
    (a16 : PySem.W.nsIn K mainGlobals "is_stamps" = some (some (.ref f16)))
    (l16 : K.lookup f16 = some ⟨oc16, od16, .func (PySem.W.fnOf "is_stamps" "is_stamps" (defArgs st_is_stamps) (defBody st_is_stamps) (defScope st_is_stamps) .none kV16 dc16 pm16 an16 cd16 ct16), sl16⟩)
    (c16 : PySem.W.codeIn K cd16 "is_stamps" = true)
    (k16 : PySem.W.keepIn K (.ref f16) = true)
    (a17 : PySem.W.nsIn K mainGlobals "filled" = some (some (.ref f17)))
    (l17 : K.lookup f17 = some ⟨oc17, od17, .func (PySem.W.fnOf "filled" "filled" (defArgs st_filled) (defBody st_filled) (defScope st_filled) .none kV17 dc17 pm17 an17 cd17 ct17), sl17⟩)
    (c17 : PySem.W.codeIn K cd17 "filled" = true)
    (k17 : PySem.W.keepIn K (.ref f17) = true)
    (a18 : PySem.W.nsIn K mainGlobals "is_figures" = some (some (.ref f18)))
    (l18 : K.lookup f18 = some ⟨oc18, od18, .func (PySem.W.fnOf "is_figures" "is_figures" (defArgs st_is_figures) (defBody st_is_figures) (defScope st_is_figures) .none kV18 dc18 pm18 an18 cd18 ct18), sl18⟩)
    (c18 : PySem.W.codeIn K cd18 "is_figures" = true)
    (k18 : PySem.W.keepIn K (.ref f18) = true)
    (a19 : PySem.W.nsIn K mainGlobals "number_in" = some (some (.ref f19)))
    (l19 : K.lookup f19 = some ⟨oc19, od19, .func (PySem.W.fnOf "number_in" "number_in" (defArgs st_number_in) (defBody st_number_in) (defScope st_number_in) .none kV19 dc19 pm19 an19 cd19 ct19), sl19⟩)
    (c19 : PySem.W.codeIn K cd19 "number_in" = true)
    (k19 : PySem.W.keepIn K (.ref f19) = true)
    (a20 : PySem.W.nsIn K mainGlobals "handed_number_in" = some (some (.ref f20)))
    (l20 : K.lookup f20 = some ⟨oc20, od20, .func (PySem.W.fnOf "handed_number_in" "handed_number_in" (defArgs st_handed_number_in) (defBody st_handed_number_in) (defScope st_handed_number_in) .none kV20 dc20 pm20 an20 cd20 ct20), sl20⟩)
    (c20 : PySem.W.codeIn K cd20 "handed_number_in" = true)
    (k20 : PySem.W.keepIn K (.ref f20) = true)
    (a21 : PySem.W.nsIn K mainGlobals "grade_in" = some (some (.ref f21)))
    (l21 : K.lookup f21 = some ⟨oc21, od21, .func (PySem.W.fnOf "grade_in" "grade_in" (defArgs st_grade_in) (defBody st_grade_in) (defScope st_grade_in) .none kV21 dc21 pm21 an21 cd21 ct21), sl21⟩)
    (c21 : PySem.W.codeIn K cd21 "grade_in" = true)
    (k21 : PySem.W.keepIn K (.ref f21) = true)
    (a22 : PySem.W.nsIn K mainGlobals "set_in" = some (some (.ref f22)))
    (l22 : K.lookup f22 = some ⟨oc22, od22, .func (PySem.W.fnOf "set_in" "set_in" (defArgs st_set_in) (defBody st_set_in) (defScope st_set_in) .none kV22 dc22 pm22 an22 cd22 ct22), sl22⟩)
    (c22 : PySem.W.codeIn K cd22 "set_in" = true)
    (k22 : PySem.W.keepIn K (.ref f22) = true)
    (a23 : PySem.W.nsIn K mainGlobals "sets_in" = some (some (.ref f23)))
    (l23 : K.lookup f23 = some ⟨oc23, od23, .func (PySem.W.fnOf "sets_in" "sets_in" (defArgs st_sets_in) (defBody st_sets_in) (defScope st_sets_in) .none kV23 dc23 pm23 an23 cd23 ct23), sl23⟩)
    (c23 : PySem.W.codeIn K cd23 "sets_in" = true)
    (k23 : PySem.W.keepIn K (.ref f23) = true)
    (a24 : PySem.W.nsIn K mainGlobals "list_text" = some (some (.ref f24)))
    (l24 : K.lookup f24 = some ⟨oc24, od24, .func (PySem.W.fnOf "list_text" "list_text" (defArgs st_list_text) (defBody st_list_text) (defScope st_list_text) .none kV24 dc24 pm24 an24 cd24 ct24), sl24⟩)
    (c24 : PySem.W.codeIn K cd24 "list_text" = true)
    (k24 : PySem.W.keepIn K (.ref f24) = true)
    (a25 : PySem.W.nsIn K mainGlobals "album_text" = some (some (.ref f25)))
    (l25 : K.lookup f25 = some ⟨oc25, od25, .func (PySem.W.fnOf "album_text" "album_text" (defArgs st_album_text) (defBody st_album_text) (defScope st_album_text) .none kV25 dc25 pm25 an25 cd25 ct25), sl25⟩)
    (c25 : PySem.W.codeIn K cd25 "album_text" = true)
    (k25 : PySem.W.keepIn K (.ref f25) = true)
    (a26 : PySem.W.nsIn K mainGlobals "name_read" = some (some (.ref f26)))
    (l26 : K.lookup f26 = some ⟨oc26, od26, .func (PySem.W.fnOf "name_read" "name_read" (defArgs st_name_read) (defBody st_name_read) (defScope st_name_read) .none kV26 dc26 pm26 an26 cd26 ct26), sl26⟩)
    (c26 : PySem.W.codeIn K cd26 "name_read" = true)
    (k26 : PySem.W.keepIn K (.ref f26) = true)
    (a27 : PySem.W.nsIn K mainGlobals "book_read" = some (some (.ref f27)))
    (l27 : K.lookup f27 = some ⟨oc27, od27, .func (PySem.W.fnOf "book_read" "book_read" (defArgs st_book_read) (defBody st_book_read) (defScope st_book_read) .none kV27 dc27 pm27 an27 cd27 ct27), sl27⟩)
    (c27 : PySem.W.codeIn K cd27 "book_read" = true)
    (k27 : PySem.W.keepIn K (.ref f27) = true)
    (a28 : PySem.W.nsIn K mainGlobals "count_read" = some (some (.ref f28)))
    (l28 : K.lookup f28 = some ⟨oc28, od28, .func (PySem.W.fnOf "count_read" "count_read" (defArgs st_count_read) (defBody st_count_read) (defScope st_count_read) .none kV28 dc28 pm28 an28 cd28 ct28), sl28⟩)
    (c28 : PySem.W.codeIn K cd28 "count_read" = true)
    (k28 : PySem.W.keepIn K (.ref f28) = true)
    (a29 : PySem.W.nsIn K mainGlobals "album_read" = some (some (.ref f29)))
    (l29 : K.lookup f29 = some ⟨oc29, od29, .func (PySem.W.fnOf "album_read" "album_read" (defArgs st_album_read) (defBody st_album_read) (defScope st_album_read) .none kV29 dc29 pm29 an29 cd29 ct29), sl29⟩)
    (c29 : PySem.W.codeIn K cd29 "album_read" = true)
    (k29 : PySem.W.keepIn K (.ref f29) = true)
    (a30 : PySem.W.nsIn K mainGlobals "_law_pen" = some (some (.ref f30)))
    (l30 : K.lookup f30 = some ⟨oc30, od30, .func (PySem.W.fnOf "_law_pen" "_law_pen" (defArgs st__law_pen) (defBody st__law_pen) (defScope st__law_pen) .none kV30 dc30 pm30 an30 cd30 ct30), sl30⟩)
    (c30 : PySem.W.codeIn K cd30 "_law_pen" = true)
    (k30 : PySem.W.keepIn K (.ref f30) = true)
    (a31 : PySem.W.nsIn K mainGlobals "_law_cell_at" = some (some (.ref f31)))
    (l31 : K.lookup f31 = some ⟨oc31, od31, .func (PySem.W.fnOf "_law_cell_at" "_law_cell_at" (defArgs st__law_cell_at) (defBody st__law_cell_at) (defScope st__law_cell_at) .none kV31 dc31 pm31 an31 cd31 ct31), sl31⟩)
    (c31 : PySem.W.codeIn K cd31 "_law_cell_at" = true)
    (k31 : PySem.W.keepIn K (.ref f31) = true)
    (a32 : PySem.W.nsIn K mainGlobals "_law_draw" = some (some (.ref f32)))
    (l32 : K.lookup f32 = some ⟨oc32, od32, .func (PySem.W.fnOf "_law_draw" "_law_draw" (defArgs st__law_draw) (defBody st__law_draw) (defScope st__law_draw) .none kV32 dc32 pm32 an32 cd32 ct32), sl32⟩)
    (c32 : PySem.W.codeIn K cd32 "_law_draw" = true)
    (k32 : PySem.W.keepIn K (.ref f32) = true)
    (a33 : PySem.W.nsIn K mainGlobals "_law_sets" = some (some (.ref f33)))
    (l33 : K.lookup f33 = some ⟨oc33, od33, .func (PySem.W.fnOf "_law_sets" "_law_sets" (defArgs st__law_sets) (defBody st__law_sets) (defScope st__law_sets) .none kV33 dc33 pm33 an33 cd33 ct33), sl33⟩)
    (c33 : PySem.W.codeIn K cd33 "_law_sets" = true)
    (k33 : PySem.W.keepIn K (.ref f33) = true)
    (a34 : PySem.W.nsIn K mainGlobals "_law_list_text" = some (some (.ref f34)))
    (l34 : K.lookup f34 = some ⟨oc34, od34, .func (PySem.W.fnOf "_law_list_text" "_law_list_text" (defArgs st__law_list_text) (defBody st__law_list_text) (defScope st__law_list_text) .none kV34 dc34 pm34 an34 cd34 ct34), sl34⟩)
    (c34 : PySem.W.codeIn K cd34 "_law_list_text" = true)
    (k34 : PySem.W.keepIn K (.ref f34) = true)
    (a35 : PySem.W.nsIn K mainGlobals "_law_places" = some (some (.ref f35)))
    (l35 : K.lookup f35 = some ⟨oc35, od35, .func (PySem.W.fnOf "_law_places" "_law_places" (defArgs st__law_places) (defBody st__law_places) (defScope st__law_places) .none kV35 dc35 pm35 an35 cd35 ct35), sl35⟩)
    (c35 : PySem.W.codeIn K cd35 "_law_places" = true)
    (k35 : PySem.W.keepIn K (.ref f35) = true)
    (a36 : PySem.W.nsIn K mainGlobals "_law_counts" = some (some (.ref f36)))
    (l36 : K.lookup f36 = some ⟨oc36, od36, .func (PySem.W.fnOf "_law_counts" "_law_counts" (defArgs st__law_counts) (defBody st__law_counts) (defScope st__law_counts) .none kV36 dc36 pm36 an36 cd36 ct36), sl36⟩)
    (c36 : PySem.W.codeIn K cd36 "_law_counts" = true)
    (k36 : PySem.W.keepIn K (.ref f36) = true)
    (a37 : PySem.W.nsIn K mainGlobals "_law_album" = some (some (.ref f37)))
    (l37 : K.lookup f37 = some ⟨oc37, od37, .func (PySem.W.fnOf "_law_album" "_law_album" (defArgs st__law_album) (defBody st__law_album) (defScope st__law_album) .none kV37 dc37 pm37 an37 cd37 ct37), sl37⟩)
    (c37 : PySem.W.codeIn K cd37 "_law_album" = true)
    (k37 : PySem.W.keepIn K (.ref f37) = true)
    (a38 : PySem.W.nsIn K mainGlobals "_law_text" = some (some (.ref f38)))
    (l38 : K.lookup f38 = some ⟨oc38, od38, .func (PySem.W.fnOf "_law_text" "_law_text" (defArgs st__law_text) (defBody st__law_text) (defScope st__law_text) .none kV38 dc38 pm38 an38 cd38 ct38), sl38⟩)
    (c38 : PySem.W.codeIn K cd38 "_law_text" = true)
    (k38 : PySem.W.keepIn K (.ref f38) = true)
    (a39 : PySem.W.nsIn K mainGlobals "_law_read" = some (some (.ref f39)))
    (l39 : K.lookup f39 = some ⟨oc39, od39, .func (PySem.W.fnOf "_law_read" "_law_read" (defArgs st__law_read) (defBody st__law_read) (defScope st__law_read) .none kV39 dc39 pm39 an39 cd39 ct39), sl39⟩)
    (c39 : PySem.W.codeIn K cd39 "_law_read" = true)
    (k39 : PySem.W.keepIn K (.ref f39) = true)
    (a40 : PySem.W.nsIn K mainGlobals "law" = some (some (.ref f40)))
    (l40 : K.lookup f40 = some ⟨oc40, od40, .func (PySem.W.fnOf "law" "law" (defArgs st_law) (defBody st_law) (defScope st_law) .none kV40 dc40 pm40 an40 cd40 ct40), sl40⟩)
    (c40 : PySem.W.codeIn K cd40 "law" = true)
    (k40 : PySem.W.keepIn K (.ref f40) = true)
    (aAlb : PySem.W.nsIn K mainGlobals "Album" = some (some (.ref C)))
    (am0 : PySem.W.findIn K (.ref C) "_check_some" = some (some (.ref fm0)))
    (im0 : PySem.W.isFn K (.ref fm0) = true)
    (lm0 : K.lookup fm0 = some ⟨moc0, mod0, .func (PySem.W.fnOf "_check_some" "Album._check_some" (defArgs st_Album__check_some) (defBody st_Album__check_some) (defScope st_Album__check_some) .none mkV0 mdc0 mpm0 man0 mcd0 mct0), msl0⟩)
    (cm0 : PySem.W.codeIn K mcd0 "Album._check_some" = true)
    (km0 : PySem.W.keepIn K (.ref fm0) = true)
    (am1 : PySem.W.findIn K (.ref C) "_check_stamp" = some (some (.ref fm1)))
    (im1 : PySem.W.isFn K (.ref fm1) = true)
    (lm1 : K.lookup fm1 = some ⟨moc1, mod1, .func (PySem.W.fnOf "_check_stamp" "Album._check_stamp" (defArgs st_Album__check_stamp) (defBody st_Album__check_stamp) (defScope st_Album__check_stamp) .none mkV1 mdc1 mpm1 man1 mcd1 mct1), msl1⟩)
    (cm1 : PySem.W.codeIn K mcd1 "Album._check_stamp" = true)
    (km1 : PySem.W.keepIn K (.ref fm1) = true)
    (am2 : PySem.W.findIn K (.ref C) "book" = some (some (.ref fm2)))
    (im2 : PySem.W.isFn K (.ref fm2) = true)
    (lm2 : K.lookup fm2 = some ⟨moc2, mod2, .func (PySem.W.fnOf "book" "Album.book" (defArgs st_Album_book) (defBody st_Album_book) (defScope st_Album_book) .none mkV2 mdc2 mpm2 man2 mcd2 mct2), msl2⟩)
    (cm2 : PySem.W.codeIn K mcd2 "Album.book" = true)
    (km2 : PySem.W.keepIn K (.ref fm2) = true)
    (am3 : PySem.W.findIn K (.ref C) "called" = some (some (.ref fm3)))
    (im3 : PySem.W.isFn K (.ref fm3) = true)
    (lm3 : K.lookup fm3 = some ⟨moc3, mod3, .func (PySem.W.fnOf "called" "Album.called" (defArgs st_Album_called) (defBody st_Album_called) (defScope st_Album_called) .none mkV3 mdc3 mpm3 man3 mcd3 mct3), msl3⟩)
    (cm3 : PySem.W.codeIn K mcd3 "Album.called" = true)
    (km3 : PySem.W.keepIn K (.ref fm3) = true)
    (am4 : PySem.W.findIn K (.ref C) "count_of" = some (some (.ref fm4)))
    (im4 : PySem.W.isFn K (.ref fm4) = true)
    (lm4 : K.lookup fm4 = some ⟨moc4, mod4, .func (PySem.W.fnOf "count_of" "Album.count_of" (defArgs st_Album_count_of) (defBody st_Album_count_of) (defScope st_Album_count_of) .none mkV4 mdc4 mpm4 man4 mcd4 mct4), msl4⟩)
    (cm4 : PySem.W.codeIn K mcd4 "Album.count_of" = true)
    (km4 : PySem.W.keepIn K (.ref fm4) = true)
    (am5 : PySem.W.findIn K (.ref C) "all_of" = some (some (.ref fm5)))
    (im5 : PySem.W.isFn K (.ref fm5) = true)
    (lm5 : K.lookup fm5 = some ⟨moc5, mod5, .func (PySem.W.fnOf "all_of" "Album.all_of" (defArgs st_Album_all_of) (defBody st_Album_all_of) (defScope st_Album_all_of) .none mkV5 mdc5 mpm5 man5 mcd5 mct5), msl5⟩)
    (cm5 : PySem.W.codeIn K mcd5 "Album.all_of" = true)
    (km5 : PySem.W.keepIn K (.ref fm5) = true)
    (am6 : PySem.W.findIn K (.ref C) "__eq__" = some (some (.ref fm6)))
    (im6 : PySem.W.isFn K (.ref fm6) = true)
    (lm6 : K.lookup fm6 = some ⟨moc6, mod6, .func (PySem.W.fnOf "__eq__" "Album.__eq__" (defArgs st_Album___eq__) (defBody st_Album___eq__) (defScope st_Album___eq__) .none mkV6 mdc6 mpm6 man6 mcd6 mct6), msl6⟩)
    (cm6 : PySem.W.codeIn K mcd6 "Album.__eq__" = true)
    (km6 : PySem.W.keepIn K (.ref fm6) = true)
    (am7 : PySem.W.findIn K (.ref C) "__repr__" = some (some (.ref fm7)))
    (im7 : PySem.W.isFn K (.ref fm7) = true)
    (lm7 : K.lookup fm7 = some ⟨moc7, mod7, .func (PySem.W.fnOf "__repr__" "Album.__repr__" (defArgs st_Album___repr__) (defBody st_Album___repr__) (defScope st_Album___repr__) .none mkV7 mdc7 mpm7 man7 mcd7 mct7), msl7⟩)
    (cm7 : PySem.W.codeIn K mcd7 "Album.__repr__" = true)
    (km7 : PySem.W.keepIn K (.ref fm7) = true)
    (am8 : PySem.W.findIn K (.ref C) "__str__" = some (some (.ref fm8)))
    (im8 : PySem.W.isFn K (.ref fm8) = true)
    (lm8 : K.lookup fm8 = some ⟨moc8, mod8, .func (PySem.W.fnOf "__str__" "Album.__str__" (defArgs st_Album___str__) (defBody st_Album___str__) (defScope st_Album___str__) .none mkV8 mdc8 mpm8 man8 mcd8 mct8), msl8⟩)
    (cm8 : PySem.W.codeIn K mcd8 "Album.__str__" = true)
    (km8 : PySem.W.keepIn K (.ref fm8) = true)
    (am9 : PySem.W.findIn K (.ref C) "__init__" = some (some (.ref fm9)))
    (im9 : PySem.W.isFn K (.ref fm9) = true)
    (lm9 : K.lookup fm9 = some ⟨moc9, mod9, .func (PySem.W.fnOf "__init__" "Album.__init__" (defArgs st_Album___init__) (defBody st_Album___init__) (defScope st_Album___init__) (.ref TD9) mkV9 mdc9 mpm9 man9 mcd9 mct9), msl9⟩)
    (cm9 : PySem.W.codeIn K mcd9 "Album.__init__" = true)
    (km9 : PySem.W.keepIn K (.ref fm9) = true)
    (td9 : K.lookup TD9 = some ⟨mtoc9, mtod9, .seq #[.str Str.empty mt9_0, .none] mtn9, mtsl9⟩)
    (am10 : PySem.W.findIn K (.ref C) "put" = some (some (.ref fm10)))
    (im10 : PySem.W.isFn K (.ref fm10) = true)
    (lm10 : K.lookup fm10 = some ⟨moc10, mod10, .func (PySem.W.fnOf "put" "Album.put" (defArgs st_Album_put) (defBody st_Album_put) (defScope st_Album_put) (.ref TD10) mkV10 mdc10 mpm10 man10 mcd10 mct10), msl10⟩)
    (cm10 : PySem.W.codeIn K mcd10 "Album.put" = true)
    (km10 : PySem.W.keepIn K (.ref fm10) = true)
    (td10 : K.lookup TD10 = some ⟨mtoc10, mtod10, .seq #[.int 1 mt10_0] mtn10, mtsl10⟩)
    (pg : PySem.W.plainGet K C Str.empty = true)
    (hdi : PySem.W.hasDictIn K C = true)
    (po : PySem.W.plainOver K C = true)
    (sa : PySem.W.findIn K (.ref C) "__setattr__" = some (some (.builtin "object.__setattr__")))
    (mk : PySem.W.makesIn K C = true)
    (kc : PySem.W.keepIn K (.ref C) = true)
    (eNe : PySem.W.findIn K (.ref C) "__ne__" = some (some (.builtin "object.__ne__")))
    (cCa : PySem.W.findIn K (.ref C) "__class__" = some (some (.builtin "object.__class__")))
    (cCn : PySem.W.specialIn K (.builtin "object.__class__") "__get__" = some (some (.builtin "getset_descriptor.__get__")))
    (cCt : PySem.W.takesIn K (.builtin "object.__class__") = some true)
    (cCm : PySem.W.mroIn K C (.type "object") = some true)
    (cKi : PySem.W.kitOne K (.ref C) (.ref C) = some true)
    (sK0 : PySem.W.kitOne K (.type "NoneType") (.ref C) = some false)
    (sL0 : PySem.W.subIn K (.type "NoneType") (.ref C) = some false)
    (sR0 : PySem.W.subIn K (.ref C) (.type "NoneType") = some false)
    (sK1 : PySem.W.kitOne K (.type "bool") (.ref C) = some false)
    (sL1 : PySem.W.subIn K (.type "bool") (.ref C) = some false)
    (sR1 : PySem.W.subIn K (.ref C) (.type "bool") = some false)
    (sK2 : PySem.W.kitOne K (.type "int") (.ref C) = some false)
    (sL2 : PySem.W.subIn K (.type "int") (.ref C) = some false)
    (sR2 : PySem.W.subIn K (.ref C) (.type "int") = some false)
    (sK3 : PySem.W.kitOne K (.type "str") (.ref C) = some false)
    (sL3 : PySem.W.subIn K (.type "str") (.ref C) = some false)
    (sR3 : PySem.W.subIn K (.ref C) (.type "str") = some false)
    (sK4 : PySem.W.kitOne K (.type "tuple") (.ref C) = some false)
    (sL4 : PySem.W.subIn K (.type "tuple") (.ref C) = some false)
    (sR4 : PySem.W.subIn K (.ref C) (.type "tuple") = some false)
    (sK5 : PySem.W.kitOne K (.type "list") (.ref C) = some false)
    (sL5 : PySem.W.subIn K (.type "list") (.ref C) = some false)
    (sR5 : PySem.W.subIn K (.ref C) (.type "list") = some false)
    (sK6 : PySem.W.kitOne K (.type "dict") (.ref C) = some false)
    (sL6 : PySem.W.subIn K (.type "dict") (.ref C) = some false)
    (sR6 : PySem.W.subIn K (.ref C) (.type "dict") = some false)
    (aGw : PySem.W.nsIn K mainGlobals "GRADE_WORDS" = some (some (.ref gw)))
    (lGw : K.lookup gw = some ⟨.type "tuple", none, .seq #[.str "hinged" gt0, .str "whole" gt1] gwn, gws⟩)
    (nB : PySem.W.findIn K (.ref C) "_book" = some none)
    (nN : PySem.W.findIn K (.ref C) "_name" = some none)
    (nM : PySem.W.findIn K (.ref C) "_many" = some none)
    (hH : PySem.W.nsIn K mainGlobals "HINGED" = some (some (.int 0 tH)))
    (hW : PySem.W.nsIn K mainGlobals "WHOLE" = some (some (.int 1 tW)))
    (z0 : PySem.W.nsIn K mainGlobals "len" = some none)
    (z1 : PySem.W.nsIn K mainGlobals "int" = some none)
    (z2 : PySem.W.nsIn K mainGlobals "range" = some none)
    (z3 : PySem.W.nsIn K mainGlobals "sorted" = some none)
    (z4 : PySem.W.nsIn K mainGlobals "tuple" = some none)
    (z5 : PySem.W.nsIn K mainGlobals "enumerate" = some none)
    (z6 : PySem.W.nsIn K mainGlobals "isinstance" = some none)
    (z7 : PySem.W.nsIn K mainGlobals "bool" = some none)
    (z8 : PySem.W.nsIn K mainGlobals "str" = some none)
    (z9 : PySem.W.nsIn K mainGlobals "all" = some none)
    (z10 : PySem.W.nsIn K mainGlobals "any" = some none)
    (z11 : PySem.W.nsIn K mainGlobals "zip" = some none)
    (z12 : PySem.W.nsIn K mainGlobals "max" = some none)
    (z13 : PySem.W.nsIn K mainGlobals "min" = some none)
    (z14 : PySem.W.nsIn K mainGlobals "list" = some none)
    (z15 : PySem.W.nsIn K mainGlobals "set" = some none)
    (z16 : PySem.W.nsIn K mainGlobals "sum" = some none)
    (z17 : PySem.W.nsIn K mainGlobals "repr" = some none)
    (z18 : PySem.W.nsIn K mainGlobals "dict" = some none)
    (z19 : PySem.W.nsIn K mainGlobals "divmod" = some none)
    (xxt : PySem.W.excIn K ex_t [.type "ValueError", .type "Exception", .type "BaseException", .type "object"] "ValueError.__new__" = true)
    (xgt : PySem.W.nsIn K mainGlobals "NoText" = some (some (.ref ex_t)))
    (xkt : PySem.W.keepIn K (.ref ex_t) = true)
    (xbt : PySem.W.subIn K (.ref ex_t) (.type "BaseException") = some true)
    (xtt : PySem.W.typeIn K (.ref ex_t) = some (.type "type"))
    (xmtt : PySem.W.exmOne K (.ref ex_t) (.ref ex_t) = some true)
    : ∃ fd : FuncData, (∀ (s : Shared) (v : Value), BindsTo s fd ⟨[v], []⟩ [("_law_script", v)]) ∧ ∀ base : Heap, K.In base → base.Ns mainGlobals mg → FnOk l.prog w K mg base CX0 14 fa fd ["_law_script"] (letI : HasT K := ⟨[]⟩; spLaw K) := by
  have e := hfa.symm.trans (PySem.W.mg_of X G a40)
  cases e
  have F0 := fun_mk (st := st_in_figures) l0 c0 k0
  have F1 := fun_mk (st := st_list_words) l1 c1 k1
  have F2 := fun_mk (st := st_stamp_row) l2 c2 k2
  have F3 := fun_mk (st := st_album_rows) l3 c3 k3
  have F4 := fun_mk (st := st_is_whole) l4 c4 k4
  have F5 := fun_mk (st := st_is_whole_from) l5 c5 k5
  have F6 := fun_mk (st := st_is_whole_within) l6 c6 k6
  have F7 := fun_mk (st := st_is_letters) l7 c7 k7
  have F8 := fun_mk (st := st_is_tuple) l8 c8 k8
  have F9 := fun_mk (st := st_is_rising) l9 c9 k9
  have F10 := fun_mk (st := st_is_year) l10 c10 k10
  have F11 := fun_mk (st := st_is_set) l11 c11 k11
  have F12 := fun_mk (st := st_is_list) l12 c12 k12
  have F13 := fun_mk (st := st_is_set_number) l13 c13 k13
  have F14 := fun_mk (st := st_is_place) l14 c14 k14
  have F15 := fun_mk (st := st_is_stamp) l15 c15 k15
  have F16 := fun_mk (st := st_is_stamps) l16 c16 k16
  have F17 := fun_mk (st := st_filled) l17 c17 k17
  have F18 := fun_mk (st := st_is_figures) l18 c18 k18
  have F19 := fun_mk (st := st_number_in) l19 c19 k19
  have F20 := fun_mk (st := st_handed_number_in) l20 c20 k20
  have F21 := fun_mk (st := st_grade_in) l21 c21 k21
  have F22 := fun_mk (st := st_set_in) l22 c22 k22
  have F23 := fun_mk (st := st_sets_in) l23 c23 k23
  have F24 := fun_mk (st := st_list_text) l24 c24 k24
  have F25 := fun_mk (st := st_album_text) l25 c25 k25
  have F26 := fun_mk (st := st_name_read) l26 c26 k26
  have F27 := fun_mk (st := st_book_read) l27 c27 k27
  have F28 := fun_mk (st := st_count_read) l28 c28 k28
  have F29 := fun_mk (st := st_album_read) l29 c29 k29
  have F30 := fun_mk (st := st__law_pen) l30 c30 k30
  have F31 := fun_mk (st := st__law_cell_at) l31 c31 k31
  have F32 := fun_mk (st := st__law_draw) l32 c32 k32
  have F33 := fun_mk (st := st__law_sets) l33 c33 k33
  have F34 := fun_mk (st := st__law_list_text) l34 c34 k34
  have F35 := fun_mk (st := st__law_places) l35 c35 k35
  have F36 := fun_mk (st := st__law_counts) l36 c36 k36
  have F37 := fun_mk (st := st__law_album) l37 c37 k37
  have F38 := fun_mk (st := st__law_text) l38 c38 k38
  have F39 := fun_mk (st := st__law_read) l39 c39 k39
  have F40 := fun_mk (st := st_law) l40 c40 k40
  have FM0 := fun_mk (st := st_Album__check_some) lm0 cm0 km0
  have FM1 := fun_mk (st := st_Album__check_stamp) lm1 cm1 km1
  have FM2 := fun_mk (st := st_Album_book) lm2 cm2 km2
  have FM3 := fun_mk (st := st_Album_called) lm3 cm3 km3
  have FM4 := fun_mk (st := st_Album_count_of) lm4 cm4 km4
  have FM5 := fun_mk (st := st_Album_all_of) lm5 cm5 km5
  have FM6 := fun_mk (st := st_Album___eq__) lm6 cm6 km6
  have FM7 := fun_mk (st := st_Album___repr__) lm7 cm7 km7
  have FM8 := fun_mk (st := st_Album___str__) lm8 cm8 km8
  let ad : Nat → Addr := fun i => ([f0, f1, f2, f3, f4, f5, f6, f7, f8, f9, f10, f11, f12, f13, f14, f15, f16, f17, f18, f19, f20, f21, f22, f23, f24, f25, f26, f27, f28, f29, f30, f31, f32, f33, f34, f35, f36, f37, f38, f39, fa] : List Addr).getD i f0
  let fd : Nat → FuncData := fun i => ([PySem.W.fnOf "in_figures" "in_figures" (defArgs st_in_figures) (defBody st_in_figures) (defScope st_in_figures) .none kV0 dc0 pm0 an0 cd0 ct0, PySem.W.fnOf "list_words" "list_words" (defArgs st_list_words) (defBody st_list_words) (defScope st_list_words) .none kV1 dc1 pm1 an1 cd1 ct1, PySem.W.fnOf "stamp_row" "stamp_row" (defArgs st_stamp_row) (defBody st_stamp_row) (defScope st_stamp_row) .none kV2 dc2 pm2 an2 cd2 ct2, PySem.W.fnOf "album_rows" "album_rows" (defArgs st_album_rows) (defBody st_album_rows) (defScope st_album_rows) .none kV3 dc3 pm3 an3 cd3 ct3, PySem.W.fnOf "is_whole" "is_whole" (defArgs st_is_whole) (defBody st_is_whole) (defScope st_is_whole) .none kV4 dc4 pm4 an4 cd4 ct4, PySem.W.fnOf "is_whole_from" "is_whole_from" (defArgs st_is_whole_from) (defBody st_is_whole_from) (defScope st_is_whole_from) .none kV5 dc5 pm5 an5 cd5 ct5, PySem.W.fnOf "is_whole_within" "is_whole_within" (defArgs st_is_whole_within) (defBody st_is_whole_within) (defScope st_is_whole_within) .none kV6 dc6 pm6 an6 cd6 ct6, PySem.W.fnOf "is_letters" "is_letters" (defArgs st_is_letters) (defBody st_is_letters) (defScope st_is_letters) .none kV7 dc7 pm7 an7 cd7 ct7, PySem.W.fnOf "is_tuple" "is_tuple" (defArgs st_is_tuple) (defBody st_is_tuple) (defScope st_is_tuple) .none kV8 dc8 pm8 an8 cd8 ct8, PySem.W.fnOf "is_rising" "is_rising" (defArgs st_is_rising) (defBody st_is_rising) (defScope st_is_rising) .none kV9 dc9 pm9 an9 cd9 ct9, PySem.W.fnOf "is_year" "is_year" (defArgs st_is_year) (defBody st_is_year) (defScope st_is_year) .none kV10 dc10 pm10 an10 cd10 ct10, PySem.W.fnOf "is_set" "is_set" (defArgs st_is_set) (defBody st_is_set) (defScope st_is_set) .none kV11 dc11 pm11 an11 cd11 ct11, PySem.W.fnOf "is_list" "is_list" (defArgs st_is_list) (defBody st_is_list) (defScope st_is_list) .none kV12 dc12 pm12 an12 cd12 ct12, PySem.W.fnOf "is_set_number" "is_set_number" (defArgs st_is_set_number) (defBody st_is_set_number) (defScope st_is_set_number) .none kV13 dc13 pm13 an13 cd13 ct13, PySem.W.fnOf "is_place" "is_place" (defArgs st_is_place) (defBody st_is_place) (defScope st_is_place) .none kV14 dc14 pm14 an14 cd14 ct14, PySem.W.fnOf "is_stamp" "is_stamp" (defArgs st_is_stamp) (defBody st_is_stamp) (defScope st_is_stamp) .none kV15 dc15 pm15 an15 cd15 ct15, PySem.W.fnOf "is_stamps" "is_stamps" (defArgs st_is_stamps) (defBody st_is_stamps) (defScope st_is_stamps) .none kV16 dc16 pm16 an16 cd16 ct16, PySem.W.fnOf "filled" "filled" (defArgs st_filled) (defBody st_filled) (defScope st_filled) .none kV17 dc17 pm17 an17 cd17 ct17, PySem.W.fnOf "is_figures" "is_figures" (defArgs st_is_figures) (defBody st_is_figures) (defScope st_is_figures) .none kV18 dc18 pm18 an18 cd18 ct18, PySem.W.fnOf "number_in" "number_in" (defArgs st_number_in) (defBody st_number_in) (defScope st_number_in) .none kV19 dc19 pm19 an19 cd19 ct19, PySem.W.fnOf "handed_number_in" "handed_number_in" (defArgs st_handed_number_in) (defBody st_handed_number_in) (defScope st_handed_number_in) .none kV20 dc20 pm20 an20 cd20 ct20, PySem.W.fnOf "grade_in" "grade_in" (defArgs st_grade_in) (defBody st_grade_in) (defScope st_grade_in) .none kV21 dc21 pm21 an21 cd21 ct21, PySem.W.fnOf "set_in" "set_in" (defArgs st_set_in) (defBody st_set_in) (defScope st_set_in) .none kV22 dc22 pm22 an22 cd22 ct22, PySem.W.fnOf "sets_in" "sets_in" (defArgs st_sets_in) (defBody st_sets_in) (defScope st_sets_in) .none kV23 dc23 pm23 an23 cd23 ct23, PySem.W.fnOf "list_text" "list_text" (defArgs st_list_text) (defBody st_list_text) (defScope st_list_text) .none kV24 dc24 pm24 an24 cd24 ct24, PySem.W.fnOf "album_text" "album_text" (defArgs st_album_text) (defBody st_album_text) (defScope st_album_text) .none kV25 dc25 pm25 an25 cd25 ct25, PySem.W.fnOf "name_read" "name_read" (defArgs st_name_read) (defBody st_name_read) (defScope st_name_read) .none kV26 dc26 pm26 an26 cd26 ct26, PySem.W.fnOf "book_read" "book_read" (defArgs st_book_read) (defBody st_book_read) (defScope st_book_read) .none kV27 dc27 pm27 an27 cd27 ct27, PySem.W.fnOf "count_read" "count_read" (defArgs st_count_read) (defBody st_count_read) (defScope st_count_read) .none kV28 dc28 pm28 an28 cd28 ct28, PySem.W.fnOf "album_read" "album_read" (defArgs st_album_read) (defBody st_album_read) (defScope st_album_read) .none kV29 dc29 pm29 an29 cd29 ct29, PySem.W.fnOf "_law_pen" "_law_pen" (defArgs st__law_pen) (defBody st__law_pen) (defScope st__law_pen) .none kV30 dc30 pm30 an30 cd30 ct30, PySem.W.fnOf "_law_cell_at" "_law_cell_at" (defArgs st__law_cell_at) (defBody st__law_cell_at) (defScope st__law_cell_at) .none kV31 dc31 pm31 an31 cd31 ct31, PySem.W.fnOf "_law_draw" "_law_draw" (defArgs st__law_draw) (defBody st__law_draw) (defScope st__law_draw) .none kV32 dc32 pm32 an32 cd32 ct32, PySem.W.fnOf "_law_sets" "_law_sets" (defArgs st__law_sets) (defBody st__law_sets) (defScope st__law_sets) .none kV33 dc33 pm33 an33 cd33 ct33, PySem.W.fnOf "_law_list_text" "_law_list_text" (defArgs st__law_list_text) (defBody st__law_list_text) (defScope st__law_list_text) .none kV34 dc34 pm34 an34 cd34 ct34, PySem.W.fnOf "_law_places" "_law_places" (defArgs st__law_places) (defBody st__law_places) (defScope st__law_places) .none kV35 dc35 pm35 an35 cd35 ct35, PySem.W.fnOf "_law_counts" "_law_counts" (defArgs st__law_counts) (defBody st__law_counts) (defScope st__law_counts) .none kV36 dc36 pm36 an36 cd36 ct36, PySem.W.fnOf "_law_album" "_law_album" (defArgs st__law_album) (defBody st__law_album) (defScope st__law_album) .none kV37 dc37 pm37 an37 cd37 ct37, PySem.W.fnOf "_law_text" "_law_text" (defArgs st__law_text) (defBody st__law_text) (defScope st__law_text) .none kV38 dc38 pm38 an38 cd38 ct38, PySem.W.fnOf "_law_read" "_law_read" (defArgs st__law_read) (defBody st__law_read) (defScope st__law_read) .none kV39 dc39 pm39 an39 cd39 ct39, PySem.W.fnOf "law" "law" (defArgs st_law) (defBody st_law) (defScope st_law) .none kV40 dc40 pm40 an40 cd40 ct40] : List FuncData).getD i (PySem.W.fnOf "law" "law" (defArgs st_law) (defBody st_law) (defScope st_law) .none kV40 dc40 pm40 an40 cd40 ct40)
  let am : Nat → Addr := fun i => ([fm0, fm1, fm2, fm3, fm4, fm5, fm6, fm7, fm8, fm9, fm10] : List Addr).getD i fm0
  let fm : Nat → FuncData := fun i => ([PySem.W.fnOf "_check_some" "Album._check_some" (defArgs st_Album__check_some) (defBody st_Album__check_some) (defScope st_Album__check_some) .none mkV0 mdc0 mpm0 man0 mcd0 mct0, PySem.W.fnOf "_check_stamp" "Album._check_stamp" (defArgs st_Album__check_stamp) (defBody st_Album__check_stamp) (defScope st_Album__check_stamp) .none mkV1 mdc1 mpm1 man1 mcd1 mct1, PySem.W.fnOf "book" "Album.book" (defArgs st_Album_book) (defBody st_Album_book) (defScope st_Album_book) .none mkV2 mdc2 mpm2 man2 mcd2 mct2, PySem.W.fnOf "called" "Album.called" (defArgs st_Album_called) (defBody st_Album_called) (defScope st_Album_called) .none mkV3 mdc3 mpm3 man3 mcd3 mct3, PySem.W.fnOf "count_of" "Album.count_of" (defArgs st_Album_count_of) (defBody st_Album_count_of) (defScope st_Album_count_of) .none mkV4 mdc4 mpm4 man4 mcd4 mct4, PySem.W.fnOf "all_of" "Album.all_of" (defArgs st_Album_all_of) (defBody st_Album_all_of) (defScope st_Album_all_of) .none mkV5 mdc5 mpm5 man5 mcd5 mct5, PySem.W.fnOf "__eq__" "Album.__eq__" (defArgs st_Album___eq__) (defBody st_Album___eq__) (defScope st_Album___eq__) .none mkV6 mdc6 mpm6 man6 mcd6 mct6, PySem.W.fnOf "__repr__" "Album.__repr__" (defArgs st_Album___repr__) (defBody st_Album___repr__) (defScope st_Album___repr__) .none mkV7 mdc7 mpm7 man7 mcd7 mct7, PySem.W.fnOf "__str__" "Album.__str__" (defArgs st_Album___str__) (defBody st_Album___str__) (defScope st_Album___str__) .none mkV8 mdc8 mpm8 man8 mcd8 mct8, PySem.W.fnOf "__init__" "Album.__init__" (defArgs st_Album___init__) (defBody st_Album___init__) (defScope st_Album___init__) (.ref TD9) mkV9 mdc9 mpm9 man9 mcd9 mct9, PySem.W.fnOf "put" "Album.put" (defArgs st_Album_put) (defBody st_Album_put) (defScope st_Album_put) (.ref TD10) mkV10 mdc10 mpm10 man10 mcd10 mct10] : List FuncData).getD i (PySem.W.fnOf "law" "law" (defArgs st_law) (defBody st_law) (defScope st_law) .none kV40 dc40 pm40 an40 cd40 ct40)
  letI : HasT K := ⟨[]⟩
  have T : Txt K mg ad fd := by
    refine ⟨fun i hi => ?_, fun i hi => ?_, fun i hi => ?_, fun i hi => ?_⟩
    · match i, hi with
      | 0, _ => exact PySem.W.mg_none_of X G z0
      | 1, _ => exact PySem.W.mg_none_of X G z1
      | 2, _ => exact PySem.W.mg_none_of X G z2
      | 3, _ => exact PySem.W.mg_none_of X G z3
      | 4, _ => exact PySem.W.mg_none_of X G z4
      | 5, _ => exact PySem.W.mg_none_of X G z5
      | 6, _ => exact PySem.W.mg_none_of X G z6
      | 7, _ => exact PySem.W.mg_none_of X G z7
      | 8, _ => exact PySem.W.mg_none_of X G z8
      | 9, _ => exact PySem.W.mg_none_of X G z9
      | 10, _ => exact PySem.W.mg_none_of X G z10
      | 11, _ => exact PySem.W.mg_none_of X G z11
      | 12, _ => exact PySem.W.mg_none_of X G z12
      | 13, _ => exact PySem.W.mg_none_of X G z13
      | 14, _ => exact PySem.W.mg_none_of X G z14
      | 15, _ => exact PySem.W.mg_none_of X G z15
      | 16, _ => exact PySem.W.mg_none_of X G z16
      | 17, _ => exact PySem.W.mg_none_of X G z17
      | 18, _ => exact PySem.W.mg_none_of X G z18
      | 19, _ => exact PySem.W.mg_none_of X G z19
      | i + 20, h => exact absurd h (by omega)
    · match i, hi with
      | 0, _ => exact PySem.W.mg_of X G a0
      | 1, _ => exact PySem.W.mg_of X G a1
      | 2, _ => exact PySem.W.mg_of X G a2
      | 3, _ => exact PySem.W.mg_of X G a3
      | 4, _ => exact PySem.W.mg_of X G a4
      | 5, _ => exact PySem.W.mg_of X G a5
      | 6, _ => exact PySem.W.mg_of X G a6
      | 7, _ => exact PySem.W.mg_of X G a7
      | 8, _ => exact PySem.W.mg_of X G a8
      | 9, _ => exact PySem.W.mg_of X G a9
      | 10, _ => exact PySem.W.mg_of X G a10
      | 11, _ => exact PySem.W.mg_of X G a11
      | 12, _ => exact PySem.W.mg_of X G a12
      | 13, _ => exact PySem.W.mg_of X G a13
      | 14, _ => exact PySem.W.mg_of X G a14
      | 15, _ => exact PySem.W.mg_of X G a15
      | 16, _ => exact PySem.W.mg_of X G a16
      | 17, _ => exact PySem.W.mg_of X G a17
      | 18, _ => exact PySem.W.mg_of X G a18
      | 19, _ => exact PySem.W.mg_of X G a19
      | 20, _ => exact PySem.W.mg_of X G a20
      | 21, _ => exact PySem.W.mg_of X G a21
      | 22, _ => exact PySem.W.mg_of X G a22
      | 23, _ => exact PySem.W.mg_of X G a23
      | 24, _ => exact PySem.W.mg_of X G a24
      | 25, _ => exact PySem.W.mg_of X G a25
      | 26, _ => exact PySem.W.mg_of X G a26
      | 27, _ => exact PySem.W.mg_of X G a27
      | 28, _ => exact PySem.W.mg_of X G a28
      | 29, _ => exact PySem.W.mg_of X G a29
      | 30, _ => exact PySem.W.mg_of X G a30
      | 31, _ => exact PySem.W.mg_of X G a31
      | 32, _ => exact PySem.W.mg_of X G a32
      | 33, _ => exact PySem.W.mg_of X G a33
      | 34, _ => exact PySem.W.mg_of X G a34
      | 35, _ => exact PySem.W.mg_of X G a35
      | 36, _ => exact PySem.W.mg_of X G a36
      | 37, _ => exact PySem.W.mg_of X G a37
      | 38, _ => exact PySem.W.mg_of X G a38
      | 39, _ => exact PySem.W.mg_of X G a39
      | 40, _ => exact PySem.W.mg_of X G a40
      | i + 41, h => exact absurd h (by omega)
    · match i, hi with
      | 0, _ => exact k0
      | 1, _ => exact k1
      | 2, _ => exact k2
      | 3, _ => exact k3
      | 4, _ => exact k4
      | 5, _ => exact k5
      | 6, _ => exact k6
      | 7, _ => exact k7
      | 8, _ => exact k8
      | 9, _ => exact k9
      | 10, _ => exact k10
      | 11, _ => exact k11
      | 12, _ => exact k12
      | 13, _ => exact k13
      | 14, _ => exact k14
      | 15, _ => exact k15
      | 16, _ => exact k16
      | 17, _ => exact k17
      | 18, _ => exact k18
      | 19, _ => exact k19
      | 20, _ => exact k20
      | 21, _ => exact k21
      | 22, _ => exact k22
      | 23, _ => exact k23
      | 24, _ => exact k24
      | 25, _ => exact k25
      | 26, _ => exact k26
      | 27, _ => exact k27
      | 28, _ => exact k28
      | 29, _ => exact k29
      | 30, _ => exact k30
      | 31, _ => exact k31
      | 32, _ => exact k32
      | 33, _ => exact k33
      | 34, _ => exact k34
      | 35, _ => exact k35
      | 36, _ => exact k36
      | 37, _ => exact k37
      | 38, _ => exact k38
      | 39, _ => exact k39
      | 40, _ => exact k40
      | i + 41, h => exact absurd h (by omega)
    · match i, hi with
      | 0, _ => exact F0
      | 1, _ => exact F1
      | 2, _ => exact F2
      | 3, _ => exact F3
      | 4, _ => exact F4
      | 5, _ => exact F5
      | 6, _ => exact F6
      | 7, _ => exact F7
      | 8, _ => exact F8
      | 9, _ => exact F9
      | 10, _ => exact F10
      | 11, _ => exact F11
      | 12, _ => exact F12
      | 13, _ => exact F13
      | 14, _ => exact F14
      | 15, _ => exact F15
      | 16, _ => exact F16
      | 17, _ => exact F17
      | 18, _ => exact F18
      | 19, _ => exact F19
      | 20, _ => exact F20
      | 21, _ => exact F21
      | 22, _ => exact F22
      | 23, _ => exact F23
      | 24, _ => exact F24
      | 25, _ => exact F25
      | 26, _ => exact F26
      | 27, _ => exact F27
      | 28, _ => exact F28
      | 29, _ => exact F29
      | 30, _ => exact F30
      | 31, _ => exact F31
      | 32, _ => exact F32
      | 33, _ => exact F33
      | 34, _ => exact F34
      | 35, _ => exact F35
      | 36, _ => exact F36
      | 37, _ => exact F37
      | 38, _ => exact F38
      | 39, _ => exact F39
      | 40, _ => exact F40
      | i + 41, h => exact absurd h (by omega)
  have TM : TxtM K mg C am fm := by
    refine ⟨⟨pg, hdi, po, sa⟩, nB, nN, nM, PySem.W.mg_of X G aAlb, ⟨mk, am9, im9, kc⟩, fun i hi => ?_, fun i hi => ?_, ⟨⟨_, _, _, _, _, _, _, _, _, _, rfl, lm9, cm9, .inr ⟨by simp, TD9, _, [.str Str.empty mt9_0, .none], mtn9, rfl, td9, rfl, .cons ⟨_, rfl⟩ (.cons rfl .nil)⟩, .inl rfl⟩, km9⟩, ⟨⟨_, _, _, _, _, _, _, _, _, _, rfl, lm10, cm10, .inr ⟨by simp, TD10, _, [.int 1 mt10_0], mtn10, rfl, td10, rfl, .cons ⟨_, rfl⟩ .nil⟩, .inl rfl⟩, km10⟩, ⟨am6, im6, eNe, cCm⟩, ⟨⟨pg, hdi, po, sa⟩, cCa, cCn, cCt, cCm, cKi⟩, ⟨gw, PySem.W.mg_of X G aGw, fun H => .inr ⟨_, _, _, lGw, rfl, rfl, by show 2 ≤ sizeLine; decide, .cons ⟨_, rfl⟩ (.cons ⟨_, rfl⟩ .nil)⟩⟩, ⟨gw, PySem.W.mg_of X G aGw, ⟨_, lGw, rfl, rfl⟩⟩, ⟨am8, im8⟩, ⟨am7, im7⟩, ownSub_mk sK0 sK1 sK2 sK3 sK4 sK5 sK6 sL0 sL1 sL2 sL3 sL4 sL5 sL6 sR0 sR1 sR2 sR3 sR4 sR5 sR6⟩
    · match i, hi with
      | 0, _ => exact ⟨am0, im0, km0⟩
      | 1, _ => exact ⟨am1, im1, km1⟩
      | 2, _ => exact ⟨am2, im2, km2⟩
      | 3, _ => exact ⟨am3, im3, km3⟩
      | 4, _ => exact ⟨am4, im4, km4⟩
      | 5, _ => exact ⟨am5, im5, km5⟩
      | 6, _ => exact ⟨am6, im6, km6⟩
      | 7, _ => exact ⟨am7, im7, km7⟩
      | 8, _ => exact ⟨am8, im8, km8⟩
      | 9, _ => exact ⟨am9, im9, km9⟩
      | 10, _ => exact ⟨am10, im10, km10⟩
      | i + 11, h => exact absurd h (by omega)
    · match i, hi with
      | 0, _ => exact FM0
      | 1, _ => exact FM1
      | 2, _ => exact FM2
      | 3, _ => exact FM3
      | 4, _ => exact FM4
      | 5, _ => exact FM5
      | 6, _ => exact FM6
      | 7, _ => exact FM7
      | 8, _ => exact FM8
      | i + 9, h => exact absurd h (by omega)
  have TG : TxtG mg := ⟨⟨_, PySem.W.mg_of X G hH⟩, ⟨_, PySem.W.mg_of X G hW⟩⟩
  have TE : TxtE K mg ⟨ex_t⟩ := ⟨⟨xxt, PySem.W.mg_of X G xgt, xkt, xbt, xtt⟩, xmtt⟩
  refine ⟨PySem.W.fnOf "law" "law" (defArgs st_law) (defBody st_law) (defScope st_law) .none kV40 dc40 pm40 an40 cd40 ct40, fun s v => .of_eq rfl, fun base _ _ => ?_⟩
  exact ok_law (P := l.prog) (w := w) (base := base) (mg := mg) T TM TG TE
theorem walk {l : PySem.W.OpenLaw} {q : Program} {loose : List Str} {XP : (Str → Option Value) → Heap → Prop} {YP : World → Heap → Prop} {d : DefRec} {K : Params → PySem.W.Frag} (hn : l.most = some 63) (hdf : d.params.defaults = [])
    (hY : ∀ (w : World) (h : Heap), YP w h → (K w.params).In h)
    (F : ∀ (w : World) (mg : Str → Option Value) (fa : Addr) (h : Heap), (K w.params).In h → h.Ns mainGlobals mg → mg d.name = some (.ref fa) →
      ∃ fd : FuncData, (∀ (s : Shared) (u : Value), BindsTo s fd ⟨[u], []⟩ [("_law_script", u)]) ∧ ∀ base : Heap, (K w.params).In base → base.Ns mainGlobals mg → FnOk l.prog w (K w.params) mg base CX0 14 fa fd ["_law_script"] (letI : HasT (K w.params) := ⟨[]⟩; spLaw (K w.params))) :
    PySem.W.WalkO q loose XP YP l.row.toRowW d [] (fun f vs => PySem.call f vs) :=
  L2.walk_of (n := 63) (k := 14) (x := "_law_script") (CX := fun _ => CX0) (sp := fun w => letI : HasT (K w.params) := ⟨[]⟩; spLaw (K w.params)) hn (by decide) hdf ⟨rfl, by decide, by decide⟩ hY F (fun w _ a ns hl _ hS => by letI : HasT (K w.params) := ⟨[]⟩; exact ⟨a, ns, rfl, TbOk.start (fun p hp => nomatch hp), hS, hl, fun _ => rfl⟩) fun _ _ _ _ _ z => z
end Dl

set_option Elab.async false
open PySem PySem.W PyProof.Rows
set_option maxRecDepth 100000 in
set_option maxHeartbeats 0 in
theorem PySem.Challenge.cw_hingemount_k85_albums_written_and_read_holds : PySem.Challenge.rw_hingemount_k85_albums_written_and_read.Holds := by
  w_on; o_law; k_head; (case hw => w_witness2)
  k_fill
  refine Dl.walk (l := PySem.Challenge.rw_hingemount_k85_albums_written_and_read) rfl rfl (fun w h Y => PySem.W.kIn_of Y) ?F
  case F =>
    intro w mg fa h KX G hmg
    refine' Dl.all_mk KX G hmg ?a0 ?l0 ?c0 ?k0 ?a1 ?l1 ?c1 ?k1 ?a2 ?l2 ?c2 ?k2 ?a3 ?l3 ?c3 ?k3 ?a4 ?l4 ?c4 ?k4 ?a5 ?l5 ?c5 ?k5 ?a6 ?l6 ?c6 ?k6 ?a7 ?l7 ?c7 ?k7 ?a8 ?l8 ?c8 ?k8 ?a9 ?l9 ?c9 ?k9 ?a10 ?l10 ?c10 ?k10 ?a11 ?l11 ?c11 ?k11 ?a12 ?l12 ?c12 ?k12 ?a13 ?l13 ?c13 ?k13 ?a14 ?l14 ?c14 ?k14 ?a15 ?l15 ?c15 ?k15 ?a16 ?l16 ?c16 ?k16 ?a17 ?l17 ?c17 ?k17 ?a18 ?l18 ?c18 ?k18 ?a19 ?l19 ?c19 ?k19 ?a20 ?l20 ?c20 ?k20 ?a21 ?l21 ?c21 ?k21 ?a22 ?l22 ?c22 ?k22 ?a23 ?l23 ?c23 ?k23 ?a24 ?l24 ?c24 ?k24 ?a25 ?l25 ?c25 ?k25 ?a26 ?l26 ?c26 ?k26 ?a27 ?l27 ?c27 ?k27 ?a28 ?l28 ?c28 ?k28 ?a29 ?l29 ?c29 ?k29 ?a30 ?l30 ?c30 ?k30 ?a31 ?l31 ?c31 ?k31 ?a32 ?l32 ?c32 ?k32 ?a33 ?l33 ?c33 ?k33 ?a34 ?l34 ?c34 ?k34 ?a35 ?l35 ?c35 ?k35 ?a36 ?l36 ?c36 ?k36 ?a37 ?l37 ?c37 ?k37 ?a38 ?l38 ?c38 ?k38 ?a39 ?l39 ?c39 ?k39 ?a40 ?l40 ?c40 ?k40 ?aAlb ?am0 ?im0 ?lm0 ?cm0 ?km0 ?am1 ?im1 ?lm1 ?cm1 ?km1 ?am2 ?im2 ?lm2 ?cm2 ?km2 ?am3 ?im3 ?lm3 ?cm3 ?km3 ?am4 ?im4 ?lm4 ?cm4 ?km4 ?am5 ?im5 ?lm5 ?cm5 ?km5 ?am6 ?im6 ?lm6 ?cm6 ?km6 ?am7 ?im7 ?lm7 ?cm7 ?km7 ?am8 ?im8 ?lm8 ?cm8 ?km8 ?am9 ?im9 ?lm9 ?cm9 ?km9 ?td9 ?am10 ?im10 ?lm10 ?cm10 ?km10 ?td10 ?pg ?hdi ?po ?sa ?mk ?kc ?eNe ?cCa ?cCn ?cCt ?cCm ?cKi ?sK0 ?sL0 ?sR0 ?sK1 ?sL1 ?sR1 ?sK2 ?sL2 ?sR2 ?sK3 ?sL3 ?sR3 ?sK4 ?sL4 ?sR4 ?sK5 ?sL5 ?sR5 ?sK6 ?sL6 ?sR6 ?aGw ?lGw ?nB ?nN ?nM ?hH ?hW ?z0 ?z1 ?z2 ?z3 ?z4 ?z5 ?z6 ?z7 ?z8 ?z9 ?z10 ?z11 ?z12 ?z13 ?z14 ?z15 ?z16 ?z17 ?z18 ?z19 ?xxt ?xgt ?xkt ?xbt ?xtt ?xmtt
    (case a0 => k_is)
    (case l0 => k_is)
    (case c0 => k_is)
    (case k0 => k_is)
    (case a1 => k_is)
    (case l1 => k_is)
    (case c1 => k_is)
    (case k1 => k_is)
    (case a2 => k_is)
    (case l2 => k_is)
    (case c2 => k_is)
    (case k2 => k_is)
    (case a3 => k_is)
    (case l3 => k_is)
    (case c3 => k_is)
    (case k3 => k_is)
    (case a4 => k_is)
    (case l4 => k_is)
    (case c4 => k_is)
    (case k4 => k_is)
    (case a5 => k_is)
    (case l5 => k_is)
    (case c5 => k_is)
    (case k5 => k_is)
    (case a6 => k_is)
    (case l6 => k_is)
    (case c6 => k_is)
    (case k6 => k_is)
    (case a7 => k_is)
    (case l7 => k_is)
    (case c7 => k_is)
    (case k7 => k_is)
    (case a8 => k_is)
    (case l8 => k_is)
    (case c8 => k_is)
    (case k8 => k_is)
    (case a9 => k_is)
    (case l9 => k_is)
    (case c9 => k_is)
    (case k9 => k_is)
    (case a10 => k_is)
    (case l10 => k_is)
    (case c10 => k_is)
    (case k10 => k_is)
    (case a11 => k_is)
    (case l11 => k_is)
    (case c11 => k_is)
    (case k11 => k_is)
    (case a12 => k_is)
    (case l12 => k_is)
    (case c12 => k_is)
    (case k12 => k_is)
    (case a13 => k_is)
    (case l13 => k_is)
    (case c13 => k_is)
    (case k13 => k_is)
    (case a14 => k_is)
    (case l14 => k_is)
    (case c14 => k_is)
    (case k14 => k_is)
    (case a15 => k_is)
    (case l15 => k_is)
    (case c15 => k_is)
    (case k15 => k_is)
    (case a16 => k_is)
    (case l16 => k_is)
    (case c16 => k_is)
    (case k16 => k_is)
    (case a17 => k_is)
    (case l17 => k_is)
    (case c17 => k_is)
    (case k17 => k_is)
    (case a18 => k_is)
    (case l18 => k_is)
    (case c18 => k_is)
    (case k18 => k_is)
    (case a19 => k_is)
    (case l19 => k_is)
    (case c19 => k_is)
    (case k19 => k_is)
    (case a20 => k_is)
    (case l20 => k_is)
    (case c20 => k_is)
    (case k20 => k_is)
    (case a21 => k_is)
    (case l21 => k_is)
    (case c21 => k_is)
    (case k21 => k_is)
    (case a22 => k_is)
    (case l22 => k_is)
    (case c22 => k_is)
    (case k22 => k_is)
    (case a23 => k_is)
    (case l23 => k_is)
    (case c23 => k_is)
    (case k23 => k_is)
    (case a24 => k_is)
    (case l24 => k_is)
    (case c24 => k_is)
    (case k24 => k_is)
    (case a25 => k_is)
    (case l25 => k_is)
    (case c25 => k_is)
    (case k25 => k_is)
    (case a26 => k_is)
    (case l26 => k_is)
    (case c26 => k_is)
    (case k26 => k_is)
    (case a27 => k_is)
    (case l27 => k_is)
    (case c27 => k_is)
    (case k27 => k_is)
    (case a28 => k_is)
    (case l28 => k_is)
    (case c28 => k_is)
    (case k28 => k_is)
    (case a29 => k_is)
    (case l29 => k_is)
    (case c29 => k_is)
    (case k29 => k_is)
    (case a30 => k_is)
    (case l30 => k_is)
    (case c30 => k_is)
    (case k30 => k_is)
    (case a31 => k_is)
    (case l31 => k_is)
    (case c31 => k_is)
    (case k31 => k_is)
    (case a32 => k_is)
    (case l32 => k_is)
    (case c32 => k_is)
    (case k32 => k_is)
    (case a33 => k_is)
    (case l33 => k_is)
    (case c33 => k_is)
    (case k33 => k_is)
    (case a34 => k_is)
    (case l34 => k_is)
    (case c34 => k_is)
    (case k34 => k_is)
    (case a35 => k_is)
    (case l35 => k_is)
    (case c35 => k_is)
    (case k35 => k_is)
    (case a36 => k_is)
    (case l36 => k_is)
    (case c36 => k_is)
    (case k36 => k_is)
    (case a37 => k_is)
    (case l37 => k_is)
    (case c37 => k_is)
    (case k37 => k_is)
    (case a38 => k_is)
    (case l38 => k_is)
    (case c38 => k_is)
    (case k38 => k_is)
    (case a39 => k_is)
    (case l39 => k_is)
    (case c39 => k_is)
    (case k39 => k_is)
    (case a40 => k_is)
    (case l40 => k_is)
    (case c40 => k_is)
    (case k40 => k_is)
    (case aAlb => k_is)
    (case am0 => k_is)
    (case im0 => k_is)
    (case lm0 => k_is)
    (case cm0 => k_is)
    (case km0 => k_is)
    (case am1 => k_is)
    (case im1 => k_is)
    (case lm1 => k_is)
    (case cm1 => k_is)
    (case km1 => k_is)
    (case am2 => k_is)
    (case im2 => k_is)
    (case lm2 => k_is)
    (case cm2 => k_is)
    (case km2 => k_is)
    (case am3 => k_is)
    (case im3 => k_is)
    (case lm3 => k_is)
    (case cm3 => k_is)
    (case km3 => k_is)
    (case am4 => k_is)
    (case im4 => k_is)
    (case lm4 => k_is)
    (case cm4 => k_is)
    (case km4 => k_is)
    (case am5 => k_is)
    (case im5 => k_is)
    (case lm5 => k_is)
    (case cm5 => k_is)
    (case km5 => k_is)
    (case am6 => k_is)
    (case im6 => k_is)
    (case lm6 => k_is)
    (case cm6 => k_is)
    (case km6 => k_is)
    (case am7 => k_is)
    (case im7 => k_is)
    (case lm7 => k_is)
    (case cm7 => k_is)
    (case km7 => k_is)
    (case am8 => k_is)
    (case im8 => k_is)
    (case lm8 => k_is)
    (case cm8 => k_is)
    (case km8 => k_is)
    (case am9 => k_is)
    (case im9 => k_is)
    (case lm9 => k_is)
    (case cm9 => k_is)
    (case km9 => k_is)
    (case td9 => k_is)
    (case am10 => k_is)
    (case im10 => k_is)
    (case lm10 => k_is)
    (case cm10 => k_is)
    (case km10 => k_is)
    (case td10 => k_is)
    (case pg => k_is)
    (case hdi => k_is)
    (case po => k_is)
    (case sa => k_is)
    (case mk => k_is)
    (case kc => k_is)
    (case eNe => first | k_is | kernel_rfl)
    (case cCa => first | k_is | kernel_rfl)
    (case cCn => first | k_is | kernel_rfl)
    (case cCt => first | k_is | kernel_rfl)
    (case cCm => first | k_is | kernel_rfl)
    (case cKi => first | k_is | kernel_rfl)
    (case sK0 => first | k_is | kernel_rfl)
    (case sL0 => first | k_is | kernel_rfl)
    (case sR0 => first | k_is | kernel_rfl)
    (case sK1 => first | k_is | kernel_rfl)
    (case sL1 => first | k_is | kernel_rfl)
    (case sR1 => first | k_is | kernel_rfl)
    (case sK2 => first | k_is | kernel_rfl)
    (case sL2 => first | k_is | kernel_rfl)
    (case sR2 => first | k_is | kernel_rfl)
    (case sK3 => first | k_is | kernel_rfl)
    (case sL3 => first | k_is | kernel_rfl)
    (case sR3 => first | k_is | kernel_rfl)
    (case sK4 => first | k_is | kernel_rfl)
    (case sL4 => first | k_is | kernel_rfl)
    (case sR4 => first | k_is | kernel_rfl)
    (case sK5 => first | k_is | kernel_rfl)
    (case sL5 => first | k_is | kernel_rfl)
    (case sR5 => first | k_is | kernel_rfl)
    (case sK6 => first | k_is | kernel_rfl)
    (case sL6 => first | k_is | kernel_rfl)
    (case sR6 => first | k_is | kernel_rfl)
    (case aGw => k_is)
    (case lGw => k_is)
    (case nB => k_is)
    (case nN => k_is)
    (case nM => k_is)
    (case hH => k_is)
    (case hW => k_is)
    (case z0 => k_is)
    (case z1 => k_is)
    (case z2 => k_is)
    (case z3 => k_is)
    (case z4 => k_is)
    (case z5 => k_is)
    (case z6 => k_is)
    (case z7 => k_is)
    (case z8 => k_is)
    (case z9 => k_is)
    (case z10 => k_is)
    (case z11 => k_is)
    (case z12 => k_is)
    (case z13 => k_is)
    (case z14 => k_is)
    (case z15 => k_is)
    (case z16 => k_is)
    (case z17 => k_is)
    (case z18 => k_is)
    (case z19 => k_is)
    (case xxt => kernel_rfl)
    (case xgt => k_is)
    (case xkt => k_is)
    (case xbt => k_is)
    (case xtt => k_is)
    (case xmtt => kernel_rfl)

