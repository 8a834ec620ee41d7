import PyProof.Rows.All
import Wide.All
import OpenK.AllK
import Wide.FinOn
import HandS.ForMost
import HandS.Style
import HandS.FStr
import HandS.Nested
import HandS.ExcInit
import HandS.ExcOwn
import HandS.Exc
import KE.KExcSuper
import HandS.ExcValue
import HandS.ExcIs
import HandS.ExcField
import HandS.IsInst
import HandS.SetFor
import KE.KExcIs
import HandS.Walk
import PySem.Challenge.RW_hingemount_k15_families_of_refusals
set_option Elab.async false
set_option maxRecDepth 100000
set_option maxHeartbeats 4000000
namespace Hm
open PySem L2
def topSt (i : Nat) : Stmt := PySem.Challenge.pw_hingemount_k15_families_of_refusals.main.body.getD i (.Pass ⟨0, 0, 0, 0⟩)
abbrev stCell : Stmt := topSt 33
abbrev stPen : Stmt := topSt 34
abbrev stDraw : Stmt := topSt 35

/-! a pen: a list of four ints, the last one below its modulus -/
def PenAt (H : Hp) (p : Addr) : Prop := ∃ a b c d : Int, H p = some (.lst [.int a, .int b, .int c, .int d]) ∧ 0 ≤ d ∧ d < 1000000007
/-- all but p as it was -/
def But (p : Addr) (H H' : Hp) : Prop := ∀ b, b ≠ p → H' b = H b
def spCellAt (K : PySem.W.Frag) : Sp := fun vs H Q _ => ∃ (l : Addr) (ns : List Int) (j : Nat),
  vs = [.ref l, .int (j : Int)] ∧ SqL K H l (ns.map V.int) ∧ ∀ z : Int, Q (.int z) H
def spPenOf : Sp := fun vs H Q _ => ∃ z : Int, vs = [.int z] ∧ ∀ p H', H p = none → PenAt H' p → But p H H' → Q (.ref p) H'
def spDrawn : Sp := fun vs H Q _ => ∃ (p : Addr) (n : Int), vs = [.ref p, .int n] ∧ 0 < n ∧ n < 1073741824 ∧ PenAt H p ∧
  ∀ (r : Int) H', 0 ≤ r → r < n → PenAt H' p → But p H H' → Q (.int r) H'
structure TxtLen (mg : Str → Option Value) : Prop where
  len : mg "len" = none
  int : mg "int" = none
section
variable {P : Program} {w : World} {K : PySem.W.Frag} {mg : Str → Option Value} {base : Heap}
theorem sc_cell : FnScope ["_law_script", "_law_k"] ["_law_script", "_law_k"] (defScope stCell) :=
  ⟨rfl, rfl, rfl, by decide +kernel, rfl, by decide +kernel, by decide +kernel⟩
theorem ok_cell {f : Addr} {fd : FuncData} (F : Fun K "_law_cell_at" "_law_cell_at" stCell f fd) (T : TxtLen mg) :
    FnOk P w K mg base CX0 1 f fd ["_law_script", "_law_k"] (spCellAt K) := by
  refine F.ok sc_cell (fun vs H Q E h => ?_) (fun cdv A outer s H vs Q E hr h => ?_)
  · obtain ⟨l, ns, j, rfl, _⟩ := h
    rfl
  · obtain ⟨l, ns, j, rfl, hS, q⟩ := h
    refine ⟨_, pss_cons (ps_if (pt_cmpR op_lt (pv 1) (pe_callB call_len_seq (by rfl) T.len PySem.boot_len (pa_cons (pv 0) pa_nil)) (nomark _))
      (pss_one (ps_ret (pe_ix ix_list (pv 0) (pv 1) (fun _ _ => rfl)))) pss_nil) (pss_one (ps_ret pe_int)), ?_⟩
    refine ⟨_, rfl, _, rfl, l, _, rfl, .inl hS, _, _, rfl, rfl, _, rfl, ?_⟩
    refine ite2 (fun c => ?_) (fun c => q 0)
    have c' := of_decide_eq_true c
    rw [List.length_map] at c'
    have hj : j < ns.length := by omega
    refine ⟨_, rfl, _, rfl, l, _, _, .int ns[j], rfl, rfl, hS, ?_, q _⟩
    exact atI_nat (by rw [List.getElem?_map, List.getElem?_eq_getElem hj]; rfl)
theorem sc_pen : FnScope ["_law_cell"] ["_law_cell"] (defScope stPen) := ⟨rfl, rfl, rfl, by decide +kernel, rfl, by decide +kernel, by decide +kernel⟩
theorem ok_pen {f : Addr} {fd : FuncData} (F : Fun K "_law_pen" "_law_pen" stPen f fd) (T : TxtLen mg) :
    FnOk P w K mg base CX0 1 f fd ["_law_cell"] spPenOf := by
  refine F.ok sc_pen (fun vs H Q E h => ?_) (fun cdv A outer s H vs Q E hr h => ?_)
  · obtain ⟨z, rfl, _⟩ := h
    rfl
  · obtain ⟨z, rfl, q⟩ := h
    refine ⟨_, pss_one (ps_ret (pe_lst (pa_cons (pv 0) (pa_cons (pe_callTy call_int1 (by rfl) T.int (by decide +kernel)
        (pa_cons (pe_cmpR op_ge (pv 0) (pe_op op_pow pe_int pe_int) (nomark _)) pa_nil))
      (pa_cons pe_int (pa_cons (pe_op op_mod (pv 0) pe_int) pa_nil)))))), ?_⟩
    refine ⟨_, rfl, _, rfl, _, _, rfl, rfl, ⟨by decide, by decide, by decide⟩, _, _, rfl, rfl, .inr ⟨_, rfl, ?_⟩⟩
    refine ⟨_, rfl, _, _, rfl, rfl, (by show (0 : Int) < 1000000007; decide), (by show 4 ≤ sizeLine; decide), fun p hp => ?_⟩
    exact q p _ hp ⟨_, _, _, _, upd_same, Int.emod_nonneg _ (by decide), Int.emod_lt_of_pos _ (by decide)⟩ (fun b hb => upd_ne hb)
end
end Hm

set_option Elab.async false
set_option maxRecDepth 100000
set_option maxHeartbeats 4000000
namespace Hm
open PySem L2
section
variable {P : Program} {w : World} {K : PySem.W.Frag} {mg : Str → Option Value} {base : Heap}
theorem sc_draw : FnScope ["_law_pen_here", "_law_bound", "_law_found", "_law_stir"] ["_law_pen_here", "_law_bound"] (defScope stDraw) :=
  ⟨rfl, rfl, rfl, by decide +kernel, rfl, by decide +kernel, by decide +kernel⟩
theorem ok_draw {f : Addr} {fd : FuncData} (F : Fun K "_law_draw" "_law_draw" stDraw f fd) :
    FnOk P w K mg base CX0 1 f fd ["_law_pen_here", "_law_bound"] spDrawn := by
  refine F.ok sc_draw (fun vs H Q E h => ?_) (fun cdv A outer s H vs Q E hr h => ?_)
  · obtain ⟨p, n, rfl, _⟩ := h
    rfl
  · obtain ⟨p, n, rfl, n0, n1, ⟨a, b, c, d, hp, d0, d1⟩, q⟩ := h
    refine ⟨_, pss_cons (ps_if (PW.pt (pw_and (pt_cmpR op_eq (pe_ix ix_list (pv 0) pe_int (fun _ _ => rfl)) pe_int (nomark _))
          (pw_and1 (pt_cmpR op_gt (pe_ix ix_list (pv 0) pe_int (fun _ _ => rfl)) pe_int (nomark _)))))
        (pss_cons (ps_set (i := 2) sc_draw.nd rfl (Or.inl rfl) (pe_op op_mod (pe_ix ix_list (pv 0) pe_int (fun _ _ => rfl)) (pv 1)))
        (pss_cons (ps_asg (pe_op op_fdiv (pe_ix ix_list (pv 0) pe_int (fun _ _ => rfl)) (pv 1)) (pg_sub (pv 0) pe_int set_list))
        (pss_one (ps_ret (pv 2))))) pss_nil)
      (pss_cons (ps_asg (pe_op op_add (pe_ix ix_list (pv 0) pe_int (fun _ _ => rfl)) pe_int) (pg_sub (pv 0) pe_int set_list))
      (pss_cons (ps_set (i := 3) sc_draw.nd rfl (Or.inl rfl)
          (pe_op op_mod (pe_op op_mul (pe_op op_add (pe_ix ix_list (pv 0) pe_int (fun _ _ => rfl)) pe_int) (pe_op op_add pe_int (pe_op op_mul pe_int (pe_ix ix_list (pv 0) pe_int (fun _ _ => rfl))))) pe_int))
      (pss_cons (ps_set (i := 3) sc_draw.nd rfl (Or.inl rfl)
          (pe_op op_mod (pe_op op_add (pe_op op_add (pe_op op_mul (pv 3) (pv 3)) (pe_op op_mul pe_int (pe_ix ix_list (pv 0) pe_int (fun _ _ => rfl)))) pe_int) pe_int))
      (pss_one (ps_ret (pe_op op_mod (pe_op op_fdiv (pe_op op_mod (pe_op op_mul (pv 3) pe_int) pe_int) pe_int) (pv 1))))))), ?_⟩
    have back : ∀ r : Int, 0 ≤ r % n ∧ r % n < n := fun r => ⟨Int.emod_nonneg _ (by omega), Int.emod_lt_of_pos _ n0⟩
    have g0 : ∀ {x y z u : V}, atI [x, y, z, u] 0 = some x := rfl
    -- the test; both ways of it
    refine ⟨_, rfl, p, _, _, _, rfl, rfl, SqL.of hp, rfl, rfl, _, rfl, ?_⟩
    refine (fun slow => ite2 (fun _ => ⟨_, rfl, p, _, _, _, rfl, rfl, SqL.of hp, rfl, _, _, rfl, rfl, _, rfl, ite2 (fun _ => ?fast) (fun _ => slow)⟩) (fun _ => slow)) ?slow
    case fast =>
      refine ⟨_, rfl, p, _, _, _, rfl, rfl, SqL.of hp, rfl, _, rfl, _, _, rfl, rfl, n0, ?_⟩
      refine ⟨_, rfl, p, _, _, _, rfl, rfl, SqL.of hp, rfl, _, rfl, _, _, rfl, rfl, ⟨n0, n1⟩, _, rfl, p, _, _, _, rfl, rfl, hp, rfl, _, rfl, ?_⟩
      exact q _ _ (back _).1 (back _).2 ⟨_, b, c, d, upd_same, d0, d1⟩ (fun b hb => upd_ne hb)
    case slow =>
      refine ⟨_, rfl, p, _, _, _, rfl, rfl, SqL.of hp, rfl, _, _, rfl, rfl, _, rfl, p, _, _, _, rfl, rfl, hp, rfl, ?_⟩
      refine ⟨_, rfl, p, _, _, _, rfl, rfl, SqL.of upd_same, rfl, _, _, rfl, rfl, _, rfl, p, _, _, _, rfl, rfl, SqL.of upd_same, rfl, _, _, rfl, rfl, .inl ⟨by decide, by decide⟩, _, _, rfl, rfl, _, _, rfl, rfl, .inl ⟨by omega, by omega⟩, _, _, rfl, rfl, (by show (0 : Int) < 2147483647; decide), ?_⟩
      generalize hx : ((d + 17) * (69621 + 2 * (c + 1))) % 2147483647 = x
      have x0 : 0 ≤ x := by rw [← hx]; exact Int.emod_nonneg _ (by decide)
      have x1 : x < 2147483647 := by rw [← hx]; exact Int.emod_lt_of_pos _ (by decide)
      refine ⟨_, rfl, _, rfl, _, _, rfl, rfl, .inl ⟨by omega, by omega⟩, _, rfl, p, _, _, _, rfl, rfl, SqL.of upd_same, rfl, _, _, rfl, rfl, .inl ⟨by decide, by decide⟩, _, _, rfl, rfl, _, _, rfl, rfl, _, _, rfl, rfl, (by show (0 : Int) < 2147483629; decide), ?_⟩
      generalize hy : (x * x + 40503 * (c + 1) + 5) % 2147483629 = y
      have y0 : 0 ≤ y := by rw [← hy]; exact Int.emod_nonneg _ (by decide)
      have y1 : y < 2147483629 := by rw [← hy]; exact Int.emod_lt_of_pos _ (by decide)
      refine ⟨_, rfl, _, _, rfl, rfl, .inl ⟨by omega, by omega⟩, _, _, rfl, rfl, (by show (0 : Int) < 2147483647; decide), _, _, rfl, rfl, ⟨by decide, by decide⟩, _, rfl, _, _, rfl, rfl, n0, ?_⟩
      exact q _ _ (back _).1 (back _).2 ⟨a, b, c + 1, d, upd_same, d0, d1⟩ (fun b hb => upd_ne hb)
end
end Hm

set_option Elab.async false
set_option maxRecDepth 100000
set_option maxHeartbeats 4000000
namespace Hm
open PySem L2
abbrev stFig : Stmt := topSt 3
/-- a number below 10^60 is told by its figures -/
def spFig : Sp := fun vs H Q _ => ∃ n : Int, vs = [.int n] ∧ 0 ≤ n ∧ n < 1000000 ∧ ∀ H', Same H H' → Q (.str (toString n)) H'
structure TxtFig (mg : Str → Option Value) : Prop where
  str : mg "str" = none
section
variable {P : Program} {w : World} {K : PySem.W.Frag} {mg : Str → Option Value} {base : Heap}
theorem sc_fig : FnScope ["number", "pieces", "left", "piece"] ["number"] (defScope stFig) := ⟨rfl, rfl, rfl, by decide +kernel, rfl, by decide +kernel, by decide +kernel⟩
theorem small_log {n : Int} (h0 : 0 ≤ n) (h1 : n < 1000000) : n.natAbs.log2 < 1920 := by
  have h : n.natAbs < 2 ^ 1920 := Nat.lt_of_lt_of_le (show n.natAbs < 1000000 by omega) (by decide +kernel)
  by_cases z : n.natAbs = 0
  · rw [z]; decide
  · exact (Nat.log2_lt z).mpr h
theorem ok_fig {f : Addr} {fd : FuncData} (F : Fun K "in_figures" "in_figures" stFig f fd) (T : TxtFig mg) :
    FnOk P w K mg base CX0 1 f fd ["number"] spFig := by
  refine F.ok sc_fig (fun vs H Q E h => ?_) (fun cdv A outer s H vs Q E hr h => ?_)
  · obtain ⟨n, rfl, _⟩ := h
    rfl
  · obtain ⟨n, rfl, h0, h1, q⟩ := h
    refine ⟨_, pss_cons (ps_set (i := 1) sc_fig.nd rfl (Or.inl rfl) (pe_lst pa_nil))
      (pss_cons (ps_set (i := 2) sc_fig.nd rfl (Or.inl rfl) (pv 0))
      (pss_cons (ps_while PassesOwn.never (pt_cmpR op_ge (pv 2) (pe_op op_pow pe_int pe_int) (nomark _)) pss_never)
      (pss_cons (ps_expr (pe_bm PySem.F.plainAttrs_list PySem.F.slot_list_append PySem.F.type_list_append mt_append (pv 1)
          (pa_cons (pe_callTy call_str_int (by rfl) T.str (by decide +kernel) (pa_cons (pv 2) pa_nil)) pa_nil)))
      (pss_one (ps_ret (pe_bm PySem.F.plainAttrs_str PySem.F.slot_str_join PySem.F.type_str_join mt_join pe_str (pa_cons (pe_revL (pv 1)) pa_nil))))))), ?_⟩
    refine ⟨by decide, fun l hl => ?_⟩
    refine ⟨_, rfl, ?_⟩
    refine ⟨fun _ σ H' => σ = [some (.int n), some (.ref l), some (.int n), none] ∧ H' = upd H l (.lst []), ⟨0, rfl, rfl⟩, ?_⟩
    rintro m σ H' ⟨rfl, rfl⟩
    refine ⟨_, rfl, _, _, rfl, rfl, ⟨by decide, by decide, by decide⟩, _, _, rfl, rfl, _, rfl, ?_⟩
    have c : decide ((10 : Int) ^ (60 : Int).toNat ≤ n) = false := decide_eq_false (by
      have : (1000000 : Int) ≤ (10 : Int) ^ (60 : Int).toNat := by decide +kernel
      omega)
    rw [c]
    refine iteF ?_
    refine ⟨_, rfl, .inl ⟨rfl, _, SqL.of upd_same⟩, _, rfl, _, rfl, small_log h0 h1, l, _, _, rfl, rfl, upd_same, by decide, ?_⟩
    refine ⟨rfl, _, rfl, l, _, rfl, SqL.of upd_same, fun p hp => ⟨_, p, [toString n], rfl, rfl, .inl (SqL.of upd_same), ?_, ?_⟩⟩
    · have z := PyProof.Rows.int_text_len_1921 (small_log h0 h1)
      show (PySem.Str.ofString (toString n)).length + 0 + 1 * (Str.ofString "").length ≤ 16777216
      have e2 : (Str.ofString "").length = 0 := by decide +kernel
      omega
    · refine q _ (fun b o e => ?_)
      have hb : b ≠ l := ne_of_none e hl
      have hbp : b ≠ p := fun z => by
        rw [← z, upd_ne hb, upd_ne hb, e] at hp
        cases hp
      rw [upd_ne hbp, upd_ne hb, upd_ne hb]
      exact e
end
end Hm

set_option Elab.async false
set_option maxRecDepth 100000
set_option maxHeartbeats 4000000
namespace Hm
open PySem L2
abbrev stShort : Stmt := inClass (topSt 31) 0
def nfShort (cc cda : Addr) : NdefX.NF := ⟨"__init__", "Short.__init__", defArgs stShort, defBody stShort, defScope stShort, [("__class__", cc)], cda⟩
/-- Short.__init__(self, by): the field by is kept in the error's own new dict -/
def spShort (C : Addr) : Sp := fun vs H Q _ => ∃ (a : Addr) (n : Int), vs = [.ref a, .int n] ∧ H a = some (exo a C none) ∧ 0 ≤ n ∧ n < 1000000 ∧
  ∀ H' dx, (∀ b o, b ≠ a → H b = some o → H' b = some o) → H dx = none → H' a = some (exo a C (some dx)) → H' dx = some (exd dx [("by", .int n)]) → Q .non H'
structure TxtShort (P : Program) (K : PySem.W.Frag) (mg : Str → Option Value) (C fI cc cda fF : Addr) : Prop where
  oex : OexC K C
  fn : ∃ (oc : Value) (od : Option Addr) (kV doc pm : Value) (an : Option Addr) (ct : Value) (osl : Array (Option Value)),
    K.lookup fI = some ⟨oc, od, .func (PySem.W.fnX "__init__" "Short.__init__" (defArgs stShort) (defBody stShort) (defScope stShort) [("__class__", cc)] .none kV doc pm an (.ref cda) ct), osl⟩
  cd : PySem.W.codeIn K (.ref cda) "Short.__init__" = true
  code : ∃ ccl cdd vs ccs file tf, K.lookup cda = some ⟨ccl, cdd, .fields vs, ccs⟩ ∧ vs[2]? = some (.str file tf) ∧ ((P.main.file : Str) == file) = true
  cell : ∃ cl cld csl, K.lookup cc = some ⟨cl, cld, .cell (some (.ref C)), csl⟩
  htop : (P.main.scope.names.lookup ("super" : Str)).isSome = false
  sup : mg "super" = none
  opq : PySem.W.nsIn K PySem.cStatics "thirdparty.any" = some none
  via : PySem.W.ks_superIn K C C "__init__" = some (some (.builtin "ValueError.__init__"))
  sub : PySem.W.subIn K (.ref C) (.type "ValueError") = some true
  no : PySem.W.findIn K (.ref C) "by" = some none
  gF : mg "in_figures" = some (.ref fF)
  kF : PySem.W.keepIn K (.ref fF) = true
theorem sc_short : NdefX.NScope ["self", "by", "__class__"] ["self", "by"] ["__class__"] (defScope stShort) := NdefX.nscope_by (by decide +kernel)
section
variable {P : Program} {w : World} {K : PySem.W.Frag} {mg : Str → Option Value} {base : Heap}
theorem lk_one {x : Str} {c : Addr} : ([(x, c)] : List (Str × Addr)).lookup x = some c := by simp [List.lookup]
theorem mro_self {K : PySem.W.Frag} {C : Addr} {cd : ClassData} {bm : List Value} (hc : PySem.W.clsIn K C = some cd) (hm : cd.mro = .ref C :: bm) : PySem.W.mroIn K C (.ref C) = some true := by
  unfold PySem.W.mroIn
  rw [hc]
  show (if cd.mro.isEmpty = true then none else some (cd.mro.contains (.ref C))) = some true
  rw [hm]
  simp
theorem ok_short {C fI cc cda fF : Addr} {fdF fd : FuncData} {kV doc pm ct : Value} {an : Option Addr} (T : TxtShort P K mg C fI cc cda fF) (GF : FnOk P w K mg base CX0 1 fF fdF ["number"] spFig) (bF : Binds K fdF ["number"] [])
    (hfd : fd = PySem.W.fnX "__init__" "Short.__init__" (defArgs stShort) (defBody stShort) (defScope stShort) [("__class__", cc)] .none kV doc pm an (.ref cda) ct)
    (lk : ∃ oc od osl, K.lookup fI = some ⟨oc, od, .func fd, osl⟩) :
    FnOk P w K mg base CX0 2 fI fd ["self", "by"] (spShort C) := by
  subst hfd
  refine ⟨fun vs H Q E h => by obtain ⟨a, n, rfl, _⟩ := h; rfl, fun A outer s H args us vs Q E hr e0 hb r hsp => ?_⟩
  obtain ⟨a, n, rfl, ha, n0, n1, q⟩ := hsp
  have KX : K.In s.heap := e0.mod.kin.keeps fun b o e => (e0.bs b o e).1
  have lim : s.heap.NoLimit := e0.mod.nolimit.keeps fun b o e => (e0.bs b o e).1
  obtain ⟨oc, od, osl, lk⟩ := lk
  obtain ⟨cl, cld, csl, hcell⟩ := T.cell
  refine codeAny_call_function hr.depth (KX _ _ lk) rfl rfl rfl rfl (PySem.W.codeRec_of KX T.cd) (hb _ _ _ _ ?_)
  refine wpAny_newFunctionEnv sc_short.nocell (fun ⟨n, _⟩ hy => sc_short.par n (List.of_mem_zip hy).1) (fun h₁ hns hsb => ⟨lim.fresh _ hsb, ?_⟩) sc_short.kind
  show codeAny _ _ (.func (nfShort cc cda).body (NdefX.envF (nfShort cc cda) fI s.heap.objs.size)) _ _
  refine ks_codeAny_funcAt ?_
  have kp : ∀ b o, s.heap.get? b = some o → h₁.get? b = some o := fun b o e => hsb.extBut b o (Nat.ne_of_lt (Heap.lt_size e)) (Heap.get?_push_of_some _ e)
  have bcc := e0.bs cc _ (e0.mod.kin _ _ hcell)
  have one : ∀ y c, ([(("__class__" : Str), cc)] : List (Str × Addr)).lookup y = some c → c = cc ∧ y = "__class__" := fun y c e => by
    by_cases hy : y = ("__class__" : Str)
    · rw [hy, lk_one] at e
      exact ⟨(Option.some.inj e).symm, hy⟩
    · have b : (y == ("__class__" : Str)) = false := by simpa using hy
      simp [List.lookup, b] at e
  have C0 : NdefX.CellsAt (nfShort cc cda).cl ["__class__"] [some (.ref C)] s.heap H := by
    refine ⟨rfl, fun y c e => ?_, fun x y c e1 e2 => ?_, fun i y e => ?_⟩
    · obtain ⟨rfl, _⟩ := one y c e
      exact ⟨bcc.2, _, _, bcc.1, rfl⟩
    · rw [(one x c e1).2, (one y c e2).2]
    · cases i with
      | zero =>
        cases e
        refine ⟨cc, lk_one, fun v hv => ?_⟩
        cases hv
        exact ⟨_, rfl, _, bcc.1, rfl⟩
      | succ i => cases e
  obtain ⟨ccl, cdd, vv, ccs, file, tf, hcode, hvs, hfile⟩ := T.code
  obtain ⟨nm, qn, NN, bs, bm, sn, sub, ab, col, dd, k0, k1, k2, k3, k5, hC, hbm⟩ := T.oex.cls
  have hcl : PySem.W.clsIn K C = some { name := nm, bases := bs, mro := .ref C :: bm, ns := NN, qualname := qn, hasDict := true, slotNames := sn, subclasses := sub, abstract := ab, collection := col, hasDel := false } := by
    unfold PySem.W.clsIn
    rw [hC]
    all_goals rfl
  have hself : (fun x => List.lookup x ((["self", "by"] : List Str).zip us).reverse) "self" = some (.ref a) := by
    cases r with
    | cons r1 r2 =>
      cases r2 with
      | cons r2 r3 =>
        cases r3
        cases r1
        rfl
  have I0 : Inv (NdefX.ncx CX0 P w K mg base ["self", "by", "__class__"] (nfShort cc cda) fI A outer s H E) [] (NdefX.startF ["self", "by", "__class__"] [.ref a, .int n] [some (.ref C)]) H { s with heap := h₁, toks := s.toks + ((["self", "by"] : List Str).zip us).length } :=
    NdefX.inv_startN sc_short hr.hd e0 rfl r C0 hns kp
  have K1 : K.In h₁ := KX.keeps kp
  obtain ⟨t0, hx1⟩ := exo_at I0.hok ha
  refine ks_wpAt_execs_cons (ks_wpAt_Expr_any (ks_wpAt_MethodCall (ks_wpAt_super_base rfl rfl (by decide) rfl (K1 _ _ lk) rfl rfl rfl (K1 _ _ hcode) rfl hvs hfile T.htop ?_)))
  have mblt := e0.mod.blt
  obtain ⟨mb, b1, b2⟩ := mblt
  have bk1 : ∀ b o, base.get? b = some o → h₁.get? b = some o := fun b o e => kp b o (e0.bs b o e).1
  refine PySem.W.ks_loadName_global rfl rfl (Calls.loadGlobal_builtin (e0.mod.glob.keeps bk1) T.sup (b1.keeps bk1) ((b2 _ (by decide +kernel)).trans (by decide +kernel)) ⟨rfl, ?_⟩)
  refine wpAny_loadName_free rfl rfl rfl ⟨_, K1 _ _ hcell, rfl⟩ ?_
  refine wpAny_loadName_local rfl rfl hns hself ?_
  refine ks_wpAny_isType_cls (K1 _ _ hC) rfl ⟨rfl, ?_⟩
  refine ks_wpAny_call_super (K1 _ _ hC) rfl hx1 rfl (fun c e => by cases e) (PySem.W.looks_mroIn K1 (mro_self hcl rfl)) (fun h2 hso k2 => ?_)
  have hsz : h2.objs.size ≤ h2.objs.size := Nat.le_refl _
  have I1 : Inv (NdefX.ncx CX0 P w K mg base ["self", "by", "__class__"] (nfShort cc cda) fI A outer s H E) [] (NdefX.startF ["self", "by", "__class__"] [.ref a, .int n] [some (.ref C)]) H { s with heap := h2, toks := s.toks + ((["self", "by"] : List Str).zip us).length } := I0.kept (t' := s.toks + ((["self", "by"] : List Str).zip us).length) k2
  have K2 : K.In h2 := K1.keeps k2
  have hx2 := k2 _ _ hx1
  have hIC : PySem.W.InstAt h2 a { cls := .ref C, dict := none, data := .fields #[.ref t0, .none, .none, .none, .bool false, .none] } C none := ⟨hx2, rfl, rfl, trivial⟩
  have hvia := T.via
  unfold PySem.W.ks_superIn at hvia
  rw [hcl] at hvia
  refine PySem.W.kxs_getMethod PySem.W.kxs_ValueError (l₀ := .ref C :: bm) hso (PySem.W.looks_opaque K2 T.opq) (fun A Q E s k q => wpAny_bind ((PySem.W.looks_clsIn K2 hcl) A _ E s k (wpAny_pure q))) rfl K2 hvia (hIC.type.andThen (PySem.W.looks_subIn K2 T.sub)) (PySem.W.ks_ne K2 hIC hcl) (by decide) ?_
  have k3 : ∀ b o, h2.get? b = some o → (h2.push (PySem.W.kxs_mw "ValueError.__init__" a)).get? b = some o := fun b o e => Heap.get?_push_of_some _ e
  have hu : (h2.push (PySem.W.kxs_mw "ValueError.__init__" a)).get? h2.objs.size = some (PySem.W.kxs_mw "ValueError.__init__" a) := Heap.get?_push_at rfl rfl
  have I2 := (I1.kept (t' := s.toks + ((["self", "by"] : List Str).zip us).length + 1) k3).pinned (fp := [h2.objs.size]) (fun b hb => by
      obtain rfl := List.mem_singleton.mp hb
      exact I1.fpOk (Nat.le_refl _) (I1.hok.fresh (Nat.le_refl _))) (fun b hb => by
      obtain rfl := List.mem_singleton.mp hb
      exact ⟨_, hu, fun v e => by cases e⟩)
  have hr1 : Room 1 (A.deeper (NdefX.envF (nfShort cc cda) fI s.heap.objs.size)) := hr.deeper _
  refine PySem.W.kxs_callWith1 (h₀ := h2) (L := h2.objs.size + 1) (i := "ValueError.__init__") (x := a) (news := [(h2.objs.size, PySem.W.kxs_mw "ValueError.__init__" a)]) (fun p hp => by
      obtain rfl := List.mem_singleton.mp hp
      refine ⟨hu, Nat.ne_of_lt (Nat.lt_succ_self _), ?_⟩
      exact Heap.get?_none_of_le (Nat.le_refl _)) (List.mem_singleton.mpr rfl) ?_
  refine wpAny_mono ((pa_cons (X := NdefX.ncx CX0 P w K mg base ["self", "by", "__class__"] (nfShort cc cda) fI A outer s H E) (pe_joined (PJ.cons pe_str (PJ.cons (pe_fmt (pe_call GF hr1 (by rfl) T.gF T.kF bF .nil pass0 (pa_cons (pv 1) pa_nil))) .nil))) pa_nil).run _ _ _ _ _ (fun vs H1 => (∃ y, vs = [V.str y]) ∧ Same H H1) I2 ?rd) (fun us1 s1 hq => ?_) (fun _ _ z => z)
  case rd =>
    refine ⟨_, rfl, by decide, ?_⟩
    refine ⟨_, rfl, n, rfl, n0, n1, fun H' sm => .inl ⟨_, rfl, ?_, _, rfl, ?_, ⟨_, rfl⟩, sm⟩⟩
    · exact int_text_fits (small_log n0 n1)
    · have z := PyProof.Rows.int_text_len_1921 (small_log n0 n1)
      have e9 : (Str.empty ++ Str.ofString "short by ").cps.size = 9 := by decide +kernel
      show ((Str.empty ++ Str.ofString "short by ").cps ++ (Str.ofString (toString n)).cps).size ≤ sizeLine
      rw [Array.size_append, e9, sizeLine_eq]
      have z2 : (Str.ofString (toString n)).cps.size ≤ 1921 := z
      omega
  obtain ⟨vs, H1, I3, rv, ⟨y, rfl⟩, sm⟩ := hq
  have hu3 : s1.heap.get? h2.objs.size = some (PySem.W.kxs_mw "ValueError.__init__" a) := (I3.pin (h2.objs.size, PySem.W.kxs_mw "ValueError.__init__" a) (List.mem_append_right _ (List.mem_append_right _ (mem_pinsAt (List.mem_singleton.mpr rfl) hu)))).1
  refine ⟨hu3, ?_⟩
  have e1 : H1 a = some (exo a C none) := sm _ _ ha
  obtain ⟨t1, ho⟩ := exo_at I3.hok e1
  have I4 := I3.unpinned
  have K3 : K.In s1.heap := I3.kIn
  obtain ⟨hp, g, d, t, os⟩ := s1
  have hl : us1.length ≤ sizeLine := by
    rw [← Paired.length rv, sizeLine_eq]
    exact (by decide : 1 ≤ 16777216)
  refine wpAny_call (codeAny_of_tree ?_)
  show wpAny (model P w) (A.deeper (NdefX.envF (nfShort cc cda) fI s.heap.objs.size)).in1 (callAny (.ref h2.objs.size) ⟨us1, []⟩) _ _ _
  simp only [callAny]
  refine wpAny_bind (wpAny_load hu3 ?_)
  have mw1 : (Value.type "method-wrapper" == Value.type "method" || Value.type "method-wrapper" == Value.type "builtin_function_or_method" ||
      Value.type "method-wrapper" == Value.type "method-wrapper") = true := by decide
  simp only [PySem.W.kxs_mw, mw1, if_true]
  refine PySem.W.KFB.if_so (by decide) ?_
  refine wpAny_bind (PySem.W.check_bound_init PySem.F.excBase_ValueError.toExcCallFacts (K3 _ _ hC) ho rfl ?_)
  refine wpAny_bind (wpAny_pure (wpAny_pure ?_))
  refine ⟨Code.quiet_builtin _ (by decide +kernel), codeAny_builtin PySem.F.excBase_ValueError.initEntry ?_⟩
  refine PySem.W.exc_init_tree (cls := .ref C) (t0 := t1) (dv := none) (c2 := .none) (c3 := .none) (b4 := .bool false) ho hl (fun h5 k5 hx5 _ => ?_)
  have J := I4.write (t' := t) (x := a) (e := a) (o := exo a C none) (by rw [e1]; exact True.intro) (.inl rfl) k5 ⟨_, hx5⟩ (exo_ok hx5)
  have eu : upd H1 a (exo a C none) = H1 := by
    funext b
    by_cases hb : b = a
    · rw [hb, upd_same, e1]
    · exact upd_ne hb
  rw [eu] at J
  refine wpAt_of_wpAny (wpAny_mono ((pss_one (ps_ost (X := NdefX.ncx CX0 P w K mg base ["self", "by", "__class__"] (nfShort cc cda) fI A outer s H E) (pv 0) (pv 1))).run [] _ _ _ { nx := fun _ H' => Q .non H', rt := Q } J ?rd2) (fun fl s2 hs => ?_) (fun _ _ z => z))
  case rd2 =>
    refine ⟨_, rfl, _, rfl, a, C, rfl, T.oex, T.no, .inl ⟨e1, fun dx hdx hda => ?_⟩⟩
    refine q _ dx (fun b o hb e => ?_) (sm.free hdx) upd_same (by rw [upd_ne hda]; exact upd_same)
    have e2 := sm _ _ e
    rw [upd_ne hb, upd_ne (ne_of_none e2 hdx)]
    exact e2
  have fin : ∀ {σ' : St} {H' : Hp} {v : V} {u : Value}, Inv (NdefX.ncx CX0 P w K mg base ["self", "by", "__class__"] (nfShort cc cda) fI A outer s H E) [] σ' H' s2 → RelV v u → Q v H' → CE outer P w H s Q u s2 :=
    fun {σ' H' v u} J rv q => ⟨v, H', J.os, J.bare, J.base, J.hok, rv, q⟩
  cases fl with
  | ret u =>
    obtain ⟨v, σ', H', J, rv, q⟩ := hs
    exact fin J rv q
  | next =>
    obtain ⟨σ', H', J, q⟩ := hs
    exact fin (v := V.non) (u := Value.none) J rfl q
  | brk =>
    obtain ⟨_, _, _, q⟩ := hs
    exact False.elim q
  | cont =>
    obtain ⟨_, _, _, q⟩ := hs
    exact False.elim q
end
end Hm

set_option Elab.async false
set_option maxRecDepth 100000
set_option maxHeartbeats 4000000
namespace Hm
open PySem PySem.Spec PyProof.Rows L2
/-! errors as tracked things: made with a text (ExO), or by Short's own __init__ (exo with its dict) -/
def Err (H : Hp) (a D : Addr) : Prop := H a = some (ExO (.ref D) a) ∨ ∃ dx fs, H a = some (exo a D (some dx)) ∧ H dx = some (exd dx fs)
theorem Err.same {H H' : Hp} {a D : Addr} (e : Err H a D) (s : Same H H') : Err H' a D := by
  rcases e with e | ⟨dx, fs, e1, e2⟩
  · exact .inl (s _ _ e)
  · exact .inr ⟨dx, fs, s _ _ e1, s _ _ e2⟩
structure ErrCls (K : PySem.W.Frag) (D : Addr) : Prop where
  ex : ExcC K D
  cl : (PySem.W.clsIn K D).isSome = true
section
variable {X : Cx}
theorem err_inst {pins : List (Addr × Obj)} {σ : L2.St} {H : Hp} {s : Shared} {a D : Addr} (I : Inv X pins σ H s) (e : Err H a D) : ∃ ox od, PySem.W.InstAt s.heap a ox D od := by
  rcases e with e | ⟨dx, fs, e1, e2⟩
  · obtain ⟨⟨oe, vs, ho, hz, hd, _⟩, _, _⟩ := I.hok a _ e
    obtain ⟨oc, od, oda, osl⟩ := oe
    obtain ⟨z1, z2⟩ := hz
    dsimp only at z1 z2 hd
    subst z1 z2 hd
    exact ⟨_, none, ho, rfl, rfl, trivial⟩
  · obtain ⟨t1, ho⟩ := exo_at I.hok e1
    obtain ⟨mA, hns, _⟩ := exd_at I.hok e2
    obtain ⟨od, hod, _⟩ := lookIn_ns hns
    exact ⟨_, some od, ho, rfl, rfl, hod⟩
/-- isinstance(e, c), e a tracked error, c a class -/
def rIsErr (K : PySem.W.Frag) : List V → Hp → VK → Prop := fun xs H Q => ∃ (a D : Addr) (c : V) (cv : Value) (b : Bool), xs = [.ref a, c] ∧ (∀ u, RelV c u → u = cv) ∧ Err H a D ∧ ErrCls K D ∧
  PySem.W.kitOne K (.ref D) cv = some b ∧ Q (.bl b) H
theorem call_isErr : CallR X (.builtin "isinstance") (rIsErr X.K) := by
  intro pins s σ H xs us Q I r h
  obtain ⟨a, D, c, cv, b, rfl, hcv, e, hc, hk, q⟩ := h
  obtain ⟨u1, u2, rfl, r1, r2⟩ := vals2 r
  cases r1
  have ec := hcv _ r2
  subst ec
  obtain ⟨ox, od, J⟩ := err_inst I e
  exact PySem.W.kia_one (PySem.W.kitx_exc hc.cl hc.ex.hg hc.ex.hk hc.ex.hs hc.ex.ha hc.ex.hn hc.ex.ht hc.ex.hm) I.kIn J hk (fun z => nomatch z) fun tk => ⟨.bl b, H, I.kept (t' := tk) fun _ _ z => z, rfl, q⟩
/-- e.f, e a tracked error with a dict -/
def tErrFld (K : PySem.W.Frag) (f : Str) (te : TE) : TE := fun σ H Q => te σ H fun x H1 => ∃ a C dx fs v, x = .ref a ∧ XfC K C ∧ PySem.W.findIn K (.ref C) f = some none ∧ H1 a = some (exo a C (some dx)) ∧ H1 dx = some (exd dx fs) ∧ fs.lookup f = some v ∧ Q v H1
theorem pe_errFld {e : Expr} {te : TE} {pos : Pos} {n : Str} (he : PE X e te) (hb : attributeBase e n X.env (eval e X.env) = eval e X.env := by rfl) : PE X (.Attribute e n pos) (tErrFld X.K n te) := by
  refine ⟨fun pins s σ H Q I h => ?_⟩
  refine attr_of hb (thn (he.run pins s σ H _ I h) fun u s1 hh => ?_)
  obtain ⟨x, H1, I1, rx, a, C, dx, fs, v, rfl, T, hno, e1, e2, l, q⟩ := hh
  obtain rfl : u = Value.ref a := rx
  obtain ⟨t1, ho⟩ := exo_at I1.hok e1
  obtain ⟨mA, hns, hr⟩ := exd_at I1.hok e2
  obtain ⟨od, hod, hl⟩ := lookIn_ns hns
  obtain ⟨u, hu, ru⟩ := RelO.some_of (v := v) (o := mA n) (by rw [← l]; exact hr n)
  have J : PySem.W.InstAt s1.heap a { cls := .ref C, dict := some dx, data := .fields #[.ref t1, .none, .none, .none, .bool false, .none] } C (some od) := ⟨ho, rfl, rfl, hod⟩
  exact HandSPX.exc_get I1.kIn J T.ga T.gg T.exC (PySem.W.findObj_own T.hdC hno rfl (by rw [hl, hu])) (handed_of ru) ⟨v, H1, I1.tok _, ru, q⟩
/-- xs.count(y) of flat things -/
def rCntF (K : PySem.W.Frag) : V → List V → Hp → VK → Prop := fun x xs H Q => ∃ (p : Addr) (ys : List V) (y : V), x = .ref p ∧ xs = [y] ∧ SqL K H p ys ∧ flatV y = true ∧ ys.all flatV = true ∧
  Q (.int (ys.countP (fun z => eqV z y) : Nat)) H
theorem countP_vals {y : V} : ∀ {ys : List V} {us : List Value}, Vals ys us → ys.all flatV = true → us.countP (eqU y) = ys.countP fun z => eqV z y
  | _, _, .nil, _ => rfl
  | z :: ys, u :: us, .cons r t, f => by
    rw [List.all_cons, Bool.and_eq_true] at f
    have ih := countP_vals (y := y) t f.2
    rw [List.countP_cons, List.countP_cons, ih, eqU_of r f.1]
theorem mt_cntF : MtR X "list.count" (rCntF X.K) := by
  intro pins s σ H x xs v us Q I rx rxs h
  obtain ⟨p, ys, y, rfl, rfl, hs, fy, fys, q⟩ := h
  cases rx
  obtain ⟨u, rfl, ru⟩ := rxs.one
  obtain ⟨its, rv, ⟨⟨cls, dd, data, sl⟩, n, ho, hc, hdn, hd⟩, hlen⟩ := I.list hs
  dsimp only at hc hd
  subst hc hd
  refine call_meets PySem.F.slot_list_count ⟨_, ho, rfl⟩ PySem.F.entry_list_count (PySem.F.args_list_count_2 _ _)
    (SeqAt.list_countAt p its.toArray n dd sl u (eqU y)) ⟨ho, fun u' hu' => mem_eqAt ru fy rv fys u' (by simpa using hu'), ?_⟩
  refine ⟨.int (ys.countP (fun z => eqV z y) : Nat), H, I.tok _, ⟨s.toks, ?_⟩, q⟩
  rw [← countP_vals rv fys]
/-- C(e), C's own __init__ keeping sp, as a value: the new error stays tracked -/
def tErrMk (C : Addr) (sp : Sp) (ta : TA) : TE := fun σ H Q => ta σ H fun vs H1 => vs.length ≤ 1000 ∧ ∀ a, H1 a = none → sp (.ref a :: vs) (upd H1 a (exo a C none)) (fun v H2 => v = .non ∧ Q (.ref a) H2) (fun _ _ _ => False)
theorem pe_errMk {CX : CXT} {x : Str} {C fI : Addr} {k : Nat} {fd : FuncData} {ps : List Str} {sp : Sp} {e : Expr} {es : List Expr} {ta : TA} {p pos : Pos} (T : OexC X.K C)
    (iC : PySem.W.findIn X.K (.ref C) "__init__" = some (some (.ref fI))) (tI : PySem.W.typeIn X.K (.ref fI) = some (.type "function"))
    (F1 : FnOk X.prog X.w X.K X.mg X.base CX k fI fd ps sp) (hr : Room (k + 1) X.A) (hb : Binds X.K fd ps []) (hx : Passes CX X (fun _ _ _ => False)) (hg : Gl X x) (hm : X.mg x = some (.ref C)) (ha : PA X (e :: es) ta)
    (hdb : (x == ("__debug__" : Str)) = false := by decide) (he : starEach (e :: es) X.env = (false, eval e X.env) :: starEach es X.env := by rfl) (hpl : (backTo pos (starEach es X.env)).any (·.1) = false := by rfl) :
    PE X (.Call (.Name x p) (e :: es) [] pos) (tErrMk C sp ta) := by
  refine ⟨fun pins s σ H Q I h => ?_⟩
  obtain ⟨nm, q, N, bs, bm, sn, sub, ab, col, dd, k0, k1, k2, k3, k5, hC, hbm⟩ := T.cls
  refine wpAny_Call_Name_kw (ld_glob I hg hm ?_ hdb)
  refine PySem.W.callWith_K (h₀ := X.base) I.ok.mod.kin T.kC (thn (ha.run pos pins s σ H _ I h) fun us s1 hq1 => ?_) he hpl
  obtain ⟨vs, H1, I1, r1, hz, q1⟩ := hq1
  refine ⟨I1.kIn, ?_⟩
  show wpAny (model X.prog X.w) X.A (call (.ref C) us) (EP X pins σ Q) X.xe s1
  obtain ⟨hp, g, dr, tk, os⟩ := s1
  have free1 : H1 (hp.objs.size + 1) = none := I1.hok.fresh (Nat.le_succ _)
  have kk : ∀ b o, hp.get? b = some o → ((hp.push (PySem.W.kdv_tup us)).push (PySem.HandSPX.excO C hp.objs.size)).get? b = some o :=
    fun b o e => Heap.get?_push_of_some _ (Heap.get?_push_of_some _ e)
  have laid : ((hp.push (PySem.W.kdv_tup us)).push (PySem.HandSPX.excO C hp.objs.size)).get? (hp.objs.size + 1) = some (PySem.HandSPX.excO C hp.objs.size) := by
    heap_get
  have I2 : Inv X pins σ (upd H1 (hp.objs.size + 1) (exo (hp.objs.size + 1) C none)) ⟨(hp.push (PySem.W.kdv_tup us)).push (PySem.HandSPX.excO C hp.objs.size), g, dr, tk, os⟩ :=
    I1.laid (t' := tk) (a := hp.objs.size + 1) (o := exo (hp.objs.size + 1) C none) (h' := (hp.push (PySem.W.kdv_tup us)).push (PySem.HandSPX.excO C hp.objs.size)) kk (Nat.le_succ _) (exo_ok laid)
  have hq := q1 (hp.objs.size + 1) free1
  have r2 : Vals (V.ref (hp.objs.size + 1) :: vs) (Value.ref (hp.objs.size + 1) :: us) := .cons rfl r1
  have hl : (Value.ref (hp.objs.size + 1) :: us).length = ps.length := by
    rw [← r2.length]
    exact F1.len _ _ _ _ hq
  have hus : us.length ≤ sizeLine := by
    have := Paired.length r1
    have := sizeLine_eq
    omega
  refine wpAny_call (PySem.HandSPX.call_own PySem.F.excBase_ValueError (fun Y => PySem.HandSPX.refsVE_contains Y bm hbm) (I1.kIn _ _ hC) (PySem.W.looks_findIn I1.kIn iC) (fun self => PySem.W.bind_fn I1.kIn self tI) hus
    (codeAny_mono (F1.run _ X.stack _ _ ⟨Value.ref (hp.objs.size + 1) :: us, []⟩ (Value.ref (hp.objs.size + 1) :: us) _ _ (fun _ _ _ => False) (hr.make C us []) (I2.env0.make C us []) ?_ r2 hq) fun r s' hq' => ?_))
  · have hb2 := hb ⟨(hp.push (PySem.W.kdv_tup us)).push (PySem.HandSPX.excO C hp.objs.size), g, dr, tk, os⟩ (Value.ref (hp.objs.size + 1) :: us) I2.kIn (by rw [List.append_nil]; exact hl)
    rw [List.append_nil] at hb2
    exact hb2
  · cases r with
    | error er => exact hx pins σ _ _ er s' I2 hq'
    | ok fl =>
      cases fl with
      | ret u =>
        obtain ⟨v, H2, os2, bare2, un2, hok2, rv, ev, q2⟩ := hq'
        subst ev
        obtain ⟨h2, g2, d2, t2, os'⟩ := s'
        exact ⟨rv, .ref (hp.objs.size + 1), H2, I2.call' (ch := []) os2 un2 hok2 bare2 (fun b z => absurd z (by simp)), rfl, q2⟩
      | next => exact False.elim hq'
      | brk => exact False.elim hq'
      | cont => exact False.elim hq'
end
end Hm

set_option Elab.async false
set_option maxRecDepth 100000
set_option maxHeartbeats 4000000
namespace Hm
open PySem PySem.Spec PyProof.Rows L2
def nmE : List Str := ["NoAlbums", "NoDeals", "NoExchange", "NoFriends", "NoList", "NoName", "NoNumber", "NoOffers", "NoOwners", "NoPaper", "NoPrices", "NoRow", "NoSet", "NoSets", "NoStamp", "NoStamps", "NoText", "NoWord", "Missing", "NoPrice", "NothingDone", "Same", "Short", "Twice", "NoThing", "NotDone", "HingeError"]
def nm (i : Nat) : Str := nmE.getD i ""
def ad (as : List Addr) (i : Nat) : Addr := as.getD i 0
/-- is class j under class i -/
def under (j i : Nat) : Bool := decide (i = j) || decide (i = 26) || (decide (i = 24) && decide (j < 18)) || (decide (i = 25) && decide (17 < j) && decide (j < 24))
def exB (K : PySem.W.Frag) (D : Addr) : Bool :=
  decide (PySem.W.findIn K (.ref D) "__getattribute__" = some (some (.builtin "BaseException.__getattribute__"))) && decide (PySem.W.findIn K (.ref D) "__getattr__" = some none) &&
  decide (PySem.W.subIn K (.ref D) (.type "BaseException") = some true) && PySem.W.hasDictIn K D && decide (PySem.W.findIn K (.ref D) "__class__" = some (some (.builtin "object.__class__"))) &&
  decide (PySem.W.specialIn K (.builtin "object.__class__") "__get__" = some (some (.builtin "getset_descriptor.__get__"))) && decide (PySem.W.takesIn K (.builtin "object.__class__") = some true) &&
  decide (PySem.W.mroIn K D (.type "object") = some true) && (PySem.W.clsIn K D).isSome && PySem.W.keepIn K (.ref D)
theorem exB_ok {K : PySem.W.Frag} {D : Addr} (h : exB K D = true) : ErrCls K D ∧ PySem.W.keepIn K (.ref D) = true := by
  unfold exB at h
  simp only [Bool.and_eq_true, decide_eq_true_eq] at h
  obtain ⟨⟨⟨⟨⟨⟨⟨⟨⟨h1, h2⟩, h3⟩, h4⟩, h5⟩, h6⟩, h7⟩, h8⟩, h9⟩, h10⟩ := h
  exact ⟨⟨⟨h1, h2, h3, h4, h5, h6, h7, h8⟩, h9⟩, h10⟩
abbrev veTail : List Value := [.type "ValueError", .type "Exception", .type "BaseException", .type "object"]
structure ErrTxt (K : PySem.W.Frag) (mg : Str → Option Value) (as : List Addr) : Prop where
  mgc : ∀ i, i < 27 → mg (nm i) = some (.ref (ad as i))
  ex : (List.range 27).all (fun i => exB K (ad as i)) = true
  own : (List.range 27).all (fun i => decide (i = 22) || PySem.W.excIn K (ad as i) veTail "ValueError.__new__") = true
  kit : (List.range 24).all (fun j => (List.range 27).all fun i => decide (PySem.W.kitOne K (.ref (ad as j)) (.ref (ad as i)) = some (under j i))) = true
  kitV : (List.range 24).all (fun j => decide (PySem.W.kitOne K (.ref (ad as j)) (.type "ValueError") = some true)) = true
  kitH : [24, 25, 26].all (fun j => [24, 25].all fun i => decide (PySem.W.kitOne K (.ref (ad as j)) (.ref (ad as i)) = some (decide (j = i)))) = true
  isi : mg "isinstance" = none
  ve : mg "ValueError" = none
section
variable {P : Program} {w : World} {K : PySem.W.Frag} {mg : Str → Option Value} {base : Heap} {as : List Addr}
theorem ErrTxt.at (T : ErrTxt K mg as) {i : Nat} (h : i < 27) : ErrCls K (ad as i) ∧ PySem.W.keepIn K (.ref (ad as i)) = true :=
  exB_ok (List.all_eq_true.mp T.ex i (List.mem_range.mpr h))
theorem ErrTxt.own' (T : ErrTxt K mg as) {i : Nat} (h : i < 27) (n : i ≠ 22) : PySem.W.excIn K (ad as i) veTail "ValueError.__new__" = true := by
  have z := List.all_eq_true.mp T.own i (List.mem_range.mpr h)
  rw [Bool.or_eq_true] at z
  exact z.resolve_left fun y => n (of_decide_eq_true y)
theorem ErrTxt.kit' (T : ErrTxt K mg as) {j i : Nat} (hj : j < 24) (hi : i < 27) : PySem.W.kitOne K (.ref (ad as j)) (.ref (ad as i)) = some (under j i) :=
  of_decide_eq_true (List.all_eq_true.mp (List.all_eq_true.mp T.kit j (List.mem_range.mpr hj)) i (List.mem_range.mpr hi))
theorem ErrTxt.kitV' (T : ErrTxt K mg as) {j : Nat} (hj : j < 24) : PySem.W.kitOne K (.ref (ad as j)) (.type "ValueError") = some true :=
  of_decide_eq_true (List.all_eq_true.mp T.kitV j (List.mem_range.mpr hj))
/-- isinstance(one, the i-th class), one in the first slot -/
def tIs (K : PySem.W.Frag) (as : List Addr) (i : Nat) : TE := tCB (rIsErr K) (tCons (tVar 0) (tCons (tC (.ref (ad as i))) tNil))
theorem isi {X : Cx} {x y : Str} {p1 p2 p3 p4 : Pos} (T : ErrTxt X.K X.mg as) (i : Nat) (hi : i < 27) (hy : nm i = y) (h0 : X.N[0]? = some x := by rfl)
    (hv : Vis X.env.scope x := by first | exact Or.inl rfl | exact Or.inr (Or.inl rfl) | exact Or.inr (Or.inr rfl)) (hd : (x == ("__debug__" : Str)) = false := by decide)
    (hcd : (x == ("__classdict__" : Str)) = false := by decide) (hg : Gl X "isinstance" := by rfl) (hgy : Gl X y := by rfl) (hdy : (y == ("__debug__" : Str)) = false := by decide)
    (he : starEach [.Name x p2, .Name y p3] X.env = (false, eval (.Name x p2) X.env) :: starEach [.Name y p3] X.env := by rfl) (hpl : (backTo p4 (starEach [.Name y p3] X.env)).any (·.1) = false := by rfl) :
    PE X (.Call (.Name "isinstance" p1) [.Name x p2, .Name y p3] [] p4) (tIs X.K as i) :=
  pe_callB call_isErr hg T.isi boot_isinstance (pa_cons (pe_var h0 hv hd hcd) (pa_cons (pe_glob (v := .ref (ad as i)) (u := .ref (ad as i)) hgy (by rw [← hy]; exact T.mgc i hi) rfl hdy) pa_nil)) (by decide) (by decide) he hpl
theorem is_run {a : Addr} {j i : Nat} {σ : L2.St} {H : Hp} {Q : VK} (T : ErrTxt K mg as) (hj : j < 24) (hi : i < 27) (h0 : σ[0]? = some (some (.ref a))) (e : Err H a (ad as j)) (q : Q (.bl (under j i)) H) : tIs K as i σ H Q :=
  ⟨_, h0, a, ad as j, _, _, _, rfl, fun _ r => r, e, (T.at (Nat.lt_of_lt_of_le hj (by decide))).1, T.kit' hj hi, q⟩
theorem is3_run {a : Addr} {j i1 i2 i3 : Nat} {σ : L2.St} {H : Hp} {Q : VK} (T : ErrTxt K mg as) (hj : j < 24) (h1 : i1 < 27) (h2 : i2 < 27) (h3 : i3 < 27) (h0 : σ[0]? = some (some (.ref a))) (e : Err H a (ad as j))
    (q : ∀ l, H l = none → Q (.ref l) (upd H l (.lst [.bl (under j i1), .bl (under j i2), .bl (under j i3)]))) : tLst (tCons (tIs K as i1) (tCons (tIs K as i2) (tCons (tIs K as i3) tNil))) σ H Q := by
  refine is_run T hj h1 h0 e (is_run T hj h2 h0 e (is_run T hj h3 h0 e ⟨?_, q⟩))
  show 3 ≤ sizeLine
  decide
theorem seqset {te : TE} {i : Nat} {u : TS} {D : Ends} {σ : L2.St} {H : Hp} (h : te σ H fun x H1 => u D (σ.set i (some x)) H1) : tSeq (tAsg te (gName i)) u D σ H := h
theorem retset {te : TE} {D : Ends} {σ : L2.St} {H : Hp} (h : te σ H D.rt) : tRet te D σ H := h
theorem same_upd {H : Hp} {l : Addr} {o : HO} (h : H l = none) : Same H (upd H l o) := fun b u e => by rw [upd_ne (ne_of_none e h)]; exact e
theorem cat3_run {a l : Addr} {xs : List V} {j i1 i2 i3 : Nat} {σ : L2.St} {H : Hp} {Q : VK} (T : ErrTxt K mg as) (hj : j < 24) (h1 : i1 < 27) (h2 : i2 < 27) (h3 : i3 < 27) (h0 : σ[0]? = some (some (.ref a))) (e : Err H a (ad as j))
    (hl : σ[1]? = some (some (.ref l))) (hx : H l = some (.lst xs)) (hn : xs.length ≤ 100)
    (q : ∀ l' H', Same H H' → H' l' = some (.lst (xs ++ [.bl (under j i1), .bl (under j i2), .bl (under j i3)])) → Q (.ref l') H') : tOp rCat (tVar 1) (tLst (tCons (tIs K as i1) (tCons (tIs K as i2) (tCons (tIs K as i3) tNil)))) σ H Q := by
  refine ⟨_, hl, is3_run T hj h1 h2 h3 h0 e fun l2 hl2 => ?_⟩
  refine ⟨l, l2, xs, _, rfl, rfl, same_upd hl2 _ _ hx, upd_same, ?_, fun p hp => q p _ ((same_upd hl2).trans (same_upd hp)) upd_same⟩
  show xs.length + 3 ≤ sizeLine
  rw [sizeLine_eq]
  omega
abbrev stNone : Stmt := topSt 36
abbrev stUndone : Stmt := topSt 37
/-- the list of the truths of isinstance, from class i on, n of them -/
def unders (j i n : Nat) : List V := (List.range n).map fun k => V.bl (under j (i + k))
def spKinds (as : List Addr) (i n : Nat) : Sp := fun vs H Q _ => ∃ (a : Addr) (j : Nat), vs = [.ref a] ∧ j < 24 ∧ Err H a (ad as j) ∧ ∀ l H', Same H H' → H' l = some (.lst (unders j i n)) → Q (.ref l) H'

theorem sc_none : FnScope ["_law_one", "_law_found"] ["_law_one"] (defScope stNone) := ⟨rfl, rfl, rfl, by decide +kernel, rfl, by decide +kernel, by decide +kernel⟩
theorem ok_none {f : Addr} {fd : FuncData} (F : Fun K "_law_none" "_law_none" stNone f fd) (T : ErrTxt K mg as) : FnOk P w K mg base CX0 1 f fd ["_law_one"] (spKinds as 0 18) := by
  refine F.ok sc_none (fun vs H Q E h => ?_) (fun cdv A outer s H vs Q E hr h => ?_)
  · obtain ⟨a, j, rfl, _⟩ := h
    rfl
  · obtain ⟨a, j, rfl, hj, e, q⟩ := h
    refine ⟨_, (pss_cons (ps_set (i := 1) sc_none.nd rfl (Or.inl rfl) (pe_lst (pa_cons (isi T 0 (by decide) rfl) (pa_cons (isi T 1 (by decide) rfl) (pa_cons (isi T 2 (by decide) rfl) pa_nil)))))
      (pss_cons (ps_set (i := 1) sc_none.nd rfl (Or.inl rfl) (pe_op op_cat (pv 1) (pe_lst (pa_cons (isi T 3 (by decide) rfl) (pa_cons (isi T 4 (by decide) rfl) (pa_cons (isi T 5 (by decide) rfl) pa_nil))))))
      (pss_cons (ps_set (i := 1) sc_none.nd rfl (Or.inl rfl) (pe_op op_cat (pv 1) (pe_lst (pa_cons (isi T 6 (by decide) rfl) (pa_cons (isi T 7 (by decide) rfl) (pa_cons (isi T 8 (by decide) rfl) pa_nil))))))
      (pss_cons (ps_set (i := 1) sc_none.nd rfl (Or.inl rfl) (pe_op op_cat (pv 1) (pe_lst (pa_cons (isi T 9 (by decide) rfl) (pa_cons (isi T 10 (by decide) rfl) (pa_cons (isi T 11 (by decide) rfl) pa_nil))))))
      (pss_cons (ps_set (i := 1) sc_none.nd rfl (Or.inl rfl) (pe_op op_cat (pv 1) (pe_lst (pa_cons (isi T 12 (by decide) rfl) (pa_cons (isi T 13 (by decide) rfl) (pa_cons (isi T 14 (by decide) rfl) pa_nil))))))
      (pss_one (ps_ret (pe_op op_cat (pv 1) (pe_lst (pa_cons (isi T 15 (by decide) rfl) (pa_cons (isi T 16 (by decide) rfl) (pa_cons (isi T 17 (by decide) rfl) pa_nil)))))))))))), ?_⟩
    refine seqset ?_
    refine is3_run (i1 := 0) (i2 := 1) (i3 := 2) T hj (by decide) (by decide) (by decide) (by rfl) e fun l hl => ?_
    have s1 := same_upd (o := .lst [.bl (under j 0), .bl (under j 1), .bl (under j 2)]) hl
    refine seqset ?_
    refine cat3_run (i1 := 3) (i2 := 4) (i3 := 5) T hj (by decide) (by decide) (by decide) (by rfl) (e.same s1) (by rfl) upd_same (by simp) fun l1 H1 g1 h1 => ?_
    have t1 := s1.trans g1
    refine seqset ?_
    refine cat3_run (i1 := 6) (i2 := 7) (i3 := 8) T hj (by decide) (by decide) (by decide) (by rfl) (e.same t1) (by rfl) h1 (by simp) fun l2 H2 g2 h2 => ?_
    have t2 := t1.trans g2
    refine seqset ?_
    refine cat3_run (i1 := 9) (i2 := 10) (i3 := 11) T hj (by decide) (by decide) (by decide) (by rfl) (e.same t2) (by rfl) h2 (by simp) fun l3 H3 g3 h3 => ?_
    have t3 := t2.trans g3
    refine seqset ?_
    refine cat3_run (i1 := 12) (i2 := 13) (i3 := 14) T hj (by decide) (by decide) (by decide) (by rfl) (e.same t3) (by rfl) h3 (by simp) fun l4 H4 g4 h4 => ?_
    have t4 := t3.trans g4
    refine retset ?_
    refine cat3_run (i1 := 15) (i2 := 16) (i3 := 17) T hj (by decide) (by decide) (by decide) (by rfl) (e.same t4) (by rfl) h4 (by simp) fun l5 H5 g5 h5 => ?_
    have t5 := t4.trans g5
    exact q _ _ t5 h5
theorem sc_undone : FnScope ["_law_one", "_law_found"] ["_law_one"] (defScope stUndone) := ⟨rfl, rfl, rfl, by decide +kernel, rfl, by decide +kernel, by decide +kernel⟩
theorem ok_undone {f : Addr} {fd : FuncData} (F : Fun K "_law_undone" "_law_undone" stUndone f fd) (T : ErrTxt K mg as) : FnOk P w K mg base CX0 1 f fd ["_law_one"] (spKinds as 18 6) := by
  refine F.ok sc_undone (fun vs H Q E h => ?_) (fun cdv A outer s H vs Q E hr h => ?_)
  · obtain ⟨a, j, rfl, _⟩ := h
    rfl
  · obtain ⟨a, j, rfl, hj, e, q⟩ := h
    refine ⟨_, (pss_cons (ps_set (i := 1) sc_undone.nd rfl (Or.inl rfl) (pe_lst (pa_cons (isi T 18 (by decide) rfl) (pa_cons (isi T 19 (by decide) rfl) (pa_cons (isi T 20 (by decide) rfl) pa_nil)))))
      (pss_one (ps_ret (pe_op op_cat (pv 1) (pe_lst (pa_cons (isi T 21 (by decide) rfl) (pa_cons (isi T 22 (by decide) rfl) (pa_cons (isi T 23 (by decide) rfl) pa_nil)))))))), ?_⟩
    refine seqset ?_
    refine is3_run (i1 := 18) (i2 := 19) (i3 := 20) T hj (by decide) (by decide) (by decide) (by rfl) e fun l hl => ?_
    have s1 := same_upd (o := .lst [.bl (under j 18), .bl (under j 19), .bl (under j 20)]) hl
    refine retset ?_
    refine cat3_run (i1 := 21) (i2 := 22) (i3 := 23) T hj (by decide) (by decide) (by decide) (by rfl) (e.same s1) (by rfl) upd_same (by simp) fun l1 H1 g1 h1 => ?_
    have t1 := s1.trans g1
    exact q _ _ t1 h1
end
end Hm

set_option Elab.async false
set_option maxRecDepth 100000
set_option maxHeartbeats 4000000
namespace Hm
open PySem PySem.Spec PyProof.Rows L2
abbrev stRight : Stmt := topSt 38
def kinds (j : Nat) : List V := unders j 0 18 ++ unders j 18 6
theorem unders_flat (j i n : Nat) : (unders j i n).all flatV = true := by
  unfold unders
  rw [List.all_map]
  exact List.all_eq_true.mpr fun _ _ => rfl
theorem kinds_flat (j : Nat) : (kinds j).all flatV = true := by
  unfold kinds
  rw [List.all_append, unders_flat, unders_flat]
  rfl
theorem kinds_len (j : Nat) : (kinds j).length = 24 := by simp [kinds, unders]
theorem kinds_at (j : Nat) {m : Nat} (h : m < 24) : (kinds j)[m]? = some (.bl (under j m)) := by
  unfold kinds unders
  by_cases c : m < 18
  · rw [List.getElem?_append_left (by simpa using c), List.getElem?_map, List.getElem?_range c]
    simp
  · rw [List.getElem?_append_right (by simp; omega), List.getElem?_map, List.length_map, List.length_range, List.getElem?_range (by omega)]
    show some (V.bl (under j (18 + (m - 18)))) = _
    rw [show 18 + (m - 18) = m by omega]
theorem under_leaf {j m : Nat} (h : m < 24) : under j m = decide (m = j) := by
  unfold under
  have h1 : decide (m = 26) = false := decide_eq_false (by omega)
  have h2 : decide (m = 24) = false := decide_eq_false (by omega)
  have h3 : decide (m = 25) = false := decide_eq_false (by omega)
  rw [h1, h2, h3]
  simp
theorem under_24 {j : Nat} (h : j < 24) : under j 24 = decide ((j : Int) < 18) := by
  have h1 : decide (24 = j) = false := decide_eq_false (by omega)
  by_cases c : j < 18
  · have c2 : (j : Int) < 18 := by omega
    simp [under, c, c2]
  · have c2 : ¬ (j : Int) < 18 := by omega
    have c3 : ¬ 24 = j := by omega
    simp [under, c, c2, c3]
theorem under_25 {j : Nat} (h : j < 24) : under j 25 = decide ((17 : Int) < j) := by
  by_cases c : 17 < j
  · have c2 : (17 : Int) < j := by omega
    simp [under, c, c2, h]
  · have c2 : ¬ (17 : Int) < j := by omega
    have c3 : ¬ 25 = j := by omega
    simp [under, c, c2, c3]
theorem under_26 {j : Nat} : under j 26 = true := by simp [under]
theorem under_count : ∀ j, j < 24 → ((unders j 0 18 ++ unders j 18 6).countP fun z => eqV z (.bl true)) = 1 := by
  intro j hj
  have e : (fun z => eqV z (.bl true)) = fun z => eqV z (.bl true) := rfl
  have key : (List.range 24).all (fun j => ((unders j 0 18 ++ unders j 18 6).countP fun z => eqV z (.bl true)) == 1) = true := by decide +kernel
  exact beq_iff_eq.mp (List.all_eq_true.mp key j (List.mem_range.mpr hj))
/-- one is an error of class j, and so it is told -/
def spRight (as : List Addr) : Sp := fun vs H Q _ => ∃ (a : Addr) (j : Nat), vs = [.ref a, .int (j : Int)] ∧ j < 24 ∧ Err H a (ad as j) ∧ ∀ H', Same H H' → Q (.bl true) H'
section
variable {P : Program} {w : World} {K : PySem.W.Frag} {mg : Str → Option Value} {base : Heap} {as : List Addr}
theorem sc_right : FnScope ["_law_one", "_law_at", "_law_kinds"] ["_law_one", "_law_at"] (defScope stRight) := ⟨rfl, rfl, rfl, by decide +kernel, rfl, by decide +kernel, by decide +kernel⟩
theorem ok_right {f fN fU : Addr} {fd fdN fdU : FuncData} (F : Fun K "_law_right" "_law_right" stRight f fd) (T : ErrTxt K mg as)
    (GN : FnOk P w K mg base CX0 1 fN fdN ["_law_one"] (spKinds as 0 18)) (bN : Binds K fdN ["_law_one"] []) (gN : mg "_law_none" = some (.ref fN)) (kN : PySem.W.keepIn K (.ref fN) = true)
    (GU : FnOk P w K mg base CX0 1 fU fdU ["_law_one"] (spKinds as 18 6)) (bU : Binds K fdU ["_law_one"] []) (gU : mg "_law_undone" = some (.ref fU)) (kU : PySem.W.keepIn K (.ref fU) = true) :
    FnOk P w K mg base CX0 2 f fd ["_law_one", "_law_at"] (spRight as) := by
  refine F.ok sc_right (fun vs H Q E h => ?_) (fun cdv A outer s H vs Q E hr h => ?_)
  · obtain ⟨a, j, rfl, _⟩ := h
    rfl
  · obtain ⟨a, j, rfl, hj, e, q⟩ := h
    refine ⟨_, pss_cons (ps_set (i := 2) sc_right.nd rfl (Or.inl rfl) (pe_op op_cat (pe_call GN hr (by rfl) gN kN bN .nil pass0 (pa_cons (pv 0) pa_nil)) (pe_call GU hr (by rfl) gU kU bU .nil pass0 (pa_cons (pv 0) pa_nil))))
      (pss_cons (ps_if (PW.pt (pw_or (pt_cmpR op_ne (pe_bm PySem.F.plainAttrs_list PySem.F.slot_list_count PySem.F.type_list_count mt_cntF (pv 2) (pa_cons pe_bl pa_nil)) pe_int (nomark _))
          (pw_or1 (pt_cmpR op_ne (pe_bm PySem.F.plainAttrs_list PySem.F.slot_list_index PySem.F.type_list_index mt_index (pv 2) (pa_cons pe_bl pa_nil)) (pv 1) (nomark _))))) (pss_one (ps_ret pe_bl)) pss_nil)
      (pss_cons (ps_if (PW.pt (pw_or (pt_cmpR op_ne (isi T 24 (by decide) rfl) (pe_cmpR op_lt (pv 1) pe_int (nomark _)) (nomark _))
          (pw_or1 (pt_cmpR op_ne (isi T 25 (by decide) rfl) (pe_cmpR op_gt (pv 1) pe_int (nomark _)) (nomark _))))) (pss_one (ps_ret pe_bl)) pss_nil)
      (pss_one (ps_ret (pe_and (isi T 26 (by decide) rfl) (pe_one (pe_callB call_isErr (by rfl) T.isi boot_isinstance (pa_cons (pv 0) (pa_cons (pe_bltn (v := .ty "ValueError") (by rfl) T.ve PyProof.Rows.Boot.«ValueError» rfl) pa_nil))))))))), ?_⟩
    have hj27 : j < 27 := by omega
    refine seqset ⟨_, rfl, a, j, rfl, hj, e, fun l1 H1 s1 h1 => ⟨_, rfl, a, j, rfl, hj, e.same s1, fun l2 H2 s2 h2 => ⟨l1, l2, _, _, rfl, rfl, s2 _ _ h1, h2, ?_, fun p hp => ?_⟩⟩⟩
    · rw [sizeLine_eq]
      simp [unders]
    have e2 : Err (upd H2 p (.lst (kinds j))) a (ad as j) := (e.same (s1.trans s2)).same (same_upd hp)
    have sm : Same H (upd H2 p (.lst (kinds j))) := (s1.trans s2).trans (same_upd hp)
    refine ⟨_, rfl, .inl ⟨rfl, _, SqL.of upd_same⟩, p, _, _, rfl, rfl, SqL.of upd_same, rfl, kinds_flat j, rfl, _, rfl, ?_⟩
    refine iteNS (by rw [under_count j hj]; rfl) ?_
    refine ⟨_, rfl, .inl ⟨rfl, _, SqL.of upd_same⟩, p, _, _, j, _, rfl, rfl, SqL.of upd_same, rfl, kinds_flat j, kinds_at j hj, ?_, fun m z hm hz => ?_, ?_⟩
    · rw [under_leaf hj]
      simp [eqV]
    · have hz' := kinds_at j (Nat.lt_trans hm hj)
      have hz2 : (kinds j)[m]? = some z := hz
      rw [hz'] at hz2
      cases hz2
      rw [under_leaf (Nat.lt_trans hm hj), decide_eq_false (Nat.ne_of_lt hm)]
      rfl
    refine ⟨_, rfl, rfl, _, rfl, ?_⟩
    refine iteNS rfl ?_
    have cls := (T.at hj27).1
    refine ⟨_, rfl, a, ad as j, _, _, _, rfl, fun _ r => r, e2, cls, T.kit' hj (by decide), _, rfl, _, _, rfl, rfl, rfl, _, rfl, ?_⟩
    refine iteNS (by rw [under_24 hj]) ?_
    refine ⟨_, rfl, a, ad as j, _, _, _, rfl, fun _ r => r, e2, cls, T.kit' hj (by decide), _, rfl, _, _, rfl, rfl, rfl, _, rfl, ?_⟩
    refine iteNS (by rw [under_25 hj]) ?_
    refine ⟨_, rfl, a, ad as j, _, _, _, rfl, fun _ r => r, e2, cls, T.kit' hj (by decide), _, rfl, ?_⟩
    rw [under_26]
    refine iteT ?_
    exact ⟨_, rfl, a, ad as j, _, _, _, rfl, fun _ r => r, e2, cls, T.kitV' hj, q _ sm⟩
end
end Hm

set_option Elab.async false
set_option maxRecDepth 100000
set_option maxHeartbeats 4000000
namespace Hm
open PySem PySem.Spec PyProof.Rows L2
abbrev stPlaces : Stmt := topSt 1
/-- a list of sets, told by the tuples' addresses and how many stamps each has -/
def spPlaces (K : PySem.W.Frag) : Sp := fun vs H Q _ => ∃ (b : Addr) (ps : List (Addr × Int)), vs = [.ref b] ∧ SqT K H b (ps.map fun p => V.ref p.1) ∧ ps.length ≤ 1000 ∧
  (∀ p ∈ ps, ∃ x y, SqT K H p.1 [x, y, .int p.2]) ∧ ∀ H', Same H H' → Q (.int (ps.map (·.2)).sum) H'
theorem yesT {σ : L2.St} {H : Hp} {A B : Hp → Prop} (h : A H) : tYes σ H fun b H1 => if b = true then A H1 else B H1 := (if_pos rfl : (if true = true then A H else B H) = A H).mpr h
theorem Same.seqT {K : PySem.W.Frag} {H H' : Hp} {a : Addr} {xs : List V} (e : Same H H') (h : SqT K H a xs) : SqT K H' a xs := by
  rcases h with (h | ⟨o, h⟩) | h
  · exact .inl (.inl (e _ _ h))
  · exact .inl (.inr ⟨o, e _ _ h⟩)
  · exact .inr h
section
variable {P : Program} {w : World} {K : PySem.W.Frag} {mg : Str → Option Value} {base : Heap} {as : List Addr}
theorem sc_places : FnScope ["book", "part"] ["book"] (defScope stPlaces) := ⟨rfl, rfl, rfl, by decide +kernel, rfl, by decide +kernel, by decide +kernel⟩
theorem ok_places {f : Addr} {fd : FuncData} (F : Fun K "places_many" "places_many" stPlaces f fd) (hs : mg "sum" = none) : FnOk P w K mg base CX0 1 f fd ["book"] (spPlaces K) := by
  refine F.ok sc_places (fun vs H Q E h => ?_) (fun cdv A outer s H vs Q E hr h => ?_)
  · obtain ⟨b, ps, rfl, _⟩ := h
    rfl
  · obtain ⟨b, ps, rfl, hb, hn, hp, q⟩ := h
    refine ⟨_, pss_one (ps_ret (pe_callB (cr_sum rfl) (by rfl) hs boot_sum (pa_cons (pe_lc (own := [("part", 1)]) (g := gName 1) (tt := tYes) rfl sc_places.nd (pi_tup (pv 0))
      (blkOk_by (N := ["book", "part"]) (sc := defScope stPlaces) (by decide +kernel)) (fun _ _ _ _ _ => pg_name (i := 1) sc_places.nd rfl (Or.inl rfl)) (fun _ _ _ _ _ => pts_nil)
      (fun _ _ _ _ _ => pe_ix (r := rIxT K) ix_tup (pv 1) pe_int (fun _ _ => rfl))) pa_nil))), ?_⟩
    refine ⟨_, rfl, b, rfl, ⟨_, hb⟩, fun D hD => ?_⟩
    refine lc_tup (K := K) (xs := ps.map (fun p : Addr × Int => V.ref p.1)) (fun i H' => Same H H' ∧ H' D = some (.lst ((ps.take i).map (fun p : Addr × Int => V.int p.2)))) ⟨same_upd hD, upd_same⟩ (fun i H' _ p => Same.seqT p.1 hb) (fun i x H' hx pv => ?_) (fun H' pv => ?_)
    · obtain ⟨sm, hd⟩ := pv
      rw [List.getElem?_map] at hx
      cases hi : ps[i]? with
      | none =>
        rw [hi] at hx
        cases hx
      | some p =>
        rw [hi] at hx
        cases hx
        obtain ⟨x, y, ht⟩ := hp p (List.mem_of_getElem? hi)
        refine ⟨rfl, yesT ?_⟩
        refine ⟨_, rfl, p.1, _, _, .int p.2, rfl, rfl, Same.seqT sm ht, rfl, _, hd, ?_, fun b' o e => ?_, ?_⟩
        · rw [List.length_map, sizeLine_eq]
          have := List.length_take (i := i) (l := ps)
          omega
        · have hbD : b' ≠ D := ne_of_none e hD
          rw [upd_ne hbD]
          exact sm _ _ e
        · rw [upd_same]
          have e2 : ps.take (i + 1) = ps.take i ++ [p] := by rw [List.take_add_one, hi]; rfl
          rw [e2, List.map_append]
          rfl
    · obtain ⟨sm, hd⟩ := pv
      rw [List.length_map, List.take_length] at hd
      refine ⟨D, ps.map (·.2), rfl, SqL.of ?_, q H' sm⟩
      rw [hd, List.map_map]
      rfl
end
end Hm

set_option Elab.async false
set_option maxRecDepth 100000
set_option maxHeartbeats 4000000
namespace Hm
open PySem PySem.Spec PyProof.Rows L2
abbrev stLaw : Stmt := topSt 39
/-- the things at xs are errors of the classes is -/
inductive ErrIs (as : List Addr) (H : Hp) : List V → List Nat → Prop
  | nil : ErrIs as H [] []
  | cons {a : Addr} {i : Nat} {xs : List V} {is : List Nat} (h : Err H a (ad as i)) (r : ErrIs as H xs is) : ErrIs as H (.ref a :: xs) (i :: is)
theorem ErrIs.same {as : List Addr} {H H' : Hp} (s : Same H H') : ∀ {xs is}, ErrIs as H xs is → ErrIs as H' xs is
  | _, _, .nil => .nil
  | _, _, .cons h r => .cons (h.same s) (r.same s)
theorem ErrIs.app {as : List Addr} {H : Hp} {ys : List V} {js : List Nat} (q : ErrIs as H ys js) : ∀ {xs is}, ErrIs as H xs is → ErrIs as H (xs ++ ys) (is ++ js)
  | _, _, .nil => q
  | _, _, .cons h r => .cons h (ErrIs.app q r)
theorem ErrIs.len {as : List Addr} {H : Hp} : ∀ {xs is}, ErrIs as H xs is → xs.length = is.length
  | _, _, .nil => rfl
  | _, _, .cons _ r => congrArg (· + 1) r.len
theorem ErrIs.get {as : List Addr} {H : Hp} : ∀ {xs is} {k : Nat} {v : V}, ErrIs as H xs is → xs[k]? = some v → ∃ a i, v = .ref a ∧ is[k]? = some i ∧ Err H a (ad as i)
  | _, _, 0, _, .cons h _, e => by
    cases e
    exact ⟨_, _, rfl, rfl, h⟩
  | _, _, k + 1, _, .cons _ r, e => ErrIs.get (k := k) r (by simpa using e)
/-- C('a') -/
def tMkE (as : List Addr) (i : Nat) : TE := fun _ H Q => ∀ a, H a = none → Q (.ref a) (upd H a (ExO (.ref (ad as i)) a))
def taMk (as : List Addr) : List Nat → TA
  | [] => tNil
  | i :: is => tCons (tMkE as i) (taMk as is)
theorem taMk_run {as : List Addr} {σ : L2.St} : ∀ (is : List Nat) {H : Hp} {Q : List V → Hp → Prop}, (∀ xs H', Same H H' → ErrIs as H' xs is → Q xs H') → taMk as is σ H Q
  | [], H, Q, q => q [] H (Same.refl H) .nil
  | i :: is, H, Q, q => by
    show ∀ a, H a = none → _
    intro a ha
    refine taMk_run is fun xs H' s e => q _ _ ((same_upd ha).trans s) (.cons ?_ e)
    exact .inl (s _ _ upd_same)
theorem lstMk_run {as : List Addr} {σ : L2.St} {is : List Nat} {H : Hp} {Q : VK} (hz : is.length ≤ 100) (q : ∀ l H' xs, Same H H' → H' l = some (.lst xs) → ErrIs as H' xs is → Q (.ref l) H') : tLst (taMk as is) σ H Q := by
  refine taMk_run is fun xs H' s e => ⟨?_, fun p hp => q p _ xs (s.trans (same_upd hp)) upd_same (e.same (same_upd hp))⟩
  rw [e.len, sizeLine_eq]
  omega
theorem catMk_run {as : List Addr} {σ : L2.St} {k : Nat} {l : Addr} {zs : List V} {is js : List Nat} {H : Hp} {Q : VK} (hi : is.length ≤ 100) (hj : js.length ≤ 100) (hl : σ[k]? = some (some (.ref l))) (hx : H l = some (.lst zs)) (e : ErrIs as H zs is)
    (q : ∀ l H' xs, Same H H' → H' l = some (.lst xs) → ErrIs as H' xs (is ++ js) → Q (.ref l) H') : tOp rCat (tVar k) (tLst (taMk as js)) σ H Q := by
  refine ⟨_, hl, lstMk_run hj fun l2 H2 xs s2 h2 e2 => ⟨l, l2, zs, xs, rfl, rfl, s2 _ _ hx, h2, ?_, fun p hp => q p _ _ (s2.trans (same_upd hp)) upd_same ((e2.app (e.same s2)).same (same_upd hp))⟩⟩
  rw [e.len, e2.len, sizeLine_eq]
  omega
structure LTxt (P : Program) (K : PySem.W.Frag) (mg : Str → Option Value) (as : List Addr) (fI cc cda fF fC fP fD fN fU fR fM : Addr) : Prop where
  E : ErrTxt K mg as
  S : TxtShort P K mg (ad as 22) fI cc cda fF
  L : TxtLen mg
  G : TxtFig mg
  iC : PySem.W.findIn K (.ref (ad as 22)) "__init__" = some (some (.ref fI))
  tI : PySem.W.typeIn K (.ref fI) = some (.type "function")
  xf : XfC K (ad as 22)
  sum : mg "sum" = none
  range : mg "range" = none
  max : mg "max" = none
  min : mg "min" = none
  all : mg "all" = none
  enum : mg "enumerate" = none
  gC : mg "_law_cell_at" = some (.ref fC)
  kC : PySem.W.keepIn K (.ref fC) = true
  gP : mg "_law_pen" = some (.ref fP)
  kP : PySem.W.keepIn K (.ref fP) = true
  gD : mg "_law_draw" = some (.ref fD)
  kD : PySem.W.keepIn K (.ref fD) = true
  gN : mg "_law_none" = some (.ref fN)
  kN : PySem.W.keepIn K (.ref fN) = true
  gU : mg "_law_undone" = some (.ref fU)
  kU : PySem.W.keepIn K (.ref fU) = true
  gR : mg "_law_right" = some (.ref fR)
  kR : PySem.W.keepIn K (.ref fR) = true
  gM : mg "places_many" = some (.ref fM)
  kM : PySem.W.keepIn K (.ref fM) = true
section
variable {P : Program} {w : World} {K : PySem.W.Frag} {mg : Str → Option Value} {base : Heap} {as : List Addr}
theorem mkE {X : Cx} {y z : Str} {j : Nat} {p1 p2 p3 : Pos} (T : ErrTxt X.K X.mg as) (i : Nat) (hi : i < 27) (hn : i ≠ 22) (hy : nm i = y) (hg : Gl X y := by rfl) (hd : (y == ("__debug__" : Str)) = false := by decide)
    (hs : starEach [.Constant (.str z) j p2] X.env = (false, eval (.Constant (.str z) j p2) X.env) :: starEach [] X.env := by rfl) :
    PE X (.Call (.Name y p1) [.Constant (.str z) j p2] [] p3) (tMkE as i) :=
  pe_exc1 PySem.F.excBase_ValueError (T.own' hi hn) (by rw [← hy]; exact T.mgc i hi) (T.at hi).2 hg pe_str hs hd
theorem some_run {σ : L2.St} {l : Addr} {zs : List V} {is : List Nat} {H : Hp} {Q : VK} {r : Int} (r0 : 0 ≤ r) (r1 : r < 1000000) (hl : σ[1]? = some (some (.ref l))) (hr : σ[3]? = some (some (.int r))) (hx : H l = some (.lst zs))
    (e : ErrIs as H zs is) (q : ∀ l' H' xs a dx, Same H H' → H' l' = some (.lst xs) → ErrIs as H' xs (is ++ [21, 22, 23]) → xs[zs.length + 1]? = some (.ref a) → H' a = some (exo a (ad as 22) (some dx)) → H' dx = some (exd dx [("by", .int r)]) → Q (.ref l') H')
    (hz : zs.length ≤ 100) :
    tOp rCat (tVar 1) (tLst (tCons (tMkE as 21) (tCons (tErrMk (ad as 22) (spShort (ad as 22)) (tCons (tVar 3) tNil)) (tCons (tMkE as 23) tNil)))) σ H Q := by
  refine ⟨_, hl, fun a1 ha1 => ⟨_, hr, by show 1 ≤ 1000; decide, fun a2 ha2 => ⟨a2, r, rfl, upd_same, r0, r1, fun H3 dx k3 hdx ea ed => ⟨rfl, fun a3 ha3 => ⟨by show 3 ≤ sizeLine; decide, fun l4 hl4 => ?_⟩⟩⟩⟩⟩
  have s1 : Same H (upd H a1 (ExO (.ref (ad as 21)) a1)) := same_upd ha1
  have s3 : Same (upd H a1 (ExO (.ref (ad as 21)) a1)) H3 := fun b o eb => k3 b o (ne_of_none eb ha2) (by rw [upd_ne (ne_of_none eb ha2)]; exact eb)
  have s5 := (same_upd (o := ExO (.ref (ad as 23)) a3) ha3).trans (same_upd (o := .lst [.ref a1, .ref a2, .ref a3]) hl4)
  refine ⟨l, l4, zs, _, rfl, rfl, s5 _ _ (s3 _ _ (s1 _ _ hx)), upd_same, ?_, fun p hp => ?_⟩
  · show zs.length + 3 ≤ sizeLine
    rw [sizeLine_eq]
    omega
  · have s6 := s5.trans (same_upd (o := .lst (zs ++ [.ref a1, .ref a2, .ref a3])) hp)
    refine q p _ _ a2 dx ((s1.trans s3).trans s6) upd_same ?_ ?_ (s6 _ _ ea) (s6 _ _ ed)
    · refine ErrIs.app (.cons (.inl (s6 _ _ (s3 _ _ upd_same))) (.cons (.inr ⟨dx, _, s6 _ _ ea, s6 _ _ ed⟩) (.cons (.inl ?_) .nil))) (e.same ((s1.trans s3).trans s6))
      exact (same_upd hp) _ _ ((same_upd hl4) _ _ upd_same)
    · rw [List.getElem?_append_right (by omega)]
      have : zs.length + 1 - zs.length = 1 := by omega
      rw [this]
      rfl
theorem by_lookup {v : V} : ([(("by" : Str), v)] : List (Str × V)).lookup ("by" : Str) = some v := by simp [List.lookup]
theorem iteF' {c A B : Prop} [Decidable c] (hc : ¬ c) (h : B) : if c then A else B := by
  rw [if_neg hc]
  exact h
/-- one turn over the heads: is it of the class c -/
theorem heads_turn {σ : L2.St} {c k : Nat} {zs : List V} {x : V} {D : Addr} {H0 H' : Hp} {bs : List Bool} (T : ErrTxt K mg as) (hc : c = 24 ∨ c = 25) (hb : bs = [24, 25, 26].map fun i => decide (i = c)) (e : ErrIs as H0 zs [24, 25, 26]) (hD : H0 D = none) (hx : zs[k]? = some x)
    (pv : Same H0 H' ∧ H' D = some (.lst ((bs.take k).map V.bl))) (hs : (σ.set 6 (some x))[6]? = some (some x) := by rfl) (hw : wipe (σ.set 6 (some x)) [6] = σ := by rfl) :
    gName 6 x σ H' fun σ2 H2 => wipe σ2 [6] = σ ∧ tYes σ2 H2 fun b H3 =>
      if b = true then tCB (rIsErr K) (tCons (tVar 6) (tCons (tC (.ref (ad as c))) tNil)) σ2 H3 fun y H4 => ∃ acc, H4 D = some (.lst acc) ∧ acc.length < sizeLine ∧ (Same H0 (upd H4 D (.lst (acc ++ [y]))) ∧ upd H4 D (.lst (acc ++ [y])) D = some (.lst ((bs.take (k + 1)).map V.bl)))
      else (Same H0 H3 ∧ H3 D = some (.lst ((bs.take (k + 1)).map V.bl))) := by
  obtain ⟨pv1, pv2⟩ := pv
  obtain ⟨a0, j, rfl, ej, er⟩ := e.get hx
  have hj : j ∈ [24, 25, 26] := List.mem_of_getElem? ej
  have hj27 : j < 27 := by
    rcases List.mem_cons.mp hj with rfl | hj
    · decide
    · rcases List.mem_cons.mp hj with rfl | hj
      · decide
      · obtain rfl := List.mem_singleton.mp hj
        decide
  have hk : PySem.W.kitOne K (.ref (ad as j)) (.ref (ad as c)) = some (decide (j = c)) := by
    have z := List.all_eq_true.mp (List.all_eq_true.mp T.kitH j hj) c (by rcases hc with rfl | rfl <;> decide)
    exact of_decide_eq_true z
  refine ⟨hw, yesT ⟨_, hs, a0, ad as j, _, _, _, rfl, fun _ r => r, er.same pv1, (T.at hj27).1, hk, _, pv2, ?_, ?_, ?_⟩⟩
  · rw [List.length_map, sizeLine_eq]
    have z := List.length_take (i := k) (l := bs)
    have z2 : bs.length = 3 := by rw [hb]; rfl
    omega
  · intro b o eb
    rw [upd_ne (ne_of_none eb hD)]
    exact pv1 b o eb
  · rw [upd_same, List.take_add_one, List.map_append]
    have hz : bs[k]? = some (decide (j = c)) := by rw [hb, List.getElem?_map, ej]; rfl
    rw [hz]
    rfl
abbrev nLaw : List Str := ["_law_script", "_law_row", "_law_k", "_law_number", "_law_some", "_law_heads", "_law_one", "_law_at"]
theorem sc_law : FnScope nLaw ["_law_script"] (defScope stLaw) := ⟨rfl, rfl, rfl, by decide +kernel, rfl, by decide +kernel, by decide +kernel⟩
def spLaw (K : PySem.W.Frag) : Sp := fun vs H Q _ => ∃ (a : Addr) (ns : List Int), vs = [.ref a] ∧ SqL K H a (ns.map V.int) ∧ ns.length ≤ 63 ∧ ∀ H', Q (.bl true) H'
theorem ok_law {f fI cc cda fF fC fP fD fN fU fR fM : Addr} {fd fdI fdC fdP fdD fdR fdM : FuncData} (F : Fun K "law" "law" stLaw f fd) (T : LTxt P K mg as fI cc cda fF fC fP fD fN fU fR fM)
    (GI : FnOk P w K mg base CX0 2 fI fdI ["self", "by"] (spShort (ad as 22))) (bI : Binds K fdI ["self", "by"] [])
    (GC : FnOk P w K mg base CX0 1 fC fdC ["_law_script", "_law_k"] (spCellAt K)) (bC : Binds K fdC ["_law_script", "_law_k"] [])
    (GP : FnOk P w K mg base CX0 1 fP fdP ["_law_cell"] spPenOf) (bP : Binds K fdP ["_law_cell"] [])
    (GD : FnOk P w K mg base CX0 1 fD fdD ["_law_pen_here", "_law_bound"] spDrawn) (bD : Binds K fdD ["_law_pen_here", "_law_bound"] [])
    (GR : FnOk P w K mg base CX0 2 fR fdR ["_law_one", "_law_at"] (spRight as)) (bR : Binds K fdR ["_law_one", "_law_at"] [])
    (GM : FnOk P w K mg base CX0 1 fM fdM ["book"] (spPlaces K)) (bM : Binds K fdM ["book"] []) :
    FnOk P w K mg base CX0 4 f fd ["_law_script"] (spLaw K) := by
  refine F.ok sc_law (fun vs H Q E h => ?_) (fun cdv A outer s H vs Q E hr h => ?_)
  · obtain ⟨a, ns, rfl, _⟩ := h
    rfl
  · obtain ⟨a, ns, rfl, hS, hlen, q⟩ := h
    have hr1 : Room 1 _ := hr.mono (by decide)
    have hr2 : Room 2 _ := hr.mono (by decide)
    refine ⟨_, (pss_cons (ps_set (i := 1) sc_law.nd rfl (Or.inl rfl) (pe_lst (pa_cons (mkE T.E 0 (by decide) (by decide) (by rfl)) (pa_cons (mkE T.E 1 (by decide) (by decide) (by rfl)) (pa_cons (mkE T.E 2 (by decide) (by decide) (by rfl)) (pa_cons (mkE T.E 3 (by decide) (by decide) (by rfl)) (pa_cons (mkE T.E 4 (by decide) (by decide) (by rfl)) (pa_cons (mkE T.E 5 (by decide) (by decide) (by rfl)) (pa_cons (mkE T.E 6 (by decide) (by decide) (by rfl)) pa_nil)))))))))
        (pss_cons (ps_set (i := 1) sc_law.nd rfl (Or.inl rfl) (pe_op op_cat (pv 1) (pe_lst (pa_cons (mkE T.E 7 (by decide) (by decide) (by rfl)) (pa_cons (mkE T.E 8 (by decide) (by decide) (by rfl)) (pa_cons (mkE T.E 9 (by decide) (by decide) (by rfl)) (pa_cons (mkE T.E 10 (by decide) (by decide) (by rfl)) (pa_cons (mkE T.E 11 (by decide) (by decide) (by rfl)) (pa_cons (mkE T.E 12 (by decide) (by decide) (by rfl)) (pa_cons (mkE T.E 13 (by decide) (by decide) (by rfl)) pa_nil))))))))))
        (pss_cons (ps_set (i := 1) sc_law.nd rfl (Or.inl rfl) (pe_op op_cat (pv 1) (pe_lst (pa_cons (mkE T.E 14 (by decide) (by decide) (by rfl)) (pa_cons (mkE T.E 15 (by decide) (by decide) (by rfl)) (pa_cons (mkE T.E 16 (by decide) (by decide) (by rfl)) (pa_cons (mkE T.E 17 (by decide) (by decide) (by rfl)) (pa_cons (mkE T.E 18 (by decide) (by decide) (by rfl)) (pa_cons (mkE T.E 19 (by decide) (by decide) (by rfl)) (pa_cons (mkE T.E 20 (by decide) (by decide) (by rfl)) pa_nil))))))))))
        (pss_cons (ps_for PassesOwn.never rfl (pi_range1 (by rfl) T.range (pa_cons (pe_callB (call_max2 rfl) (by rfl) T.max boot_max (pa_cons pe_int (pa_cons (pe_callB (call_min2 rfl) (by rfl) T.min boot_min (pa_cons (pe_callB call_len_seq (by rfl) T.L.len boot_len (pa_cons (pv 0) pa_nil)) (pa_cons pe_int pa_nil))) pa_nil))) pa_nil)) (pg_name (i := 2) sc_law.nd rfl (Or.inl rfl))
        (pss_cons (ps_set (i := 3) sc_law.nd rfl (Or.inl rfl) (pe_call GD hr1 (by rfl) T.gD T.kD bD .nil pass0 (pa_cons (pe_call GP hr1 (by rfl) T.gP T.kP bP .nil pass0 (pa_cons (pe_call GC hr1 (by rfl) T.gC T.kC bC .nil pass0 (pa_cons (pv 0) (pa_cons (pv 2) pa_nil))) pa_nil)) (pa_cons pe_int pa_nil))))
        (pss_cons (ps_set (i := 4) sc_law.nd rfl (Or.inl rfl) (pe_op op_cat (pv 1) (pe_lst (pa_cons (mkE T.E 21 (by decide) (by decide) (by rfl)) (pa_cons (pe_errMk T.S.oex T.iC T.tI GI hr bI pass0 (by rfl) (T.E.mgc 22 (by decide)) (pa_cons (pv 3) pa_nil)) (pa_cons (mkE T.E 23 (by decide) (by decide) (by rfl)) pa_nil))))))
        (pss_cons (ps_if (pt_not (pt_val (pe_callB (cr_all rfl) (by rfl) T.all boot_all (pa_cons (pe_lc (own := [("_law_at", 7), ("_law_one", 6)]) (g := gTup K 2 (gCons (gName 7) (gCons (gName 6) gNil))) (tt := tYes) rfl sc_law.nd (pi_enum (by rfl) T.enum (pa_cons (pv 4) pa_nil))
            (blkOk_by (N := nLaw) (sc := defScope stLaw) (by decide +kernel)) (fun _ _ _ _ _ => by exact pg_tup rfl (pgs_cons (pg_name (i := 7) sc_law.nd rfl (Or.inl rfl)) (pgs_cons (pg_name (i := 6) sc_law.nd rfl (Or.inl rfl)) pgs_nil)))
            (fun _ _ _ _ _ => pts_nil) (fun _ _ _ _ _ => pe_call GR hr2 (by rfl) T.gR T.kR bR .nil pass0 (pa_cons (pv 6) (pa_cons (pv 7) pa_nil)))) pa_nil)))) (pss_one (ps_ret pe_bl)) pss_nil)
        (pss_cons (ps_if (PW.pt (pw_or (pt_cmpR op_ne (pe_errFld (pe_ix (r := rIxL K) ix_list (pv 4) pe_int (fun _ _ => rfl))) (pv 3) (nomark _)) (pw_or1 (pt_cmpR op_ne (pe_errFld (pe_errMk T.S.oex T.iC T.tI GI hr bI pass0 (by rfl) (T.E.mgc 22 (by decide)) (pa_cons (pe_op op_add (pv 3) pe_int) pa_nil))) (pe_op op_add (pv 3) pe_int) (nomark _))))) (pss_one (ps_ret pe_bl)) pss_nil)
        (pss_cons (ps_set (i := 5) sc_law.nd rfl (Or.inl rfl) (pe_lst (pa_cons (mkE T.E 24 (by decide) (by decide) (by rfl)) (pa_cons (mkE T.E 25 (by decide) (by decide) (by rfl)) (pa_cons (mkE T.E 26 (by decide) (by decide) (by rfl)) pa_nil)))))
        (pss_cons (ps_if (pt_cmpR (op_neD hr.units) (pe_lc (own := [("_law_one", 6)]) (tt := tYes) rfl sc_law.nd (pi_list (pv 5))
            (blkOk_by (N := nLaw) (sc := defScope stLaw) (by decide +kernel)) (fun _ _ _ _ _ => pg_name (i := 6) sc_law.nd rfl (Or.inl rfl))
            (fun _ _ _ _ _ => pts_nil) (fun _ _ _ _ _ => pe_callB (r := rIsErr K) call_isErr (by rfl) T.E.isi boot_isinstance (pa_cons (pv 6) (pa_cons (pe_glob (x := "NoThing") (v := .ref (ad as 24)) (u := .ref (ad as 24)) (by rfl) (T.E.mgc 24 (by decide)) rfl) pa_nil)))) (pe_lst (pa_cons pe_bl (pa_cons pe_bl (pa_cons pe_bl pa_nil)))) (nomark _)) (pss_one (ps_ret pe_bl)) pss_nil)
        (pss_one (ps_if (pt_cmpR (op_neD hr.units) (pe_lc (own := [("_law_one", 6)]) (tt := tYes) rfl sc_law.nd (pi_list (pv 5))
            (blkOk_by (N := nLaw) (sc := defScope stLaw) (by decide +kernel)) (fun _ _ _ _ _ => pg_name (i := 6) sc_law.nd rfl (Or.inl rfl))
            (fun _ _ _ _ _ => pts_nil) (fun _ _ _ _ _ => pe_callB (r := rIsErr K) call_isErr (by rfl) T.E.isi boot_isinstance (pa_cons (pv 6) (pa_cons (pe_glob (x := "NotDone") (v := .ref (ad as 25)) (u := .ref (ad as 25)) (by rfl) (T.E.mgc 25 (by decide)) rfl) pa_nil)))) (pe_lst (pa_cons pe_bl (pa_cons pe_bl (pa_cons pe_bl pa_nil)))) (nomark _)) (pss_one (ps_ret pe_bl)) pss_nil)))))))))
        (pss_one (ps_ret (pe_cmpR op_eq (pe_call GM hr1 (by rfl) T.gM T.kM bM .nil pass0 (pa_cons (pe_tup (pa_cons (pe_tup (pa_cons pe_str (pa_cons pe_int (pa_cons pe_int pa_nil)))) (pa_cons (pe_tup (pa_cons pe_str (pa_cons pe_int (pa_cons pe_int pa_nil)))) pa_nil))) pa_nil)) pe_int (nomark _)))))))), ?_⟩
    refine seqset (lstMk_run (is := [0, 1, 2, 3, 4, 5, 6]) (by decide) fun l1 H1 x1 s1 h1 e1 => ?_)
    refine seqset (catMk_run (is := [0, 1, 2, 3, 4, 5, 6]) (js := [7, 8, 9, 10, 11, 12, 13]) (by decide) (by decide) (by rfl) h1 e1 fun l2 H2 x2 s2 h2 e2 => ?_)
    refine seqset (catMk_run (js := [14, 15, 16, 17, 18, 19, 20]) (by decide) (by decide) (by rfl) h2 e2 fun l3 H3 x3 s3 h3 e3 => ?_)
    have sA : Same H H3 := (s1.trans s2).trans s3
    have hn : (ns.map V.int).length ≤ 63 := by
      rw [List.length_map]
      exact hlen
    refine ⟨_, rfl, a, _, rfl, .inl (Same.seq sA hS), _, _, rfl, _, _, rfl, _, rfl, ?_, ?_, ?_⟩
    · split <;> split <;> omega
    · split <;> split <;> omega
    refine for_range (lo := 0) (fun _ σ H' => ∃ v2 v3 v4 v5, σ = [some (.ref a), some (.ref l3), v2, v3, v4, v5, none, none] ∧ Same H3 H') ⟨none, none, none, none, rfl, Same.refl _⟩ ?_ ?_
    · rintro i σ H4 hi ⟨v2, v3, v4, v5, rfl, s4⟩
      refine seqset ⟨_, rfl, _, rfl, a, ns, i, congrArg (fun t : Int => [V.ref a, V.int t]) (Int.zero_add _), Same.seq (sA.trans s4) hS, fun z => ⟨z, rfl, fun p H5 hp5 pen5 but5 => ⟨p, 99, rfl, by decide, by decide, pen5, fun r H6 r0 r1 pen6 but6 => ?_⟩⟩⟩
      have s6 : Same H4 H6 := fun b o e => by
        have hb := ne_of_none e hp5
        rw [but6 b hb, but5 b hb]
        exact e
      refine seqset (some_run (r := r) r0 (by omega) (by rfl) (by rfl) (s6 _ _ (s4 _ _ h3)) (e3.same (s4.trans s6)) (fun l7 H7 z7 a7 d7 s7 h7 e7 z22 ea ed => ?_) (by rw [e3.len]; decide))
      have el : ([0, 1, 2, 3, 4, 5, 6] ++ [7, 8, 9, 10, 11, 12, 13] ++ [14, 15, 16, 17, 18, 19, 20] ++ [21, 22, 23] : List Nat) = List.range 24 := by decide
      rw [el] at e7
      have zl : z7.length = 24 := by rw [e7.len]; rfl
      have x3l : x3.length = 21 := by rw [e3.len]; rfl
      rw [x3l] at z22
      -- all of them are told rightly
      refine ⟨_, rfl, l7, z7, rfl, SqL.of h7, fun D hD => lc_it (walk_enum (K := K) (a := l7) (xs := z7)) (fun i H' => Same H7 H' ∧ H' D = some (.lst ((List.replicate i true).map V.bl))) ⟨same_upd hD, upd_same⟩ (fun i H' _ pv => SqL.of (pv.1 _ _ h7)) (fun k x H' H'' hk pv y => ?_) (fun H8 pv => ?_)⟩
      · obtain ⟨pv1, pv2⟩ := pv
        obtain ⟨tt, x, y, rfl, htt, rfl, ex, ey⟩ := y
        cases ex
        obtain ⟨a0, j, rfl, ej, er⟩ := e7.get ey
        have hj : j = k := by
          rw [List.getElem?_range (by omega)] at ej
          exact (Option.some.inj ej).symm
        subst hj
        refine ⟨tt, _, rfl, SqT.of upd_same, rfl, _, _, rfl, _, _, rfl, rfl, rfl, yesT ?_⟩
        refine ⟨_, rfl, _, rfl, a0, j, rfl, by omega, (er.same pv1).same (same_upd htt), fun H9 s9 => ⟨_, s9 _ _ (same_upd htt _ _ pv2), ?_, ?_, ?_⟩⟩
        · rw [List.length_map, List.length_replicate, sizeLine_eq]
          omega
        · have s0 := (pv1.trans (same_upd htt)).trans s9
          intro b o e
          rw [upd_ne (ne_of_none e hD)]
          exact s0 b o e
        · rw [upd_same, List.replicate_succ', List.map_append]
          rfl
      obtain ⟨s8, hD8⟩ := pv
      refine ⟨D, List.replicate z7.length true, rfl, SqL.of hD8, _, rfl, ?_⟩
      have ha1 : (List.replicate z7.length true).all id = true := by
        rw [List.all_eq_true]
        intro b hb
        rw [List.eq_of_mem_replicate hb]
        rfl
      rw [ha1]
      refine iteF ?_
      -- the field of the Short among them, and of another one
      refine ⟨_, rfl, l7, z7, _, .ref a7, rfl, rfl, SqL.of (s8 _ _ h7), atI_nat (j := 22) z22, a7, ad as 22, d7, _, .int r, rfl, T.xf, T.S.no, s8 _ _ ea, s8 _ _ ed, by_lookup, _, rfl, rfl, _, rfl, ?_⟩
      refine iteNS rfl ?_
      refine ⟨_, rfl, _, _, rfl, rfl, by show 1 ≤ 1000; decide, fun a9 ha9 => ⟨a9, r + 1, rfl, upd_same, by omega, by omega, fun H9 d9 k9 hd9 ea9 ed9 => ⟨rfl, a9, ad as 22, d9, _, .int (r + 1), rfl, T.xf, T.S.no, ea9, ed9, by_lookup, _, rfl, _, _, rfl, rfl, rfl, _, rfl, ?_⟩⟩⟩
      refine iteNS rfl ?_
      have s9 : Same H8 H9 := fun b o e => k9 b o (ne_of_none e ha9) (by rw [upd_ne (ne_of_none e ha9)]; exact e)
      -- the three heads
      refine seqset (lstMk_run (is := [24, 25, 26]) (by decide) fun l10 H10 z10 s10 h10 e10 => ?_)
      have sB : Same H3 H10 := (((s4.trans s6).trans s7).trans s8).trans (s9.trans s10)
      have zl10 : z10.length = 3 := e10.len
      refine ⟨_, rfl, l10, rfl, ⟨_, SqL.of h10⟩, fun D2 hD2 => lc_list (K := K) (xs := z10) (fun i H' => Same H10 H' ∧ H' D2 = some (.lst (([true, false, false].take i).map V.bl))) ⟨same_upd hD2, upd_same⟩ (fun i H' _ pv => SqL.of (pv.1 _ _ h10)) (fun k x H' hx pv => ?_) (fun H11 pv => ?_)⟩
      · exact heads_turn T.E (by decide) (by decide) e10 hD2 hx pv
      obtain ⟨s11, hD11⟩ := pv
      rw [zl10] at hD11
      refine ⟨by show 3 ≤ sizeLine; decide, fun l12 hl12 => ⟨.list [.bool true, .bool false, .bool false], .list [.bool true, .bool false, .bool false], .lst (SqL.of ((same_upd hl12) _ _ hD11)) (.cons (.bl _) (.cons (.bl _) (.cons (.bl _) .nil))),
        .lst (SqL.of upd_same) (.cons (.bl _) (.cons (.bl _) (.cons (.bl _) .nil))), rfl, rfl, _, rfl, ?_⟩⟩
      refine iteF' (by decide +kernel) ?_
      have s12 : Same H10 (upd H11 l12 (.lst [.bl true, .bl false, .bl false])) := s11.trans (same_upd hl12)
      refine ⟨_, rfl, l10, rfl, ⟨_, SqL.of (s12 _ _ h10)⟩, fun D3 hD3 => lc_list (K := K) (xs := z10) (fun i H' => Same (upd H11 l12 (.lst [.bl true, .bl false, .bl false])) H' ∧ H' D3 = some (.lst (([false, true, false].take i).map V.bl))) ⟨same_upd hD3, upd_same⟩ (fun i H' _ pv => SqL.of (pv.1 _ _ (s12 _ _ h10))) (fun k x H' hx pv => ?_) (fun H13 pv => ?_)⟩
      · exact heads_turn T.E (by decide) (by decide) (e10.same s12) hD3 hx pv
      obtain ⟨s13, hD13⟩ := pv
      rw [zl10] at hD13
      refine ⟨by show 3 ≤ sizeLine; decide, fun l14 hl14 => ⟨.list [.bool false, .bool true, .bool false], .list [.bool false, .bool true, .bool false], .lst (SqL.of ((same_upd hl14) _ _ hD13)) (.cons (.bl _) (.cons (.bl _) (.cons (.bl _) .nil))),
        .lst (SqL.of upd_same) (.cons (.bl _) (.cons (.bl _) (.cons (.bl _) .nil))), rfl, rfl, _, rfl, ?_⟩⟩
      refine iteF' (by decide +kernel) ?_
      exact ⟨_, _, _, _, rfl, sB.trans (s12.trans (s13.trans (same_upd hl14)))⟩
    · rintro σ H4 ⟨v2, v3, v4, v5, rfl, s4⟩
      refine ⟨by show 3 ≤ sizeLine; decide, fun t1 ht1 => ⟨by show 3 ≤ sizeLine; decide, fun t2 ht2 => ⟨by show 2 ≤ sizeLine; decide, fun t3 ht3 => ⟨t3, [(t1, 3), (t2, 2)], rfl, SqT.of upd_same, by show 2 ≤ 1000; decide, fun p hp => ?_, fun H5 s5 => ⟨rfl, ?_⟩⟩⟩⟩⟩
      · rcases List.mem_cons.mp hp with rfl | hp
        · exact ⟨_, _, SqT.of ((same_upd ht3) _ _ ((same_upd ht2) _ _ upd_same))⟩
        · obtain rfl := List.mem_singleton.mp hp
          exact ⟨_, _, SqT.of ((same_upd ht3) _ _ upd_same)⟩
      · exact q H5
end
end Hm


set_option Elab.async false
set_option maxRecDepth 100000
set_option maxHeartbeats 4000000
namespace Hm
open PySem PySem.Spec PyProof.Rows L2
/-- where the classes stand -/
def adrs (K : PySem.W.Frag) : List Addr := (List.range 27).map fun i => match PySem.W.nsIn K mainGlobals (nm i) with
  | some (some (.ref a)) => a
  | _ => 0
theorem all_mk {l : PySem.W.OpenLaw} {w : World} {K : PySem.W.Frag} {h : Heap} {mg : Str → Option Value} {fa : Addr} (X : K.In h) (G : h.Ns mainGlobals mg) (hfa : mg "law" = some (.ref fa))
    {as : List Addr} (has : as = adrs K) {fI cc cda CS NS : Addr} {nm0 q0 : Str} {bs0 bm0 : List Value} {sn1 : List Str} {sub0 : List Value} {ab0 : Bool} {col0 : Option Bool} {dd0 : Option Addr} {m0 m1 m2 m3 m5 : Option Value}
    {ocI kVI dcI pmI ctI : Value} {odI anI : Option Addr} {slI : Array (Option Value)} {ccl : Value} {cdd : Option Addr} {vs : Array Value} {ccs : Array (Option Value)} {file : Str} {tf : Tok} {cl : Value} {cld : Option Addr} {csl : Array (Option Value)}
    {fM : Addr} {odM anM : Option Addr} {slM : Array (Option Value)} {ocM kVM dcM pmM cdM ctM : Value}
    {fF : Addr} {odF anF : Option Addr} {slF : Array (Option Value)} {ocF kVF dcF pmF cdF ctF : Value}
    {fC : Addr} {odC anC : Option Addr} {slC : Array (Option Value)} {ocC kVC dcC pmC cdC ctC : Value}
    {fP : Addr} {odP anP : Option Addr} {slP : Array (Option Value)} {ocP kVP dcP pmP cdP ctP : Value}
    {fD : Addr} {odD anD : Option Addr} {slD : Array (Option Value)} {ocD kVD dcD pmD cdD ctD : Value}
    {fN : Addr} {odN anN : Option Addr} {slN : Array (Option Value)} {ocN kVN dcN pmN cdN ctN : Value}
    {fU : Addr} {odU anU : Option Addr} {slU : Array (Option Value)} {ocU kVU dcU pmU cdU ctU : Value}
    {fR : Addr} {odR anR : Option Addr} {slR : Array (Option Value)} {ocR kVR dcR pmR cdR ctR : Value}
    {fL : Addr} {odL anL : Option Addr} {slL : Array (Option Value)} {ocL kVL dcL pmL cdL ctL : Value}
    (aM : PySem.W.nsIn K mainGlobals "places_many" = some (some (.ref fM))) (lM : K.lookup fM = some ⟨ocM, odM, .func (PySem.W.fnOf "places_many" "places_many" (defArgs stPlaces) (defBody stPlaces) (defScope stPlaces) .none kVM dcM pmM anM cdM ctM), slM⟩) (cM : PySem.W.codeIn K cdM "places_many" = true) (kM : PySem.W.keepIn K (.ref fM) = true)
    (aF : PySem.W.nsIn K mainGlobals "in_figures" = some (some (.ref fF))) (lF : K.lookup fF = some ⟨ocF, odF, .func (PySem.W.fnOf "in_figures" "in_figures" (defArgs stFig) (defBody stFig) (defScope stFig) .none kVF dcF pmF anF cdF ctF), slF⟩) (cF : PySem.W.codeIn K cdF "in_figures" = true) (kF : PySem.W.keepIn K (.ref fF) = true)
    (aC : PySem.W.nsIn K mainGlobals "_law_cell_at" = some (some (.ref fC))) (lC : K.lookup fC = some ⟨ocC, odC, .func (PySem.W.fnOf "_law_cell_at" "_law_cell_at" (defArgs stCell) (defBody stCell) (defScope stCell) .none kVC dcC pmC anC cdC ctC), slC⟩) (cC : PySem.W.codeIn K cdC "_law_cell_at" = true) (kC : PySem.W.keepIn K (.ref fC) = true)
    (aP : PySem.W.nsIn K mainGlobals "_law_pen" = some (some (.ref fP))) (lP : K.lookup fP = some ⟨ocP, odP, .func (PySem.W.fnOf "_law_pen" "_law_pen" (defArgs stPen) (defBody stPen) (defScope stPen) .none kVP dcP pmP anP cdP ctP), slP⟩) (cP : PySem.W.codeIn K cdP "_law_pen" = true) (kP : PySem.W.keepIn K (.ref fP) = true)
    (aD : PySem.W.nsIn K mainGlobals "_law_draw" = some (some (.ref fD))) (lD : K.lookup fD = some ⟨ocD, odD, .func (PySem.W.fnOf "_law_draw" "_law_draw" (defArgs stDraw) (defBody stDraw) (defScope stDraw) .none kVD dcD pmD anD cdD ctD), slD⟩) (cD : PySem.W.codeIn K cdD "_law_draw" = true) (kD : PySem.W.keepIn K (.ref fD) = true)
    (aN : PySem.W.nsIn K mainGlobals "_law_none" = some (some (.ref fN))) (lN : K.lookup fN = some ⟨ocN, odN, .func (PySem.W.fnOf "_law_none" "_law_none" (defArgs stNone) (defBody stNone) (defScope stNone) .none kVN dcN pmN anN cdN ctN), slN⟩) (cN : PySem.W.codeIn K cdN "_law_none" = true) (kN : PySem.W.keepIn K (.ref fN) = true)
    (aU : PySem.W.nsIn K mainGlobals "_law_undone" = some (some (.ref fU))) (lU : K.lookup fU = some ⟨ocU, odU, .func (PySem.W.fnOf "_law_undone" "_law_undone" (defArgs stUndone) (defBody stUndone) (defScope stUndone) .none kVU dcU pmU anU cdU ctU), slU⟩) (cU : PySem.W.codeIn K cdU "_law_undone" = true) (kU : PySem.W.keepIn K (.ref fU) = true)
    (aR : PySem.W.nsIn K mainGlobals "_law_right" = some (some (.ref fR))) (lR : K.lookup fR = some ⟨ocR, odR, .func (PySem.W.fnOf "_law_right" "_law_right" (defArgs stRight) (defBody stRight) (defScope stRight) .none kVR dcR pmR anR cdR ctR), slR⟩) (cR : PySem.W.codeIn K cdR "_law_right" = true) (kR : PySem.W.keepIn K (.ref fR) = true)
    (aL : PySem.W.nsIn K mainGlobals "law" = some (some (.ref fL))) (lL : K.lookup fL = some ⟨ocL, odL, .func (PySem.W.fnOf "law" "law" (defArgs stLaw) (defBody stLaw) (defScope stLaw) .none kVL dcL pmL anL cdL ctL), slL⟩) (cL : PySem.W.codeIn K cdL "law" = true) (kL : PySem.W.keepIn K (.ref fL) = true)
    (aS : PySem.W.nsIn K mainGlobals "Short" = some (some (.ref CS)))
    (hCS : ad as 22 = CS)
    (bEx : (List.range 27).all (fun i => exB K (ad as i)) = true)
    (bOwn : (List.range 27).all (fun i => decide (i = 22) || PySem.W.excIn K (ad as i) veTail "ValueError.__new__") = true)
    (bMg : (List.range 27).all (fun i => decide (PySem.W.nsIn K mainGlobals (nm i) = some (some (.ref (ad as i))))) = true)
    (bKit : (List.range 24).all (fun j => (List.range 27).all fun i => decide (PySem.W.kitOne K (.ref (ad as j)) (.ref (ad as i)) = some (under j i))) = true)
    (bKv : (List.range 24).all (fun j => decide (PySem.W.kitOne K (.ref (ad as j)) (.type "ValueError") = some true)) = true)
    (bKh : [24, 25, 26].all (fun j => [24, 25].all fun i => decide (PySem.W.kitOne K (.ref (ad as j)) (.ref (ad as i)) = some (decide (j = i)))) = true)
    (xL : K.lookup CS = some (excClassObj nm0 q0 CS NS bs0 bm0 true sn1 sub0 ab0 col0 dd0 m0 m1 m2 m3 m5 "ValueError.__new__"))
    (rv : PySem.HandSPX.refsVE bm0 = true)
    (sa : PySem.W.findIn K (.ref CS) "__setattr__" = some (some (.builtin "object.__setattr__")))
    (exC : PySem.W.subIn K (.ref CS) (.type "BaseException") = some true)
    (tyC : PySem.W.typeIn K (.ref CS) = some (.type "type"))
    (kC0 : PySem.W.keepIn K (.ref CS) = true)
    (iC : PySem.W.findIn K (.ref CS) "__init__" = some (some (.ref fI)))
    (tI : PySem.W.typeIn K (.ref fI) = some (.type "function"))
    (lI : K.lookup fI = some ⟨ocI, odI, .func (PySem.W.fnX "__init__" "Short.__init__" (defArgs stShort) (defBody stShort) (defScope stShort) [("__class__", cc)] .none kVI dcI pmI anI (.ref cda) ctI), slI⟩)
    (cdI : PySem.W.codeIn K (.ref cda) "Short.__init__" = true)
    (lcode : K.lookup cda = some ⟨ccl, cdd, .fields vs, ccs⟩)
    (hvs : vs[2]? = some (.str file tf))
    (hfile : ((l.prog.main.file : Str) == file) = true)
    (lcell : K.lookup cc = some ⟨cl, cld, .cell (some (.ref CS)), csl⟩)
    (htop : (l.prog.main.scope.names.lookup ("super" : Str)).isSome = false)
    (opq : PySem.W.nsIn K PySem.cStatics "thirdparty.any" = some none)
    (via : PySem.W.ks_superIn K CS CS "__init__" = some (some (.builtin "ValueError.__init__")))
    (sbV : PySem.W.subIn K (.ref CS) (.type "ValueError") = some true)
    (noB : PySem.W.findIn K (.ref CS) "by" = some none)
    (gaS : PySem.W.findIn K (.ref CS) "__getattribute__" = some (some (.builtin "BaseException.__getattribute__")))
    (ggS : PySem.W.findIn K (.ref CS) "__getattr__" = some none)
    (hdS : PySem.W.hasDictIn K CS = true)
    (z0 : PySem.W.nsIn K mainGlobals "len" = some none)
    (z1 : PySem.W.nsIn K mainGlobals "int" = some none)
    (z2 : PySem.W.nsIn K mainGlobals "str" = some none)
    (z3 : PySem.W.nsIn K mainGlobals "isinstance" = some none)
    (z4 : PySem.W.nsIn K mainGlobals "ValueError" = some none)
    (z5 : PySem.W.nsIn K mainGlobals "sum" = some none)
    (z6 : PySem.W.nsIn K mainGlobals "range" = some none)
    (z7 : PySem.W.nsIn K mainGlobals "max" = some none)
    (z8 : PySem.W.nsIn K mainGlobals "min" = some none)
    (z9 : PySem.W.nsIn K mainGlobals "all" = some none)
    (z10 : PySem.W.nsIn K mainGlobals "enumerate" = some none)
    (z11 : PySem.W.nsIn K mainGlobals "super" = some none)
    : ∃ fd : FuncData, (∀ (s : Shared) (v : Value), BindsTo s fd ⟨[v], []⟩ [("_law_script", v)]) ∧ ∀ base : Heap, K.In base → base.Ns mainGlobals mg → FnOk l.prog w K mg base CX0 4 fa fd ["_law_script"] (spLaw K) := by
  have e := hfa.symm.trans (PySem.W.mg_of X G aL)
  cases e
  subst hCS
  have FM := fun_mk (st := stPlaces) lM cM kM
  have bM := FM.binds (ps := ["book"]) fun _ _ _ _ _ _ us hl => match us, hl with | [_], _ => rfl
  have FF := fun_mk (st := stFig) lF cF kF
  have bF := FF.binds (ps := ["number"]) fun _ _ _ _ _ _ us hl => match us, hl with | [_], _ => rfl
  have FC := fun_mk (st := stCell) lC cC kC
  have bC := FC.binds (ps := ["_law_script", "_law_k"]) fun _ _ _ _ _ _ us hl => match us, hl with | [_, _], _ => rfl
  have FP := fun_mk (st := stPen) lP cP kP
  have bP := FP.binds (ps := ["_law_cell"]) fun _ _ _ _ _ _ us hl => match us, hl with | [_], _ => rfl
  have FD := fun_mk (st := stDraw) lD cD kD
  have bD := FD.binds (ps := ["_law_pen_here", "_law_bound"]) fun _ _ _ _ _ _ us hl => match us, hl with | [_, _], _ => rfl
  have FN := fun_mk (st := stNone) lN cN kN
  have bN := FN.binds (ps := ["_law_one"]) fun _ _ _ _ _ _ us hl => match us, hl with | [_], _ => rfl
  have FU := fun_mk (st := stUndone) lU cU kU
  have bU := FU.binds (ps := ["_law_one"]) fun _ _ _ _ _ _ us hl => match us, hl with | [_], _ => rfl
  have FR := fun_mk (st := stRight) lR cR kR
  have bR := FR.binds (ps := ["_law_one", "_law_at"]) fun _ _ _ _ _ _ us hl => match us, hl with | [_, _], _ => rfl
  have FL := fun_mk (st := stLaw) lL cL kL
  have E : ErrTxt K mg as := ⟨fun i hi => PySem.W.mg_of X G (of_decide_eq_true (List.all_eq_true.mp bMg i (List.mem_range.mpr hi))), bEx, bOwn, bKit, bKv, bKh, PySem.W.mg_none_of X G z3, PySem.W.mg_none_of X G z4⟩
  have S : TxtShort l.prog K mg (ad as 22) fI cc cda fF := ⟨⟨⟨_, _, _, _, _, _, _, _, _, _, _, _, _, _, _, xL, rv⟩, sa, exC, tyC, kC0⟩, ⟨_, _, _, _, _, _, _, _, lI⟩, cdI, ⟨_, _, _, _, _, _, lcode, hvs, hfile⟩, ⟨_, _, _, lcell⟩, htop, PySem.W.mg_none_of X G z11, opq, via, sbV, noB,
    PySem.W.mg_of X G aF, kF⟩
  have L : TxtLen mg := ⟨PySem.W.mg_none_of X G z0, PySem.W.mg_none_of X G z1⟩
  have T : LTxt l.prog K mg as fI cc cda fF fC fP fD fN fU fR fM := ⟨E, S, L, ⟨PySem.W.mg_none_of X G z2⟩, iC, tI, ⟨gaS, ggS, exC, hdS⟩, PySem.W.mg_none_of X G z5, PySem.W.mg_none_of X G z6, PySem.W.mg_none_of X G z7, PySem.W.mg_none_of X G z8, PySem.W.mg_none_of X G z9, PySem.W.mg_none_of X G z10,
    PySem.W.mg_of X G aC, kC, PySem.W.mg_of X G aP, kP, PySem.W.mg_of X G aD, kD, PySem.W.mg_of X G aN, kN, PySem.W.mg_of X G aU, kU, PySem.W.mg_of X G aR, kR, PySem.W.mg_of X G aM, kM⟩
  have bI : Binds K (PySem.W.fnX "__init__" "Short.__init__" (defArgs stShort) (defBody stShort) (defScope stShort) [("__class__", cc)] .none kVI dcI pmI anI (.ref cda) ctI) ["self", "by"] [] := .all fun us hl => match us, hl with | [_, _], _ => rfl
  refine ⟨PySem.W.fnOf "law" "law" (defArgs stLaw) (defBody stLaw) (defScope stLaw) .none kVL dcL pmL anL cdL ctL, fun s v => .of_eq rfl, fun base _ _ => ?_⟩
  have GF := ok_fig (P := l.prog) (w := w) (base := base) FF T.G
  have GN := ok_none (P := l.prog) (w := w) (base := base) FN E
  have GU := ok_undone (P := l.prog) (w := w) (base := base) FU E
  exact ok_law FL T (ok_short S GF bF rfl ⟨_, _, _, lI⟩) bI (ok_cell FC L) bC (ok_pen FP L) bP (ok_draw FD) bD (ok_right FR E GN bN T.gN kN GU bU T.gU kU) bR (ok_places FM T.sum) bM
theorem walk {l : PySem.W.OpenLaw} {q : Program} {loose : List Str} {XP : (Str → Option Value) → Heap → Prop} {YP : World → Heap → Prop} {d : DefRec} {K : Params → PySem.W.Frag} (hn : l.most = some 63) (hdf : d.params.defaults = [])
    (hY : ∀ (w : World) (h : Heap), YP w h → (K w.params).In h)
    (F : ∀ (w : World) (mg : Str → Option Value) (fa : Addr) (h : Heap), (K w.params).In h → h.Ns mainGlobals mg → mg d.name = some (.ref fa) →
      ∃ fd : FuncData, (∀ (s : Shared) (u : Value), BindsTo s fd ⟨[u], []⟩ [("_law_script", u)]) ∧ ∀ base : Heap, (K w.params).In base → base.Ns mainGlobals mg → FnOk l.prog w (K w.params) mg base CX0 4 fa fd ["_law_script"] (spLaw (K w.params))) :
    PySem.W.WalkO q loose XP YP l.row.toRowW d [] (fun f vs => PySem.call f vs) :=
  L2.walk_of (n := 63) (k := 4) (x := "_law_script") (CX := fun _ => CX0) (sp := fun w => spLaw (K w.params)) hn (by decide) hdf ⟨rfl, by decide, by decide⟩ hY F (fun _ _ a ns hl _ hS => ⟨a, ns, rfl, hS, hl, fun _ => rfl⟩) fun _ _ _ _ _ z => z
end Hm

set_option Elab.async false
open PySem PySem.W PyProof.Rows
set_option maxRecDepth 100000 in
set_option maxHeartbeats 0 in
theorem PySem.Challenge.cw_hingemount_k15_families_of_refusals_holds : PySem.Challenge.rw_hingemount_k15_families_of_refusals.Holds := by
  w_on; o_law; k_head; (case hw => w_witness2)
  k_fill
  refine Hm.walk (l := PySem.Challenge.rw_hingemount_k15_families_of_refusals) rfl rfl (fun w h Y => PySem.W.kIn_of Y) ?F
  case F =>
    intro w mg fa h KX G hmg
    refine' Hm.all_mk KX G hmg rfl ?aM ?lM ?cM ?kM ?aF ?lF ?cF ?kF ?aC ?lC ?cC ?kC ?aP ?lP ?cP ?kP ?aD ?lD ?cD ?kD ?aN ?lN ?cN ?kN ?aU ?lU ?cU ?kU ?aR ?lR ?cR ?kR ?aL ?lL ?cL ?kL ?aS ?hCS ?bEx ?bOwn ?bMg ?bKit ?bKv ?bKh ?xL ?rv ?sa ?exC ?tyC ?kC0 ?iC ?tI ?lI ?cdI ?lcode ?hvs ?hfile ?lcell ?htop ?opq ?via ?sbV ?noB ?gaS ?ggS ?hdS ?z0 ?z1 ?z2 ?z3 ?z4 ?z5 ?z6 ?z7 ?z8 ?z9 ?z10 ?z11
    (case aM => k_is)
    (case lM => k_is)
    (case cM => k_is)
    (case kM => k_is)
    (case aF => k_is)
    (case lF => k_is)
    (case cF => k_is)
    (case kF => k_is)
    (case aC => k_is)
    (case lC => k_is)
    (case cC => k_is)
    (case kC => k_is)
    (case aP => k_is)
    (case lP => k_is)
    (case cP => k_is)
    (case kP => k_is)
    (case aD => k_is)
    (case lD => k_is)
    (case cD => k_is)
    (case kD => k_is)
    (case aN => k_is)
    (case lN => k_is)
    (case cN => k_is)
    (case kN => k_is)
    (case aU => k_is)
    (case lU => k_is)
    (case cU => k_is)
    (case kU => k_is)
    (case aR => k_is)
    (case lR => k_is)
    (case cR => k_is)
    (case kR => k_is)
    (case aL => k_is)
    (case lL => k_is)
    (case cL => k_is)
    (case kL => k_is)
    (case aS => k_is)
    (case hCS => kernel_rfl)
    (case bEx => kernel_rfl)
    (case bOwn => kernel_rfl)
    (case bMg => kernel_rfl)
    (case bKit => kernel_rfl)
    (case bKv => kernel_rfl)
    (case bKh => kernel_rfl)
    (case xL => k_is)
    (case rv => kernel_rfl)
    (case sa => k_is)
    (case exC => k_is)
    (case tyC => k_is)
    (case kC0 => k_is)
    (case iC => k_is)
    (case tI => k_is)
    (case lI => k_is)
    (case cdI => k_is)
    (case lcode => k_is)
    (case hvs => rfl)
    (case hfile => kernel_rfl)
    (case lcell => k_is)
    (case htop => kernel_rfl)
    (case opq => k_is)
    (case via => ks_is)
    (case sbV => k_is)
    (case noB => k_is)
    (case gaS => k_is)
    (case ggS => k_is)
    (case hdS => k_is)
    (case z0 => k_is)
    (case z1 => k_is)
    (case z2 => k_is)
    (case z3 => k_is)
    (case z4 => k_is)
    (case z5 => k_is)
    (case z6 => k_is)
    (case z7 => k_is)
    (case z8 => k_is)
    (case z9 => k_is)
    (case z10 => k_is)
    (case z11 => k_is)

