import PyProof.Rows.All
import Wide.All
import OpenK.AllK
import Wide.FinOn
import HandS.ForMost
import HandS.Codes
import HandS.IsInst
import HandS.Style
import HandS.Conv
import HandS.Defaults
import PySem.Challenge.RW_oneheap_k02_shapes_hold_values
set_option Elab.async false
set_option linter.all false
set_option maxRecDepth 100000
namespace Ky
open PySem PySem.Spec PyProof.Rows L2 TL
set_option autoImplicit false
theorem kit_self {K : PySem.W.Frag} {C : Addr} : PySem.W.kitOne K (.ref C) (.ref C) = some true := if_pos (beq_self_eq_true _)
theorem kit_own {K : PySem.W.Frag} {C D : Addr} {r : Bool} (h1 : PySem.W.isClsIn K D = true) (h2 : PySem.W.typeIn K (.ref D) = some (.type "type")) (h3 : PySem.W.subIn K (.ref C) (.ref D) = some r) (h4 : (Value.ref C == Value.ref D) = false) :
    PySem.W.kitOne K (.ref C) (.ref D) = some r := by
  have a1 : ((PySem.W.clsIn K D).isSome && PySem.W.typeIn K (.ref D) == some (.type "type")) = true := by
    rw [h2, show (PySem.W.clsIn K D).isSome = true from h1] <;> rfl
  have a2 : PySem.W.kitCls K (.ref C) (.ref D) = some r := Eq.trans (if_pos a1) h3
  exact Eq.trans (if_neg (by rw [h4] <;> decide)) a2
def topS (i : Nat) : Stmt := PySem.Challenge.pw_oneheap_k02_shapes_hold_values.main.body.getD i (.Pass ⟨0, 0, 0, 0⟩)
structure Ad where
  C_IntSort : Addr
  C_TextSort : Addr
  C_ChoiceSort : Addr
  C_RefSort : Addr
  C_ListSort : Addr
  f_IntSort___init__ : Addr
  fd_IntSort___init__ : FuncData
  f_IntSort_holds : Addr
  fd_IntSort_holds : FuncData
  f_TextSort___init__ : Addr
  fd_TextSort___init__ : FuncData
  f_TextSort_holds : Addr
  fd_TextSort_holds : FuncData
  f_ChoiceSort___init__ : Addr
  fd_ChoiceSort___init__ : FuncData
  f_ChoiceSort_holds : Addr
  fd_ChoiceSort_holds : FuncData
  f_RefSort___init__ : Addr
  fd_RefSort___init__ : FuncData
  f_RefSort_holds : Addr
  fd_RefSort_holds : FuncData
  f_ListSort___init__ : Addr
  fd_ListSort___init__ : FuncData
  f_ListSort_holds : Addr
  fd_ListSort_holds : FuncData
  f__law_cells : Addr
  fd__law_cells : FuncData
  f__law_draw : Addr
  fd__law_draw : FuncData
  f__law_pick : Addr
  fd__law_pick : FuncData
  f__law_shape : Addr
  fd__law_shape : FuncData
  f__law_object : Addr
  fd__law_object : FuncData
  f__law_due : Addr
  fd__law_due : FuncData
  f_is_reference : Addr
  fd_is_reference : FuncData
  f_is_list : Addr
  fd_is_list : FuncData
  f_is_link : Addr
  fd_is_link : FuncData
  f_blank : Addr
  fd_blank : FuncData
  f_law : Addr
  fd_law : FuncData
/-- what the top leaves, as the proofs of the defs ask it -/
structure Txt (K : PySem.W.Frag) (mg : Str → Option Value) (A : Ad) : Prop where
  b_len : mg "len" = none
  b_int : mg "int" = none
  b_range : mg "range" = none
  b_list : mg "list" = none
  b_bool : mg "bool" = none
  b_str : mg "str" = none
  b_isinstance : mg "isinstance" = none
  g_IntSort : mg "IntSort" = some (.ref A.C_IntSort)
  cl_IntSort : Cls K A.C_IntSort
  mk_IntSort : Mk K A.C_IntSort A.f_IntSort___init__
  na_IntSort_low : NoAttr K A.C_IntSort "low"
  na_IntSort_high : NoAttr K A.C_IntSort "high"
  me_IntSort_holds : Meth K A.C_IntSort "holds" A.f_IntSort_holds
  ii_IntSort : ∀ (H : Hp) (a dx : Addr) (fs : List (Str × V)), H a = some (.ins A.C_IntSort dx fs) → TyX K H (.ref a) (.ref A.C_IntSort)
  g_TextSort : mg "TextSort" = some (.ref A.C_TextSort)
  cl_TextSort : Cls K A.C_TextSort
  mk_TextSort : Mk K A.C_TextSort A.f_TextSort___init__
  na_TextSort_longest : NoAttr K A.C_TextSort "longest"
  na_TextSort_without : NoAttr K A.C_TextSort "without"
  me_TextSort_holds : Meth K A.C_TextSort "holds" A.f_TextSort_holds
  ii_TextSort : ∀ (H : Hp) (a dx : Addr) (fs : List (Str × V)), H a = some (.ins A.C_TextSort dx fs) → TyX K H (.ref a) (.ref A.C_TextSort)
  g_ChoiceSort : mg "ChoiceSort" = some (.ref A.C_ChoiceSort)
  cl_ChoiceSort : Cls K A.C_ChoiceSort
  mk_ChoiceSort : Mk K A.C_ChoiceSort A.f_ChoiceSort___init__
  na_ChoiceSort_choices : NoAttr K A.C_ChoiceSort "choices"
  me_ChoiceSort_holds : Meth K A.C_ChoiceSort "holds" A.f_ChoiceSort_holds
  ii_ChoiceSort : ∀ (H : Hp) (a dx : Addr) (fs : List (Str × V)), H a = some (.ins A.C_ChoiceSort dx fs) → TyX K H (.ref a) (.ref A.C_ChoiceSort)
  g_RefSort : mg "RefSort" = some (.ref A.C_RefSort)
  cl_RefSort : Cls K A.C_RefSort
  mk_RefSort : Mk K A.C_RefSort A.f_RefSort___init__
  na_RefSort_kinds : NoAttr K A.C_RefSort "kinds"
  na_RefSort_rule : NoAttr K A.C_RefSort "rule"
  me_RefSort_holds : Meth K A.C_RefSort "holds" A.f_RefSort_holds
  ii_RefSort : ∀ (H : Hp) (a dx : Addr) (fs : List (Str × V)), H a = some (.ins A.C_RefSort dx fs) → TyX K H (.ref a) (.ref A.C_RefSort)
  g_ListSort : mg "ListSort" = some (.ref A.C_ListSort)
  cl_ListSort : Cls K A.C_ListSort
  mk_ListSort : Mk K A.C_ListSort A.f_ListSort___init__
  na_ListSort_kinds : NoAttr K A.C_ListSort "kinds"
  me_ListSort_holds : Meth K A.C_ListSort "holds" A.f_ListSort_holds
  ii_ListSort : ∀ (H : Hp) (a dx : Addr) (fs : List (Str × V)), H a = some (.ins A.C_ListSort dx fs) → TyX K H (.ref a) (.ref A.C_ListSort)
  is_IntSort_ListSort : PySem.W.kitOne K (.ref A.C_IntSort) (.ref A.C_ListSort) = some false
  is_TextSort_ListSort : PySem.W.kitOne K (.ref A.C_TextSort) (.ref A.C_ListSort) = some false
  is_ChoiceSort_ListSort : PySem.W.kitOne K (.ref A.C_ChoiceSort) (.ref A.C_ListSort) = some false
  is_RefSort_ListSort : PySem.W.kitOne K (.ref A.C_RefSort) (.ref A.C_ListSort) = some false
  is_ListSort_ListSort : PySem.W.kitOne K (.ref A.C_ListSort) (.ref A.C_ListSort) = some true
  is_IntSort_RefSort : PySem.W.kitOne K (.ref A.C_IntSort) (.ref A.C_RefSort) = some false
  is_TextSort_RefSort : PySem.W.kitOne K (.ref A.C_TextSort) (.ref A.C_RefSort) = some false
  is_ChoiceSort_RefSort : PySem.W.kitOne K (.ref A.C_ChoiceSort) (.ref A.C_RefSort) = some false
  is_RefSort_RefSort : PySem.W.kitOne K (.ref A.C_RefSort) (.ref A.C_RefSort) = some true
  is_ListSort_RefSort : PySem.W.kitOne K (.ref A.C_ListSort) (.ref A.C_RefSort) = some false
  F_IntSort___init__ : Fun K "__init__" "IntSort.__init__" (inClass (topS 2) 0) A.f_IntSort___init__ A.fd_IntSort___init__
  b_IntSort___init__ : Binds K A.fd_IntSort___init__ ["self", "low", "high"] []
  F_IntSort_holds : Fun K "holds" "IntSort.holds" (inClass (topS 2) 1) A.f_IntSort_holds A.fd_IntSort_holds
  b_IntSort_holds : Binds K A.fd_IntSort_holds ["self", "value"] []
  F_TextSort___init__ : FunD K "__init__" "TextSort.__init__" (defArgs (inClass (topS 3) 0)) (defBody (inClass (topS 3) 0)) (defScope (inClass (topS 3) 0)) [.non] [] A.f_TextSort___init__ A.fd_TextSort___init__
  b_TextSort___init__ : Binds K A.fd_TextSort___init__ ["self", "longest", "without"] []
  F_TextSort_holds : Fun K "holds" "TextSort.holds" (inClass (topS 3) 1) A.f_TextSort_holds A.fd_TextSort_holds
  b_TextSort_holds : Binds K A.fd_TextSort_holds ["self", "value"] []
  F_ChoiceSort___init__ : Fun K "__init__" "ChoiceSort.__init__" (inClass (topS 4) 0) A.f_ChoiceSort___init__ A.fd_ChoiceSort___init__
  b_ChoiceSort___init__ : Binds K A.fd_ChoiceSort___init__ ["self", "choices"] []
  F_ChoiceSort_holds : Fun K "holds" "ChoiceSort.holds" (inClass (topS 4) 1) A.f_ChoiceSort_holds A.fd_ChoiceSort_holds
  b_ChoiceSort_holds : Binds K A.fd_ChoiceSort_holds ["self", "value"] []
  F_RefSort___init__ : Fun K "__init__" "RefSort.__init__" (inClass (topS 5) 0) A.f_RefSort___init__ A.fd_RefSort___init__
  b_RefSort___init__ : Binds K A.fd_RefSort___init__ ["self", "kinds", "rule"] []
  F_RefSort_holds : Fun K "holds" "RefSort.holds" (inClass (topS 5) 1) A.f_RefSort_holds A.fd_RefSort_holds
  b_RefSort_holds : Binds K A.fd_RefSort_holds ["self", "value"] []
  F_ListSort___init__ : Fun K "__init__" "ListSort.__init__" (inClass (topS 6) 0) A.f_ListSort___init__ A.fd_ListSort___init__
  b_ListSort___init__ : Binds K A.fd_ListSort___init__ ["self", "kinds"] []
  F_ListSort_holds : Fun K "holds" "ListSort.holds" (inClass (topS 6) 1) A.f_ListSort_holds A.fd_ListSort_holds
  b_ListSort_holds : Binds K A.fd_ListSort_holds ["self", "value"] []
  F__law_cells : Fun K "_law_cells" "_law_cells" (topS 12) A.f__law_cells A.fd__law_cells
  b__law_cells : Binds K A.fd__law_cells ["script", "count"] []
  g__law_cells : mg "_law_cells" = some (.ref A.f__law_cells)
  F__law_draw : Fun K "_law_draw" "_law_draw" (topS 13) A.f__law_draw A.fd__law_draw
  b__law_draw : Binds K A.fd__law_draw ["draws", "bound"] []
  g__law_draw : mg "_law_draw" = some (.ref A.f__law_draw)
  F__law_pick : Fun K "_law_pick" "_law_pick" (topS 14) A.f__law_pick A.fd__law_pick
  b__law_pick : Binds K A.fd__law_pick ["draws", "row"] []
  g__law_pick : mg "_law_pick" = some (.ref A.f__law_pick)
  F__law_shape : Fun K "_law_shape" "_law_shape" (topS 15) A.f__law_shape A.fd__law_shape
  b__law_shape : Binds K A.fd__law_shape ["draws", "names"] []
  g__law_shape : mg "_law_shape" = some (.ref A.f__law_shape)
  F__law_object : Fun K "_law_object" "_law_object" (topS 16) A.f__law_object A.fd__law_object
  b__law_object : Binds K A.fd__law_object ["shape"] []
  g__law_object : mg "_law_object" = some (.ref A.f__law_object)
  F__law_due : Fun K "_law_due" "_law_due" (topS 17) A.f__law_due A.fd__law_due
  b__law_due : Binds K A.fd__law_due ["shape", "value"] []
  g__law_due : mg "_law_due" = some (.ref A.f__law_due)
  F_is_reference : Fun K "is_reference" "is_reference" (topS 7) A.f_is_reference A.fd_is_reference
  b_is_reference : Binds K A.fd_is_reference ["shape"] []
  g_is_reference : mg "is_reference" = some (.ref A.f_is_reference)
  F_is_list : Fun K "is_list" "is_list" (topS 8) A.f_is_list A.fd_is_list
  b_is_list : Binds K A.fd_is_list ["shape"] []
  g_is_list : mg "is_list" = some (.ref A.f_is_list)
  F_is_link : Fun K "is_link" "is_link" (topS 9) A.f_is_link A.fd_is_link
  b_is_link : Binds K A.fd_is_link ["shape"] []
  g_is_link : mg "is_link" = some (.ref A.f_is_link)
  F_blank : Fun K "blank" "blank" (topS 10) A.f_blank A.fd_blank
  b_blank : Binds K A.fd_blank ["shape"] []
  g_blank : mg "blank" = some (.ref A.f_blank)
  F_law : Fun K "law" "law" (topS 18) A.f_law A.fd_law
  b_law : Binds K A.fd_law ["script"] []
/-! ### rules of our own -/
section
variable {X : Cx}
/-- one of two readings -/
def tAlt (t u : TE) : TE := fun σ H Q => t σ H Q ∨ u σ H Q
theorem pe_alt {e : Expr} {t u : TE} (h : PE X e t) (h' : PE X e u) : PE X e (tAlt t u) :=
  ⟨fun pins s σ H Q I q => q.elim (fun z => h.run pins s σ H Q I z) (fun z => h'.run pins s σ H Q I z)⟩
/-- is True, is False of what is no object -/
theorem op_isB : OpR X (compareOp .Is) (fun x y H Q => flatV x = true ∧ ∃ b, y = .bl b ∧ Q (.bl (decide (x = .bl b))) H) := by
  intro pins s σ H x y v u Q I rx ry h
  obtain ⟨fx, b, rfl, q⟩ := h
  cases (show u = Value.bool b from ry)
  cases x with
  | bl a =>
    cases (show v = Value.bool a from rx)
    by_cases e : a = b
    · subst e
      exact wpAny_is_self rfl ⟨.bl true, H, I, rfl, by simpa using q⟩
    · exact wpAny_is_other rfl (fun z => e (Value.bool.inj z)) ⟨.bl false, H, I, rfl, by simpa [e] using q⟩
  | non =>
    cases (show v = Value.none from rx)
    exact wpAny_is_other rfl (fun z => nomatch z) ⟨.bl false, H, I, rfl, by simpa using q⟩
  | int i =>
    obtain ⟨t, rfl⟩ := rx
    exact wpAny_is_other rfl (fun z => nomatch z) ⟨.bl false, H, I, rfl, by simpa using q⟩
  | str z =>
    obtain ⟨t, rfl⟩ := rx
    exact wpAny_is_other rfl (fun z => nomatch z) ⟨.bl false, H, I, rfl, by simpa using q⟩
  | byt _ => exact absurd (show false = true from fx) Bool.false_ne_true
  | flt _ => exact absurd (show false = true from fx) Bool.false_ne_true
  | ref _ => exact absurd (show false = true from fx) Bool.false_ne_true
  | ty _ => exact absurd (show false = true from fx) Bool.false_ne_true
/-- a text so many times -/
def repS (z : Str) (n : Nat) : Str := ⟨(List.replicate n (tl z)).flatten.toArray⟩
theorem tl_repS (z : Str) (n : Nat) : tl (repS z n) = (List.replicate n (tl z)).flatten := rfl
theorem fold_app : ∀ (n : Nat) (acc c : Array Nat), (List.replicate n c).foldl (· ++ ·) acc = acc ++ (List.replicate n c.toList).flatten.toArray
  | 0, acc, c => by simp
  | n + 1, acc, c => by
    rw [List.replicate_succ, List.foldl_cons, fold_app n, List.replicate_succ, List.flatten_cons]
    apply Array.toList_inj.mp
    simp
theorem repS_fold (z : Str) (n : Nat) : (⟨(List.replicate n z.cps).foldl (· ++ ·) #[]⟩ : Str) = repS z n := by
  apply ext_tl
  rw [fold_app]
  show (#[] ++ (List.replicate n z.cps.toList).flatten.toArray).toList = _
  rw [tl_repS]
  simp
theorem op_mulS : OpR X (binaryOp .Mult) (fun x y H Q => ∃ z n, x = .str z ∧ y = .int n ∧ 0 ≤ n ∧ n ≤ 100 ∧ z.length ≤ 100 ∧ Q (.str (repS z n.toNat)) H) := by
  intro pins s σ H x y v u Q I rx ry h
  obtain ⟨z, n, rfl, rfl, h0, h1, hz, q⟩ := h
  obtain ⟨t, rfl⟩ := rx
  obtain ⟨t', rfl⟩ := ry
  have hln : sizeLine = 16777216 := sizeLine_eq
  have hmul : z.length * n.toNat ≤ 100 * 100 := Nat.mul_le_mul hz (by omega)
  refine PySem.P.mul_str ?_ (fun p1 p2 => ?_) (fun p1 p2 => ?_) ?_
  · rw [decide_eq_false (by omega), decide_eq_false (by omega)]
    rfl
  · have hp : 0 < n := by omega
    have h2 : (100 : Int) ≤ (2 ^ 63 - 1) / n := (Int.le_ediv_iff_mul_le hp).mpr (by omega)
    omega
  · unfold PySem.Builtin.Str.tooLong
    exact decide_eq_false (by rw [hln]; omega)
  · by_cases c1 : n < 1
    · rw [if_pos c1]
      have e : n = 0 := by omega
      subst e
      refine ⟨?_, ⟨.str _, H, I.tok _, ⟨_, rfl⟩, ?_⟩⟩
      · decide
      · exact q
    · rw [if_neg c1]
      by_cases c2 : (n == 1 || z.length == 0) = true
      · rw [if_pos c2]
        refine ⟨.str z, H, I, ⟨_, rfl⟩, ?_⟩
        have e : repS z n.toNat = z := by
          apply ext_tl
          rw [tl_repS]
          rcases Bool.or_eq_true_iff.mp c2 with c | c
          · have : n.toNat = 1 := by
              have := beq_iff_eq.mp c
              omega
            rw [this]
            simp
          · have e0 : tl z = [] := (len0_tl z).mp (beq_iff_eq.mp c)
            rw [e0]
            simp
        rw [e] at q
        exact q
      · rw [if_neg c2]
        refine ⟨?_, ⟨.str _, H, I.tok _, ⟨_, rfl⟩, ?_⟩⟩
        · rw [repS_fold]
          show (repS z n.toNat).length ≤ _
          rw [len_tl, tl_repS]
          simp
          have hm : n.toNat * z.cps.size ≤ 100 * 100 := Nat.mul_le_mul (by omega) hz
          omega
        · rw [repS_fold]
          exact q
end
/-! ### what the law draws by -/
/-- the cells: a new list of so many ints; which ones does not matter -/
def spCells (K : PySem.W.Frag) : Sp := fun vs H Q _ => ∃ (a : Addr) (ns : List Int) (n : Nat), vs = [.ref a, .int (n : Int)] ∧ SqL K H a (ns.map V.int) ∧ ns.length ≤ 63 ∧ n ≤ 64 ∧
  ∀ H' p (ms : List Int), Same H H' → H p = none → H' p = some (.lst (ms.map V.int)) → ms.length = n → Q (.ref p) H'
/-- a draw: the list of ints at a stays one, not empty; the value lies below the bound -/
def spDraw : Sp := fun vs H Q _ => ∃ (a : Addr) (ms : List Int) (n : Nat), vs = [.ref a, .int (n : Int)] ∧ H a = some (.lst (ms.map V.int)) ∧ ms ≠ [] ∧ 0 < n ∧ n < 1000 ∧
  ∀ (v : Nat) (ms' : List Int), v < n → ms' ≠ [] → Q (.int (v : Int)) (upd H a (.lst (ms'.map V.int)))
theorem int_at {ns : List Int} {i : Nat} (h : i < ns.length) : (ns.map V.int)[i]? = some (.int ns[i]) := by
  rw [List.getElem?_map, List.getElem?_eq_getElem h]
  rfl
section
variable {P : Program} {w : World} {K : PySem.W.Frag} {mg : Str → Option Value} {base : Heap} {A : Ad}
theorem sc__law_cells : FnScope ["script", "count", "cells", "k", "cell"] ["script", "count"] (defScope (topS 12)) := ⟨rfl, rfl, rfl, by decide +kernel, rfl, by decide +kernel, by decide +kernel⟩
theorem sc__law_draw : FnScope ["draws", "bound", "value"] ["draws", "bound"] (defScope (topS 13)) := ⟨rfl, rfl, rfl, by decide +kernel, rfl, by decide +kernel, by decide +kernel⟩
theorem ok__law_cells (T : Txt K mg A) : FnOk P w K mg base CX0 1 A.f__law_cells A.fd__law_cells ["script", "count"] (spCells K) := by
  refine T.F__law_cells.ok sc__law_cells (fun vs H Q E h => ?_) (fun cdv Ar outer s H vs Q E hr h => ?_)
  · obtain ⟨a, ns, n, rfl, _⟩ := h
    rfl
  · obtain ⟨a, ns, n, rfl, hS, hlen, hn, q⟩ := h
    refine ⟨_, (pss_cons (ps_set (i := 2) sc__law_cells.nd rfl (.inl rfl) (pe_lst pa_nil))
 (pss_cons (ps_for PassesOwn.never rfl (pi_range1 rfl T.b_range (pa_cons (pv 1) pa_nil)) (pg_name (i := 3) sc__law_cells.nd rfl (.inl rfl))
 (pss_cons (ps_set (i := 4) sc__law_cells.nd rfl (.inl rfl) (pe_op op_add (pe_op op_mul pe_int (pv 3)) pe_int))
 (C8.pss_cut (ps_if (pt_cmpR op_lt (pv 3) (pe_callB call_len_seq rfl T.b_len PySem.boot_len (pa_cons (pv 0) pa_nil)) (nomark _))
 (pss_cons (ps_set (i := 4) sc__law_cells.nd rfl (.inl rfl) (pe_callTy call_int1 rfl T.b_int (by decide +kernel) (pa_cons (pe_ix ix_list (pv 0) (pv 3) (fun _ _ => rfl)) pa_nil)))
 (pss_one (ps_if (pt_cmpR op_lt (pv 4) pe_int (nomark _))
 (pss_one (ps_set (i := 4) sc__law_cells.nd rfl (.inl rfl) (pe_op op_sub pe_int (pe_op op_mul pe_int (pv 4)))))
 pss_nil)))
 pss_nil)
 (C8.pss_cut (ps_if (pt_cmpR op_lt (pv 4) pe_int (nomark _))
 (pss_cons (ps_set (i := 4) sc__law_cells.nd rfl (.inl rfl) (pe_op op_mod (pe_op op_add (pe_op op_add (pe_op op_mul (pe_callTy call_int1 rfl T.b_int (by decide +kernel) (pa_cons (pv 4) pa_nil)) pe_int) pe_int) (pe_op op_mul pe_int (pv 3))) pe_int))
 (pss_one (ps_set (i := 4) sc__law_cells.nd rfl (.inl rfl) (pe_op op_mod (pe_op op_add (pe_op op_mul (pe_callTy call_int1 rfl T.b_int (by decide +kernel) (pa_cons (pv 4) pa_nil)) pe_int) pe_int) pe_int))))
 pss_nil)
 (pss_one (ps_expr (pe_bm PySem.F.plainAttrs_list PySem.F.slot_list_append PySem.F.type_list_append mt_append (pv 2) (pa_cons (pv 4) pa_nil))))))))
 (pss_one (ps_ret (pv 2))))), ?_⟩
    refine ⟨Nat.zero_le _, fun o no => ?_⟩
    refine ⟨_, rfl, (n : Int), rfl, by omega, by omega, for_range (lo := 0) (n := (n : Int).toNat) (fun i σ H' => ∃ (ms : List Int) (y3 y4 : Option V), σ = [some (.ref a), some (.int (n : Int)), some (.ref o), y3, y4] ∧ Same H H' ∧ H' o = some (.lst (ms.map V.int)) ∧ ms.length = i)
      ⟨[], none, none, rfl, fun b z e => (upd_ne (ne_of_none e no)).trans e, upd_same, rfl⟩ ?_ ?_⟩
    · rintro i σ H2 hi ⟨ms, y3, y4, rfl, sm, eo, hl⟩
      -- cell = 7 * k + 3
      refine ⟨_, rfl, _, _, rfl, rfl, .inl ⟨by decide, by decide⟩, _, _, rfl, rfl, ?_⟩
      -- if k < len(script): ..
      refine ⟨fun σ' H' => H' = H2 ∧ ∃ c : Int, σ' = [some (.ref a), some (.int (n : Int)), some (.ref o), some (.int (0 + (i : Int))), some (.int c)], ?_, ?_⟩
      · refine ⟨_, rfl, _, rfl, a, _, rfl, .inl (sm.seq hS), _, _, rfl, rfl, _, rfl, ite2 (fun h => ?_) (fun h => ⟨rfl, _, rfl⟩)⟩
        have hi2 : i < ns.length := by
          have h' := of_decide_eq_true h
          rw [List.length_map] at h'
          omega
        refine ⟨_, rfl, _, rfl, a, _, 0 + (i : Int), _, rfl, rfl, sm.seq hS, at_of (j := i) (by omega) (int_at hi2), .inl ⟨_, rfl, ?_⟩⟩
        refine ⟨_, rfl, _, _, rfl, rfl, _, rfl, ite2 (fun h => ?_) (fun h => ⟨rfl, _, rfl⟩)⟩
        refine ⟨_, rfl, _, _, rfl, rfl, .inl ⟨by decide, by decide⟩, _, _, rfl, rfl, rfl, _, rfl⟩
      · rintro σ' H' ⟨rfl, c, rfl⟩
        -- if cell < 1000000000: ..
        refine ⟨fun σ' H'' => H'' = H' ∧ ∃ c : Int, σ' = [some (.ref a), some (.int (n : Int)), some (.ref o), some (.int (0 + (i : Int))), some (.int c)], ?_, ?_⟩
        · refine ⟨_, rfl, _, _, rfl, rfl, _, rfl, ite2 (fun h => ?_) (fun h => ⟨rfl, _, rfl⟩)⟩
          refine ⟨_, rfl, .inl ⟨_, rfl, ?_⟩⟩
          refine ⟨_, _, rfl, rfl, .inr ⟨by decide, by decide⟩, _, _, rfl, rfl, _, rfl, _, _, rfl, rfl, .inl ⟨by decide, by decide⟩, _, _, rfl, rfl, _, _, rfl, rfl, (by decide : (0 : Int) < 2147483647), ?_⟩
          refine ⟨_, rfl, .inl ⟨_, rfl, ?_⟩⟩
          refine ⟨_, _, rfl, rfl, .inr ⟨by decide, by decide⟩, _, _, rfl, rfl, _, _, rfl, rfl, (by decide : (0 : Int) < 18446744073709551557), rfl, _, rfl⟩
        · rintro σ' H'' ⟨rfl, c', rfl⟩
          -- cells.append(cell)
          refine ⟨_, rfl, .inl ⟨rfl, _, SqL.of eo⟩, _, rfl, o, _, _, rfl, rfl, eo, ?_, ?_⟩
          · rw [List.length_map, hl]
            exact small1000 (by omega)
          · refine ⟨ms ++ [c'], _, _, rfl, fun b z e => (upd_ne (ne_of_none e no)).trans (sm b z e), ?_, ?_⟩
            · rw [upd_same, List.map_append]
              rfl
            · rw [List.length_append, hl]
              rfl
    · rintro σ H2 ⟨ms, y3, y4, rfl, sm, eo, hl⟩
      exact ⟨_, rfl, q H2 o ms sm no eo (by omega)⟩
theorem ok__law_draw (T : Txt K mg A) : FnOk P w K mg base CX0 1 A.f__law_draw A.fd__law_draw ["draws", "bound"] spDraw := by
  refine T.F__law_draw.ok sc__law_draw (fun vs H Q E h => ?_) (fun cdv Ar outer s H vs Q E hr h => ?_)
  · obtain ⟨a, ms, n, rfl, _⟩ := h
    rfl
  · obtain ⟨a, ms, n, rfl, ha, hne, hn, hn2, q⟩ := h
    refine ⟨_, (C8.pss_cut (ps_if (PW.pt (pw_and (pt_cmpR op_eq (pe_ix ix_list (pv 0) pe_int (fun _ _ => rfl)) pe_int (nomark _)) (pw_and1 (pt_cmpR op_gt (pe_callB call_len_seq rfl T.b_len PySem.boot_len (pa_cons (pv 0) pa_nil)) pe_int (nomark _)))))
 (pss_one (ps_expr (pe_bm PySem.F.plainAttrs_list PySem.F.slot_list_pop PySem.F.type_list_pop mt_popAt (pv 0) (pa_cons pe_int pa_nil))))
 pss_nil)
 (pss_cons (ps_set (i := 2) sc__law_draw.nd rfl (.inl rfl) (pe_op op_modN (pe_callTy call_int1 rfl T.b_int (by decide +kernel) (pa_cons (pe_ix ix_list (pv 0) pe_int (fun _ _ => rfl)) pa_nil)) (pv 1)))
 (pss_cons (ps_asg (pe_op op_fdivN (pe_ix ix_list (pv 0) pe_int (fun _ _ => rfl)) (pv 1)) (pg_sub (pv 0) pe_int set_list))
 (pss_one (ps_ret (pv 2)))))), ?_⟩
    obtain ⟨m, r, rfl⟩ : ∃ m r, ms = m :: r := by
      cases ms with
      | nil => exact absurd rfl hne
      | cons m r => exact ⟨m, r, rfl⟩
    -- if draws[0] == 0 and len(draws) > 1: draws.pop(0)
    refine ⟨fun σ' H' => ∃ (m' : Int) (r' : List Int), σ' = [some (.ref a), some (.int (n : Int)), none] ∧ H' = upd H a (.lst ((m' :: r').map V.int)), ?_, ?_⟩
    · have e0 : upd H a (.lst ((m :: r).map V.int)) = H := by
        funext b
        by_cases hb : b = a
        · rw [hb, upd_same, ha]
        · rw [upd_ne hb]
      refine ⟨_, rfl, a, _, 0, _, rfl, rfl, SqL.of ha, atI_nat (j := 0) rfl, rfl, _, rfl, ite2 (fun h0 => ?_) (fun _ => iteF ⟨m, r, rfl, e0.symm⟩)⟩
      refine ⟨_, rfl, a, _, rfl, .inl (SqL.of ha), _, _, rfl, rfl, _, rfl, ite2 (fun h => ?_) (fun _ => ⟨m, r, rfl, e0.symm⟩)⟩
      have h' := of_decide_eq_true h
      obtain ⟨m2, r2, rfl⟩ : ∃ m2 r2, r = m2 :: r2 := by
        cases r with
        | nil => exact absurd h' (by simp)
        | cons m2 r2 => exact ⟨m2, r2, rfl⟩
      refine ⟨_, rfl, .inl ⟨rfl, _, SqL.of ha⟩, a, _, 0, 0, .int m, rfl, rfl, ha, by decide, by decide, ?_, rfl, m2, r2, rfl, rfl⟩
      unfold seqIndex?
      simp
      omega
    · rintro σ' H' ⟨m', r', rfl, rfl⟩
      refine ⟨_, rfl, a, _, 0, _, rfl, rfl, SqL.of upd_same, atI_nat (j := 0) rfl, .inl ⟨_, rfl, ?_⟩⟩
      refine ⟨_, rfl, _, _, rfl, rfl, (by omega), ?_⟩
      refine ⟨_, rfl, a, _, 0, _, rfl, rfl, SqL.of upd_same, atI_nat (j := 0) rfl, _, rfl, _, _, rfl, rfl, ⟨by omega, by omega⟩, ?_⟩
      refine ⟨_, rfl, a, _, 0, 0, rfl, rfl, upd_same, ?_, ?_⟩
      · unfold ixN
        rw [if_pos (by decide), if_pos (by simp)]
        rfl
      · rw [upd_upd]
        have hm : m'.fmod (n : Int) = ((m'.fmod (n : Int)).toNat : Int) := by
          have := Int.fmod_nonneg_of_pos m' (b := (n : Int)) (by omega)
          omega
        have hlt : (m'.fmod (n : Int)).toNat < n := by
          have := Int.fmod_lt_of_pos m' (b := (n : Int)) (by omega)
          omega
        refine ⟨_, rfl, ?_⟩
        show Q (.int (m'.fmod (n : Int))) _
        rw [hm]
        exact q _ ((m'.fdiv (n : Int)) :: r') hlt (by simp)
end
end Ky
namespace Ky
open PySem PySem.Spec PyProof.Rows L2 TL
set_option autoImplicit false
/-! ### shapes, as the law's tuples and as the package's objects -/
/-- the shapes: bounds; a length and a sign (or none); the choices; a list; a reference -/
inductive Sh where
  | int (lo hi : Int)
  | text (n : Int) (wo : V)
  | one (zs : List Str)
  | list
  | ref
/-- the plain values -/
def Pl : V → Prop
  | .non => True
  | .bl _ => True
  | .int _ => True
  | .str z => z.length ≤ 1000
  | _ => False
theorem Pl.flat {v : V} (p : Pl v) : flatV v = true := by
  cases v <;> first | rfl | exact p.elim
/-- a text without the sign, where there is one -/
def okW (z : Str) : V → Bool
  | .str c => (PySem.Builtin.Str.occurrences z c 0 z.length 1).isEmpty
  | _ => true
/-- what a shape holds -/
def hold : Sh → V → Bool
  | .int lo hi, .int i => decide (lo ≤ i) && decide (i ≤ hi)
  | .int _ _, .non => true
  | .int _ _, _ => false
  | .text n wo, .str z => decide ((z.length : Int) ≤ n) && okW z wo
  | .text _ _, .non => true
  | .text _ _, _ => false
  | .one zs, .str z => inV (.str z) (zs.map V.str)
  | .one _, .non => true
  | .one _, _ => false
  | .list, _ => false
  | .ref, .non => true
  | .ref, _ => false
theorem in_strs {v : V} (p : Pl v) (h : ∀ z, v ≠ .str z) : ∀ zs : List Str, inV v (zs.map V.str) = false
  | [] => rfl
  | z :: zs => by
    have ih := in_strs p h zs
    unfold inV at ih ⊢
    rw [List.map_cons, List.any_cons, ih, Bool.or_false]
    cases v <;> first | rfl | exact absurd rfl (h _) | exact p.elim
theorem flat_strs : ∀ zs : List Str, (zs.map V.str).all flatV = true
  | [] => rfl
  | z :: zs => by
    rw [List.map_cons, List.all_cons, flat_strs zs]
    rfl
/-- the type of a plain value -/
def tyP : V → String
  | .non => "NoneType"
  | .bl _ => "bool"
  | .int _ => "int"
  | _ => "str"
theorem Pl.ty {K : PySem.W.Frag} {H : Hp} {v : V} (p : Pl v) : TyX K H v (.type (tyP v)) := by
  cases v with
  | non => exact .base .non
  | bl b => exact .base (.bl b)
  | int i => exact .base (.int i)
  | str z => exact .base (.str z)
  | _ => exact p.elim
def isI : V → Bool
  | .bl _ => true
  | .int _ => true
  | _ => false
def isB : V → Bool
  | .bl _ => true
  | _ => false
def isS : V → Bool
  | .str _ => true
  | _ => false
theorem Pl.isI {K : PySem.W.Frag} {v : V} (p : Pl v) : PySem.W.kitOne K (.type (tyP v)) (.type "int") = some (isI v) := by
  cases v with
  | non => exact (kit_ty (by decide +kernel) : PySem.W.kitOne K (.type "NoneType") (.type "int") = some false)
  | bl b => exact (kit_ty (by decide +kernel) : PySem.W.kitOne K (.type "bool") (.type "int") = some true)
  | int i => exact (kit_ty (by decide +kernel) : PySem.W.kitOne K (.type "int") (.type "int") = some true)
  | str z => exact (kit_ty (by decide +kernel) : PySem.W.kitOne K (.type "str") (.type "int") = some false)
  | _ => exact p.elim
theorem Pl.isB {K : PySem.W.Frag} {v : V} (p : Pl v) : PySem.W.kitOne K (.type (tyP v)) (.type "bool") = some (isB v) := by
  cases v with
  | non => exact (kit_ty (by decide +kernel) : PySem.W.kitOne K (.type "NoneType") (.type "bool") = some false)
  | bl b => exact (kit_ty (by decide +kernel) : PySem.W.kitOne K (.type "bool") (.type "bool") = some true)
  | int i => exact (kit_ty (by decide +kernel) : PySem.W.kitOne K (.type "int") (.type "bool") = some false)
  | str z => exact (kit_ty (by decide +kernel) : PySem.W.kitOne K (.type "str") (.type "bool") = some false)
  | _ => exact p.elim
theorem Pl.isS {K : PySem.W.Frag} {v : V} (p : Pl v) : PySem.W.kitOne K (.type (tyP v)) (.type "str") = some (isS v) := by
  cases v with
  | non => exact (kit_ty (by decide +kernel) : PySem.W.kitOne K (.type "NoneType") (.type "str") = some false)
  | bl b => exact (kit_ty (by decide +kernel) : PySem.W.kitOne K (.type "bool") (.type "str") = some false)
  | int i => exact (kit_ty (by decide +kernel) : PySem.W.kitOne K (.type "int") (.type "str") = some false)
  | str z => exact (kit_ty (by decide +kernel) : PySem.W.kitOne K (.type "str") (.type "str") = some true)
  | _ => exact p.elim
/-- two fields, set one after the other -/
def f2 (f g : Str) (x y : V) : List (Str × V) := putF g y (putF f x [])
theorem f2_1 {f g : Str} (h : ¬ f = g) (x y : V) : (f2 f g x y).lookup f = some x := by
  unfold f2
  rw [lookup_putF, if_neg h, lookup_putF, if_pos rfl]
theorem f2_2 {f g : Str} (x y : V) : (f2 f g x y).lookup g = some y := by
  unfold f2
  rw [lookup_putF, if_pos rfl]
theorem f2_no {f g m : Str} (x y : V) (h : ¬ m = g) (h' : ¬ m = f) : (f2 f g x y).lookup m = none := by
  unfold f2
  rw [lookup_putF, if_neg h, lookup_putF, if_neg h']
  rfl
def f1 (f : Str) (x : V) : List (Str × V) := putF f x []
theorem f1_1 {f : Str} (x : V) : (f1 f x).lookup f = some x := by
  unfold f1
  rw [lookup_putF, if_pos rfl]
theorem f1_no {f m : Str} (x : V) (h' : ¬ m = f) : (f1 f x).lookup m = none := by
  unfold f1
  rw [lookup_putF, if_neg h']
  rfl
/-- the law's tuple of a shape -/
def ShAt (H : Hp) (t : Addr) : Sh → Prop
  | .int lo hi => H t = some (.tup [.str "int", .int lo, .int hi]) ∧ -1000 ≤ lo ∧ lo ≤ 1000 ∧ -1000 ≤ hi ∧ hi ≤ 1000
  | .text n wo => H t = some (.tup [.str "text", .int n, wo]) ∧ (wo = .non ∨ ∃ z, wo = .str z)
  | .one zs => ∃ l, H t = some (.tup [.str "one", .ref l]) ∧ H l = some (.lst (zs.map V.str))
  | .list => ∃ l xs, H t = some (.tup [.str "list", .ref l]) ∧ H l = some (.lst xs)
  | .ref => ∃ l xs r, H t = some (.tup [.str "ref", .ref l, .str r]) ∧ H l = some (.lst xs)
/-- the package's object of a shape -/
def ObAt (A : Ad) (H : Hp) (x : Addr) : Sh → Prop
  | .int lo hi => ∃ dx, H x = some (.ins A.C_IntSort dx (f2 "low" "high" (.int lo) (.int hi)))
  | .text n wo => (∃ dx, H x = some (.ins A.C_TextSort dx (f2 "longest" "without" (.int n) wo))) ∧ (wo = .non ∨ ∃ z, wo = .str z)
  | .one zs => ∃ dx l, H x = some (.ins A.C_ChoiceSort dx (f1 "choices" (.ref l))) ∧ H l = some (.lst (zs.map V.str))
  | .list => ∃ dx l, H x = some (.ins A.C_ListSort dx (f1 "kinds" (.ref l)))
  | .ref => ∃ dx l r, H x = some (.ins A.C_RefSort dx (f2 "kinds" "rule" (.ref l) (.str r)))
theorem ShAt.keep {H H' : Hp} {t : Addr} {sh : Sh} (h : ShAt H t sh) (s : Same H H') : ShAt H' t sh := by
  cases sh with
  | int lo hi => exact ⟨s _ _ h.1, h.2⟩
  | text n wo => exact ⟨s _ _ h.1, h.2⟩
  | one zs => obtain ⟨l, a, b⟩ := h; exact ⟨l, s _ _ a, s _ _ b⟩
  | list => obtain ⟨l, xs, a, b⟩ := h; exact ⟨l, xs, s _ _ a, s _ _ b⟩
  | ref => obtain ⟨l, xs, r, a, b⟩ := h; exact ⟨l, xs, r, s _ _ a, s _ _ b⟩
theorem ObAt.keep {A : Ad} {H H' : Hp} {t : Addr} {sh : Sh} (h : ObAt A H t sh) (s : Same H H') : ObAt A H' t sh := by
  cases sh with
  | int lo hi => obtain ⟨dx, a⟩ := h; exact ⟨dx, s _ _ a⟩
  | text n wo => obtain ⟨⟨dx, a⟩, b⟩ := h; exact ⟨⟨dx, s _ _ a⟩, b⟩
  | one zs => obtain ⟨dx, l, a, b⟩ := h; exact ⟨dx, l, s _ _ a, s _ _ b⟩
  | list => obtain ⟨dx, l, a⟩ := h; exact ⟨dx, l, s _ _ a⟩
  | ref => obtain ⟨dx, l, r, a⟩ := h; exact ⟨dx, l, r, s _ _ a⟩
theorem same_new {H : Hp} {p : Addr} {o : HO} (h : H p = none) : Same H (upd H p o) := fun b x e => by
  rw [upd_ne (ne_of_none e h)]
  exact e
/-! ### the promises of the classes -/
def spInit2 (C : Addr) (f g : Str) : Sp := fun vs H Q _ => ∃ (p dx : Addr) (x y : V), vs = [.ref p, x, y] ∧ H p = some (.ins C dx []) ∧ Q .non (upd H p (.ins C dx (f2 f g x y)))
def spInitC (K : PySem.W.Frag) (C : Addr) (f : Str) : Sp := fun vs H Q _ => ∃ (p dx a : Addr) (xs : List V), vs = [.ref p, .ref a] ∧ H p = some (.ins C dx []) ∧ SqL K H a xs ∧
  ∀ l, H l = none → Q .non (upd (upd H l (.lst xs)) p (.ins C dx (f1 f (.ref l))))
def spInitR (K : PySem.W.Frag) (C : Addr) (f g : Str) : Sp := fun vs H Q _ => ∃ (p dx a : Addr) (xs : List V) (y : V), vs = [.ref p, .ref a, y] ∧ H p = some (.ins C dx []) ∧ SqL K H a xs ∧
  ∀ l, H l = none → Q .non (upd (upd H l (.lst xs)) p (.ins C dx (f2 f g (.ref l) y)))
def spHolds (A : Ad) (k : Nat) : Sp := fun vs H Q _ => ∃ (x : Addr) (v : V) (sh : Sh), vs = [.ref x, v] ∧ ObAt A H x sh ∧ Pl v ∧ (match sh with
    | .int _ _ => 0
    | .text _ _ => 1
    | .one _ => 2
    | .ref => 3
    | .list => 4) = k ∧ Q (.bl (hold sh v)) H
section
variable {P : Program} {w : World} {K : PySem.W.Frag} {mg : Str → Option Value} {base : Heap} {A : Ad}
theorem sc_IntSort___init__ : FnScope ["self", "low", "high"] ["self", "low", "high"] (defScope (inClass (topS 2) 0)) := ⟨rfl, rfl, rfl, by decide +kernel, rfl, by decide +kernel, by decide +kernel⟩
theorem ok_IntSort___init__ (T : Txt K mg A) : FnOk P w K mg base CX0 1 A.f_IntSort___init__ A.fd_IntSort___init__ ["self", "low", "high"] (spInit2 A.C_IntSort "low" "high") := by
  refine T.F_IntSort___init__.ok sc_IntSort___init__ (fun vs H Q E h => ?_) (fun cdv Ar outer s H vs Q E hr h => ?_)
  · obtain ⟨p, dx, x, y, rfl, _⟩ := h
    rfl
  · obtain ⟨p, dx, x, y, rfl, hp, q⟩ := h
    refine ⟨_, (pss_cons (ps_fld (pv 0) (pv 1) rfl)
 (pss_one (ps_fld (pv 0) (pv 2) rfl))), ?_⟩
    refine ⟨_, rfl, _, rfl, p, _, dx, [], rfl, hp, T.cl_IntSort, T.na_IntSort_low, (by show 0 < 1000; decide), ?_⟩
    refine ⟨_, rfl, _, rfl, p, _, dx, _, rfl, upd_same, T.cl_IntSort, T.na_IntSort_high, (by show 1 < 1000; decide), ?_⟩
    rw [upd_upd]
    exact q
theorem sc_TextSort___init__ : FnScope ["self", "longest", "without"] ["self", "longest", "without"] (defScope (inClass (topS 3) 0)) := ⟨rfl, rfl, rfl, by decide +kernel, rfl, by decide +kernel, by decide +kernel⟩
theorem ok_TextSort___init__ (T : Txt K mg A) : FnOk P w K mg base CX0 1 A.f_TextSort___init__ A.fd_TextSort___init__ ["self", "longest", "without"] (spInit2 A.C_TextSort "longest" "without") := by
  refine T.F_TextSort___init__.ok sc_TextSort___init__ (fun vs H Q E h => ?_) (fun cdv Ar outer s H vs Q E hr h => ?_)
  · obtain ⟨p, dx, x, y, rfl, _⟩ := h
    rfl
  · obtain ⟨p, dx, x, y, rfl, hp, q⟩ := h
    refine ⟨_, (pss_cons (ps_fld (pv 0) (pv 1) rfl)
 (pss_one (ps_fld (pv 0) (pv 2) rfl))), ?_⟩
    refine ⟨_, rfl, _, rfl, p, _, dx, [], rfl, hp, T.cl_TextSort, T.na_TextSort_longest, (by show 0 < 1000; decide), ?_⟩
    refine ⟨_, rfl, _, rfl, p, _, dx, _, rfl, upd_same, T.cl_TextSort, T.na_TextSort_without, (by show 1 < 1000; decide), ?_⟩
    rw [upd_upd]
    exact q
theorem sc_ChoiceSort___init__ : FnScope ["self", "choices"] ["self", "choices"] (defScope (inClass (topS 4) 0)) := ⟨rfl, rfl, rfl, by decide +kernel, rfl, by decide +kernel, by decide +kernel⟩
theorem ok_ChoiceSort___init__ (T : Txt K mg A) : FnOk P w K mg base CX0 1 A.f_ChoiceSort___init__ A.fd_ChoiceSort___init__ ["self", "choices"] (spInitC K A.C_ChoiceSort "choices") := by
  refine T.F_ChoiceSort___init__.ok sc_ChoiceSort___init__ (fun vs H Q E h => ?_) (fun cdv Ar outer s H vs Q E hr h => ?_)
  · obtain ⟨p, dx, a, xs, rfl, _⟩ := h
    rfl
  · obtain ⟨p, dx, a, xs, rfl, hp, ha, q⟩ := h
    refine ⟨_, (pss_one (ps_fld (pv 0) (pe_callTy call_list_of rfl T.b_list (by decide +kernel) (pa_cons (pv 1) pa_nil)) rfl)), ?_⟩
    refine ⟨_, rfl, a, xs, rfl, .inl ha, fun l hl => ?_⟩
    exact ⟨_, rfl, p, _, dx, [], rfl, (upd_ne (ne_of_none hp hl)).trans hp, T.cl_ChoiceSort, T.na_ChoiceSort_choices, (by show 0 < 1000; decide), q l hl⟩
theorem sc_ListSort___init__ : FnScope ["self", "kinds"] ["self", "kinds"] (defScope (inClass (topS 6) 0)) := ⟨rfl, rfl, rfl, by decide +kernel, rfl, by decide +kernel, by decide +kernel⟩
theorem ok_ListSort___init__ (T : Txt K mg A) : FnOk P w K mg base CX0 1 A.f_ListSort___init__ A.fd_ListSort___init__ ["self", "kinds"] (spInitC K A.C_ListSort "kinds") := by
  refine T.F_ListSort___init__.ok sc_ListSort___init__ (fun vs H Q E h => ?_) (fun cdv Ar outer s H vs Q E hr h => ?_)
  · obtain ⟨p, dx, a, xs, rfl, _⟩ := h
    rfl
  · obtain ⟨p, dx, a, xs, rfl, hp, ha, q⟩ := h
    refine ⟨_, (pss_one (ps_fld (pv 0) (pe_callTy call_list_of rfl T.b_list (by decide +kernel) (pa_cons (pv 1) pa_nil)) rfl)), ?_⟩
    refine ⟨_, rfl, a, xs, rfl, .inl ha, fun l hl => ?_⟩
    exact ⟨_, rfl, p, _, dx, [], rfl, (upd_ne (ne_of_none hp hl)).trans hp, T.cl_ListSort, T.na_ListSort_kinds, (by show 0 < 1000; decide), q l hl⟩
theorem sc_RefSort___init__ : FnScope ["self", "kinds", "rule"] ["self", "kinds", "rule"] (defScope (inClass (topS 5) 0)) := ⟨rfl, rfl, rfl, by decide +kernel, rfl, by decide +kernel, by decide +kernel⟩
theorem ok_RefSort___init__ (T : Txt K mg A) : FnOk P w K mg base CX0 1 A.f_RefSort___init__ A.fd_RefSort___init__ ["self", "kinds", "rule"] (spInitR K A.C_RefSort "kinds" "rule") := by
  refine T.F_RefSort___init__.ok sc_RefSort___init__ (fun vs H Q E h => ?_) (fun cdv Ar outer s H vs Q E hr h => ?_)
  · obtain ⟨p, dx, a, xs, y, rfl, _⟩ := h
    rfl
  · obtain ⟨p, dx, a, xs, y, rfl, hp, ha, q⟩ := h
    refine ⟨_, (pss_cons (ps_fld (pv 0) (pe_callTy call_list_of rfl T.b_list (by decide +kernel) (pa_cons (pv 1) pa_nil)) rfl)
 (pss_one (ps_fld (pv 0) (pv 2) rfl))), ?_⟩
    refine ⟨_, rfl, a, xs, rfl, .inl ha, fun l hl => ?_⟩
    refine ⟨_, rfl, p, _, dx, [], rfl, (upd_ne (ne_of_none hp hl)).trans hp, T.cl_RefSort, T.na_RefSort_kinds, (by show 0 < 1000; decide), ?_⟩
    refine ⟨_, rfl, _, rfl, p, _, dx, _, rfl, upd_same, T.cl_RefSort, T.na_RefSort_rule, (by show 1 < 1000; decide), ?_⟩
    rw [upd_upd]
    exact q l hl
theorem sc_IntSort_holds : FnScope ["self", "value"] ["self", "value"] (defScope (inClass (topS 2) 1)) := ⟨rfl, rfl, rfl, by decide +kernel, rfl, by decide +kernel, by decide +kernel⟩
theorem ok_IntSort_holds (T : Txt K mg A) : FnOk P w K mg base CX0 1 A.f_IntSort_holds A.fd_IntSort_holds ["self", "value"] (spHolds A 0) := by
  refine T.F_IntSort_holds.ok sc_IntSort_holds (fun vs H Q E h => ?_) (fun cdv Ar outer s H vs Q E hr h => ?_)
  · obtain ⟨x, v, sh, rfl, _⟩ := h
    rfl
  · obtain ⟨x, v, sh, rfl, ho, hp, hk, q⟩ := h
    cases sh with
    | text n wo => exact absurd (show (1 : Nat) = 0 from hk) (by decide)
    | one zs => exact absurd (show (2 : Nat) = 0 from hk) (by decide)
    | ref => exact absurd (show (3 : Nat) = 0 from hk) (by decide)
    | list => exact absurd (show (4 : Nat) = 0 from hk) (by decide)
    | int lo hi =>
      obtain ⟨dx, hx⟩ := ho
      refine ⟨_, (pss_cons (ps_if (pt_cmpR op_isN (pv 1) pe_non (nomark _))
 (pss_one (ps_ret pe_bl))
 pss_nil)
 (pss_one (ps_ret (pe_and (pe_callB call_isi rfl T.b_isinstance (by decide +kernel) (pa_cons (pv 1) (pa_cons (pe_bltn (v := .ty "int") (u := .type "int") rfl T.b_int (by decide +kernel) rfl) pa_nil))) (pe_and (pe_not (pe_callB call_isi rfl T.b_isinstance (by decide +kernel) (pa_cons (pv 1) (pa_cons (pe_bltn (v := .ty "bool") (u := .type "bool") rfl T.b_bool (by decide +kernel) rfl) pa_nil)))) (pe_one (pe_chain op_le op_le (pe_fld (pv 0) rfl) (pv 1) (pe_fld (pv 0) rfl)))))))), ?_⟩
      refine ⟨_, rfl, rfl, _, rfl, ite2 (fun e => ?_) (fun e => ?_)⟩
      · have e' := of_decide_eq_true e
        subst e'
        exact q
      · have e' : v ≠ .non := fun z => e (decide_eq_true z)
        refine ⟨_, rfl, v, _, _, _, _, rfl, .ty "int", hp.ty, hp.isI, _, rfl, ite2 (fun e1 => ?_) (fun e1 => ?_)⟩
        · refine ⟨_, rfl, v, _, _, _, _, rfl, .ty "bool", hp.ty, hp.isB, _, rfl, _, rfl, ite2 (fun e2 => ?_) (fun e2 => ?_)⟩
          · cases v with
            | int i =>
              refine ⟨_, rfl, x, _, dx, _, _, rfl, hx, T.cl_IntSort, T.na_IntSort_low, f2_1 (by decide +kernel) _ _, _, rfl, _, _, rfl, rfl, _, rfl, ite2 (fun e3 => ?_) (fun e3 => ?_)⟩
              · refine ⟨_, rfl, x, _, dx, _, _, rfl, hx, T.cl_IntSort, T.na_IntSort_high, f2_2 _ _, _, _, rfl, rfl, ?_⟩
                have e4 : hold (.int lo hi) (.int i) = decide (i ≤ hi) := by
                  show (decide (lo ≤ i) && decide (i ≤ hi)) = decide (i ≤ hi)
                  rw [e3, Bool.true_and]
                rw [e4] at q
                exact q
              · have e4 : hold (.int lo hi) (.int i) = false := by
                  show (decide (lo ≤ i) && decide (i ≤ hi)) = false
                  rw [Bool.eq_false_iff.mpr e3, Bool.false_and]
                rw [e4] at q
                exact q
            | bl b => exact absurd (show false = true from e2) Bool.false_ne_true
            | non => exact absurd rfl e'
            | str z => exact absurd (show false = true from e1) Bool.false_ne_true
            | byt _ => exact hp.elim
            | flt _ => exact hp.elim
            | ref _ => exact hp.elim
            | ty _ => exact hp.elim
          · cases v with
            | bl b => exact q
            | int i => exact absurd rfl e2
            | non => exact absurd rfl e'
            | str z => exact absurd (show false = true from e1) Bool.false_ne_true
            | byt _ => exact hp.elim
            | flt _ => exact hp.elim
            | ref _ => exact hp.elim
            | ty _ => exact hp.elim
        · cases v with
          | str z => exact q
          | int i => exact absurd rfl e1
          | bl b => exact absurd rfl e1
          | non => exact absurd rfl e'
          | byt _ => exact hp.elim
          | flt _ => exact hp.elim
          | ref _ => exact hp.elim
          | ty _ => exact hp.elim
theorem sc_TextSort_holds : FnScope ["self", "value"] ["self", "value"] (defScope (inClass (topS 3) 1)) := ⟨rfl, rfl, rfl, by decide +kernel, rfl, by decide +kernel, by decide +kernel⟩
theorem ok_TextSort_holds (T : Txt K mg A) : FnOk P w K mg base CX0 1 A.f_TextSort_holds A.fd_TextSort_holds ["self", "value"] (spHolds A 1) := by
  refine T.F_TextSort_holds.ok sc_TextSort_holds (fun vs H Q E h => ?_) (fun cdv Ar outer s H vs Q E hr h => ?_)
  · obtain ⟨x, v, sh, rfl, _⟩ := h
    rfl
  · obtain ⟨x, v, sh, rfl, ho, hp, hk, q⟩ := h
    cases sh with
    | int lo hi => exact absurd (show (0 : Nat) = 1 from hk) (by decide)
    | one zs => exact absurd (show (2 : Nat) = 1 from hk) (by decide)
    | ref => exact absurd (show (3 : Nat) = 1 from hk) (by decide)
    | list => exact absurd (show (4 : Nat) = 1 from hk) (by decide)
    | text n wo =>
      obtain ⟨⟨dx, hx⟩, hw⟩ := ho
      refine ⟨_, (pss_cons (ps_if (pt_cmpR op_isN (pv 1) pe_non (nomark _))
 (pss_one (ps_ret pe_bl))
 pss_nil)
 (pss_cons (ps_if (PW.pt (pw_or (pt_not (pt_val (pe_callB call_isi rfl T.b_isinstance (by decide +kernel) (pa_cons (pv 1) (pa_cons (pe_bltn (v := .ty "str") (u := .type "str") rfl T.b_str (by decide +kernel) rfl) pa_nil))))) (pw_or1 (pt_cmpR op_gt (pe_callB call_len_str rfl T.b_len PySem.boot_len (pa_cons (pv 1) pa_nil)) (pe_fld (pv 0) rfl) (nomark _)))))
 (pss_one (ps_ret pe_bl))
 pss_nil)
 (pss_one (ps_ret (pe_or (pe_cmpR op_isN (pe_fld (pv 0) rfl) pe_non (nomark _)) (pe_one (pe_cmpR op_notin_str (pe_fld (pv 0) rfl) (pv 1) (by rfl)))))))), ?_⟩
      refine ⟨_, rfl, rfl, _, rfl, ite2 (fun e => ?_) (fun e => ?_)⟩
      · have e' := of_decide_eq_true e
        subst e'
        exact q
      · have e' : v ≠ .non := fun z => e (decide_eq_true z)
        refine ⟨_, rfl, v, _, _, _, _, rfl, .ty "str", hp.ty, hp.isS, _, rfl, ite2 (fun e1 => ?_) (fun e1 => ?_)⟩
        · refine iteT ?_
          cases v with
          | int i => exact q
          | bl b => exact q
          | non => exact absurd rfl e'
          | str z => exact absurd (show false = true from e1) Bool.false_ne_true
          | byt _ => exact hp.elim
          | flt _ => exact hp.elim
          | ref _ => exact hp.elim
          | ty _ => exact hp.elim
        · cases v with
          | int i => exact absurd rfl e1
          | bl b => exact absurd rfl e1
          | non => exact absurd rfl e'
          | str z =>
            have hz : z.length ≤ sizeLine := Nat.le_trans hp (by decide)
            refine ⟨_, rfl, z, rfl, hz, _, rfl, x, _, dx, _, _, rfl, hx, T.cl_TextSort, T.na_TextSort_longest, f2_1 (by decide +kernel) _ _, _, _, rfl, rfl, _, rfl, ite2 (fun e2 => ?_) (fun e2 => ?_)⟩
            · have e3 : hold (.text n wo) (.str z) = false := by
                show (decide ((z.length : Int) ≤ n) && _) = false
                rw [decide_eq_false (by have := of_decide_eq_true e2; omega), Bool.false_and]
              rw [e3] at q
              exact q
            · have e3 : decide ((z.length : Int) ≤ n) = true := decide_eq_true (by
                have := of_decide_eq_false (Bool.eq_false_iff.mpr e2)
                omega)
              refine ⟨_, rfl, x, _, dx, _, _, rfl, hx, T.cl_TextSort, T.na_TextSort_without, f2_2 _ _, rfl, _, rfl, ite2 (fun e4 => ?_) (fun e4 => ?_)⟩
              · have e5 := of_decide_eq_true e4
                subst e5
                have e6 : hold (.text n .non) (.str z) = true := by
                  show (decide ((z.length : Int) ≤ n) && true) = true
                  rw [e3, Bool.true_and]
                rw [e6] at q
                exact q
              · rcases hw with hw | ⟨c, rfl⟩
                · exact absurd (decide_eq_true hw) e4
                · refine ⟨_, rfl, x, _, dx, _, _, rfl, hx, T.cl_TextSort, T.na_TextSort_without, f2_2 _ _, _, rfl, _, _, rfl, rfl, ?_⟩
                  have e6 : hold (.text n (.str c)) (.str z) = (PySem.Builtin.Str.occurrences z c 0 z.length 1).isEmpty := by
                    show (decide ((z.length : Int) ≤ n) && okW z (.str c)) = okW z (.str c)
                    rw [e3, Bool.true_and]
                  rw [Bool.not_not]
                  rw [e6] at q
                  exact q
          | byt _ => exact hp.elim
          | flt _ => exact hp.elim
          | ref _ => exact hp.elim
          | ty _ => exact hp.elim
theorem sc_ChoiceSort_holds : FnScope ["self", "value"] ["self", "value"] (defScope (inClass (topS 4) 1)) := ⟨rfl, rfl, rfl, by decide +kernel, rfl, by decide +kernel, by decide +kernel⟩
theorem ok_ChoiceSort_holds (T : Txt K mg A) : FnOk P w K mg base CX0 1 A.f_ChoiceSort_holds A.fd_ChoiceSort_holds ["self", "value"] (spHolds A 2) := by
  refine T.F_ChoiceSort_holds.ok sc_ChoiceSort_holds (fun vs H Q E h => ?_) (fun cdv Ar outer s H vs Q E hr h => ?_)
  · obtain ⟨x, v, sh, rfl, _⟩ := h
    rfl
  · obtain ⟨x, v, sh, rfl, ho, hp, hk, q⟩ := h
    cases sh with
    | int lo hi => exact absurd (show (0 : Nat) = 2 from hk) (by decide)
    | text n wo => exact absurd (show (1 : Nat) = 2 from hk) (by decide)
    | ref => exact absurd (show (3 : Nat) = 2 from hk) (by decide)
    | list => exact absurd (show (4 : Nat) = 2 from hk) (by decide)
    | one zs =>
      obtain ⟨dx, l, hx, hl⟩ := ho
      refine ⟨_, (pss_one (ps_ret (pe_or (pe_cmpR op_isN (pv 1) pe_non (nomark _)) (pe_one (pe_cmpR op_in_seq (pv 1) (pe_fld (pv 0) rfl) (by rfl)))))), ?_⟩
      refine ⟨_, rfl, rfl, _, rfl, ite2 (fun e => ?_) (fun e => ?_)⟩
      · have e' := of_decide_eq_true e
        subst e'
        exact q
      · have e' : v ≠ .non := fun z => e (decide_eq_true z)
        refine ⟨_, rfl, _, rfl, x, _, dx, _, _, rfl, hx, T.cl_ChoiceSort, T.na_ChoiceSort_choices, f1_1 _, l, _, rfl, .inl (SqL.of hl), hp.flat, flat_strs zs, ?_⟩
        have e6 : hold (.one zs) v = inV v (zs.map V.str) := by
          cases v with
          | str z => rfl
          | non => exact absurd rfl e'
          | bl b => exact (in_strs hp (fun z e => by cases e) zs).symm
          | int b => exact (in_strs hp (fun z e => by cases e) zs).symm
          | byt _ => exact hp.elim
          | flt _ => exact hp.elim
          | ref _ => exact hp.elim
          | ty _ => exact hp.elim
        rw [e6] at q
        exact q
theorem sc_RefSort_holds : FnScope ["self", "value"] ["self", "value"] (defScope (inClass (topS 5) 1)) := ⟨rfl, rfl, rfl, by decide +kernel, rfl, by decide +kernel, by decide +kernel⟩
theorem ok_RefSort_holds (T : Txt K mg A) : FnOk P w K mg base CX0 1 A.f_RefSort_holds A.fd_RefSort_holds ["self", "value"] (spHolds A 3) := by
  refine T.F_RefSort_holds.ok sc_RefSort_holds (fun vs H Q E h => ?_) (fun cdv Ar outer s H vs Q E hr h => ?_)
  · obtain ⟨x, v, sh, rfl, _⟩ := h
    rfl
  · obtain ⟨x, v, sh, rfl, ho, hp, hk, q⟩ := h
    cases sh with
    | int lo hi => exact absurd (show (0 : Nat) = 3 from hk) (by decide)
    | text n wo => exact absurd (show (1 : Nat) = 3 from hk) (by decide)
    | one zs => exact absurd (show (2 : Nat) = 3 from hk) (by decide)
    | list => exact absurd (show (4 : Nat) = 3 from hk) (by decide)
    | ref =>
      refine ⟨_, (pss_one (ps_ret (pe_cmpR op_isN (pv 1) pe_non (nomark _)))), ?_⟩
      refine ⟨_, rfl, rfl, ?_⟩
      cases v <;> first | exact q | exact hp.elim
theorem sc_ListSort_holds : FnScope ["self", "value"] ["self", "value"] (defScope (inClass (topS 6) 1)) := ⟨rfl, rfl, rfl, by decide +kernel, rfl, by decide +kernel, by decide +kernel⟩
theorem ok_ListSort_holds (T : Txt K mg A) : FnOk P w K mg base CX0 1 A.f_ListSort_holds A.fd_ListSort_holds ["self", "value"] (spHolds A 4) := by
  refine T.F_ListSort_holds.ok sc_ListSort_holds (fun vs H Q E h => ?_) (fun cdv Ar outer s H vs Q E hr h => ?_)
  · obtain ⟨x, v, sh, rfl, _⟩ := h
    rfl
  · obtain ⟨x, v, sh, rfl, ho, hp, hk, q⟩ := h
    cases sh with
    | int lo hi => exact absurd (show (0 : Nat) = 4 from hk) (by decide)
    | text n wo => exact absurd (show (1 : Nat) = 4 from hk) (by decide)
    | one zs => exact absurd (show (2 : Nat) = 4 from hk) (by decide)
    | ref => exact absurd (show (3 : Nat) = 4 from hk) (by decide)
    | list =>
      refine ⟨_, (pss_one (ps_ret pe_bl)), ?_⟩
      exact q
end
end Ky
namespace Ky
open PySem PySem.Spec PyProof.Rows L2 TL
set_option autoImplicit false
theorem same_two {H : Hp} {x dx : Addr} {o1 o2 : HO} (hx : H x = none) (hdx : H dx = none) : Same H (upd (upd H dx o1) x o2) := fun b o e => by
  rw [upd_ne (ne_of_none e hx), upd_ne (ne_of_none e hdx)]
  exact e
theorem same_made {H : Hp} {x dx : Addr} {o1 o3 : HO} (hx : H x = none) (hdx : H dx = none) : Same H (upd (upd H dx o1) x o3) := same_two hx hdx
theorem same_three {H : Hp} {x dx c : Addr} {o1 o2 o3 o4 : HO} (hx : H x = none) (hdx : H dx = none) (hc : (upd (upd H dx o1) x o2) c = none) : Same H (upd (upd (upd (upd H dx o1) x o2) c o3) x o4) := fun b o e => by
  rw [upd_ne (ne_of_none e hx), upd_ne (ne_of_none (same_two hx hdx _ _ e) hc)]
  exact same_two hx hdx _ _ e
theorem strT {a b : Str} {X Y : Prop} (h : a = b) (x : X) : if decide (V.str a = V.str b) = true then X else Y := by
  rw [decide_eq_true (congrArg V.str h)]
  exact iteT x
theorem strF {a b : Str} {X Y : Prop} (h : ¬ a = b) (y : Y) : if decide (V.str a = V.str b) = true then X else Y := by
  rw [decide_eq_false (fun z => h (V.str.inj z))]
  exact iteF y
theorem cut_strs (zs : List Str) (lo hi : Option Int) : ∃ ys : List Str, cutV (zs.map V.str) lo hi = ys.map V.str :=
  ⟨_, by
    unfold cutV
    rw [← List.map_drop, ← List.map_take]⟩
/-- all but what stands at a is kept -/
def But (a : Addr) (H H' : Hp) : Prop := ∀ b o, b ≠ a → H b = some o → H' b = some o
theorem But.at {a : Addr} {H H' : Hp} {o : HO} (h : But a H H') : But a H (upd H' a o) := fun b x n e => by
  rw [upd_ne n]
  exact h b x n e
theorem But.new {a p : Addr} {H H' : Hp} {o : HO} (h : But a H H') (hp : H' p = none) : But a H (upd H' p o) := fun b x n e => by
  rw [upd_ne (ne_of_none (h b x n e) hp)]
  exact h b x n e
theorem But.refl {a : Addr} {H : Hp} : But a H H := fun _ _ _ e => e
def spPick : Sp := fun vs H Q _ => ∃ (a l : Addr) (ms : List Int) (xs : List V), vs = [.ref a, .ref l] ∧ H a = some (.lst (ms.map V.int)) ∧ ms ≠ [] ∧ H l = some (.lst xs) ∧ a ≠ l ∧ 0 < xs.length ∧ xs.length < 1000 ∧
  ∀ (v : V) (ms' : List Int), v ∈ xs → ms' ≠ [] → Q v (upd H a (.lst (ms'.map V.int)))
def spShape : Sp := fun vs H Q _ => ∃ (a nl : Addr) (ms : List Int) (xs : List V), vs = [.ref a, .ref nl] ∧ H a = some (.lst (ms.map V.int)) ∧ ms ≠ [] ∧ H nl = some (.lst xs) ∧ a ≠ nl ∧ xs.length = 3 ∧
  ∀ (t : Addr) (sh : Sh) (H' : Hp), But a H H' → ShAt H' t sh → Q (.ref t) H'
def spObj (A : Ad) : Sp := fun vs H Q _ => ∃ (t : Addr) (sh : Sh), vs = [.ref t] ∧ ShAt H t sh ∧ ∀ (x : Addr) (H' : Hp), Same H H' → ObAt A H' x sh → Q (.ref x) H'
def spDue : Sp := fun vs H Q _ => ∃ (t : Addr) (v : V) (sh : Sh), vs = [.ref t, v] ∧ ShAt H t sh ∧ Pl v ∧ ∀ H' : Hp, Same H H' → Q (.bl (hold sh v)) H'
def isL : Sh → Bool
  | .list => true
  | _ => false
def isR : Sh → Bool
  | .ref => true
  | _ => false
def spIsL (A : Ad) : Sp := fun vs H Q _ => ∃ (x : Addr) (sh : Sh), vs = [.ref x] ∧ ObAt A H x sh ∧ Q (.bl (isL sh)) H
def spIsR (A : Ad) : Sp := fun vs H Q _ => ∃ (x : Addr) (sh : Sh), vs = [.ref x] ∧ ObAt A H x sh ∧ Q (.bl (isR sh)) H
def spLink (A : Ad) : Sp := fun vs H Q _ => ∃ (x : Addr) (sh : Sh), vs = [.ref x] ∧ ObAt A H x sh ∧ Q (.bl (isR sh || isL sh)) H
def spBlank (A : Ad) : Sp := fun vs H Q _ => ∃ (x : Addr) (sh : Sh), vs = [.ref x] ∧ ObAt A H x sh ∧ (isL sh = true → ∀ p, H p = none → Q (.ref p) (upd H p (.lst []))) ∧ (isL sh = false → Q .non H)
def nm : Sh → Str
  | .int _ _ => "int"
  | .text _ _ => "text"
  | .one _ => "one"
  | .list => "list"
  | .ref => "ref"
theorem ShAt.name {H : Hp} {t : Addr} {sh : Sh} (h : ShAt H t sh) : ∃ r, H t = some (.tup (.str (nm sh) :: r)) := by
  cases sh with
  | int lo hi => exact ⟨_, h.1⟩
  | text n wo => exact ⟨_, h.1⟩
  | one zs => obtain ⟨l, a, _⟩ := h; exact ⟨_, a⟩
  | list => obtain ⟨l, xs, a, _⟩ := h; exact ⟨_, a⟩
  | ref => obtain ⟨l, xs, r, a, _⟩ := h; exact ⟨_, a⟩
theorem nm_list (sh : Sh) : decide (V.str (nm sh) = V.str "list") = isL sh := by
  cases sh with
  | list => exact decide_eq_true rfl
  | int _ _ => exact decide_eq_false (fun z => absurd (V.str.inj z) (by decide +kernel : ¬ ("int" : Str) = "list"))
  | text _ _ => exact decide_eq_false (fun z => absurd (V.str.inj z) (by decide +kernel : ¬ ("text" : Str) = "list"))
  | one _ => exact decide_eq_false (fun z => absurd (V.str.inj z) (by decide +kernel : ¬ ("one" : Str) = "list"))
  | ref => exact decide_eq_false (fun z => absurd (V.str.inj z) (by decide +kernel : ¬ ("ref" : Str) = "list"))
theorem nm_ref (sh : Sh) : decide (V.str (nm sh) = V.str "ref") = isR sh := by
  cases sh with
  | ref => exact decide_eq_true rfl
  | int _ _ => exact decide_eq_false (fun z => absurd (V.str.inj z) (by decide +kernel : ¬ ("int" : Str) = "ref"))
  | text _ _ => exact decide_eq_false (fun z => absurd (V.str.inj z) (by decide +kernel : ¬ ("text" : Str) = "ref"))
  | one _ => exact decide_eq_false (fun z => absurd (V.str.inj z) (by decide +kernel : ¬ ("one" : Str) = "ref"))
  | list => exact decide_eq_false (fun z => absurd (V.str.inj z) (by decide +kernel : ¬ ("list" : Str) = "ref"))
theorem in_range (lo hi i : Int) : inV (.int i) (rgV lo (hi + 1)) = (decide (lo ≤ i) && decide (i ≤ hi)) := by
  rw [Bool.eq_iff_iff]
  unfold inV rgV
  rw [List.any_eq_true, Bool.and_eq_true, decide_eq_true_iff, decide_eq_true_iff]
  constructor
  · rintro ⟨v, hv, e⟩
    obtain ⟨j, hj, rfl⟩ := List.mem_map.mp hv
    have hj' := List.mem_range.mp hj
    have e' : lo + (j : Int) = i := by simpa [eqV] using e
    omega
  · rintro ⟨h1, h2⟩
    refine ⟨.int i, List.mem_map.mpr ⟨(i - lo).toNat, List.mem_range.mpr (by omega), ?_⟩, by simp [eqV]⟩
    congr 1
    omega
theorem find_no (z c : Str) : decide (Txt.find z c < 0) = (PySem.Builtin.Str.occurrences z c 0 z.length 1).isEmpty := by
  unfold Txt.find
  cases h : PySem.Builtin.Str.occurrences z c 0 z.length 1 with
  | nil => rfl
  | cons i r =>
    show decide ((i : Int) < 0) = false
    exact decide_eq_false (by omega)
section
variable {P : Program} {w : World} {K : PySem.W.Frag} {mg : Str → Option Value} {base : Heap} {A : Ad}
theorem sc__law_pick : FnScope ["draws", "row"] ["draws", "row"] (defScope (topS 14)) := ⟨rfl, rfl, rfl, by decide +kernel, rfl, by decide +kernel, by decide +kernel⟩
theorem ok__law_pick (T : Txt K mg A) : FnOk P w K mg base CX0 2 A.f__law_pick A.fd__law_pick ["draws", "row"] spPick := by
  refine T.F__law_pick.ok sc__law_pick (fun vs H Q E h => ?_) (fun cdv Ar outer s H vs Q E hr h => ?_)
  · obtain ⟨a, l, ms, xs, rfl, _⟩ := h
    rfl
  · obtain ⟨a, l, ms, xs, rfl, ha, hne, hl, hal, h0, h1, q⟩ := h
    refine ⟨_, (pss_one (ps_ret (pe_ix ix_list (pv 1) (pe_call (ok__law_draw T) (hr.mono (by decide)) (by rfl) T.g__law_draw T.F__law_draw.kp T.b__law_draw .nil pass0 (pa_cons (pv 0) (pa_cons (pe_callB call_len_seq rfl T.b_len PySem.boot_len (pa_cons (pv 1) pa_nil)) pa_nil))) (fun _ _ => rfl)))), ?_⟩
    refine ⟨_, rfl, _, rfl, _, rfl, l, xs, rfl, .inl (SqL.of hl), a, ms, xs.length, rfl, ha, hne, h0, h1, fun v ms' hv hne' => ?_⟩
    exact ⟨l, xs, (v : Int), xs[v], rfl, rfl, SqL.of ((upd_ne hal.symm).trans hl), atI_nat (List.getElem?_eq_getElem hv), q _ ms' (List.getElem_mem hv) hne'⟩
theorem sc__law_shape : FnScope ["draws", "names", "choice", "low", "start", "told"] ["draws", "names"] (defScope (topS 15)) := ⟨rfl, rfl, rfl, by decide +kernel, rfl, by decide +kernel, by decide +kernel⟩
theorem ok__law_shape (T : Txt K mg A) : FnOk P w K mg base CX0 3 A.f__law_shape A.fd__law_shape ["draws", "names"] spShape := by
  refine T.F__law_shape.ok sc__law_shape (fun vs H Q E h => ?_) (fun cdv Ar outer s H vs Q E hr h => ?_)
  · obtain ⟨a, nl, ms, xs, rfl, _⟩ := h
    rfl
  · obtain ⟨a, nl, ms, xs, rfl, ha, hne, hl, hal, h3, q⟩ := h
    refine ⟨_, (pss_cons (ps_set (i := 2) sc__law_shape.nd rfl (.inl rfl) (pe_call (ok__law_draw T) (hr.mono (by decide)) (by rfl) T.g__law_draw T.F__law_draw.kp T.b__law_draw .nil pass0 (pa_cons (pv 0) (pa_cons pe_int pa_nil))))
 (pss_cons (ps_if (pt_cmpR op_eq (pv 2) pe_int (nomark _))
 (pss_cons (ps_set (i := 3) sc__law_shape.nd rfl (.inl rfl) (pe_op op_sub (pe_call (ok__law_draw T) (hr.mono (by decide)) (by rfl) T.g__law_draw T.F__law_draw.kp T.b__law_draw .nil pass0 (pa_cons (pv 0) (pa_cons pe_int pa_nil))) pe_int))
 (pss_one (ps_ret (pe_tup (pa_cons pe_str (pa_cons (pv 3) (pa_cons (pe_op op_add (pv 3) (pe_call (ok__law_draw T) (hr.mono (by decide)) (by rfl) T.g__law_draw T.F__law_draw.kp T.b__law_draw .nil pass0 (pa_cons (pv 0) (pa_cons pe_int pa_nil)))) pa_nil)))))))
 pss_nil)
 (pss_cons (ps_if (pt_cmpR op_eq (pv 2) pe_int (nomark _))
 (pss_one (ps_ret (pe_tup (pa_cons pe_str (pa_cons (pe_op op_add pe_int (pe_call (ok__law_draw T) (hr.mono (by decide)) (by rfl) T.g__law_draw T.F__law_draw.kp T.b__law_draw .nil pass0 (pa_cons (pv 0) (pa_cons pe_int pa_nil)))) (pa_cons (pe_call (ok__law_pick T) (hr.mono (by decide)) (by rfl) T.g__law_pick T.F__law_pick.kp T.b__law_pick .nil pass0 (pa_cons (pv 0) (pa_cons (pe_lst (pa_cons pe_non (pa_cons pe_non (pa_cons pe_str (pa_cons pe_str pa_nil))))) pa_nil))) pa_nil))))))
 pss_nil)
 (pss_cons (ps_if (pt_cmpR op_eq (pv 2) pe_int (nomark _))
 (pss_one (ps_ret (pe_tup (pa_cons pe_str (pa_cons (pe_slice sl_list (pe_lst (pa_cons pe_str (pa_cons pe_str (pa_cons pe_str (pa_cons pe_str pa_nil))))) po_none (po_some (pe_op op_add pe_int (pe_call (ok__law_draw T) (hr.mono (by decide)) (by rfl) T.g__law_draw T.F__law_draw.kp T.b__law_draw .nil pass0 (pa_cons (pv 0) (pa_cons pe_int pa_nil)))))) pa_nil)))))
 pss_nil)
 (pss_cons (ps_set (i := 4) sc__law_shape.nd rfl (.inl rfl) (pe_call (ok__law_draw T) (hr.mono (by decide)) (by rfl) T.g__law_draw T.F__law_draw.kp T.b__law_draw .nil pass0 (pa_cons (pv 0) (pa_cons (pe_callB call_len_seq rfl T.b_len PySem.boot_len (pa_cons (pv 1) pa_nil)) pa_nil))))
 (pss_cons (ps_set (i := 5) sc__law_shape.nd rfl (.inl rfl) (pe_slice sl_list (pe_op op_cat (pv 1) (pv 1)) (po_some (pv 4)) (po_some (pe_op op_add (pe_op op_add (pv 4) pe_int) (pe_call (ok__law_draw T) (hr.mono (by decide)) (by rfl) T.g__law_draw T.F__law_draw.kp T.b__law_draw .nil pass0 (pa_cons (pv 0) (pa_cons (pe_callB call_len_seq rfl T.b_len PySem.boot_len (pa_cons (pv 1) pa_nil)) pa_nil)))))))
 (pss_cons (ps_if (pt_cmpR op_eq (pv 2) pe_int (nomark _))
 (pss_one (ps_ret (pe_tup (pa_cons pe_str (pa_cons (pv 5) pa_nil)))))
 pss_nil)
 (pss_one (ps_ret (pe_tup (pa_cons pe_str (pa_cons (pv 5) (pa_cons (pe_call (ok__law_pick T) (hr.mono (by decide)) (by rfl) T.g__law_pick T.F__law_pick.kp T.b__law_pick .nil pass0 (pa_cons (pv 0) (pa_cons (pe_lst (pa_cons pe_str (pa_cons pe_str (pa_cons pe_str pa_nil)))) pa_nil))) pa_nil))))))))))))), ?_⟩
    refine ⟨_, rfl, a, ms, 6, rfl, ha, hne, by decide, by decide, fun c m1 hc nc => ?_⟩
    have b1 : But a H (upd H a (.lst (m1.map V.int))) := But.refl.at
    have l1 : (upd H a (.lst (m1.map V.int))) nl = some (.lst xs) := b1 _ _ hal.symm hl
    refine ⟨_, rfl, rfl, _, rfl, ite2 (fun _ => ?_) (fun _ => ?_)⟩
    · refine ⟨_, rfl, a, m1, 7, rfl, upd_same, nc, by decide, by decide, fun v m2 hv nv => ⟨_, _, rfl, rfl, ?_⟩⟩
      refine ⟨_, rfl, _, rfl, _, rfl, a, m2, 5, rfl, upd_same, nv, by decide, by decide, fun u m3 hu nu => ⟨_, _, rfl, rfl, (by show 3 ≤ sizeLine; decide), fun t ht => ?_⟩⟩
      exact q t (.int _ _) _ ((b1.at.at).new ht) ⟨upd_same, by omega, by omega, by omega, by omega⟩
    refine ⟨_, rfl, rfl, _, rfl, ite2 (fun _ => ?_) (fun _ => ?_)⟩
    · refine ⟨_, rfl, a, m1, 6, rfl, upd_same, nc, by decide, by decide, fun v m2 hv nv => ⟨_, _, rfl, rfl, ?_⟩⟩
      refine ⟨_, rfl, (by show 4 ≤ sizeLine; decide), fun l hl2 => ?_⟩
      have nal : a ≠ l := ne_of_none upd_same hl2
      refine ⟨a, l, m2, _, rfl, (upd_ne nal).trans upd_same, nv, upd_same, nal, (by show 0 < 4; decide), (by show 4 < 1000; decide), fun v2 m4 hv2 hn4 => ⟨(by show 3 ≤ sizeLine; decide), fun t ht => ?_⟩⟩
      refine q t (.text _ v2) _ ((((b1.at).new hl2).at).new ht) ⟨upd_same, ?_⟩
      rcases List.mem_cons.mp hv2 with e | hv2
      · exact .inl e
      rcases List.mem_cons.mp hv2 with e | hv2
      · exact .inl e
      rcases List.mem_cons.mp hv2 with e | hv2
      · exact .inr ⟨_, e⟩
      rcases List.mem_cons.mp hv2 with e | hv2
      · exact .inr ⟨_, e⟩
      cases hv2
    refine ⟨_, rfl, rfl, _, rfl, ite2 (fun _ => ?_) (fun _ => ?_)⟩
    · refine ⟨(by show 4 ≤ sizeLine; decide), fun l hl2 => ?_⟩
      have nal : a ≠ l := ne_of_none upd_same hl2
      refine ⟨_, rfl, a, m1, 4, rfl, ((upd_ne nal).trans upd_same), nc, by decide, by decide, fun v m2 hv nv => ⟨_, _, rfl, rfl, _, rfl, l, _, rfl, SqL.of ((upd_ne nal.symm).trans upd_same), fun p hp => ⟨(by show 2 ≤ sizeLine; decide), fun t ht => ?_⟩⟩⟩
      obtain ⟨ys, ey⟩ := cut_strs ["a", "b c", "\"", "d\\"] none (some (1 + (v : Int)))
      refine q t (.one ys) _ ((((b1.new hl2).at).new hp).new ht) ⟨p, upd_same, ?_⟩
      rw [upd_ne (ne_of_none upd_same ht), upd_same, ← ey]
      rfl
    refine ⟨_, rfl, _, rfl, nl, xs, rfl, .inl (SqL.of l1), a, m1, 3, (by rw [h3]; rfl), upd_same, nc, by decide, by decide, fun st m2 hst nst => ?_⟩
    have b2 : But a H (upd (upd H a (.lst (m1.map V.int))) a (.lst (m2.map V.int))) := b1.at
    have l2 := b2 _ _ hal.symm hl
    refine ⟨_, rfl, _, rfl, nl, nl, xs, xs, rfl, rfl, l2, l2, (by rw [h3]; decide), fun k hk => ?_⟩
    have nak : a ≠ k := ne_of_none upd_same hk
    refine ⟨_, rfl, _, rfl, _, rfl, _, _, rfl, rfl, _, rfl, _, rfl, nl, xs, rfl, .inl (SqL.of ((upd_ne (ne_of_none l2 hk)).trans l2)), a, m2, 3, (by rw [h3]; rfl), (upd_ne nak).trans upd_same, nst, by decide, by decide, fun e m3 he ne3 => ?_⟩
    refine ⟨_, _, rfl, rfl, _, rfl, k, _, rfl, SqL.of ((upd_ne nak.symm).trans upd_same), fun p hp => ?_⟩
    have nap : a ≠ p := ne_of_none upd_same hp
    have b3 := (((b2.new (o := .lst (xs ++ xs)) hk).at (o := .lst (m3.map V.int))).new (o := .lst (cutV (xs ++ xs) (some (st : Int)) (some ((st : Int) + 1 + (e : Int))))) hp)
    refine ⟨_, rfl, rfl, _, rfl, ite2 (fun _ => ?_) (fun _ => ?_)⟩
    · refine ⟨_, rfl, (by show 2 ≤ sizeLine; decide), fun t ht => ?_⟩
      exact q t .list _ (b3.new ht) ⟨p, _, upd_same, (upd_ne (ne_of_none upd_same ht)).trans upd_same⟩
    · refine ⟨_, rfl, _, rfl, (by show 3 ≤ sizeLine; decide), fun l hl2 => ?_⟩
      have nal : a ≠ l := ne_of_none ((upd_ne nap).trans upd_same) hl2
      have npl : p ≠ l := ne_of_none upd_same hl2
      refine ⟨a, l, m3, _, rfl, (upd_ne nal).trans ((upd_ne nap).trans upd_same), ne3, upd_same, nal, (by show 0 < 3; decide), (by show 3 < 1000; decide), fun v2 m4 hv2 hn4 => ⟨(by show 3 ≤ sizeLine; decide), fun t ht => ?_⟩⟩
      have es : ∃ r, v2 = .str r := by
        rcases List.mem_cons.mp hv2 with e | hv2
        · exact ⟨_, e⟩
        rcases List.mem_cons.mp hv2 with e | hv2
        · exact ⟨_, e⟩
        rcases List.mem_cons.mp hv2 with e | hv2
        · exact ⟨_, e⟩
        cases hv2
      obtain ⟨r, rfl⟩ := es
      have hp4 : (upd (upd (upd (upd (upd (upd (upd H a (.lst (m1.map V.int))) a (.lst (m2.map V.int))) k (.lst (xs ++ xs))) a (.lst (m3.map V.int))) p (.lst (cutV (xs ++ xs) (some (st : Int)) (some ((st : Int) + 1 + (e : Int)))))) l (.lst [.str "clears", .str "refuses", .str "takes"])) a (.lst (m4.map V.int))) p = some (.lst (cutV (xs ++ xs) (some (st : Int)) (some ((st : Int) + 1 + (e : Int))))) :=
        (upd_ne nap.symm).trans ((upd_ne npl).trans upd_same)
      exact q t .ref _ (((b3.new hl2).at).new ht) ⟨p, _, r, upd_same, (upd_ne (ne_of_none hp4 ht)).trans hp4⟩
theorem sc__law_object : FnScope ["shape"] ["shape"] (defScope (topS 16)) := ⟨rfl, rfl, rfl, by decide +kernel, rfl, by decide +kernel, by decide +kernel⟩
theorem ok__law_object (T : Txt K mg A) : FnOk P w K mg base CX0 3 A.f__law_object A.fd__law_object ["shape"] (spObj A) := by
  refine T.F__law_object.ok sc__law_object (fun vs H Q E h => ?_) (fun cdv Ar outer s H vs Q E hr h => ?_)
  · obtain ⟨t, sh, rfl, _⟩ := h
    rfl
  · obtain ⟨t, sh, rfl, hsh, q⟩ := h
    refine ⟨_, (pss_cons (ps_if (pt_cmpR op_eq (pe_ix ix_tup (pv 0) pe_int (fun _ _ => rfl)) pe_str (nomark _))
 (pss_one (ps_ret (pe_make T.mk_IntSort (ok_IntSort___init__ T) (hr.mono (by decide)) (by rfl) T.g_IntSort T.b_IntSort___init__ .nil pass0 (pa_cons (pe_ix ix_tup (pv 0) pe_int (fun _ _ => rfl)) (pa_cons (pe_ix ix_tup (pv 0) pe_int (fun _ _ => rfl)) pa_nil)))))
 pss_nil)
 (pss_cons (ps_if (pt_cmpR op_eq (pe_ix ix_tup (pv 0) pe_int (fun _ _ => rfl)) pe_str (nomark _))
 (pss_one (ps_ret (pe_make T.mk_TextSort (ok_TextSort___init__ T) (hr.mono (by decide)) (by rfl) T.g_TextSort T.b_TextSort___init__ .nil pass0 (pa_cons (pe_ix ix_tup (pv 0) pe_int (fun _ _ => rfl)) (pa_cons (pe_ix ix_tup (pv 0) pe_int (fun _ _ => rfl)) pa_nil)))))
 pss_nil)
 (pss_cons (ps_if (pt_cmpR op_eq (pe_ix ix_tup (pv 0) pe_int (fun _ _ => rfl)) pe_str (nomark _))
 (pss_one (ps_ret (pe_make T.mk_ChoiceSort (ok_ChoiceSort___init__ T) (hr.mono (by decide)) (by rfl) T.g_ChoiceSort T.b_ChoiceSort___init__ .nil pass0 (pa_cons (pe_ix ix_tup (pv 0) pe_int (fun _ _ => rfl)) pa_nil))))
 pss_nil)
 (pss_cons (ps_if (pt_cmpR op_eq (pe_ix ix_tup (pv 0) pe_int (fun _ _ => rfl)) pe_str (nomark _))
 (pss_one (ps_ret (pe_make T.mk_ListSort (ok_ListSort___init__ T) (hr.mono (by decide)) (by rfl) T.g_ListSort T.b_ListSort___init__ .nil pass0 (pa_cons (pe_ix ix_tup (pv 0) pe_int (fun _ _ => rfl)) pa_nil))))
 pss_nil)
 (pss_one (ps_ret (pe_make T.mk_RefSort (ok_RefSort___init__ T) (hr.mono (by decide)) (by rfl) T.g_RefSort T.b_RefSort___init__ .nil pass0 (pa_cons (pe_ix ix_tup (pv 0) pe_int (fun _ _ => rfl)) (pa_cons (pe_ix ix_tup (pv 0) pe_int (fun _ _ => rfl)) pa_nil))))))))), ?_⟩
    cases sh with
    | int lo hi =>
      have hT := hsh.1
      refine ⟨_, rfl, t, _, 0, _, rfl, rfl, SqT.of hT, atI_nat (j := 0) rfl, rfl, _, rfl, strT rfl ?_⟩
      refine ⟨_, rfl, t, _, 1, _, rfl, rfl, SqT.of hT, atI_nat (j := 1) rfl, _, rfl, t, _, 2, _, rfl, rfl, SqT.of hT, atI_nat (j := 2) rfl, fun x dx hx hdx ne => ?_⟩
      refine ⟨x, dx, _, _, rfl, upd_same, rfl, ?_⟩
      rw [upd_upd]
      exact q x _ (same_made hx hdx) ⟨dx, upd_same⟩
    | text n wo =>
      have hT := hsh.1
      refine ⟨_, rfl, t, _, 0, _, rfl, rfl, SqT.of hT, atI_nat (j := 0) rfl, rfl, _, rfl, strF (by decide +kernel) ?_⟩
      refine ⟨_, rfl, t, _, 0, _, rfl, rfl, SqT.of hT, atI_nat (j := 0) rfl, rfl, _, rfl, strT rfl ?_⟩
      refine ⟨_, rfl, t, _, 1, _, rfl, rfl, SqT.of hT, atI_nat (j := 1) rfl, _, rfl, t, _, 2, _, rfl, rfl, SqT.of hT, atI_nat (j := 2) rfl, fun x dx hx hdx ne => ?_⟩
      refine ⟨x, dx, _, _, rfl, upd_same, rfl, ?_⟩
      rw [upd_upd]
      exact q x _ (same_made hx hdx) ⟨⟨dx, upd_same⟩, hsh.2⟩
    | one zs =>
      obtain ⟨l, hT, hl⟩ := hsh
      refine ⟨_, rfl, t, _, 0, _, rfl, rfl, SqT.of hT, atI_nat (j := 0) rfl, rfl, _, rfl, strF (by decide +kernel) ?_⟩
      refine ⟨_, rfl, t, _, 0, _, rfl, rfl, SqT.of hT, atI_nat (j := 0) rfl, rfl, _, rfl, strF (by decide +kernel) ?_⟩
      refine ⟨_, rfl, t, _, 0, _, rfl, rfl, SqT.of hT, atI_nat (j := 0) rfl, rfl, _, rfl, strT rfl ?_⟩
      refine ⟨_, rfl, t, _, 1, _, rfl, rfl, SqT.of hT, atI_nat (j := 1) rfl, fun x dx hx hdx ne => ?_⟩
      have hl' : (upd (upd H dx (.own x)) x (.ins A.C_ChoiceSort dx [])) l = some (.lst (zs.map V.str)) := same_two hx hdx _ _ hl
      refine ⟨x, dx, l, _, rfl, upd_same, SqL.of hl', fun c hc => ⟨rfl, ?_⟩⟩
      have ncx : c ≠ x := fun z => by
        rw [z, upd_same] at hc
        cases hc
      refine q x _ (same_three hx hdx hc) ⟨dx, c, upd_same, (upd_ne ncx).trans upd_same⟩
    | list =>
      obtain ⟨l, xs, hT, hl⟩ := hsh
      refine ⟨_, rfl, t, _, 0, _, rfl, rfl, SqT.of hT, atI_nat (j := 0) rfl, rfl, _, rfl, strF (by decide +kernel) ?_⟩
      refine ⟨_, rfl, t, _, 0, _, rfl, rfl, SqT.of hT, atI_nat (j := 0) rfl, rfl, _, rfl, strF (by decide +kernel) ?_⟩
      refine ⟨_, rfl, t, _, 0, _, rfl, rfl, SqT.of hT, atI_nat (j := 0) rfl, rfl, _, rfl, strF (by decide +kernel) ?_⟩
      refine ⟨_, rfl, t, _, 0, _, rfl, rfl, SqT.of hT, atI_nat (j := 0) rfl, rfl, _, rfl, strT rfl ?_⟩
      refine ⟨_, rfl, t, _, 1, _, rfl, rfl, SqT.of hT, atI_nat (j := 1) rfl, fun x dx hx hdx ne => ?_⟩
      have hl' : (upd (upd H dx (.own x)) x (.ins A.C_ListSort dx [])) l = some (.lst xs) := same_two hx hdx _ _ hl
      exact ⟨x, dx, l, _, rfl, upd_same, SqL.of hl', fun c hc => ⟨rfl, q x _ (same_three hx hdx hc) ⟨dx, c, upd_same⟩⟩⟩
    | ref =>
      obtain ⟨l, xs, r, hT, hl⟩ := hsh
      refine ⟨_, rfl, t, _, 0, _, rfl, rfl, SqT.of hT, atI_nat (j := 0) rfl, rfl, _, rfl, strF (by decide +kernel) ?_⟩
      refine ⟨_, rfl, t, _, 0, _, rfl, rfl, SqT.of hT, atI_nat (j := 0) rfl, rfl, _, rfl, strF (by decide +kernel) ?_⟩
      refine ⟨_, rfl, t, _, 0, _, rfl, rfl, SqT.of hT, atI_nat (j := 0) rfl, rfl, _, rfl, strF (by decide +kernel) ?_⟩
      refine ⟨_, rfl, t, _, 0, _, rfl, rfl, SqT.of hT, atI_nat (j := 0) rfl, rfl, _, rfl, strF (by decide +kernel) ?_⟩
      refine ⟨_, rfl, t, _, 1, _, rfl, rfl, SqT.of hT, atI_nat (j := 1) rfl, _, rfl, t, _, 2, _, rfl, rfl, SqT.of hT, atI_nat (j := 2) rfl, fun x dx hx hdx ne => ?_⟩
      have hl' : (upd (upd H dx (.own x)) x (.ins A.C_RefSort dx [])) l = some (.lst xs) := same_two hx hdx _ _ hl
      exact ⟨x, dx, l, _, _, rfl, upd_same, SqL.of hl', fun c hc => ⟨rfl, q x _ (same_three hx hdx hc) ⟨dx, c, r, upd_same⟩⟩⟩
theorem sc__law_due : FnScope ["shape", "value"] ["shape", "value"] (defScope (topS 17)) := ⟨rfl, rfl, rfl, by decide +kernel, rfl, by decide +kernel, by decide +kernel⟩
theorem ok__law_due (T : Txt K mg A) : FnOk P w K mg base CX0 1 A.f__law_due A.fd__law_due ["shape", "value"] spDue := by
  refine T.F__law_due.ok sc__law_due (fun vs H Q E h => ?_) (fun cdv Ar outer s H vs Q E hr h => ?_)
  · obtain ⟨t, v, sh, rfl, _⟩ := h
    rfl
  · obtain ⟨t, v, sh, rfl, hsh, hp, q⟩ := h
    refine ⟨_, (pss_cons (ps_if (pt_cmpR op_isN (pv 1) pe_non (nomark _))
 (pss_one (ps_ret (pe_cmpR op_ne (pe_ix ix_tup (pv 0) pe_int (fun _ _ => rfl)) pe_str (nomark _))))
 pss_nil)
 (pss_cons (ps_if (PW.pt (pw_or (pt_cmpR op_isB (pv 1) pe_bl (nomark _)) (pw_or1 (pt_cmpR op_isB (pv 1) pe_bl (nomark _)))))
 (pss_one (ps_ret pe_bl))
 pss_nil)
 (pss_cons (ps_if (pt_cmpR op_eq (pe_ix ix_tup (pv 0) pe_int (fun _ _ => rfl)) pe_str (nomark _))
 (pss_one (ps_ret (pe_and (pe_callB call_isi rfl T.b_isinstance (by decide +kernel) (pa_cons (pv 1) (pa_cons (pe_bltn (v := .ty "int") (u := .type "int") rfl T.b_int (by decide +kernel) rfl) pa_nil))) (pe_one (pe_cmpR op_in_seq (pv 1) (pe_listRg rfl rfl T.b_list (prg_2 rfl T.b_range (pe_ix ix_tup (pv 0) pe_int (fun _ _ => rfl)) (pe_op op_add (pe_ix ix_tup (pv 0) pe_int (fun _ _ => rfl)) pe_int))) (by rfl))))))
 pss_nil)
 (pss_cons (ps_if (pt_cmpR op_eq (pe_ix ix_tup (pv 0) pe_int (fun _ _ => rfl)) pe_str (nomark _))
 (pss_one (ps_ret (pe_and (pe_callB call_isi rfl T.b_isinstance (by decide +kernel) (pa_cons (pv 1) (pa_cons (pe_bltn (v := .ty "str") (u := .type "str") rfl T.b_str (by decide +kernel) rfl) pa_nil))) (pe_and (pe_cmpR op_le (pe_callB call_len_str rfl T.b_len PySem.boot_len (pa_cons (pv 1) pa_nil)) (pe_ix ix_tup (pv 0) pe_int (fun _ _ => rfl)) (nomark _)) (pe_one (pe_or (pe_cmpR op_isN (pe_ix ix_tup (pv 0) pe_int (fun _ _ => rfl)) pe_non (nomark _)) (pe_one (pe_cmpR op_lt (pe_m1 PySem.F.slot_str_find PySem.F.type_str_find mt_find (pv 1) (pe_ix ix_tup (pv 0) pe_int (fun _ _ => rfl))) pe_int (nomark _)))))))))
 pss_nil)
 (pss_cons (ps_if (pt_cmpR op_eq (pe_ix ix_tup (pv 0) pe_int (fun _ _ => rfl)) pe_str (nomark _))
 (pss_one (ps_ret (pe_and (pe_callB call_isi rfl T.b_isinstance (by decide +kernel) (pa_cons (pv 1) (pa_cons (pe_bltn (v := .ty "str") (u := .type "str") rfl T.b_str (by decide +kernel) rfl) pa_nil))) (pe_one (pe_cmpR op_in_seq (pv 1) (pe_ix ix_tup (pv 0) pe_int (fun _ _ => rfl)) (by rfl))))))
 pss_nil)
 (pss_one (ps_ret pe_bl))))))), ?_⟩
    obtain ⟨rT, hT⟩ := hsh.name
    refine ⟨_, rfl, rfl, _, rfl, ite2 (fun e => ?_) (fun e => ?_)⟩
    · have e' := of_decide_eq_true e
      subst e'
      refine ⟨_, rfl, t, _, 0, _, rfl, rfl, SqT.of hT, atI_nat (j := 0) rfl, rfl, ?_⟩
      have e2 : hold sh .non = !decide (V.str (nm sh) = V.str "list") := by
        rw [nm_list]
        cases sh <;> rfl
      have q2 := q H (Same.refl H)
      rw [e2] at q2
      exact q2
    have e' : v ≠ .non := fun z => e (decide_eq_true z)
    by_cases hB : isB v = true
    · have e3 : hold sh v = false := by
        cases v with
        | bl b => cases sh <;> rfl
        | _ => exact absurd (show false = true from hB) Bool.false_ne_true
      have q2 := q H (Same.refl H)
      rw [e3] at q2
      refine ⟨_, rfl, hp.flat, _, rfl, _, rfl, ite2 (fun _ => iteT q2) (fun e4 => ?_)⟩
      refine ⟨_, rfl, hp.flat, _, rfl, _, rfl, ite2 (fun _ => q2) (fun e5 => ?_)⟩
      cases v with
      | bl b =>
        cases b with
        | true => exact absurd (decide_eq_true rfl) e4
        | false => exact absurd (decide_eq_true rfl) e5
      | _ => exact absurd (show false = true from hB) Bool.false_ne_true
    have nb : ∀ b, v ≠ .bl b := fun b z => hB (by
      rw [z]
      rfl)
    refine ⟨_, rfl, hp.flat, _, rfl, _, rfl, ite2 (fun e4 => absurd (of_decide_eq_true e4) (nb _)) (fun _ => ?_)⟩
    refine ⟨_, rfl, hp.flat, _, rfl, _, rfl, ite2 (fun e4 => absurd (of_decide_eq_true e4) (nb _)) (fun _ => ?_)⟩
    clear rT hT
    have qs := q H (Same.refl H)
    cases sh with
    | int lo hi =>
      have hT := hsh.1
      obtain ⟨_, b1, b2, b3, b4⟩ := hsh
      refine ⟨_, rfl, t, _, 0, _, rfl, rfl, SqT.of hT, atI_nat (j := 0) rfl, rfl, _, rfl, strT rfl ?_⟩
      refine ⟨_, rfl, v, _, _, _, _, rfl, .ty "int", hp.ty, hp.isI, _, rfl, ite2 (fun e1 => ?_) (fun e1 => ?_)⟩
      · cases v with
        | int i =>
          refine ⟨_, rfl, _, rfl, t, _, 1, _, rfl, rfl, SqT.of hT, atI_nat (j := 1) rfl, _, rfl, t, _, 2, _, rfl, rfl, SqT.of hT, atI_nat (j := 2) rfl, _, _, rfl, rfl, lo, hi + 1, rfl, rfl, ⟨by omega, by omega, by omega, by omega, by omega⟩, fun l hl => ?_⟩
          refine ⟨l, _, rfl, .inl (SqL.of upd_same), rfl, ?_, ?_⟩
          · unfold rgV
            rw [List.all_map]
            exact List.all_eq_true.mpr fun _ _ => rfl
          · have q2 := q _ (same_new (o := .lst (rgV lo (hi + 1))) hl)
            have e6 : hold (.int lo hi) (.int i) = inV (.int i) (rgV lo (hi + 1)) := (in_range lo hi i).symm
            rw [e6] at q2
            exact q2
        | bl b => exact absurd rfl (nb b)
        | non => exact absurd rfl e'
        | str z => exact absurd (show false = true from e1) Bool.false_ne_true
        | _ => exact hp.elim
      · cases v with
        | str z => exact qs
        | int i => exact absurd rfl e1
        | bl b => exact absurd rfl e1
        | non => exact absurd rfl e'
        | _ => exact hp.elim
    | text n wo =>
      have hT := hsh.1
      refine ⟨_, rfl, t, _, 0, _, rfl, rfl, SqT.of hT, atI_nat (j := 0) rfl, rfl, _, rfl, strF (by decide +kernel) ?_⟩
      refine ⟨_, rfl, t, _, 0, _, rfl, rfl, SqT.of hT, atI_nat (j := 0) rfl, rfl, _, rfl, strT rfl ?_⟩
      refine ⟨_, rfl, v, _, _, _, _, rfl, .ty "str", hp.ty, hp.isS, _, rfl, ite2 (fun e1 => ?_) (fun e1 => ?_)⟩
      · cases v with
        | str z =>
          have hz : z.length ≤ sizeLine := Nat.le_trans hp (by decide)
          refine ⟨_, rfl, z, rfl, hz, _, rfl, t, _, 1, _, rfl, rfl, SqT.of hT, atI_nat (j := 1) rfl, _, _, rfl, rfl, _, rfl, ite2 (fun e2 => ?_) (fun e2 => ?_)⟩
          · have e3 : hold (.text n wo) (.str z) = okW z wo := by
              show (decide ((z.length : Int) ≤ n) && okW z wo) = okW z wo
              rw [e2, Bool.true_and]
            refine ⟨_, rfl, t, _, 2, _, rfl, rfl, SqT.of hT, atI_nat (j := 2) rfl, rfl, _, rfl, ite2 (fun e4 => ?_) (fun e4 => ?_)⟩
            · have e5 := of_decide_eq_true e4
              subst e5
              rw [e3] at qs
              exact qs
            · rcases hsh.2 with hw | ⟨c, rfl⟩
              · exact absurd (decide_eq_true hw) e4
              · refine ⟨_, rfl, ⟨z, rfl⟩, _, rfl, t, _, 2, _, rfl, rfl, SqT.of hT, atI_nat (j := 2) rfl, z, c, rfl, rfl, _, _, rfl, rfl, ?_⟩
                rw [e3, show okW z (.str c) = (PySem.Builtin.Str.occurrences z c 0 z.length 1).isEmpty from rfl, ← find_no] at qs
                exact qs
          · have e3 : hold (.text n wo) (.str z) = false := by
              show (decide ((z.length : Int) ≤ n) && _) = false
              rw [Bool.eq_false_iff.mpr e2, Bool.false_and]
            rw [e3] at qs
            exact qs
        | int i => exact absurd (show false = true from e1) Bool.false_ne_true
        | bl b => exact absurd rfl (nb b)
        | non => exact absurd rfl e'
        | _ => exact hp.elim
      · cases v with
        | str z => exact absurd rfl e1
        | int i => exact qs
        | bl b => exact absurd rfl (nb b)
        | non => exact absurd rfl e'
        | _ => exact hp.elim
    | one zs =>
      obtain ⟨l, hT, hl⟩ := hsh
      refine ⟨_, rfl, t, _, 0, _, rfl, rfl, SqT.of hT, atI_nat (j := 0) rfl, rfl, _, rfl, strF (by decide +kernel) ?_⟩
      refine ⟨_, rfl, t, _, 0, _, rfl, rfl, SqT.of hT, atI_nat (j := 0) rfl, rfl, _, rfl, strF (by decide +kernel) ?_⟩
      refine ⟨_, rfl, t, _, 0, _, rfl, rfl, SqT.of hT, atI_nat (j := 0) rfl, rfl, _, rfl, strT rfl ?_⟩
      refine ⟨_, rfl, v, _, _, _, _, rfl, .ty "str", hp.ty, hp.isS, _, rfl, ite2 (fun e1 => ?_) (fun e1 => ?_)⟩
      · cases v with
        | str z => exact ⟨_, rfl, _, rfl, t, _, 1, _, rfl, rfl, SqT.of hT, atI_nat (j := 1) rfl, l, _, rfl, .inl (SqL.of hl), rfl, flat_strs zs, qs⟩
        | int i => exact absurd (show false = true from e1) Bool.false_ne_true
        | bl b => exact absurd rfl (nb b)
        | non => exact absurd rfl e'
        | _ => exact hp.elim
      · cases v with
        | str z => exact absurd rfl e1
        | int i => exact qs
        | bl b => exact absurd rfl (nb b)
        | non => exact absurd rfl e'
        | _ => exact hp.elim
    | list =>
      obtain ⟨l, xs, hT, hl⟩ := hsh
      refine ⟨_, rfl, t, _, 0, _, rfl, rfl, SqT.of hT, atI_nat (j := 0) rfl, rfl, _, rfl, strF (by decide +kernel) ?_⟩
      refine ⟨_, rfl, t, _, 0, _, rfl, rfl, SqT.of hT, atI_nat (j := 0) rfl, rfl, _, rfl, strF (by decide +kernel) ?_⟩
      refine ⟨_, rfl, t, _, 0, _, rfl, rfl, SqT.of hT, atI_nat (j := 0) rfl, rfl, _, rfl, strF (by decide +kernel) ?_⟩
      exact qs
    | ref =>
      obtain ⟨l, xs, r, hT, hl⟩ := hsh
      refine ⟨_, rfl, t, _, 0, _, rfl, rfl, SqT.of hT, atI_nat (j := 0) rfl, rfl, _, rfl, strF (by decide +kernel) ?_⟩
      refine ⟨_, rfl, t, _, 0, _, rfl, rfl, SqT.of hT, atI_nat (j := 0) rfl, rfl, _, rfl, strF (by decide +kernel) ?_⟩
      refine ⟨_, rfl, t, _, 0, _, rfl, rfl, SqT.of hT, atI_nat (j := 0) rfl, rfl, _, rfl, strF (by decide +kernel) ?_⟩
      cases v <;> first | exact qs | exact absurd rfl e'
theorem sc_is_list : FnScope ["shape"] ["shape"] (defScope (topS 8)) := ⟨rfl, rfl, rfl, by decide +kernel, rfl, by decide +kernel, by decide +kernel⟩
theorem ok_is_list (T : Txt K mg A) : FnOk P w K mg base CX0 1 A.f_is_list A.fd_is_list ["shape"] (spIsL A) := by
  refine T.F_is_list.ok sc_is_list (fun vs H Q E h => ?_) (fun cdv Ar outer s H vs Q E hr h => ?_)
  · obtain ⟨x, sh, rfl, _⟩ := h
    rfl
  · obtain ⟨x, sh, rfl, ho, q⟩ := h
    refine ⟨_, (pss_one (ps_ret (pe_callB call_isi rfl T.b_isinstance (by decide +kernel) (pa_cons (pv 0) (pa_cons (pe_glob (v := .ref A.C_ListSort) rfl T.g_ListSort rfl) pa_nil))))), ?_⟩
    cases sh with
    | int lo hi =>
      obtain ⟨dx, hx⟩ := ho
      exact ⟨_, rfl, _, _, _, _, _, rfl, .own _, T.ii_IntSort _ _ _ _ hx, T.is_IntSort_ListSort, q⟩
    | text n wo =>
      obtain ⟨⟨dx, hx⟩, _⟩ := ho
      exact ⟨_, rfl, _, _, _, _, _, rfl, .own _, T.ii_TextSort _ _ _ _ hx, T.is_TextSort_ListSort, q⟩
    | one zs =>
      obtain ⟨dx, l, hx, _⟩ := ho
      exact ⟨_, rfl, _, _, _, _, _, rfl, .own _, T.ii_ChoiceSort _ _ _ _ hx, T.is_ChoiceSort_ListSort, q⟩
    | list =>
      obtain ⟨dx, l, hx⟩ := ho
      exact ⟨_, rfl, _, _, _, _, _, rfl, .own _, T.ii_ListSort _ _ _ _ hx, T.is_ListSort_ListSort, q⟩
    | ref =>
      obtain ⟨dx, l, r, hx⟩ := ho
      exact ⟨_, rfl, _, _, _, _, _, rfl, .own _, T.ii_RefSort _ _ _ _ hx, T.is_RefSort_ListSort, q⟩
theorem sc_is_reference : FnScope ["shape"] ["shape"] (defScope (topS 7)) := ⟨rfl, rfl, rfl, by decide +kernel, rfl, by decide +kernel, by decide +kernel⟩
theorem ok_is_reference (T : Txt K mg A) : FnOk P w K mg base CX0 1 A.f_is_reference A.fd_is_reference ["shape"] (spIsR A) := by
  refine T.F_is_reference.ok sc_is_reference (fun vs H Q E h => ?_) (fun cdv Ar outer s H vs Q E hr h => ?_)
  · obtain ⟨x, sh, rfl, _⟩ := h
    rfl
  · obtain ⟨x, sh, rfl, ho, q⟩ := h
    refine ⟨_, (pss_one (ps_ret (pe_callB call_isi rfl T.b_isinstance (by decide +kernel) (pa_cons (pv 0) (pa_cons (pe_glob (v := .ref A.C_RefSort) rfl T.g_RefSort rfl) pa_nil))))), ?_⟩
    cases sh with
    | int lo hi =>
      obtain ⟨dx, hx⟩ := ho
      exact ⟨_, rfl, _, _, _, _, _, rfl, .own _, T.ii_IntSort _ _ _ _ hx, T.is_IntSort_RefSort, q⟩
    | text n wo =>
      obtain ⟨⟨dx, hx⟩, _⟩ := ho
      exact ⟨_, rfl, _, _, _, _, _, rfl, .own _, T.ii_TextSort _ _ _ _ hx, T.is_TextSort_RefSort, q⟩
    | one zs =>
      obtain ⟨dx, l, hx, _⟩ := ho
      exact ⟨_, rfl, _, _, _, _, _, rfl, .own _, T.ii_ChoiceSort _ _ _ _ hx, T.is_ChoiceSort_RefSort, q⟩
    | list =>
      obtain ⟨dx, l, hx⟩ := ho
      exact ⟨_, rfl, _, _, _, _, _, rfl, .own _, T.ii_ListSort _ _ _ _ hx, T.is_ListSort_RefSort, q⟩
    | ref =>
      obtain ⟨dx, l, r, hx⟩ := ho
      exact ⟨_, rfl, _, _, _, _, _, rfl, .own _, T.ii_RefSort _ _ _ _ hx, T.is_RefSort_RefSort, q⟩
theorem sc_is_link : FnScope ["shape"] ["shape"] (defScope (topS 9)) := ⟨rfl, rfl, rfl, by decide +kernel, rfl, by decide +kernel, by decide +kernel⟩
theorem ok_is_link (T : Txt K mg A) : FnOk P w K mg base CX0 2 A.f_is_link A.fd_is_link ["shape"] (spLink A) := by
  refine T.F_is_link.ok sc_is_link (fun vs H Q E h => ?_) (fun cdv Ar outer s H vs Q E hr h => ?_)
  · obtain ⟨x, sh, rfl, _⟩ := h
    rfl
  · obtain ⟨x, sh, rfl, ho, q⟩ := h
    refine ⟨_, (pss_one (ps_ret (pe_or (pe_call (ok_is_reference T) (hr.mono (by decide)) (by rfl) T.g_is_reference T.F_is_reference.kp T.b_is_reference .nil pass0 (pa_cons (pv 0) pa_nil)) (pe_one (pe_call (ok_is_list T) (hr.mono (by decide)) (by rfl) T.g_is_list T.F_is_list.kp T.b_is_list .nil pass0 (pa_cons (pv 0) pa_nil)))))), ?_⟩
    refine ⟨_, rfl, x, sh, rfl, ho, _, rfl, ite2 (fun e => ?_) (fun e => ?_)⟩
    · rw [e, Bool.true_or] at q
      exact q
    · rw [Bool.eq_false_iff.mpr e, Bool.false_or] at q
      exact ⟨_, rfl, x, sh, rfl, ho, q⟩
theorem sc_blank : FnScope ["shape"] ["shape"] (defScope (topS 10)) := ⟨rfl, rfl, rfl, by decide +kernel, rfl, by decide +kernel, by decide +kernel⟩
theorem ok_blank (T : Txt K mg A) : FnOk P w K mg base CX0 2 A.f_blank A.fd_blank ["shape"] (spBlank A) := by
  refine T.F_blank.ok sc_blank (fun vs H Q E h => ?_) (fun cdv Ar outer s H vs Q E hr h => ?_)
  · obtain ⟨x, sh, rfl, _⟩ := h
    rfl
  · obtain ⟨x, sh, rfl, ho, q1, q2⟩ := h
    refine ⟨_, (pss_one (ps_ret (pe_ifExp (pt_val (pe_call (ok_is_list T) (hr.mono (by decide)) (by rfl) T.g_is_list T.F_is_list.kp T.b_is_list .nil pass0 (pa_cons (pv 0) pa_nil))) (pe_lst pa_nil) pe_non))), ?_⟩
    refine ⟨_, rfl, x, sh, rfl, ho, _, rfl, ite2 (fun e => ?_) (fun e => ?_)⟩
    · exact ⟨Nat.zero_le _, fun p hp => q1 e p hp⟩
    · exact q2 (Bool.eq_false_iff.mpr e)
end
def spLaw (K : PySem.W.Frag) : Sp := fun vs H Q _ => ∃ (a : Addr) (ns : List Int), vs = [.ref a] ∧ SqL K H a (ns.map V.int) ∧ ns.length ≤ 63 ∧ ∀ H', Q (.bl true) H'
theorem rg_pl (lo hi : Int) : ∀ v ∈ rgV lo hi, Pl v := fun v hv => by
  obtain ⟨j, _, rfl⟩ := List.mem_map.mp hv
  exact trivial
theorem not_dec {X Y : Prop} {a b : Bool} (h : a = b) (y : Y) : if (!decide (V.bl a = V.bl b)) = true then X else Y := iteNS (congrArg V.bl h) y
section
variable {P : Program} {w : World} {K : PySem.W.Frag} {mg : Str → Option Value} {base : Heap} {A : Ad}
theorem sc_law : FnScope ["script", "draws", "shape", "found", "amounts", "size", "value", "answer", "first"] ["script"] (defScope (topS 18)) := ⟨rfl, rfl, rfl, by decide +kernel, rfl, by decide +kernel, by decide +kernel⟩
theorem ok_law (T : Txt K mg A) : FnOk P w K mg base CX0 5 A.f_law A.fd_law ["script"] (spLaw K) := by
  refine T.F_law.ok sc_law (fun vs H Q E h => ?_) (fun cdv Ar outer s H vs Q E hr h => ?_)
  · obtain ⟨a, ns, rfl, _⟩ := h
    rfl
  · obtain ⟨a, ns, rfl, hS, hlen, q⟩ := h
    refine ⟨_, (pss_cons (ps_set (i := 1) sc_law.nd rfl (.inl rfl) (pe_call (ok__law_cells T) (hr.mono (by decide)) (by rfl) T.g__law_cells T.F__law_cells.kp T.b__law_cells .nil pass0 (pa_cons (pv 0) (pa_cons pe_int pa_nil))))
 (pss_cons (ps_set (i := 2) sc_law.nd rfl (.inl rfl) (pe_call (ok__law_shape T) (hr.mono (by decide)) (by rfl) T.g__law_shape T.F__law_shape.kp T.b__law_shape .nil pass0 (pa_cons (pv 1) (pa_cons (pe_lst (pa_cons pe_str (pa_cons pe_str (pa_cons pe_str pa_nil)))) pa_nil))))
 (pss_cons (ps_set (i := 3) sc_law.nd rfl (.inl rfl) (pe_call (ok__law_object T) (hr.mono (by decide)) (by rfl) T.g__law_object T.F__law_object.kp T.b__law_object .nil pass0 (pa_cons (pv 2) pa_nil)))
 (pss_cons (ps_set (i := 4) sc_law.nd rfl (.inl rfl) (pe_op op_cat (pe_lst (pa_cons pe_non (pa_cons pe_bl (pa_cons pe_bl (pa_cons pe_str (pa_cons pe_str (pa_cons pe_str (pa_cons pe_str (pa_cons pe_str pa_nil))))))))) (pe_listRg rfl rfl T.b_list (prg_2 rfl T.b_range (pe_un un_neg pe_int) pe_int))))
 (pss_cons (ps_for PassesOwn.never rfl (pi_range1 rfl T.b_range (pa_cons pe_int pa_nil)) (pg_name (i := 5) sc_law.nd rfl (.inl rfl))
 (pss_cons (ps_expr (pe_bm PySem.F.plainAttrs_list PySem.F.slot_list_append PySem.F.type_list_append mt_append (pv 4) (pa_cons (pe_op op_mulS pe_str (pv 5)) pa_nil)))
 (pss_one (ps_expr (pe_bm PySem.F.plainAttrs_list PySem.F.slot_list_append PySem.F.type_list_append mt_append (pv 4) (pa_cons (pe_slice sl_str (pe_op op_add_str (pe_op op_add_str (pe_op op_mulS pe_str (pv 5)) pe_str) pe_str) (po_some (pe_op op_fdiv (pv 5) pe_int)) po_none) pa_nil))))))
 (pss_cons (ps_for PassesOwn.never rfl (pi_list (pv 4)) (pg_name (i := 6) sc_law.nd rfl (.inl rfl))
 (pss_cons (ps_set (i := 7) sc_law.nd rfl (.inl rfl) (pe_alt (pe_meth (pv 3) T.cl_IntSort T.me_IntSort_holds (ok_IntSort_holds T) (hr.mono (by decide)) T.b_IntSort_holds .nil pass0 (pa_cons (pv 6) pa_nil))
 (pe_alt (pe_meth (pv 3) T.cl_TextSort T.me_TextSort_holds (ok_TextSort_holds T) (hr.mono (by decide)) T.b_TextSort_holds .nil pass0 (pa_cons (pv 6) pa_nil))
 (pe_alt (pe_meth (pv 3) T.cl_ChoiceSort T.me_ChoiceSort_holds (ok_ChoiceSort_holds T) (hr.mono (by decide)) T.b_ChoiceSort_holds .nil pass0 (pa_cons (pv 6) pa_nil))
 (pe_alt (pe_meth (pv 3) T.cl_RefSort T.me_RefSort_holds (ok_RefSort_holds T) (hr.mono (by decide)) T.b_RefSort_holds .nil pass0 (pa_cons (pv 6) pa_nil))
 (pe_meth (pv 3) T.cl_ListSort T.me_ListSort_holds (ok_ListSort_holds T) (hr.mono (by decide)) T.b_ListSort_holds .nil pass0 (pa_cons (pv 6) pa_nil)))))))
 (pss_one (ps_if (PW.pt (pw_or (PW.pt (pw_and (pt_cmpR op_notBl (pv 7) pe_bl (nomark _)) (pw_and1 (pt_cmpR op_notBl (pv 7) pe_bl (nomark _))))) (pw_or1 (pt_cmpR op_ne (pv 7) (pe_call (ok__law_due T) (hr.mono (by decide)) (by rfl) T.g__law_due T.F__law_due.kp T.b__law_due .nil pass0 (pa_cons (pv 2) (pa_cons (pv 6) pa_nil))) (nomark _)))))
 (pss_one (ps_ret pe_bl))
 pss_nil))))
 (pss_cons (ps_if (PW.pt (pw_or (pt_cmpR op_ne (pe_call (ok_is_list T) (hr.mono (by decide)) (by rfl) T.g_is_list T.F_is_list.kp T.b_is_list .nil pass0 (pa_cons (pv 3) pa_nil)) (pe_cmpR op_eq (pe_ix ix_tup (pv 2) pe_int (fun _ _ => rfl)) pe_str (nomark _)) (nomark _)) (pw_or1 (pt_cmpR op_ne (pe_call (ok_is_reference T) (hr.mono (by decide)) (by rfl) T.g_is_reference T.F_is_reference.kp T.b_is_reference .nil pass0 (pa_cons (pv 3) pa_nil)) (pe_cmpR op_eq (pe_ix ix_tup (pv 2) pe_int (fun _ _ => rfl)) pe_str (nomark _)) (nomark _)))))
 (pss_one (ps_ret pe_bl))
 pss_nil)
 (pss_cons (ps_if (pt_cmpR op_ne (pe_call (ok_is_link T) (hr.mono (by decide)) (by rfl) T.g_is_link T.F_is_link.kp T.b_is_link .nil pass0 (pa_cons (pv 3) pa_nil)) (pe_or (pe_cmpR op_eq (pe_ix ix_tup (pv 2) pe_int (fun _ _ => rfl)) pe_str (nomark _)) (pe_one (pe_cmpR op_eq (pe_ix ix_tup (pv 2) pe_int (fun _ _ => rfl)) pe_str (nomark _)))) (nomark _))
 (pss_one (ps_ret pe_bl))
 pss_nil)
 (pss_cons (ps_set (i := 8) sc_law.nd rfl (.inl rfl) (pe_call (ok_blank T) (hr.mono (by decide)) (by rfl) T.g_blank T.F_blank.kp T.b_blank .nil pass0 (pa_cons (pv 3) pa_nil)))
 (pss_cons (ps_if (pt_cmpR op_ne (pe_ix ix_tup (pv 2) pe_int (fun _ _ => rfl)) pe_str (nomark _))
 (pss_one (ps_ret (pe_cmpR op_isN (pv 8) pe_non (nomark _))))
 pss_nil)
 (pss_cons (ps_if (PW.pt (pw_or (pt_not (pt_val (pe_callB call_isi rfl T.b_isinstance (by decide +kernel) (pa_cons (pv 8) (pa_cons (pe_bltn (v := .ty "list") (u := .type "list") rfl T.b_list (by decide +kernel) rfl) pa_nil))))) (pw_or1 (pt_cmpR op_ne (pe_callB call_len_seq rfl T.b_len PySem.boot_len (pa_cons (pv 8) pa_nil)) pe_int (nomark _)))))
 (pss_one (ps_ret pe_bl))
 pss_nil)
 (pss_cons (ps_expr (pe_bm PySem.F.plainAttrs_list PySem.F.slot_list_append PySem.F.type_list_append mt_append (pv 8) (pa_cons pe_int pa_nil)))
 (pss_one (ps_ret (pe_cmpR op_eq (pe_callB call_len_seq rfl T.b_len PySem.boot_len (pa_cons (pe_call (ok_blank T) (hr.mono (by decide)) (by rfl) T.g_blank T.F_blank.kp T.b_blank .nil pass0 (pa_cons (pv 3) pa_nil)) pa_nil)) pe_int (nomark _)))))))))))))))), ?_⟩
    refine ⟨_, rfl, a, ns, 6, rfl, hS, hlen, by decide, fun H1 d ms s1 _ h1 hms => ?_⟩
    refine ⟨_, rfl, (by show 3 ≤ sizeLine; decide), fun nl hnl => ?_⟩
    have ndn : d ≠ nl := ne_of_none h1 hnl
    refine ⟨d, nl, ms, _, rfl, (upd_ne ndn).trans h1, (by intro z; rw [z] at hms; cases hms), upd_same, ndn, rfl, fun t sh H2 _ hsh => ?_⟩
    refine ⟨_, rfl, t, sh, rfl, hsh, fun x H3 s3 ob3 => ?_⟩
    have sh3 := hsh.keep s3
    -- the values
    refine ⟨(by show 8 ≤ sizeLine; decide), fun l1 hl1 => ⟨_, rfl, _, _, rfl, rfl, ⟨by decide, by decide, by decide, by decide, by decide⟩, fun l2 hl2 => ?_⟩⟩
    have n12 : l1 ≠ l2 := ne_of_none upd_same hl2
    refine ⟨l1, l2, _, _, rfl, rfl, (upd_ne n12).trans upd_same, upd_same, (by rw [rgV_length]; decide), fun am ham => ?_⟩
    generalize hH4 : upd (upd H3 l1 (.lst [.non, .bl true, .bl false, .str "a", .str "b c", .str "\"", .str "d\\", .str ""])) l2 (.lst (rgV (-5) 9)) = H4 at ham
    have s4 : Same H3 H4 := by
      rw [← hH4]
      exact (same_new hl1).trans (same_new hl2)
    have sh4 := sh3.keep s4
    have ob4 := ob3.keep s4
    refine ⟨8, rfl, by decide, by decide, for_range (lo := 0) (n := (8 : Int).toNat) (fun i σ H' => ∃ (xs : List V) (y5 : Option V), σ = [some (.ref a), some (.ref d), some (.ref t), some (.ref x), some (.ref am), y5, none, none, none] ∧ Same H4 H' ∧ H' am = some (.lst xs) ∧ (∀ v ∈ xs, Pl v) ∧ xs.length ≤ 22 + 2 * i)
      ⟨_, none, rfl, same_new ham, upd_same, ?_, ?_⟩ ?_ ?_⟩
    · intro v hv
      rcases List.mem_append.mp hv with hv | hv
      · rcases List.mem_cons.mp hv with e | hv
        · rw [e]; exact trivial
        rcases List.mem_cons.mp hv with e | hv
        · rw [e]; exact trivial
        rcases List.mem_cons.mp hv with e | hv
        · rw [e]; exact trivial
        rcases List.mem_cons.mp hv with e | hv
        · rw [e]; exact (by decide +kernel : ("a" : Str).length ≤ 1000)
        rcases List.mem_cons.mp hv with e | hv
        · rw [e]; exact (by decide +kernel : ("b c" : Str).length ≤ 1000)
        rcases List.mem_cons.mp hv with e | hv
        · rw [e]; exact (by decide +kernel : ("\"" : Str).length ≤ 1000)
        rcases List.mem_cons.mp hv with e | hv
        · rw [e]; exact (by decide +kernel : ("d\\" : Str).length ≤ 1000)
        rcases List.mem_cons.mp hv with e | hv
        · rw [e]; exact (by decide +kernel : ("" : Str).length ≤ 1000)
        cases hv
      · exact rg_pl _ _ v hv
    · rw [List.length_append, rgV_length]
      decide
    · rintro i σ H5 hi ⟨xs, y5, rfl, s5, h5, hpl, hxl⟩
      have lx : ("x" : Str).length = 1 := by decide +kernel
      have lr : ∀ k : Nat, (repS "x" k).length = k := fun k => by
        rw [len_tl, tl_repS]
        simp
        rw [show (Str.ofString "x").cps.size = 1 from lx, Nat.mul_one]
      refine ⟨_, rfl, .inl ⟨rfl, _, SqL.of h5⟩, _, rfl, _, _, rfl, rfl, by omega, by omega, (by rw [lx]; decide), am, _, _, rfl, rfl, h5, small1000 (by omega), ?_⟩
      refine ⟨_, rfl, .inl ⟨rfl, _, SqL.of upd_same⟩, _, rfl, _, _, rfl, rfl, by omega, by omega, (by rw [lx]; decide), _, _, rfl, rfl, ?_, _, _, rfl, rfl, ?_, ?_⟩
      · rw [lr]
        have : ("," : Str).length = 1 := by decide +kernel
        rw [this]
        exact Nat.le_of_lt (small1000 (by omega))
      · rw [len_tl, tl_append, List.length_append, ← len_tl, ← len_tl, lr]
        have : ("," : Str).length = 1 := by decide +kernel
        have h2 : ("y" : Str).length = 1 := by decide +kernel
        rw [this, h2]
        exact Nat.le_of_lt (small1000 (by omega))
      · have hL : (repS "x" (0 + (i : Int)).toNat ++ "," ++ "y").length ≤ 100 := by
          rw [len_tl, tl_append, tl_append, List.length_append, List.length_append, ← len_tl, ← len_tl, ← len_tl, lr]
          have : ("," : Str).length = 1 := by decide +kernel
          have h2 : ("y" : Str).length = 1 := by decide +kernel
          rw [this, h2]
          omega
        refine ⟨_, rfl, _, _, rfl, rfl, ⟨by decide, by decide⟩, _, rfl, _, rfl, Nat.le_trans hL (by decide), am, _, _, rfl, rfl, upd_same, small1000 (by rw [List.length_append]; simp; omega), ?_⟩
        refine ⟨_, _, rfl, fun b o e => ?_, upd_same, ?_, ?_⟩
        · have nb : b ≠ am := ne_of_none e ham
          rw [upd_ne nb, upd_ne nb]
          exact s5 b o e
        · intro v hv
          rcases List.mem_append.mp hv with hv | hv
          · rcases List.mem_append.mp hv with hv | hv
            · exact hpl v hv
            · rw [List.mem_singleton.mp hv]
              show (repS _ _).length ≤ 1000
              rw [lr]
              omega
          · rw [List.mem_singleton.mp hv]
            exact Nat.le_trans (cutS_length _ _ _) (Nat.le_trans hL (by decide))
        · rw [List.length_append, List.length_append]
          simp
          omega
    · rintro σ H5 ⟨xs, y5, rfl, s5, h5, hpl, hxl⟩
      have sh5 := sh4.keep s5
      have ob5 := ob4.keep s5
      refine ⟨_, rfl, am, rfl, ⟨_, SqL.of h5⟩, for_list (K := K) (a := am) (xs := xs) (fun i σ H' => ∃ (y6 y7 : Option V), σ = [some (.ref a), some (.ref d), some (.ref t), some (.ref x), some (.ref am), y5, y6, y7, none] ∧ Same H5 H')
        ⟨none, none, rfl, Same.refl H5⟩ (fun i σ H' _ ⟨_, _, _, sm⟩ => sm.seq (SqL.of h5)) ?_ ?_⟩
      · rintro i v σ H6 hv ⟨y6, y7, rfl, s6⟩
        have pv' := hpl v (List.mem_of_getElem? hv)
        have ob := ob5.keep s6
        have hs := sh5.keep s6
        cases sh with
        | int lo hi =>
          obtain ⟨dx, hx⟩ := id ob
          refine .inl ⟨_, rfl, x, dx, _, rfl, hx, f2_no _ _ (by decide +kernel) (by decide +kernel), _, rfl, x, v, _, rfl, ob, pv', rfl, ?_⟩
          cases hb : hold _ v with
          | true =>
            refine ⟨_, rfl, true, true, rfl, rfl, _, rfl, iteF (iteF ?_)⟩
            refine ⟨_, rfl, _, rfl, _, rfl, t, v, _, rfl, hs, pv', fun H7 s7 => ⟨rfl, _, rfl, not_dec hb.symm ?_⟩⟩
            exact ⟨_, _, rfl, s6.trans s7⟩
          | false =>
            refine ⟨_, rfl, false, true, rfl, rfl, _, rfl, iteT ⟨_, rfl, false, false, rfl, rfl, _, rfl, iteF ?_⟩⟩
            refine ⟨_, rfl, _, rfl, _, rfl, t, v, _, rfl, hs, pv', fun H7 s7 => ⟨rfl, _, rfl, not_dec hb.symm ?_⟩⟩
            exact ⟨_, _, rfl, s6.trans s7⟩
        | text n wo =>
          obtain ⟨⟨dx, hx⟩, _⟩ := id ob
          refine .inr (.inl ⟨_, rfl, x, dx, _, rfl, hx, f2_no _ _ (by decide +kernel) (by decide +kernel), _, rfl, x, v, _, rfl, ob, pv', rfl, ?_⟩)
          cases hb : hold _ v with
          | true =>
            refine ⟨_, rfl, true, true, rfl, rfl, _, rfl, iteF (iteF ?_)⟩
            refine ⟨_, rfl, _, rfl, _, rfl, t, v, _, rfl, hs, pv', fun H7 s7 => ⟨rfl, _, rfl, not_dec hb.symm ?_⟩⟩
            exact ⟨_, _, rfl, s6.trans s7⟩
          | false =>
            refine ⟨_, rfl, false, true, rfl, rfl, _, rfl, iteT ⟨_, rfl, false, false, rfl, rfl, _, rfl, iteF ?_⟩⟩
            refine ⟨_, rfl, _, rfl, _, rfl, t, v, _, rfl, hs, pv', fun H7 s7 => ⟨rfl, _, rfl, not_dec hb.symm ?_⟩⟩
            exact ⟨_, _, rfl, s6.trans s7⟩
        | one zs =>
          obtain ⟨dx, l, hx, _⟩ := id ob
          refine .inr (.inr (.inl ⟨_, rfl, x, dx, _, rfl, hx, f1_no _ (by decide +kernel), _, rfl, x, v, _, rfl, ob, pv', rfl, ?_⟩))
          cases hb : hold _ v with
          | true =>
            refine ⟨_, rfl, true, true, rfl, rfl, _, rfl, iteF (iteF ?_)⟩
            refine ⟨_, rfl, _, rfl, _, rfl, t, v, _, rfl, hs, pv', fun H7 s7 => ⟨rfl, _, rfl, not_dec hb.symm ?_⟩⟩
            exact ⟨_, _, rfl, s6.trans s7⟩
          | false =>
            refine ⟨_, rfl, false, true, rfl, rfl, _, rfl, iteT ⟨_, rfl, false, false, rfl, rfl, _, rfl, iteF ?_⟩⟩
            refine ⟨_, rfl, _, rfl, _, rfl, t, v, _, rfl, hs, pv', fun H7 s7 => ⟨rfl, _, rfl, not_dec hb.symm ?_⟩⟩
            exact ⟨_, _, rfl, s6.trans s7⟩
        | ref =>
          obtain ⟨dx, l, r, hx⟩ := id ob
          refine .inr (.inr (.inr (.inl ⟨_, rfl, x, dx, _, rfl, hx, f2_no _ _ (by decide +kernel) (by decide +kernel), _, rfl, x, v, _, rfl, ob, pv', rfl, ?_⟩)))
          cases hb : hold _ v with
          | true =>
            refine ⟨_, rfl, true, true, rfl, rfl, _, rfl, iteF (iteF ?_)⟩
            refine ⟨_, rfl, _, rfl, _, rfl, t, v, _, rfl, hs, pv', fun H7 s7 => ⟨rfl, _, rfl, not_dec hb.symm ?_⟩⟩
            exact ⟨_, _, rfl, s6.trans s7⟩
          | false =>
            refine ⟨_, rfl, false, true, rfl, rfl, _, rfl, iteT ⟨_, rfl, false, false, rfl, rfl, _, rfl, iteF ?_⟩⟩
            refine ⟨_, rfl, _, rfl, _, rfl, t, v, _, rfl, hs, pv', fun H7 s7 => ⟨rfl, _, rfl, not_dec hb.symm ?_⟩⟩
            exact ⟨_, _, rfl, s6.trans s7⟩
        | list =>
          obtain ⟨dx, l, hx⟩ := id ob
          refine .inr (.inr (.inr (.inr ⟨_, rfl, x, dx, _, rfl, hx, f1_no _ (by decide +kernel), _, rfl, x, v, _, rfl, ob, pv', rfl, ?_⟩)))
          cases hb : hold _ v with
          | true =>
            refine ⟨_, rfl, true, true, rfl, rfl, _, rfl, iteF (iteF ?_)⟩
            refine ⟨_, rfl, _, rfl, _, rfl, t, v, _, rfl, hs, pv', fun H7 s7 => ⟨rfl, _, rfl, not_dec hb.symm ?_⟩⟩
            exact ⟨_, _, rfl, s6.trans s7⟩
          | false =>
            refine ⟨_, rfl, false, true, rfl, rfl, _, rfl, iteT ⟨_, rfl, false, false, rfl, rfl, _, rfl, iteF ?_⟩⟩
            refine ⟨_, rfl, _, rfl, _, rfl, t, v, _, rfl, hs, pv', fun H7 s7 => ⟨rfl, _, rfl, not_dec hb.symm ?_⟩⟩
            exact ⟨_, _, rfl, s6.trans s7⟩
      · rintro σ H6 ⟨y6, y7, rfl, s6⟩
        have sh6 := sh5.keep s6
        have ob6 := ob5.keep s6
        obtain ⟨rT, hT⟩ := sh6.name
        refine ⟨_, rfl, x, sh, rfl, ob6, _, rfl, t, _, 0, _, rfl, rfl, SqT.of hT, atI_nat (j := 0) rfl, rfl, rfl, _, rfl, not_dec (nm_list sh).symm ?_⟩
        refine ⟨_, rfl, x, sh, rfl, ob6, _, rfl, t, _, 0, _, rfl, rfl, SqT.of hT, atI_nat (j := 0) rfl, rfl, rfl, _, rfl, not_dec (nm_ref sh).symm ?_⟩
        refine ⟨_, rfl, x, sh, rfl, ob6, _, rfl, t, _, 0, _, rfl, rfl, SqT.of hT, atI_nat (j := 0) rfl, rfl, _, rfl, ?_⟩
        have link : ∀ (c : Bool) (R : V → Hp → Prop), R (.bl (c || isR sh)) H6 → (if c = true then R (.bl true) H6 else R (.bl (isR sh)) H6) := fun c R r => by
          cases c with
          | true => exact iteT r
          | false => exact iteF r
        cases hl : isL sh with
        | true =>
          have e1 : sh = .list := by
            cases sh <;> first | rfl | exact absurd (show false = true from hl) Bool.false_ne_true
          subst e1
          refine ite2 (fun _ => ?_) (fun e => absurd (decide_eq_true rfl) e)
          refine ⟨rfl, _, rfl, not_dec rfl ?_⟩
          refine ⟨_, rfl, x, .list, rfl, ob6, fun _ p hp => ?_, fun z => nomatch z⟩
          have sp := same_new (o := .lst []) hp
          have hT' := sp _ _ hT
          refine ⟨_, rfl, t, _, 0, _, rfl, rfl, SqT.of hT', atI_nat (j := 0) rfl, rfl, _, rfl, iteNS rfl ?_⟩
          refine ⟨_, rfl, _, _, _, _, _, rfl, .ty "list", .base (.lst upd_same), (kit_ty (by decide +kernel) : PySem.W.kitOne K (.type "list") (.type "list") = some true), _, rfl, iteF ?_⟩
          refine ⟨_, rfl, p, [], rfl, .inl (SqL.of upd_same), rfl, _, rfl, iteNS rfl ?_⟩
          refine ⟨_, rfl, .inl ⟨rfl, _, SqL.of upd_same⟩, p, [], _, rfl, rfl, upd_same, small1000 (by decide), ?_⟩
          have ob7 : ObAt A (upd (upd H6 p (.lst [])) p (.lst ([] ++ [.int 1]))) x .list := by
            rw [upd_upd]
            exact ob6.keep (same_new hp)
          refine ⟨_, rfl, x, .list, rfl, ob7, fun _ p2 hp2 => ?_, fun z => nomatch z⟩
          refine ⟨p2, [], rfl, .inl (SqL.of upd_same), rfl, ?_⟩
          exact q _
        | false =>
          have nl' : ¬ nm sh = "list" := fun z => by
            have := nm_list sh
            rw [z, hl] at this
            exact absurd this (by simp)
          refine ite2 (fun e => absurd (V.str.inj (of_decide_eq_true e)) nl') (fun _ => ?_)
          refine ⟨_, rfl, t, _, 0, _, rfl, rfl, SqT.of hT, atI_nat (j := 0) rfl, rfl, rfl, _, rfl, not_dec (by rw [nm_ref, Bool.or_false]) ?_⟩
          refine ⟨_, rfl, x, sh, rfl, ob6, fun z => (by rw [hl] at z; cases z), fun _ => ?_⟩
          refine ⟨_, rfl, t, _, 0, _, rfl, rfl, SqT.of hT, atI_nat (j := 0) rfl, rfl, _, rfl, ite2 (fun _ => ?_) (fun e => ?_)⟩
          · exact ⟨_, rfl, rfl, q _⟩
          · exact absurd (by rw [decide_eq_false (fun z => nl' (V.str.inj z))]; rfl) e
end
section
theorem mk_txt {K : PySem.W.Frag} {h : Heap} {mg : Str → Option Value} (X : K.In h) (G : h.Ns mainGlobals mg) {C_IntSort C_TextSort C_ChoiceSort C_RefSort C_ListSort f_IntSort___init__ f_IntSort_holds f_TextSort___init__ f_TextSort_holds f_ChoiceSort___init__ f_ChoiceSort_holds f_RefSort___init__ f_RefSort_holds f_ListSort___init__ f_ListSort_holds f__law_cells f__law_draw f__law_pick f__law_shape f__law_object f__law_due f_is_reference f_is_list f_is_link f_blank f_law : Addr}
    {od0 an0 od1 an1 od2 an2 od3 an3 od4 an4 od5 an5 od6 an6 od7 an7 od8 an8 od9 an9 od10 an10 od11 an11 od12 an12 od13 an13 od14 an14 od15 an15 od16 an16 od17 an17 od18 an18 od19 an19 od20 an20 : Option Addr} {sl0 sl1 sl2 sl3 sl4 sl5 sl6 sl7 sl8 sl9 sl10 sl11 sl12 sl13 sl14 sl15 sl16 sl17 sl18 sl19 sl20 : Array (Option Value)} {oc0 kV0 dc0 pm0 cd0 ct0 oc1 kV1 dc1 pm1 cd1 ct1 oc2 kV2 dc2 pm2 cd2 ct2 oc3 kV3 dc3 pm3 cd3 ct3 oc4 kV4 dc4 pm4 cd4 ct4 oc5 kV5 dc5 pm5 cd5 ct5 oc6 kV6 dc6 pm6 cd6 ct6 oc7 kV7 dc7 pm7 cd7 ct7 oc8 kV8 dc8 pm8 cd8 ct8 oc9 kV9 dc9 pm9 cd9 ct9 oc10 kV10 dc10 pm10 cd10 ct10 oc11 kV11 dc11 pm11 cd11 ct11 oc12 kV12 dc12 pm12 cd12 ct12 oc13 kV13 dc13 pm13 cd13 ct13 oc14 kV14 dc14 pm14 cd14 ct14 oc15 kV15 dc15 pm15 cd15 ct15 oc16 kV16 dc16 pm16 cd16 ct16 oc17 kV17 dc17 pm17 cd17 ct17 oc18 kV18 dc18 pm18 cd18 ct18 oc19 kV19 dc19 pm19 cd19 ct19 oc20 kV20 dc20 pm20 cd20 ct20 : Value} {dV2 : Addr} {dC2 : Value} {dD2 : Option Addr} {dN2 : Nat} {dS2 : Array (Option Value)}
    (a_IntSort : PySem.W.nsIn K mainGlobals "IntSort" = some (some (.ref C_IntSort)))
    (a_TextSort : PySem.W.nsIn K mainGlobals "TextSort" = some (some (.ref C_TextSort)))
    (a_ChoiceSort : PySem.W.nsIn K mainGlobals "ChoiceSort" = some (some (.ref C_ChoiceSort)))
    (a_RefSort : PySem.W.nsIn K mainGlobals "RefSort" = some (some (.ref C_RefSort)))
    (a_ListSort : PySem.W.nsIn K mainGlobals "ListSort" = some (some (.ref C_ListSort)))
    (a_IntSort___init__ : PySem.W.findIn K (.ref C_IntSort) "__init__" = some (some (.ref f_IntSort___init__)))
    (i_IntSort___init__ : PySem.W.isFn K (.ref f_IntSort___init__) = true)
    (l_IntSort___init__ : K.lookup f_IntSort___init__ = some ⟨oc0, od0, .func (PySem.W.fnOf "__init__" "IntSort.__init__" (defArgs (inClass (topS 2) 0)) (defBody (inClass (topS 2) 0)) (defScope (inClass (topS 2) 0)) .none kV0 dc0 pm0 an0 cd0 ct0), sl0⟩)
    (c_IntSort___init__ : PySem.W.codeIn K cd0 "IntSort.__init__" = true)
    (k_IntSort___init__ : PySem.W.keepIn K (.ref f_IntSort___init__) = true)
    (a_IntSort_holds : PySem.W.findIn K (.ref C_IntSort) "holds" = some (some (.ref f_IntSort_holds)))
    (i_IntSort_holds : PySem.W.isFn K (.ref f_IntSort_holds) = true)
    (l_IntSort_holds : K.lookup f_IntSort_holds = some ⟨oc1, od1, .func (PySem.W.fnOf "holds" "IntSort.holds" (defArgs (inClass (topS 2) 1)) (defBody (inClass (topS 2) 1)) (defScope (inClass (topS 2) 1)) .none kV1 dc1 pm1 an1 cd1 ct1), sl1⟩)
    (c_IntSort_holds : PySem.W.codeIn K cd1 "IntSort.holds" = true)
    (k_IntSort_holds : PySem.W.keepIn K (.ref f_IntSort_holds) = true)
    (a_TextSort___init__ : PySem.W.findIn K (.ref C_TextSort) "__init__" = some (some (.ref f_TextSort___init__)))
    (i_TextSort___init__ : PySem.W.isFn K (.ref f_TextSort___init__) = true)
    (l_TextSort___init__ : K.lookup f_TextSort___init__ = some ⟨oc2, od2, .func (PySem.W.fnOf "__init__" "TextSort.__init__" (defArgs (inClass (topS 3) 0)) (defBody (inClass (topS 3) 0)) (defScope (inClass (topS 3) 0)) (.ref dV2) kV2 dc2 pm2 an2 cd2 ct2), sl2⟩)
    (d_TextSort___init__ : K.lookup dV2 = some ⟨dC2, dD2, .seq [.none].toArray dN2, dS2⟩)
    (c_TextSort___init__ : PySem.W.codeIn K cd2 "TextSort.__init__" = true)
    (k_TextSort___init__ : PySem.W.keepIn K (.ref f_TextSort___init__) = true)
    (a_TextSort_holds : PySem.W.findIn K (.ref C_TextSort) "holds" = some (some (.ref f_TextSort_holds)))
    (i_TextSort_holds : PySem.W.isFn K (.ref f_TextSort_holds) = true)
    (l_TextSort_holds : K.lookup f_TextSort_holds = some ⟨oc3, od3, .func (PySem.W.fnOf "holds" "TextSort.holds" (defArgs (inClass (topS 3) 1)) (defBody (inClass (topS 3) 1)) (defScope (inClass (topS 3) 1)) .none kV3 dc3 pm3 an3 cd3 ct3), sl3⟩)
    (c_TextSort_holds : PySem.W.codeIn K cd3 "TextSort.holds" = true)
    (k_TextSort_holds : PySem.W.keepIn K (.ref f_TextSort_holds) = true)
    (a_ChoiceSort___init__ : PySem.W.findIn K (.ref C_ChoiceSort) "__init__" = some (some (.ref f_ChoiceSort___init__)))
    (i_ChoiceSort___init__ : PySem.W.isFn K (.ref f_ChoiceSort___init__) = true)
    (l_ChoiceSort___init__ : K.lookup f_ChoiceSort___init__ = some ⟨oc4, od4, .func (PySem.W.fnOf "__init__" "ChoiceSort.__init__" (defArgs (inClass (topS 4) 0)) (defBody (inClass (topS 4) 0)) (defScope (inClass (topS 4) 0)) .none kV4 dc4 pm4 an4 cd4 ct4), sl4⟩)
    (c_ChoiceSort___init__ : PySem.W.codeIn K cd4 "ChoiceSort.__init__" = true)
    (k_ChoiceSort___init__ : PySem.W.keepIn K (.ref f_ChoiceSort___init__) = true)
    (a_ChoiceSort_holds : PySem.W.findIn K (.ref C_ChoiceSort) "holds" = some (some (.ref f_ChoiceSort_holds)))
    (i_ChoiceSort_holds : PySem.W.isFn K (.ref f_ChoiceSort_holds) = true)
    (l_ChoiceSort_holds : K.lookup f_ChoiceSort_holds = some ⟨oc5, od5, .func (PySem.W.fnOf "holds" "ChoiceSort.holds" (defArgs (inClass (topS 4) 1)) (defBody (inClass (topS 4) 1)) (defScope (inClass (topS 4) 1)) .none kV5 dc5 pm5 an5 cd5 ct5), sl5⟩)
    (c_ChoiceSort_holds : PySem.W.codeIn K cd5 "ChoiceSort.holds" = true)
    (k_ChoiceSort_holds : PySem.W.keepIn K (.ref f_ChoiceSort_holds) = true)
    (a_RefSort___init__ : PySem.W.findIn K (.ref C_RefSort) "__init__" = some (some (.ref f_RefSort___init__)))
    (i_RefSort___init__ : PySem.W.isFn K (.ref f_RefSort___init__) = true)
    (l_RefSort___init__ : K.lookup f_RefSort___init__ = some ⟨oc6, od6, .func (PySem.W.fnOf "__init__" "RefSort.__init__" (defArgs (inClass (topS 5) 0)) (defBody (inClass (topS 5) 0)) (defScope (inClass (topS 5) 0)) .none kV6 dc6 pm6 an6 cd6 ct6), sl6⟩)
    (c_RefSort___init__ : PySem.W.codeIn K cd6 "RefSort.__init__" = true)
    (k_RefSort___init__ : PySem.W.keepIn K (.ref f_RefSort___init__) = true)
    (a_RefSort_holds : PySem.W.findIn K (.ref C_RefSort) "holds" = some (some (.ref f_RefSort_holds)))
    (i_RefSort_holds : PySem.W.isFn K (.ref f_RefSort_holds) = true)
    (l_RefSort_holds : K.lookup f_RefSort_holds = some ⟨oc7, od7, .func (PySem.W.fnOf "holds" "RefSort.holds" (defArgs (inClass (topS 5) 1)) (defBody (inClass (topS 5) 1)) (defScope (inClass (topS 5) 1)) .none kV7 dc7 pm7 an7 cd7 ct7), sl7⟩)
    (c_RefSort_holds : PySem.W.codeIn K cd7 "RefSort.holds" = true)
    (k_RefSort_holds : PySem.W.keepIn K (.ref f_RefSort_holds) = true)
    (a_ListSort___init__ : PySem.W.findIn K (.ref C_ListSort) "__init__" = some (some (.ref f_ListSort___init__)))
    (i_ListSort___init__ : PySem.W.isFn K (.ref f_ListSort___init__) = true)
    (l_ListSort___init__ : K.lookup f_ListSort___init__ = some ⟨oc8, od8, .func (PySem.W.fnOf "__init__" "ListSort.__init__" (defArgs (inClass (topS 6) 0)) (defBody (inClass (topS 6) 0)) (defScope (inClass (topS 6) 0)) .none kV8 dc8 pm8 an8 cd8 ct8), sl8⟩)
    (c_ListSort___init__ : PySem.W.codeIn K cd8 "ListSort.__init__" = true)
    (k_ListSort___init__ : PySem.W.keepIn K (.ref f_ListSort___init__) = true)
    (a_ListSort_holds : PySem.W.findIn K (.ref C_ListSort) "holds" = some (some (.ref f_ListSort_holds)))
    (i_ListSort_holds : PySem.W.isFn K (.ref f_ListSort_holds) = true)
    (l_ListSort_holds : K.lookup f_ListSort_holds = some ⟨oc9, od9, .func (PySem.W.fnOf "holds" "ListSort.holds" (defArgs (inClass (topS 6) 1)) (defBody (inClass (topS 6) 1)) (defScope (inClass (topS 6) 1)) .none kV9 dc9 pm9 an9 cd9 ct9), sl9⟩)
    (c_ListSort_holds : PySem.W.codeIn K cd9 "ListSort.holds" = true)
    (k_ListSort_holds : PySem.W.keepIn K (.ref f_ListSort_holds) = true)
    (a__law_cells : PySem.W.nsIn K mainGlobals "_law_cells" = some (some (.ref f__law_cells)))
    (l__law_cells : K.lookup f__law_cells = some ⟨oc10, od10, .func (PySem.W.fnOf "_law_cells" "_law_cells" (defArgs (topS 12)) (defBody (topS 12)) (defScope (topS 12)) .none kV10 dc10 pm10 an10 cd10 ct10), sl10⟩)
    (c__law_cells : PySem.W.codeIn K cd10 "_law_cells" = true)
    (k__law_cells : PySem.W.keepIn K (.ref f__law_cells) = true)
    (a__law_draw : PySem.W.nsIn K mainGlobals "_law_draw" = some (some (.ref f__law_draw)))
    (l__law_draw : K.lookup f__law_draw = some ⟨oc11, od11, .func (PySem.W.fnOf "_law_draw" "_law_draw" (defArgs (topS 13)) (defBody (topS 13)) (defScope (topS 13)) .none kV11 dc11 pm11 an11 cd11 ct11), sl11⟩)
    (c__law_draw : PySem.W.codeIn K cd11 "_law_draw" = true)
    (k__law_draw : PySem.W.keepIn K (.ref f__law_draw) = true)
    (a__law_pick : PySem.W.nsIn K mainGlobals "_law_pick" = some (some (.ref f__law_pick)))
    (l__law_pick : K.lookup f__law_pick = some ⟨oc12, od12, .func (PySem.W.fnOf "_law_pick" "_law_pick" (defArgs (topS 14)) (defBody (topS 14)) (defScope (topS 14)) .none kV12 dc12 pm12 an12 cd12 ct12), sl12⟩)
    (c__law_pick : PySem.W.codeIn K cd12 "_law_pick" = true)
    (k__law_pick : PySem.W.keepIn K (.ref f__law_pick) = true)
    (a__law_shape : PySem.W.nsIn K mainGlobals "_law_shape" = some (some (.ref f__law_shape)))
    (l__law_shape : K.lookup f__law_shape = some ⟨oc13, od13, .func (PySem.W.fnOf "_law_shape" "_law_shape" (defArgs (topS 15)) (defBody (topS 15)) (defScope (topS 15)) .none kV13 dc13 pm13 an13 cd13 ct13), sl13⟩)
    (c__law_shape : PySem.W.codeIn K cd13 "_law_shape" = true)
    (k__law_shape : PySem.W.keepIn K (.ref f__law_shape) = true)
    (a__law_object : PySem.W.nsIn K mainGlobals "_law_object" = some (some (.ref f__law_object)))
    (l__law_object : K.lookup f__law_object = some ⟨oc14, od14, .func (PySem.W.fnOf "_law_object" "_law_object" (defArgs (topS 16)) (defBody (topS 16)) (defScope (topS 16)) .none kV14 dc14 pm14 an14 cd14 ct14), sl14⟩)
    (c__law_object : PySem.W.codeIn K cd14 "_law_object" = true)
    (k__law_object : PySem.W.keepIn K (.ref f__law_object) = true)
    (a__law_due : PySem.W.nsIn K mainGlobals "_law_due" = some (some (.ref f__law_due)))
    (l__law_due : K.lookup f__law_due = some ⟨oc15, od15, .func (PySem.W.fnOf "_law_due" "_law_due" (defArgs (topS 17)) (defBody (topS 17)) (defScope (topS 17)) .none kV15 dc15 pm15 an15 cd15 ct15), sl15⟩)
    (c__law_due : PySem.W.codeIn K cd15 "_law_due" = true)
    (k__law_due : PySem.W.keepIn K (.ref f__law_due) = true)
    (a_is_reference : PySem.W.nsIn K mainGlobals "is_reference" = some (some (.ref f_is_reference)))
    (l_is_reference : K.lookup f_is_reference = some ⟨oc16, od16, .func (PySem.W.fnOf "is_reference" "is_reference" (defArgs (topS 7)) (defBody (topS 7)) (defScope (topS 7)) .none kV16 dc16 pm16 an16 cd16 ct16), sl16⟩)
    (c_is_reference : PySem.W.codeIn K cd16 "is_reference" = true)
    (k_is_reference : PySem.W.keepIn K (.ref f_is_reference) = true)
    (a_is_list : PySem.W.nsIn K mainGlobals "is_list" = some (some (.ref f_is_list)))
    (l_is_list : K.lookup f_is_list = some ⟨oc17, od17, .func (PySem.W.fnOf "is_list" "is_list" (defArgs (topS 8)) (defBody (topS 8)) (defScope (topS 8)) .none kV17 dc17 pm17 an17 cd17 ct17), sl17⟩)
    (c_is_list : PySem.W.codeIn K cd17 "is_list" = true)
    (k_is_list : PySem.W.keepIn K (.ref f_is_list) = true)
    (a_is_link : PySem.W.nsIn K mainGlobals "is_link" = some (some (.ref f_is_link)))
    (l_is_link : K.lookup f_is_link = some ⟨oc18, od18, .func (PySem.W.fnOf "is_link" "is_link" (defArgs (topS 9)) (defBody (topS 9)) (defScope (topS 9)) .none kV18 dc18 pm18 an18 cd18 ct18), sl18⟩)
    (c_is_link : PySem.W.codeIn K cd18 "is_link" = true)
    (k_is_link : PySem.W.keepIn K (.ref f_is_link) = true)
    (a_blank : PySem.W.nsIn K mainGlobals "blank" = some (some (.ref f_blank)))
    (l_blank : K.lookup f_blank = some ⟨oc19, od19, .func (PySem.W.fnOf "blank" "blank" (defArgs (topS 10)) (defBody (topS 10)) (defScope (topS 10)) .none kV19 dc19 pm19 an19 cd19 ct19), sl19⟩)
    (c_blank : PySem.W.codeIn K cd19 "blank" = true)
    (k_blank : PySem.W.keepIn K (.ref f_blank) = true)
    (a_law : PySem.W.nsIn K mainGlobals "law" = some (some (.ref f_law)))
    (l_law : K.lookup f_law = some ⟨oc20, od20, .func (PySem.W.fnOf "law" "law" (defArgs (topS 18)) (defBody (topS 18)) (defScope (topS 18)) .none kV20 dc20 pm20 an20 cd20 ct20), sl20⟩)
    (c_law : PySem.W.codeIn K cd20 "law" = true)
    (k_law : PySem.W.keepIn K (.ref f_law) = true)
    (pg_IntSort : PySem.W.plainGet K C_IntSort Str.empty = true)
    (hd_IntSort : PySem.W.hasDictIn K C_IntSort = true)
    (po_IntSort : PySem.W.plainOver K C_IntSort = true)
    (sa_IntSort : PySem.W.findIn K (.ref C_IntSort) "__setattr__" = some (some (.builtin "object.__setattr__")))
    (mk_IntSort : PySem.W.makesIn K C_IntSort = true)
    (kc_IntSort : PySem.W.keepIn K (.ref C_IntSort) = true)
    (na_IntSort_low : PySem.W.findIn K (.ref C_IntSort) "low" = some none)
    (na_IntSort_high : PySem.W.findIn K (.ref C_IntSort) "high" = some none)
    (ia_IntSort : PySem.W.findIn K (.ref C_IntSort) "__class__" = some (some (.builtin "object.__class__")))
    (im_IntSort : PySem.W.mroIn K C_IntSort (.type "object") = some true)
    (pg_TextSort : PySem.W.plainGet K C_TextSort Str.empty = true)
    (hd_TextSort : PySem.W.hasDictIn K C_TextSort = true)
    (po_TextSort : PySem.W.plainOver K C_TextSort = true)
    (sa_TextSort : PySem.W.findIn K (.ref C_TextSort) "__setattr__" = some (some (.builtin "object.__setattr__")))
    (mk_TextSort : PySem.W.makesIn K C_TextSort = true)
    (kc_TextSort : PySem.W.keepIn K (.ref C_TextSort) = true)
    (na_TextSort_longest : PySem.W.findIn K (.ref C_TextSort) "longest" = some none)
    (na_TextSort_without : PySem.W.findIn K (.ref C_TextSort) "without" = some none)
    (ia_TextSort : PySem.W.findIn K (.ref C_TextSort) "__class__" = some (some (.builtin "object.__class__")))
    (im_TextSort : PySem.W.mroIn K C_TextSort (.type "object") = some true)
    (pg_ChoiceSort : PySem.W.plainGet K C_ChoiceSort Str.empty = true)
    (hd_ChoiceSort : PySem.W.hasDictIn K C_ChoiceSort = true)
    (po_ChoiceSort : PySem.W.plainOver K C_ChoiceSort = true)
    (sa_ChoiceSort : PySem.W.findIn K (.ref C_ChoiceSort) "__setattr__" = some (some (.builtin "object.__setattr__")))
    (mk_ChoiceSort : PySem.W.makesIn K C_ChoiceSort = true)
    (kc_ChoiceSort : PySem.W.keepIn K (.ref C_ChoiceSort) = true)
    (na_ChoiceSort_choices : PySem.W.findIn K (.ref C_ChoiceSort) "choices" = some none)
    (ia_ChoiceSort : PySem.W.findIn K (.ref C_ChoiceSort) "__class__" = some (some (.builtin "object.__class__")))
    (im_ChoiceSort : PySem.W.mroIn K C_ChoiceSort (.type "object") = some true)
    (pg_RefSort : PySem.W.plainGet K C_RefSort Str.empty = true)
    (hd_RefSort : PySem.W.hasDictIn K C_RefSort = true)
    (po_RefSort : PySem.W.plainOver K C_RefSort = true)
    (sa_RefSort : PySem.W.findIn K (.ref C_RefSort) "__setattr__" = some (some (.builtin "object.__setattr__")))
    (mk_RefSort : PySem.W.makesIn K C_RefSort = true)
    (kc_RefSort : PySem.W.keepIn K (.ref C_RefSort) = true)
    (na_RefSort_kinds : PySem.W.findIn K (.ref C_RefSort) "kinds" = some none)
    (na_RefSort_rule : PySem.W.findIn K (.ref C_RefSort) "rule" = some none)
    (ia_RefSort : PySem.W.findIn K (.ref C_RefSort) "__class__" = some (some (.builtin "object.__class__")))
    (im_RefSort : PySem.W.mroIn K C_RefSort (.type "object") = some true)
    (pg_ListSort : PySem.W.plainGet K C_ListSort Str.empty = true)
    (hd_ListSort : PySem.W.hasDictIn K C_ListSort = true)
    (po_ListSort : PySem.W.plainOver K C_ListSort = true)
    (sa_ListSort : PySem.W.findIn K (.ref C_ListSort) "__setattr__" = some (some (.builtin "object.__setattr__")))
    (mk_ListSort : PySem.W.makesIn K C_ListSort = true)
    (kc_ListSort : PySem.W.keepIn K (.ref C_ListSort) = true)
    (na_ListSort_kinds : PySem.W.findIn K (.ref C_ListSort) "kinds" = some none)
    (ia_ListSort : PySem.W.findIn K (.ref C_ListSort) "__class__" = some (some (.builtin "object.__class__")))
    (im_ListSort : PySem.W.mroIn K C_ListSort (.type "object") = some true)
    (ohn : PySem.W.specialIn K (.builtin "object.__class__") "__get__" = some (some (.builtin "getset_descriptor.__get__")))
    (oht : PySem.W.takesIn K (.builtin "object.__class__") = some true)
    (it_ListSort : PySem.W.isClsIn K C_ListSort = true)
    (ty_ListSort : PySem.W.typeIn K (.ref C_ListSort) = some (.type "type"))
    (it_RefSort : PySem.W.isClsIn K C_RefSort = true)
    (ty_RefSort : PySem.W.typeIn K (.ref C_RefSort) = some (.type "type"))
    (su_IntSort_ListSort : PySem.W.subIn K (.ref C_IntSort) (.ref C_ListSort) = some false)
    (ne_IntSort_ListSort : (Value.ref C_IntSort == Value.ref C_ListSort) = false)
    (su_TextSort_ListSort : PySem.W.subIn K (.ref C_TextSort) (.ref C_ListSort) = some false)
    (ne_TextSort_ListSort : (Value.ref C_TextSort == Value.ref C_ListSort) = false)
    (su_ChoiceSort_ListSort : PySem.W.subIn K (.ref C_ChoiceSort) (.ref C_ListSort) = some false)
    (ne_ChoiceSort_ListSort : (Value.ref C_ChoiceSort == Value.ref C_ListSort) = false)
    (su_RefSort_ListSort : PySem.W.subIn K (.ref C_RefSort) (.ref C_ListSort) = some false)
    (ne_RefSort_ListSort : (Value.ref C_RefSort == Value.ref C_ListSort) = false)
    (su_IntSort_RefSort : PySem.W.subIn K (.ref C_IntSort) (.ref C_RefSort) = some false)
    (ne_IntSort_RefSort : (Value.ref C_IntSort == Value.ref C_RefSort) = false)
    (su_TextSort_RefSort : PySem.W.subIn K (.ref C_TextSort) (.ref C_RefSort) = some false)
    (ne_TextSort_RefSort : (Value.ref C_TextSort == Value.ref C_RefSort) = false)
    (su_ChoiceSort_RefSort : PySem.W.subIn K (.ref C_ChoiceSort) (.ref C_RefSort) = some false)
    (ne_ChoiceSort_RefSort : (Value.ref C_ChoiceSort == Value.ref C_RefSort) = false)
    (su_ListSort_RefSort : PySem.W.subIn K (.ref C_ListSort) (.ref C_RefSort) = some false)
    (ne_ListSort_RefSort : (Value.ref C_ListSort == Value.ref C_RefSort) = false)
    (z_len : PySem.W.nsIn K mainGlobals "len" = some none)
    (z_int : PySem.W.nsIn K mainGlobals "int" = some none)
    (z_range : PySem.W.nsIn K mainGlobals "range" = some none)
    (z_list : PySem.W.nsIn K mainGlobals "list" = some none)
    (z_bool : PySem.W.nsIn K mainGlobals "bool" = some none)
    (z_str : PySem.W.nsIn K mainGlobals "str" = some none)
    (z_isinstance : PySem.W.nsIn K mainGlobals "isinstance" = some none)
    : Txt K mg ⟨C_IntSort, C_TextSort, C_ChoiceSort, C_RefSort, C_ListSort, f_IntSort___init__, (PySem.W.fnOf "__init__" "IntSort.__init__" (defArgs (inClass (topS 2) 0)) (defBody (inClass (topS 2) 0)) (defScope (inClass (topS 2) 0)) .none kV0 dc0 pm0 an0 cd0 ct0), f_IntSort_holds, (PySem.W.fnOf "holds" "IntSort.holds" (defArgs (inClass (topS 2) 1)) (defBody (inClass (topS 2) 1)) (defScope (inClass (topS 2) 1)) .none kV1 dc1 pm1 an1 cd1 ct1), f_TextSort___init__, (PySem.W.fnOf "__init__" "TextSort.__init__" (defArgs (inClass (topS 3) 0)) (defBody (inClass (topS 3) 0)) (defScope (inClass (topS 3) 0)) (.ref dV2) kV2 dc2 pm2 an2 cd2 ct2), f_TextSort_holds, (PySem.W.fnOf "holds" "TextSort.holds" (defArgs (inClass (topS 3) 1)) (defBody (inClass (topS 3) 1)) (defScope (inClass (topS 3) 1)) .none kV3 dc3 pm3 an3 cd3 ct3), f_ChoiceSort___init__, (PySem.W.fnOf "__init__" "ChoiceSort.__init__" (defArgs (inClass (topS 4) 0)) (defBody (inClass (topS 4) 0)) (defScope (inClass (topS 4) 0)) .none kV4 dc4 pm4 an4 cd4 ct4), f_ChoiceSort_holds, (PySem.W.fnOf "holds" "ChoiceSort.holds" (defArgs (inClass (topS 4) 1)) (defBody (inClass (topS 4) 1)) (defScope (inClass (topS 4) 1)) .none kV5 dc5 pm5 an5 cd5 ct5), f_RefSort___init__, (PySem.W.fnOf "__init__" "RefSort.__init__" (defArgs (inClass (topS 5) 0)) (defBody (inClass (topS 5) 0)) (defScope (inClass (topS 5) 0)) .none kV6 dc6 pm6 an6 cd6 ct6), f_RefSort_holds, (PySem.W.fnOf "holds" "RefSort.holds" (defArgs (inClass (topS 5) 1)) (defBody (inClass (topS 5) 1)) (defScope (inClass (topS 5) 1)) .none kV7 dc7 pm7 an7 cd7 ct7), f_ListSort___init__, (PySem.W.fnOf "__init__" "ListSort.__init__" (defArgs (inClass (topS 6) 0)) (defBody (inClass (topS 6) 0)) (defScope (inClass (topS 6) 0)) .none kV8 dc8 pm8 an8 cd8 ct8), f_ListSort_holds, (PySem.W.fnOf "holds" "ListSort.holds" (defArgs (inClass (topS 6) 1)) (defBody (inClass (topS 6) 1)) (defScope (inClass (topS 6) 1)) .none kV9 dc9 pm9 an9 cd9 ct9), f__law_cells, (PySem.W.fnOf "_law_cells" "_law_cells" (defArgs (topS 12)) (defBody (topS 12)) (defScope (topS 12)) .none kV10 dc10 pm10 an10 cd10 ct10), f__law_draw, (PySem.W.fnOf "_law_draw" "_law_draw" (defArgs (topS 13)) (defBody (topS 13)) (defScope (topS 13)) .none kV11 dc11 pm11 an11 cd11 ct11), f__law_pick, (PySem.W.fnOf "_law_pick" "_law_pick" (defArgs (topS 14)) (defBody (topS 14)) (defScope (topS 14)) .none kV12 dc12 pm12 an12 cd12 ct12), f__law_shape, (PySem.W.fnOf "_law_shape" "_law_shape" (defArgs (topS 15)) (defBody (topS 15)) (defScope (topS 15)) .none kV13 dc13 pm13 an13 cd13 ct13), f__law_object, (PySem.W.fnOf "_law_object" "_law_object" (defArgs (topS 16)) (defBody (topS 16)) (defScope (topS 16)) .none kV14 dc14 pm14 an14 cd14 ct14), f__law_due, (PySem.W.fnOf "_law_due" "_law_due" (defArgs (topS 17)) (defBody (topS 17)) (defScope (topS 17)) .none kV15 dc15 pm15 an15 cd15 ct15), f_is_reference, (PySem.W.fnOf "is_reference" "is_reference" (defArgs (topS 7)) (defBody (topS 7)) (defScope (topS 7)) .none kV16 dc16 pm16 an16 cd16 ct16), f_is_list, (PySem.W.fnOf "is_list" "is_list" (defArgs (topS 8)) (defBody (topS 8)) (defScope (topS 8)) .none kV17 dc17 pm17 an17 cd17 ct17), f_is_link, (PySem.W.fnOf "is_link" "is_link" (defArgs (topS 9)) (defBody (topS 9)) (defScope (topS 9)) .none kV18 dc18 pm18 an18 cd18 ct18), f_blank, (PySem.W.fnOf "blank" "blank" (defArgs (topS 10)) (defBody (topS 10)) (defScope (topS 10)) .none kV19 dc19 pm19 an19 cd19 ct19), f_law, (PySem.W.fnOf "law" "law" (defArgs (topS 18)) (defBody (topS 18)) (defScope (topS 18)) .none kV20 dc20 pm20 an20 cd20 ct20)⟩ := by
  have F0 := fun_mk (st := (inClass (topS 2) 0)) l_IntSort___init__ c_IntSort___init__ k_IntSort___init__
  have b0 := F0.binds (ps := ["self", "low", "high"]) fun _ _ _ _ _ _ us hl => match us, hl with | [_, _, _], _ => rfl
  have F1 := fun_mk (st := (inClass (topS 2) 1)) l_IntSort_holds c_IntSort_holds k_IntSort_holds
  have b1 := F1.binds (ps := ["self", "value"]) fun _ _ _ _ _ _ us hl => match us, hl with | [_, _], _ => rfl
  have F2 : FunD K "__init__" "TextSort.__init__" (defArgs (inClass (topS 3) 0)) (defBody (inClass (topS 3) 0)) (defScope (inClass (topS 3) 0)) [.non] [] f_TextSort___init__ (PySem.W.fnOf "__init__" "TextSort.__init__" (defArgs (inClass (topS 3) 0)) (defBody (inClass (topS 3) 0)) (defScope (inClass (topS 3) 0)) (.ref dV2) kV2 dc2 pm2 an2 cd2 ct2) := ⟨⟨_, _, _, _, _, _, _, _, _, _, rfl, l_TextSort___init__, c_TextSort___init__, .inr ⟨by simp, _, _, _, _, rfl, d_TextSort___init__, rfl, .cons rfl .nil⟩, .inl rfl⟩, k_TextSort___init__⟩
  have b2 : Binds K (PySem.W.fnOf "__init__" "TextSort.__init__" (defArgs (inClass (topS 3) 0)) (defBody (inClass (topS 3) 0)) (defScope (inClass (topS 3) 0)) (.ref dV2) kV2 dc2 pm2 an2 cd2 ct2) ["self", "longest", "without"] [] := by
    obtain ⟨ds, h1, h2⟩ := F2.binds1 (ps := ["self", "longest", "without"]) 3 1 (by simp) (by rfl) (fun _ _ _ _ _ _ _ us its h3 h4 => match us, its, h3, h4 with | [_, _, _], [_], _, _ => ⟨_, rfl, rfl⟩)
    cases h1
    exact h2
  have F3 := fun_mk (st := (inClass (topS 3) 1)) l_TextSort_holds c_TextSort_holds k_TextSort_holds
  have b3 := F3.binds (ps := ["self", "value"]) fun _ _ _ _ _ _ us hl => match us, hl with | [_, _], _ => rfl
  have F4 := fun_mk (st := (inClass (topS 4) 0)) l_ChoiceSort___init__ c_ChoiceSort___init__ k_ChoiceSort___init__
  have b4 := F4.binds (ps := ["self", "choices"]) fun _ _ _ _ _ _ us hl => match us, hl with | [_, _], _ => rfl
  have F5 := fun_mk (st := (inClass (topS 4) 1)) l_ChoiceSort_holds c_ChoiceSort_holds k_ChoiceSort_holds
  have b5 := F5.binds (ps := ["self", "value"]) fun _ _ _ _ _ _ us hl => match us, hl with | [_, _], _ => rfl
  have F6 := fun_mk (st := (inClass (topS 5) 0)) l_RefSort___init__ c_RefSort___init__ k_RefSort___init__
  have b6 := F6.binds (ps := ["self", "kinds", "rule"]) fun _ _ _ _ _ _ us hl => match us, hl with | [_, _, _], _ => rfl
  have F7 := fun_mk (st := (inClass (topS 5) 1)) l_RefSort_holds c_RefSort_holds k_RefSort_holds
  have b7 := F7.binds (ps := ["self", "value"]) fun _ _ _ _ _ _ us hl => match us, hl with | [_, _], _ => rfl
  have F8 := fun_mk (st := (inClass (topS 6) 0)) l_ListSort___init__ c_ListSort___init__ k_ListSort___init__
  have b8 := F8.binds (ps := ["self", "kinds"]) fun _ _ _ _ _ _ us hl => match us, hl with | [_, _], _ => rfl
  have F9 := fun_mk (st := (inClass (topS 6) 1)) l_ListSort_holds c_ListSort_holds k_ListSort_holds
  have b9 := F9.binds (ps := ["self", "value"]) fun _ _ _ _ _ _ us hl => match us, hl with | [_, _], _ => rfl
  have F10 := fun_mk (st := (topS 12)) l__law_cells c__law_cells k__law_cells
  have b10 := F10.binds (ps := ["script", "count"]) fun _ _ _ _ _ _ us hl => match us, hl with | [_, _], _ => rfl
  have F11 := fun_mk (st := (topS 13)) l__law_draw c__law_draw k__law_draw
  have b11 := F11.binds (ps := ["draws", "bound"]) fun _ _ _ _ _ _ us hl => match us, hl with | [_, _], _ => rfl
  have F12 := fun_mk (st := (topS 14)) l__law_pick c__law_pick k__law_pick
  have b12 := F12.binds (ps := ["draws", "row"]) fun _ _ _ _ _ _ us hl => match us, hl with | [_, _], _ => rfl
  have F13 := fun_mk (st := (topS 15)) l__law_shape c__law_shape k__law_shape
  have b13 := F13.binds (ps := ["draws", "names"]) fun _ _ _ _ _ _ us hl => match us, hl with | [_, _], _ => rfl
  have F14 := fun_mk (st := (topS 16)) l__law_object c__law_object k__law_object
  have b14 := F14.binds (ps := ["shape"]) fun _ _ _ _ _ _ us hl => match us, hl with | [_], _ => rfl
  have F15 := fun_mk (st := (topS 17)) l__law_due c__law_due k__law_due
  have b15 := F15.binds (ps := ["shape", "value"]) fun _ _ _ _ _ _ us hl => match us, hl with | [_, _], _ => rfl
  have F16 := fun_mk (st := (topS 7)) l_is_reference c_is_reference k_is_reference
  have b16 := F16.binds (ps := ["shape"]) fun _ _ _ _ _ _ us hl => match us, hl with | [_], _ => rfl
  have F17 := fun_mk (st := (topS 8)) l_is_list c_is_list k_is_list
  have b17 := F17.binds (ps := ["shape"]) fun _ _ _ _ _ _ us hl => match us, hl with | [_], _ => rfl
  have F18 := fun_mk (st := (topS 9)) l_is_link c_is_link k_is_link
  have b18 := F18.binds (ps := ["shape"]) fun _ _ _ _ _ _ us hl => match us, hl with | [_], _ => rfl
  have F19 := fun_mk (st := (topS 10)) l_blank c_blank k_blank
  have b19 := F19.binds (ps := ["shape"]) fun _ _ _ _ _ _ us hl => match us, hl with | [_], _ => rfl
  have F20 := fun_mk (st := (topS 18)) l_law c_law k_law
  have b20 := F20.binds (ps := ["script"]) fun _ _ _ _ _ _ us hl => match us, hl with | [_], _ => rfl
  exact {
    b_len := PySem.W.mg_none_of X G z_len,
    b_int := PySem.W.mg_none_of X G z_int,
    b_range := PySem.W.mg_none_of X G z_range,
    b_list := PySem.W.mg_none_of X G z_list,
    b_bool := PySem.W.mg_none_of X G z_bool,
    b_str := PySem.W.mg_none_of X G z_str,
    b_isinstance := PySem.W.mg_none_of X G z_isinstance,
    g_IntSort := PySem.W.mg_of X G a_IntSort,
    cl_IntSort := ⟨pg_IntSort, hd_IntSort, po_IntSort, sa_IntSort⟩,
    mk_IntSort := ⟨mk_IntSort, a_IntSort___init__, i_IntSort___init__, kc_IntSort⟩,
    na_IntSort_low := na_IntSort_low,
    na_IntSort_high := na_IntSort_high,
    me_IntSort_holds := ⟨a_IntSort_holds, i_IntSort_holds, k_IntSort_holds⟩,
    ii_IntSort := fun H a dx fs e => .base (.ins e ⟨pg_IntSort, hd_IntSort, po_IntSort, sa_IntSort⟩ ia_IntSort ohn oht im_IntSort),
    g_TextSort := PySem.W.mg_of X G a_TextSort,
    cl_TextSort := ⟨pg_TextSort, hd_TextSort, po_TextSort, sa_TextSort⟩,
    mk_TextSort := ⟨mk_TextSort, a_TextSort___init__, i_TextSort___init__, kc_TextSort⟩,
    na_TextSort_longest := na_TextSort_longest,
    na_TextSort_without := na_TextSort_without,
    me_TextSort_holds := ⟨a_TextSort_holds, i_TextSort_holds, k_TextSort_holds⟩,
    ii_TextSort := fun H a dx fs e => .base (.ins e ⟨pg_TextSort, hd_TextSort, po_TextSort, sa_TextSort⟩ ia_TextSort ohn oht im_TextSort),
    g_ChoiceSort := PySem.W.mg_of X G a_ChoiceSort,
    cl_ChoiceSort := ⟨pg_ChoiceSort, hd_ChoiceSort, po_ChoiceSort, sa_ChoiceSort⟩,
    mk_ChoiceSort := ⟨mk_ChoiceSort, a_ChoiceSort___init__, i_ChoiceSort___init__, kc_ChoiceSort⟩,
    na_ChoiceSort_choices := na_ChoiceSort_choices,
    me_ChoiceSort_holds := ⟨a_ChoiceSort_holds, i_ChoiceSort_holds, k_ChoiceSort_holds⟩,
    ii_ChoiceSort := fun H a dx fs e => .base (.ins e ⟨pg_ChoiceSort, hd_ChoiceSort, po_ChoiceSort, sa_ChoiceSort⟩ ia_ChoiceSort ohn oht im_ChoiceSort),
    g_RefSort := PySem.W.mg_of X G a_RefSort,
    cl_RefSort := ⟨pg_RefSort, hd_RefSort, po_RefSort, sa_RefSort⟩,
    mk_RefSort := ⟨mk_RefSort, a_RefSort___init__, i_RefSort___init__, kc_RefSort⟩,
    na_RefSort_kinds := na_RefSort_kinds,
    na_RefSort_rule := na_RefSort_rule,
    me_RefSort_holds := ⟨a_RefSort_holds, i_RefSort_holds, k_RefSort_holds⟩,
    ii_RefSort := fun H a dx fs e => .base (.ins e ⟨pg_RefSort, hd_RefSort, po_RefSort, sa_RefSort⟩ ia_RefSort ohn oht im_RefSort),
    g_ListSort := PySem.W.mg_of X G a_ListSort,
    cl_ListSort := ⟨pg_ListSort, hd_ListSort, po_ListSort, sa_ListSort⟩,
    mk_ListSort := ⟨mk_ListSort, a_ListSort___init__, i_ListSort___init__, kc_ListSort⟩,
    na_ListSort_kinds := na_ListSort_kinds,
    me_ListSort_holds := ⟨a_ListSort_holds, i_ListSort_holds, k_ListSort_holds⟩,
    ii_ListSort := fun H a dx fs e => .base (.ins e ⟨pg_ListSort, hd_ListSort, po_ListSort, sa_ListSort⟩ ia_ListSort ohn oht im_ListSort),
    is_IntSort_ListSort := kit_own it_ListSort ty_ListSort su_IntSort_ListSort ne_IntSort_ListSort,
    is_TextSort_ListSort := kit_own it_ListSort ty_ListSort su_TextSort_ListSort ne_TextSort_ListSort,
    is_ChoiceSort_ListSort := kit_own it_ListSort ty_ListSort su_ChoiceSort_ListSort ne_ChoiceSort_ListSort,
    is_RefSort_ListSort := kit_own it_ListSort ty_ListSort su_RefSort_ListSort ne_RefSort_ListSort,
    is_ListSort_ListSort := kit_self,
    is_IntSort_RefSort := kit_own it_RefSort ty_RefSort su_IntSort_RefSort ne_IntSort_RefSort,
    is_TextSort_RefSort := kit_own it_RefSort ty_RefSort su_TextSort_RefSort ne_TextSort_RefSort,
    is_ChoiceSort_RefSort := kit_own it_RefSort ty_RefSort su_ChoiceSort_RefSort ne_ChoiceSort_RefSort,
    is_RefSort_RefSort := kit_self,
    is_ListSort_RefSort := kit_own it_RefSort ty_RefSort su_ListSort_RefSort ne_ListSort_RefSort,
    F_IntSort___init__ := F0,
    b_IntSort___init__ := b0,
    F_IntSort_holds := F1,
    b_IntSort_holds := b1,
    F_TextSort___init__ := F2,
    b_TextSort___init__ := b2,
    F_TextSort_holds := F3,
    b_TextSort_holds := b3,
    F_ChoiceSort___init__ := F4,
    b_ChoiceSort___init__ := b4,
    F_ChoiceSort_holds := F5,
    b_ChoiceSort_holds := b5,
    F_RefSort___init__ := F6,
    b_RefSort___init__ := b6,
    F_RefSort_holds := F7,
    b_RefSort_holds := b7,
    F_ListSort___init__ := F8,
    b_ListSort___init__ := b8,
    F_ListSort_holds := F9,
    b_ListSort_holds := b9,
    F__law_cells := F10,
    b__law_cells := b10,
    g__law_cells := PySem.W.mg_of X G a__law_cells,
    F__law_draw := F11,
    b__law_draw := b11,
    g__law_draw := PySem.W.mg_of X G a__law_draw,
    F__law_pick := F12,
    b__law_pick := b12,
    g__law_pick := PySem.W.mg_of X G a__law_pick,
    F__law_shape := F13,
    b__law_shape := b13,
    g__law_shape := PySem.W.mg_of X G a__law_shape,
    F__law_object := F14,
    b__law_object := b14,
    g__law_object := PySem.W.mg_of X G a__law_object,
    F__law_due := F15,
    b__law_due := b15,
    g__law_due := PySem.W.mg_of X G a__law_due,
    F_is_reference := F16,
    b_is_reference := b16,
    g_is_reference := PySem.W.mg_of X G a_is_reference,
    F_is_list := F17,
    b_is_list := b17,
    g_is_list := PySem.W.mg_of X G a_is_list,
    F_is_link := F18,
    b_is_link := b18,
    g_is_link := PySem.W.mg_of X G a_is_link,
    F_blank := F19,
    b_blank := b19,
    g_blank := PySem.W.mg_of X G a_blank,
    F_law := F20,
    b_law := b20 }
theorem fin {K : PySem.W.Frag} {h : Heap} {mg : Str → Option Value} {l : PySem.W.OpenLaw} {w : World} {fa : Addr} (X : K.In h) (G : h.Ns mainGlobals mg) (hfa : mg "law" = some (.ref fa)) {C_IntSort C_TextSort C_ChoiceSort C_RefSort C_ListSort f_IntSort___init__ f_IntSort_holds f_TextSort___init__ f_TextSort_holds f_ChoiceSort___init__ f_ChoiceSort_holds f_RefSort___init__ f_RefSort_holds f_ListSort___init__ f_ListSort_holds f__law_cells f__law_draw f__law_pick f__law_shape f__law_object f__law_due f_is_reference f_is_list f_is_link f_blank f_law : Addr}
    {od0 an0 od1 an1 od2 an2 od3 an3 od4 an4 od5 an5 od6 an6 od7 an7 od8 an8 od9 an9 od10 an10 od11 an11 od12 an12 od13 an13 od14 an14 od15 an15 od16 an16 od17 an17 od18 an18 od19 an19 od20 an20 : Option Addr} {sl0 sl1 sl2 sl3 sl4 sl5 sl6 sl7 sl8 sl9 sl10 sl11 sl12 sl13 sl14 sl15 sl16 sl17 sl18 sl19 sl20 : Array (Option Value)} {oc0 kV0 dc0 pm0 cd0 ct0 oc1 kV1 dc1 pm1 cd1 ct1 oc2 kV2 dc2 pm2 cd2 ct2 oc3 kV3 dc3 pm3 cd3 ct3 oc4 kV4 dc4 pm4 cd4 ct4 oc5 kV5 dc5 pm5 cd5 ct5 oc6 kV6 dc6 pm6 cd6 ct6 oc7 kV7 dc7 pm7 cd7 ct7 oc8 kV8 dc8 pm8 cd8 ct8 oc9 kV9 dc9 pm9 cd9 ct9 oc10 kV10 dc10 pm10 cd10 ct10 oc11 kV11 dc11 pm11 cd11 ct11 oc12 kV12 dc12 pm12 cd12 ct12 oc13 kV13 dc13 pm13 cd13 ct13 oc14 kV14 dc14 pm14 cd14 ct14 oc15 kV15 dc15 pm15 cd15 ct15 oc16 kV16 dc16 pm16 cd16 ct16 oc17 kV17 dc17 pm17 cd17 ct17 oc18 kV18 dc18 pm18 cd18 ct18 oc19 kV19 dc19 pm19 cd19 ct19 oc20 kV20 dc20 pm20 cd20 ct20 : Value} {dV2 : Addr} {dC2 : Value} {dD2 : Option Addr} {dN2 : Nat} {dS2 : Array (Option Value)}
    (a_IntSort : PySem.W.nsIn K mainGlobals "IntSort" = some (some (.ref C_IntSort)))
    (a_TextSort : PySem.W.nsIn K mainGlobals "TextSort" = some (some (.ref C_TextSort)))
    (a_ChoiceSort : PySem.W.nsIn K mainGlobals "ChoiceSort" = some (some (.ref C_ChoiceSort)))
    (a_RefSort : PySem.W.nsIn K mainGlobals "RefSort" = some (some (.ref C_RefSort)))
    (a_ListSort : PySem.W.nsIn K mainGlobals "ListSort" = some (some (.ref C_ListSort)))
    (a_IntSort___init__ : PySem.W.findIn K (.ref C_IntSort) "__init__" = some (some (.ref f_IntSort___init__)))
    (i_IntSort___init__ : PySem.W.isFn K (.ref f_IntSort___init__) = true)
    (l_IntSort___init__ : K.lookup f_IntSort___init__ = some ⟨oc0, od0, .func (PySem.W.fnOf "__init__" "IntSort.__init__" (defArgs (inClass (topS 2) 0)) (defBody (inClass (topS 2) 0)) (defScope (inClass (topS 2) 0)) .none kV0 dc0 pm0 an0 cd0 ct0), sl0⟩)
    (c_IntSort___init__ : PySem.W.codeIn K cd0 "IntSort.__init__" = true)
    (k_IntSort___init__ : PySem.W.keepIn K (.ref f_IntSort___init__) = true)
    (a_IntSort_holds : PySem.W.findIn K (.ref C_IntSort) "holds" = some (some (.ref f_IntSort_holds)))
    (i_IntSort_holds : PySem.W.isFn K (.ref f_IntSort_holds) = true)
    (l_IntSort_holds : K.lookup f_IntSort_holds = some ⟨oc1, od1, .func (PySem.W.fnOf "holds" "IntSort.holds" (defArgs (inClass (topS 2) 1)) (defBody (inClass (topS 2) 1)) (defScope (inClass (topS 2) 1)) .none kV1 dc1 pm1 an1 cd1 ct1), sl1⟩)
    (c_IntSort_holds : PySem.W.codeIn K cd1 "IntSort.holds" = true)
    (k_IntSort_holds : PySem.W.keepIn K (.ref f_IntSort_holds) = true)
    (a_TextSort___init__ : PySem.W.findIn K (.ref C_TextSort) "__init__" = some (some (.ref f_TextSort___init__)))
    (i_TextSort___init__ : PySem.W.isFn K (.ref f_TextSort___init__) = true)
    (l_TextSort___init__ : K.lookup f_TextSort___init__ = some ⟨oc2, od2, .func (PySem.W.fnOf "__init__" "TextSort.__init__" (defArgs (inClass (topS 3) 0)) (defBody (inClass (topS 3) 0)) (defScope (inClass (topS 3) 0)) (.ref dV2) kV2 dc2 pm2 an2 cd2 ct2), sl2⟩)
    (d_TextSort___init__ : K.lookup dV2 = some ⟨dC2, dD2, .seq [.none].toArray dN2, dS2⟩)
    (c_TextSort___init__ : PySem.W.codeIn K cd2 "TextSort.__init__" = true)
    (k_TextSort___init__ : PySem.W.keepIn K (.ref f_TextSort___init__) = true)
    (a_TextSort_holds : PySem.W.findIn K (.ref C_TextSort) "holds" = some (some (.ref f_TextSort_holds)))
    (i_TextSort_holds : PySem.W.isFn K (.ref f_TextSort_holds) = true)
    (l_TextSort_holds : K.lookup f_TextSort_holds = some ⟨oc3, od3, .func (PySem.W.fnOf "holds" "TextSort.holds" (defArgs (inClass (topS 3) 1)) (defBody (inClass (topS 3) 1)) (defScope (inClass (topS 3) 1)) .none kV3 dc3 pm3 an3 cd3 ct3), sl3⟩)
    (c_TextSort_holds : PySem.W.codeIn K cd3 "TextSort.holds" = true)
    (k_TextSort_holds : PySem.W.keepIn K (.ref f_TextSort_holds) = true)
    (a_ChoiceSort___init__ : PySem.W.findIn K (.ref C_ChoiceSort) "__init__" = some (some (.ref f_ChoiceSort___init__)))
    (i_ChoiceSort___init__ : PySem.W.isFn K (.ref f_ChoiceSort___init__) = true)
    (l_ChoiceSort___init__ : K.lookup f_ChoiceSort___init__ = some ⟨oc4, od4, .func (PySem.W.fnOf "__init__" "ChoiceSort.__init__" (defArgs (inClass (topS 4) 0)) (defBody (inClass (topS 4) 0)) (defScope (inClass (topS 4) 0)) .none kV4 dc4 pm4 an4 cd4 ct4), sl4⟩)
    (c_ChoiceSort___init__ : PySem.W.codeIn K cd4 "ChoiceSort.__init__" = true)
    (k_ChoiceSort___init__ : PySem.W.keepIn K (.ref f_ChoiceSort___init__) = true)
    (a_ChoiceSort_holds : PySem.W.findIn K (.ref C_ChoiceSort) "holds" = some (some (.ref f_ChoiceSort_holds)))
    (i_ChoiceSort_holds : PySem.W.isFn K (.ref f_ChoiceSort_holds) = true)
    (l_ChoiceSort_holds : K.lookup f_ChoiceSort_holds = some ⟨oc5, od5, .func (PySem.W.fnOf "holds" "ChoiceSort.holds" (defArgs (inClass (topS 4) 1)) (defBody (inClass (topS 4) 1)) (defScope (inClass (topS 4) 1)) .none kV5 dc5 pm5 an5 cd5 ct5), sl5⟩)
    (c_ChoiceSort_holds : PySem.W.codeIn K cd5 "ChoiceSort.holds" = true)
    (k_ChoiceSort_holds : PySem.W.keepIn K (.ref f_ChoiceSort_holds) = true)
    (a_RefSort___init__ : PySem.W.findIn K (.ref C_RefSort) "__init__" = some (some (.ref f_RefSort___init__)))
    (i_RefSort___init__ : PySem.W.isFn K (.ref f_RefSort___init__) = true)
    (l_RefSort___init__ : K.lookup f_RefSort___init__ = some ⟨oc6, od6, .func (PySem.W.fnOf "__init__" "RefSort.__init__" (defArgs (inClass (topS 5) 0)) (defBody (inClass (topS 5) 0)) (defScope (inClass (topS 5) 0)) .none kV6 dc6 pm6 an6 cd6 ct6), sl6⟩)
    (c_RefSort___init__ : PySem.W.codeIn K cd6 "RefSort.__init__" = true)
    (k_RefSort___init__ : PySem.W.keepIn K (.ref f_RefSort___init__) = true)
    (a_RefSort_holds : PySem.W.findIn K (.ref C_RefSort) "holds" = some (some (.ref f_RefSort_holds)))
    (i_RefSort_holds : PySem.W.isFn K (.ref f_RefSort_holds) = true)
    (l_RefSort_holds : K.lookup f_RefSort_holds = some ⟨oc7, od7, .func (PySem.W.fnOf "holds" "RefSort.holds" (defArgs (inClass (topS 5) 1)) (defBody (inClass (topS 5) 1)) (defScope (inClass (topS 5) 1)) .none kV7 dc7 pm7 an7 cd7 ct7), sl7⟩)
    (c_RefSort_holds : PySem.W.codeIn K cd7 "RefSort.holds" = true)
    (k_RefSort_holds : PySem.W.keepIn K (.ref f_RefSort_holds) = true)
    (a_ListSort___init__ : PySem.W.findIn K (.ref C_ListSort) "__init__" = some (some (.ref f_ListSort___init__)))
    (i_ListSort___init__ : PySem.W.isFn K (.ref f_ListSort___init__) = true)
    (l_ListSort___init__ : K.lookup f_ListSort___init__ = some ⟨oc8, od8, .func (PySem.W.fnOf "__init__" "ListSort.__init__" (defArgs (inClass (topS 6) 0)) (defBody (inClass (topS 6) 0)) (defScope (inClass (topS 6) 0)) .none kV8 dc8 pm8 an8 cd8 ct8), sl8⟩)
    (c_ListSort___init__ : PySem.W.codeIn K cd8 "ListSort.__init__" = true)
    (k_ListSort___init__ : PySem.W.keepIn K (.ref f_ListSort___init__) = true)
    (a_ListSort_holds : PySem.W.findIn K (.ref C_ListSort) "holds" = some (some (.ref f_ListSort_holds)))
    (i_ListSort_holds : PySem.W.isFn K (.ref f_ListSort_holds) = true)
    (l_ListSort_holds : K.lookup f_ListSort_holds = some ⟨oc9, od9, .func (PySem.W.fnOf "holds" "ListSort.holds" (defArgs (inClass (topS 6) 1)) (defBody (inClass (topS 6) 1)) (defScope (inClass (topS 6) 1)) .none kV9 dc9 pm9 an9 cd9 ct9), sl9⟩)
    (c_ListSort_holds : PySem.W.codeIn K cd9 "ListSort.holds" = true)
    (k_ListSort_holds : PySem.W.keepIn K (.ref f_ListSort_holds) = true)
    (a__law_cells : PySem.W.nsIn K mainGlobals "_law_cells" = some (some (.ref f__law_cells)))
    (l__law_cells : K.lookup f__law_cells = some ⟨oc10, od10, .func (PySem.W.fnOf "_law_cells" "_law_cells" (defArgs (topS 12)) (defBody (topS 12)) (defScope (topS 12)) .none kV10 dc10 pm10 an10 cd10 ct10), sl10⟩)
    (c__law_cells : PySem.W.codeIn K cd10 "_law_cells" = true)
    (k__law_cells : PySem.W.keepIn K (.ref f__law_cells) = true)
    (a__law_draw : PySem.W.nsIn K mainGlobals "_law_draw" = some (some (.ref f__law_draw)))
    (l__law_draw : K.lookup f__law_draw = some ⟨oc11, od11, .func (PySem.W.fnOf "_law_draw" "_law_draw" (defArgs (topS 13)) (defBody (topS 13)) (defScope (topS 13)) .none kV11 dc11 pm11 an11 cd11 ct11), sl11⟩)
    (c__law_draw : PySem.W.codeIn K cd11 "_law_draw" = true)
    (k__law_draw : PySem.W.keepIn K (.ref f__law_draw) = true)
    (a__law_pick : PySem.W.nsIn K mainGlobals "_law_pick" = some (some (.ref f__law_pick)))
    (l__law_pick : K.lookup f__law_pick = some ⟨oc12, od12, .func (PySem.W.fnOf "_law_pick" "_law_pick" (defArgs (topS 14)) (defBody (topS 14)) (defScope (topS 14)) .none kV12 dc12 pm12 an12 cd12 ct12), sl12⟩)
    (c__law_pick : PySem.W.codeIn K cd12 "_law_pick" = true)
    (k__law_pick : PySem.W.keepIn K (.ref f__law_pick) = true)
    (a__law_shape : PySem.W.nsIn K mainGlobals "_law_shape" = some (some (.ref f__law_shape)))
    (l__law_shape : K.lookup f__law_shape = some ⟨oc13, od13, .func (PySem.W.fnOf "_law_shape" "_law_shape" (defArgs (topS 15)) (defBody (topS 15)) (defScope (topS 15)) .none kV13 dc13 pm13 an13 cd13 ct13), sl13⟩)
    (c__law_shape : PySem.W.codeIn K cd13 "_law_shape" = true)
    (k__law_shape : PySem.W.keepIn K (.ref f__law_shape) = true)
    (a__law_object : PySem.W.nsIn K mainGlobals "_law_object" = some (some (.ref f__law_object)))
    (l__law_object : K.lookup f__law_object = some ⟨oc14, od14, .func (PySem.W.fnOf "_law_object" "_law_object" (defArgs (topS 16)) (defBody (topS 16)) (defScope (topS 16)) .none kV14 dc14 pm14 an14 cd14 ct14), sl14⟩)
    (c__law_object : PySem.W.codeIn K cd14 "_law_object" = true)
    (k__law_object : PySem.W.keepIn K (.ref f__law_object) = true)
    (a__law_due : PySem.W.nsIn K mainGlobals "_law_due" = some (some (.ref f__law_due)))
    (l__law_due : K.lookup f__law_due = some ⟨oc15, od15, .func (PySem.W.fnOf "_law_due" "_law_due" (defArgs (topS 17)) (defBody (topS 17)) (defScope (topS 17)) .none kV15 dc15 pm15 an15 cd15 ct15), sl15⟩)
    (c__law_due : PySem.W.codeIn K cd15 "_law_due" = true)
    (k__law_due : PySem.W.keepIn K (.ref f__law_due) = true)
    (a_is_reference : PySem.W.nsIn K mainGlobals "is_reference" = some (some (.ref f_is_reference)))
    (l_is_reference : K.lookup f_is_reference = some ⟨oc16, od16, .func (PySem.W.fnOf "is_reference" "is_reference" (defArgs (topS 7)) (defBody (topS 7)) (defScope (topS 7)) .none kV16 dc16 pm16 an16 cd16 ct16), sl16⟩)
    (c_is_reference : PySem.W.codeIn K cd16 "is_reference" = true)
    (k_is_reference : PySem.W.keepIn K (.ref f_is_reference) = true)
    (a_is_list : PySem.W.nsIn K mainGlobals "is_list" = some (some (.ref f_is_list)))
    (l_is_list : K.lookup f_is_list = some ⟨oc17, od17, .func (PySem.W.fnOf "is_list" "is_list" (defArgs (topS 8)) (defBody (topS 8)) (defScope (topS 8)) .none kV17 dc17 pm17 an17 cd17 ct17), sl17⟩)
    (c_is_list : PySem.W.codeIn K cd17 "is_list" = true)
    (k_is_list : PySem.W.keepIn K (.ref f_is_list) = true)
    (a_is_link : PySem.W.nsIn K mainGlobals "is_link" = some (some (.ref f_is_link)))
    (l_is_link : K.lookup f_is_link = some ⟨oc18, od18, .func (PySem.W.fnOf "is_link" "is_link" (defArgs (topS 9)) (defBody (topS 9)) (defScope (topS 9)) .none kV18 dc18 pm18 an18 cd18 ct18), sl18⟩)
    (c_is_link : PySem.W.codeIn K cd18 "is_link" = true)
    (k_is_link : PySem.W.keepIn K (.ref f_is_link) = true)
    (a_blank : PySem.W.nsIn K mainGlobals "blank" = some (some (.ref f_blank)))
    (l_blank : K.lookup f_blank = some ⟨oc19, od19, .func (PySem.W.fnOf "blank" "blank" (defArgs (topS 10)) (defBody (topS 10)) (defScope (topS 10)) .none kV19 dc19 pm19 an19 cd19 ct19), sl19⟩)
    (c_blank : PySem.W.codeIn K cd19 "blank" = true)
    (k_blank : PySem.W.keepIn K (.ref f_blank) = true)
    (a_law : PySem.W.nsIn K mainGlobals "law" = some (some (.ref f_law)))
    (l_law : K.lookup f_law = some ⟨oc20, od20, .func (PySem.W.fnOf "law" "law" (defArgs (topS 18)) (defBody (topS 18)) (defScope (topS 18)) .none kV20 dc20 pm20 an20 cd20 ct20), sl20⟩)
    (c_law : PySem.W.codeIn K cd20 "law" = true)
    (k_law : PySem.W.keepIn K (.ref f_law) = true)
    (pg_IntSort : PySem.W.plainGet K C_IntSort Str.empty = true)
    (hd_IntSort : PySem.W.hasDictIn K C_IntSort = true)
    (po_IntSort : PySem.W.plainOver K C_IntSort = true)
    (sa_IntSort : PySem.W.findIn K (.ref C_IntSort) "__setattr__" = some (some (.builtin "object.__setattr__")))
    (mk_IntSort : PySem.W.makesIn K C_IntSort = true)
    (kc_IntSort : PySem.W.keepIn K (.ref C_IntSort) = true)
    (na_IntSort_low : PySem.W.findIn K (.ref C_IntSort) "low" = some none)
    (na_IntSort_high : PySem.W.findIn K (.ref C_IntSort) "high" = some none)
    (ia_IntSort : PySem.W.findIn K (.ref C_IntSort) "__class__" = some (some (.builtin "object.__class__")))
    (im_IntSort : PySem.W.mroIn K C_IntSort (.type "object") = some true)
    (pg_TextSort : PySem.W.plainGet K C_TextSort Str.empty = true)
    (hd_TextSort : PySem.W.hasDictIn K C_TextSort = true)
    (po_TextSort : PySem.W.plainOver K C_TextSort = true)
    (sa_TextSort : PySem.W.findIn K (.ref C_TextSort) "__setattr__" = some (some (.builtin "object.__setattr__")))
    (mk_TextSort : PySem.W.makesIn K C_TextSort = true)
    (kc_TextSort : PySem.W.keepIn K (.ref C_TextSort) = true)
    (na_TextSort_longest : PySem.W.findIn K (.ref C_TextSort) "longest" = some none)
    (na_TextSort_without : PySem.W.findIn K (.ref C_TextSort) "without" = some none)
    (ia_TextSort : PySem.W.findIn K (.ref C_TextSort) "__class__" = some (some (.builtin "object.__class__")))
    (im_TextSort : PySem.W.mroIn K C_TextSort (.type "object") = some true)
    (pg_ChoiceSort : PySem.W.plainGet K C_ChoiceSort Str.empty = true)
    (hd_ChoiceSort : PySem.W.hasDictIn K C_ChoiceSort = true)
    (po_ChoiceSort : PySem.W.plainOver K C_ChoiceSort = true)
    (sa_ChoiceSort : PySem.W.findIn K (.ref C_ChoiceSort) "__setattr__" = some (some (.builtin "object.__setattr__")))
    (mk_ChoiceSort : PySem.W.makesIn K C_ChoiceSort = true)
    (kc_ChoiceSort : PySem.W.keepIn K (.ref C_ChoiceSort) = true)
    (na_ChoiceSort_choices : PySem.W.findIn K (.ref C_ChoiceSort) "choices" = some none)
    (ia_ChoiceSort : PySem.W.findIn K (.ref C_ChoiceSort) "__class__" = some (some (.builtin "object.__class__")))
    (im_ChoiceSort : PySem.W.mroIn K C_ChoiceSort (.type "object") = some true)
    (pg_RefSort : PySem.W.plainGet K C_RefSort Str.empty = true)
    (hd_RefSort : PySem.W.hasDictIn K C_RefSort = true)
    (po_RefSort : PySem.W.plainOver K C_RefSort = true)
    (sa_RefSort : PySem.W.findIn K (.ref C_RefSort) "__setattr__" = some (some (.builtin "object.__setattr__")))
    (mk_RefSort : PySem.W.makesIn K C_RefSort = true)
    (kc_RefSort : PySem.W.keepIn K (.ref C_RefSort) = true)
    (na_RefSort_kinds : PySem.W.findIn K (.ref C_RefSort) "kinds" = some none)
    (na_RefSort_rule : PySem.W.findIn K (.ref C_RefSort) "rule" = some none)
    (ia_RefSort : PySem.W.findIn K (.ref C_RefSort) "__class__" = some (some (.builtin "object.__class__")))
    (im_RefSort : PySem.W.mroIn K C_RefSort (.type "object") = some true)
    (pg_ListSort : PySem.W.plainGet K C_ListSort Str.empty = true)
    (hd_ListSort : PySem.W.hasDictIn K C_ListSort = true)
    (po_ListSort : PySem.W.plainOver K C_ListSort = true)
    (sa_ListSort : PySem.W.findIn K (.ref C_ListSort) "__setattr__" = some (some (.builtin "object.__setattr__")))
    (mk_ListSort : PySem.W.makesIn K C_ListSort = true)
    (kc_ListSort : PySem.W.keepIn K (.ref C_ListSort) = true)
    (na_ListSort_kinds : PySem.W.findIn K (.ref C_ListSort) "kinds" = some none)
    (ia_ListSort : PySem.W.findIn K (.ref C_ListSort) "__class__" = some (some (.builtin "object.__class__")))
    (im_ListSort : PySem.W.mroIn K C_ListSort (.type "object") = some true)
    (ohn : PySem.W.specialIn K (.builtin "object.__class__") "__get__" = some (some (.builtin "getset_descriptor.__get__")))
    (oht : PySem.W.takesIn K (.builtin "object.__class__") = some true)
    (it_ListSort : PySem.W.isClsIn K C_ListSort = true)
    (ty_ListSort : PySem.W.typeIn K (.ref C_ListSort) = some (.type "type"))
    (it_RefSort : PySem.W.isClsIn K C_RefSort = true)
    (ty_RefSort : PySem.W.typeIn K (.ref C_RefSort) = some (.type "type"))
    (su_IntSort_ListSort : PySem.W.subIn K (.ref C_IntSort) (.ref C_ListSort) = some false)
    (ne_IntSort_ListSort : (Value.ref C_IntSort == Value.ref C_ListSort) = false)
    (su_TextSort_ListSort : PySem.W.subIn K (.ref C_TextSort) (.ref C_ListSort) = some false)
    (ne_TextSort_ListSort : (Value.ref C_TextSort == Value.ref C_ListSort) = false)
    (su_ChoiceSort_ListSort : PySem.W.subIn K (.ref C_ChoiceSort) (.ref C_ListSort) = some false)
    (ne_ChoiceSort_ListSort : (Value.ref C_ChoiceSort == Value.ref C_ListSort) = false)
    (su_RefSort_ListSort : PySem.W.subIn K (.ref C_RefSort) (.ref C_ListSort) = some false)
    (ne_RefSort_ListSort : (Value.ref C_RefSort == Value.ref C_ListSort) = false)
    (su_IntSort_RefSort : PySem.W.subIn K (.ref C_IntSort) (.ref C_RefSort) = some false)
    (ne_IntSort_RefSort : (Value.ref C_IntSort == Value.ref C_RefSort) = false)
    (su_TextSort_RefSort : PySem.W.subIn K (.ref C_TextSort) (.ref C_RefSort) = some false)
    (ne_TextSort_RefSort : (Value.ref C_TextSort == Value.ref C_RefSort) = false)
    (su_ChoiceSort_RefSort : PySem.W.subIn K (.ref C_ChoiceSort) (.ref C_RefSort) = some false)
    (ne_ChoiceSort_RefSort : (Value.ref C_ChoiceSort == Value.ref C_RefSort) = false)
    (su_ListSort_RefSort : PySem.W.subIn K (.ref C_ListSort) (.ref C_RefSort) = some false)
    (ne_ListSort_RefSort : (Value.ref C_ListSort == Value.ref C_RefSort) = false)
    (z_len : PySem.W.nsIn K mainGlobals "len" = some none)
    (z_int : PySem.W.nsIn K mainGlobals "int" = some none)
    (z_range : PySem.W.nsIn K mainGlobals "range" = some none)
    (z_list : PySem.W.nsIn K mainGlobals "list" = some none)
    (z_bool : PySem.W.nsIn K mainGlobals "bool" = some none)
    (z_str : PySem.W.nsIn K mainGlobals "str" = some none)
    (z_isinstance : PySem.W.nsIn K mainGlobals "isinstance" = some none) :
    ∃ fd : FuncData, (∀ (s : Shared) (v : Value), BindsTo s fd ⟨[v], []⟩ [("script", v)]) ∧ ∀ base : Heap, K.In base → base.Ns mainGlobals mg → FnOk l.prog w K mg base CX0 5 fa fd ["script"] (spLaw K) := by
  have e := hfa.symm.trans (PySem.W.mg_of X G a_law)
  cases e
  have T := mk_txt X G a_IntSort a_TextSort a_ChoiceSort a_RefSort a_ListSort a_IntSort___init__ i_IntSort___init__ l_IntSort___init__ c_IntSort___init__ k_IntSort___init__ a_IntSort_holds i_IntSort_holds l_IntSort_holds c_IntSort_holds k_IntSort_holds a_TextSort___init__ i_TextSort___init__ l_TextSort___init__ d_TextSort___init__ c_TextSort___init__ k_TextSort___init__ a_TextSort_holds i_TextSort_holds l_TextSort_holds c_TextSort_holds k_TextSort_holds a_ChoiceSort___init__ i_ChoiceSort___init__ l_ChoiceSort___init__ c_ChoiceSort___init__ k_ChoiceSort___init__ a_ChoiceSort_holds i_ChoiceSort_holds l_ChoiceSort_holds c_ChoiceSort_holds k_ChoiceSort_holds a_RefSort___init__ i_RefSort___init__ l_RefSort___init__ c_RefSort___init__ k_RefSort___init__ a_RefSort_holds i_RefSort_holds l_RefSort_holds c_RefSort_holds k_RefSort_holds a_ListSort___init__ i_ListSort___init__ l_ListSort___init__ c_ListSort___init__ k_ListSort___init__ a_ListSort_holds i_ListSort_holds l_ListSort_holds c_ListSort_holds k_ListSort_holds a__law_cells l__law_cells c__law_cells k__law_cells a__law_draw l__law_draw c__law_draw k__law_draw a__law_pick l__law_pick c__law_pick k__law_pick a__law_shape l__law_shape c__law_shape k__law_shape a__law_object l__law_object c__law_object k__law_object a__law_due l__law_due c__law_due k__law_due a_is_reference l_is_reference c_is_reference k_is_reference a_is_list l_is_list c_is_list k_is_list a_is_link l_is_link c_is_link k_is_link a_blank l_blank c_blank k_blank a_law l_law c_law k_law pg_IntSort hd_IntSort po_IntSort sa_IntSort mk_IntSort kc_IntSort na_IntSort_low na_IntSort_high ia_IntSort im_IntSort pg_TextSort hd_TextSort po_TextSort sa_TextSort mk_TextSort kc_TextSort na_TextSort_longest na_TextSort_without ia_TextSort im_TextSort pg_ChoiceSort hd_ChoiceSort po_ChoiceSort sa_ChoiceSort mk_ChoiceSort kc_ChoiceSort na_ChoiceSort_choices ia_ChoiceSort im_ChoiceSort pg_RefSort hd_RefSort po_RefSort sa_RefSort mk_RefSort kc_RefSort na_RefSort_kinds na_RefSort_rule ia_RefSort im_RefSort pg_ListSort hd_ListSort po_ListSort sa_ListSort mk_ListSort kc_ListSort na_ListSort_kinds ia_ListSort im_ListSort ohn oht it_ListSort ty_ListSort it_RefSort ty_RefSort su_IntSort_ListSort ne_IntSort_ListSort su_TextSort_ListSort ne_TextSort_ListSort su_ChoiceSort_ListSort ne_ChoiceSort_ListSort su_RefSort_ListSort ne_RefSort_ListSort su_IntSort_RefSort ne_IntSort_RefSort su_TextSort_RefSort ne_TextSort_RefSort su_ChoiceSort_RefSort ne_ChoiceSort_RefSort su_ListSort_RefSort ne_ListSort_RefSort z_len z_int z_range z_list z_bool z_str z_isinstance
  exact ⟨PySem.W.fnOf "law" "law" (defArgs (topS 18)) (defBody (topS 18)) (defScope (topS 18)) .none kV20 dc20 pm20 an20 cd20 ct20, fun s v => .of_eq rfl, fun base _ _ => ok_law T⟩
end
end Ky
open PySem PySem.W PyProof.Rows in
set_option maxRecDepth 100000 in
set_option maxHeartbeats 0 in
theorem PySem.Challenge.cw_oneheap_k02_shapes_hold_values_holds : PySem.Challenge.rw_oneheap_k02_shapes_hold_values.Holds := by
  w_on; o_law; k_head; (case hw => w_witness2)
  k_fill
  refine L2.walk_of (l := PySem.Challenge.rw_oneheap_k02_shapes_hold_values) (n := 63) (k := 5) (x := "script") (CX := fun _ => L2.CX0) (sp := fun w => Ky.spLaw _) rfl (by decide) rfl ⟨rfl, by decide, by decide⟩ (fun w h Y => PySem.W.kIn_of Y) ?F (fun _ _ a ns hl _ hS => ⟨a, ns, rfl, hS, hl, fun _ => rfl⟩) (fun _ _ _ _ _ h => h)
  case F =>
    intro w mg fa h KX G hmg
    refine' Ky.fin KX G hmg ?a_IntSort ?a_TextSort ?a_ChoiceSort ?a_RefSort ?a_ListSort ?a_IntSort___init__ ?i_IntSort___init__ ?l_IntSort___init__ ?c_IntSort___init__ ?k_IntSort___init__ ?a_IntSort_holds ?i_IntSort_holds ?l_IntSort_holds ?c_IntSort_holds ?k_IntSort_holds ?a_TextSort___init__ ?i_TextSort___init__ ?l_TextSort___init__ ?d_TextSort___init__ ?c_TextSort___init__ ?k_TextSort___init__ ?a_TextSort_holds ?i_TextSort_holds ?l_TextSort_holds ?c_TextSort_holds ?k_TextSort_holds ?a_ChoiceSort___init__ ?i_ChoiceSort___init__ ?l_ChoiceSort___init__ ?c_ChoiceSort___init__ ?k_ChoiceSort___init__ ?a_ChoiceSort_holds ?i_ChoiceSort_holds ?l_ChoiceSort_holds ?c_ChoiceSort_holds ?k_ChoiceSort_holds ?a_RefSort___init__ ?i_RefSort___init__ ?l_RefSort___init__ ?c_RefSort___init__ ?k_RefSort___init__ ?a_RefSort_holds ?i_RefSort_holds ?l_RefSort_holds ?c_RefSort_holds ?k_RefSort_holds ?a_ListSort___init__ ?i_ListSort___init__ ?l_ListSort___init__ ?c_ListSort___init__ ?k_ListSort___init__ ?a_ListSort_holds ?i_ListSort_holds ?l_ListSort_holds ?c_ListSort_holds ?k_ListSort_holds ?a__law_cells ?l__law_cells ?c__law_cells ?k__law_cells ?a__law_draw ?l__law_draw ?c__law_draw ?k__law_draw ?a__law_pick ?l__law_pick ?c__law_pick ?k__law_pick ?a__law_shape ?l__law_shape ?c__law_shape ?k__law_shape ?a__law_object ?l__law_object ?c__law_object ?k__law_object ?a__law_due ?l__law_due ?c__law_due ?k__law_due ?a_is_reference ?l_is_reference ?c_is_reference ?k_is_reference ?a_is_list ?l_is_list ?c_is_list ?k_is_list ?a_is_link ?l_is_link ?c_is_link ?k_is_link ?a_blank ?l_blank ?c_blank ?k_blank ?a_law ?l_law ?c_law ?k_law ?pg_IntSort ?hd_IntSort ?po_IntSort ?sa_IntSort ?mk_IntSort ?kc_IntSort ?na_IntSort_low ?na_IntSort_high ?ia_IntSort ?im_IntSort ?pg_TextSort ?hd_TextSort ?po_TextSort ?sa_TextSort ?mk_TextSort ?kc_TextSort ?na_TextSort_longest ?na_TextSort_without ?ia_TextSort ?im_TextSort ?pg_ChoiceSort ?hd_ChoiceSort ?po_ChoiceSort ?sa_ChoiceSort ?mk_ChoiceSort ?kc_ChoiceSort ?na_ChoiceSort_choices ?ia_ChoiceSort ?im_ChoiceSort ?pg_RefSort ?hd_RefSort ?po_RefSort ?sa_RefSort ?mk_RefSort ?kc_RefSort ?na_RefSort_kinds ?na_RefSort_rule ?ia_RefSort ?im_RefSort ?pg_ListSort ?hd_ListSort ?po_ListSort ?sa_ListSort ?mk_ListSort ?kc_ListSort ?na_ListSort_kinds ?ia_ListSort ?im_ListSort ?ohn ?oht ?it_ListSort ?ty_ListSort ?it_RefSort ?ty_RefSort ?su_IntSort_ListSort ?ne_IntSort_ListSort ?su_TextSort_ListSort ?ne_TextSort_ListSort ?su_ChoiceSort_ListSort ?ne_ChoiceSort_ListSort ?su_RefSort_ListSort ?ne_RefSort_ListSort ?su_IntSort_RefSort ?ne_IntSort_RefSort ?su_TextSort_RefSort ?ne_TextSort_RefSort ?su_ChoiceSort_RefSort ?ne_ChoiceSort_RefSort ?su_ListSort_RefSort ?ne_ListSort_RefSort ?z_len ?z_int ?z_range ?z_list ?z_bool ?z_str ?z_isinstance
    (case a_IntSort => k_is)
    (case a_TextSort => k_is)
    (case a_ChoiceSort => k_is)
    (case a_RefSort => k_is)
    (case a_ListSort => k_is)
    (case a_IntSort___init__ => k_is)
    (case i_IntSort___init__ => k_is)
    (case l_IntSort___init__ => k_is)
    (case c_IntSort___init__ => k_is)
    (case k_IntSort___init__ => k_is)
    (case a_IntSort_holds => k_is)
    (case i_IntSort_holds => k_is)
    (case l_IntSort_holds => k_is)
    (case c_IntSort_holds => k_is)
    (case k_IntSort_holds => k_is)
    (case a_TextSort___init__ => k_is)
    (case i_TextSort___init__ => k_is)
    (case l_TextSort___init__ => k_is)
    (case d_TextSort___init__ => k_is)
    (case c_TextSort___init__ => k_is)
    (case k_TextSort___init__ => k_is)
    (case a_TextSort_holds => k_is)
    (case i_TextSort_holds => k_is)
    (case l_TextSort_holds => k_is)
    (case c_TextSort_holds => k_is)
    (case k_TextSort_holds => k_is)
    (case a_ChoiceSort___init__ => k_is)
    (case i_ChoiceSort___init__ => k_is)
    (case l_ChoiceSort___init__ => k_is)
    (case c_ChoiceSort___init__ => k_is)
    (case k_ChoiceSort___init__ => k_is)
    (case a_ChoiceSort_holds => k_is)
    (case i_ChoiceSort_holds => k_is)
    (case l_ChoiceSort_holds => k_is)
    (case c_ChoiceSort_holds => k_is)
    (case k_ChoiceSort_holds => k_is)
    (case a_RefSort___init__ => k_is)
    (case i_RefSort___init__ => k_is)
    (case l_RefSort___init__ => k_is)
    (case c_RefSort___init__ => k_is)
    (case k_RefSort___init__ => k_is)
    (case a_RefSort_holds => k_is)
    (case i_RefSort_holds => k_is)
    (case l_RefSort_holds => k_is)
    (case c_RefSort_holds => k_is)
    (case k_RefSort_holds => k_is)
    (case a_ListSort___init__ => k_is)
    (case i_ListSort___init__ => k_is)
    (case l_ListSort___init__ => k_is)
    (case c_ListSort___init__ => k_is)
    (case k_ListSort___init__ => k_is)
    (case a_ListSort_holds => k_is)
    (case i_ListSort_holds => k_is)
    (case l_ListSort_holds => k_is)
    (case c_ListSort_holds => k_is)
    (case k_ListSort_holds => k_is)
    (case a__law_cells => k_is)
    (case l__law_cells => k_is)
    (case c__law_cells => k_is)
    (case k__law_cells => k_is)
    (case a__law_draw => k_is)
    (case l__law_draw => k_is)
    (case c__law_draw => k_is)
    (case k__law_draw => k_is)
    (case a__law_pick => k_is)
    (case l__law_pick => k_is)
    (case c__law_pick => k_is)
    (case k__law_pick => k_is)
    (case a__law_shape => k_is)
    (case l__law_shape => k_is)
    (case c__law_shape => k_is)
    (case k__law_shape => k_is)
    (case a__law_object => k_is)
    (case l__law_object => k_is)
    (case c__law_object => k_is)
    (case k__law_object => k_is)
    (case a__law_due => k_is)
    (case l__law_due => k_is)
    (case c__law_due => k_is)
    (case k__law_due => k_is)
    (case a_is_reference => k_is)
    (case l_is_reference => k_is)
    (case c_is_reference => k_is)
    (case k_is_reference => k_is)
    (case a_is_list => k_is)
    (case l_is_list => k_is)
    (case c_is_list => k_is)
    (case k_is_list => k_is)
    (case a_is_link => k_is)
    (case l_is_link => k_is)
    (case c_is_link => k_is)
    (case k_is_link => k_is)
    (case a_blank => k_is)
    (case l_blank => k_is)
    (case c_blank => k_is)
    (case k_blank => k_is)
    (case a_law => k_is)
    (case l_law => k_is)
    (case c_law => k_is)
    (case k_law => k_is)
    (case pg_IntSort => k_is)
    (case hd_IntSort => k_is)
    (case po_IntSort => k_is)
    (case sa_IntSort => k_is)
    (case mk_IntSort => k_is)
    (case kc_IntSort => k_is)
    (case na_IntSort_low => k_is)
    (case na_IntSort_high => k_is)
    (case ia_IntSort => k_is)
    (case im_IntSort => k_is)
    (case pg_TextSort => k_is)
    (case hd_TextSort => k_is)
    (case po_TextSort => k_is)
    (case sa_TextSort => k_is)
    (case mk_TextSort => k_is)
    (case kc_TextSort => k_is)
    (case na_TextSort_longest => k_is)
    (case na_TextSort_without => k_is)
    (case ia_TextSort => k_is)
    (case im_TextSort => k_is)
    (case pg_ChoiceSort => k_is)
    (case hd_ChoiceSort => k_is)
    (case po_ChoiceSort => k_is)
    (case sa_ChoiceSort => k_is)
    (case mk_ChoiceSort => k_is)
    (case kc_ChoiceSort => k_is)
    (case na_ChoiceSort_choices => k_is)
    (case ia_ChoiceSort => k_is)
    (case im_ChoiceSort => k_is)
    (case pg_RefSort => k_is)
    (case hd_RefSort => k_is)
    (case po_RefSort => k_is)
    (case sa_RefSort => k_is)
    (case mk_RefSort => k_is)
    (case kc_RefSort => k_is)
    (case na_RefSort_kinds => k_is)
    (case na_RefSort_rule => k_is)
    (case ia_RefSort => k_is)
    (case im_RefSort => k_is)
    (case pg_ListSort => k_is)
    (case hd_ListSort => k_is)
    (case po_ListSort => k_is)
    (case sa_ListSort => k_is)
    (case mk_ListSort => k_is)
    (case kc_ListSort => k_is)
    (case na_ListSort_kinds => k_is)
    (case ia_ListSort => k_is)
    (case im_ListSort => k_is)
    (case ohn => k_is)
    (case oht => k_is)
    (case it_ListSort => k_is)
    (case ty_ListSort => k_is)
    (case it_RefSort => k_is)
    (case ty_RefSort => k_is)
    (case su_IntSort_ListSort => k_is)
    (case ne_IntSort_ListSort => first | rfl | k_is)
    (case su_TextSort_ListSort => k_is)
    (case ne_TextSort_ListSort => first | rfl | k_is)
    (case su_ChoiceSort_ListSort => k_is)
    (case ne_ChoiceSort_ListSort => first | rfl | k_is)
    (case su_RefSort_ListSort => k_is)
    (case ne_RefSort_ListSort => first | rfl | k_is)
    (case su_IntSort_RefSort => k_is)
    (case ne_IntSort_RefSort => first | rfl | k_is)
    (case su_TextSort_RefSort => k_is)
    (case ne_TextSort_RefSort => first | rfl | k_is)
    (case su_ChoiceSort_RefSort => k_is)
    (case ne_ChoiceSort_RefSort => first | rfl | k_is)
    (case su_ListSort_RefSort => k_is)
    (case ne_ListSort_RefSort => first | rfl | k_is)
    (case z_len => k_is)
    (case z_int => k_is)
    (case z_range => k_is)
    (case z_list => k_is)
    (case z_bool => k_is)
    (case z_str => k_is)
    (case z_isinstance => k_is)
