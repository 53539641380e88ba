import PyProof.Rows.All
import Wide.All
import OpenK.AllK
import Wide.FinOn
import HandS.ForMost
import HandS.Codes
import HandS.Exc
import HandS.ExcOwn
import HandS.ExcInit
import HandS.ExcField
import HandS.ExcIs
import HandS.WordsExc
import HandS.IsInst
import KE.KExcIs
import HandS.More
import HandS.Iter
import HandS.DictComp
import HandS.Star
import HandS.FStr
import HandS.Comp
import HandS.CallLocal
import HandS.Defaults
import HandS.Conv
import HandS.ClsMeth
import HandS.SetKeys
import HandS.Deep
import KE.KStateDown
import HandS.Head0
import HandS.Head1
import HandS.Head2
import HandS.HeadEnd
import HandS.HeadHook1
import HandS.HeadHook2
import HandS.HeadHook3
import HandS.HeadHook4
import PySem.Challenge.RW_oneheap_k68_faults_of_queries
set_option Elab.async false
set_option linter.all false
set_option maxRecDepth 100000
set_option maxHeartbeats 0
namespace Rn
open PySem PySem.Spec PyProof.Rows L2 TL
set_option autoImplicit false
noncomputable section
/-! ### the head: facts of a fragment, as Bools -/
def eqF (o : Option (Option Value)) (s : String) : Bool := match o with
  | some (some (.builtin t)) => decide (t = s)
  | _ => false
def eqR (o : Option (Option Value)) (a : Nat) : Bool := match o with
  | some (some (.ref b)) => Nat.beq b a
  | _ => false
def eqN (o : Option (Option Value)) : Bool := match o with
  | some none => true
  | _ => false
def eqB (o : Option Bool) (b : Bool) : Bool := match o, b with
  | some true, true => true
  | some false, false => true
  | _, _ => false
def eqC1 (o : Option PySem.W.CFound) (a : Nat) : Bool := match o with
  | some (.val (.ref b)) => Nat.beq b a
  | _ => false
def eqT (o : Option Value) (s : String) : Bool := match o with
  | some (.type t) => decide (t = s)
  | _ => false
theorem eqF_ok {o : Option (Option Value)} {s : String} (h : eqF o s = true) : o = some (some (.builtin s)) := by
  unfold eqF at h
  split at h
  · rw [of_decide_eq_true h]
  · cases h
theorem eqR_ok {o : Option (Option Value)} {a : Nat} (h : eqR o a = true) : o = some (some (.ref a)) := by
  unfold eqR at h
  split at h
  · rw [Nat.eq_of_beq_eq_true h]
  · cases h
theorem eqN_ok {o : Option (Option Value)} (h : eqN o = true) : o = some none := by
  unfold eqN at h
  split at h
  · rfl
  · cases h
theorem eqB_ok {o : Option Bool} {b : Bool} (h : eqB o b = true) : o = some b := by
  unfold eqB at h
  split at h
  · rfl
  · rfl
  · cases h
theorem eqC1_ok {o : Option PySem.W.CFound} {a : Nat} (h : eqC1 o a = true) : o = some (.val (.ref a)) := by
  unfold eqC1 at h
  split at h
  · rw [Nat.eq_of_beq_eq_true h]
  · cases h
theorem eqT_ok {o : Option Value} {s : String} (h : eqT o s = true) : o = some (.type s) := by
  unfold eqT at h
  split at h
  · rw [of_decide_eq_true h]
  · cases h
def strAt (o : Option (Option Value)) (z : PySem.Str) : Bool := match o with
  | some (some (.str y _)) => decide (y = z)
  | _ => false
def intAt (o : Option (Option Value)) (i : Int) : Bool := match o with
  | some (some (.int j _)) => decide (j = i)
  | _ => false
theorem strAt_ok {o : Option (Option Value)} {z : PySem.Str} (h : strAt o z = true) : ∃ t, o = some (some (.str z t)) := by
  unfold strAt at h
  split at h
  · rw [of_decide_eq_true h]
    exact ⟨_, rfl⟩
  · cases h
theorem intAt_ok {o : Option (Option Value)} {i : Int} (h : intAt o i = true) : ∃ t, o = some (some (.int i t)) := by
  unfold intAt at h
  split at h
  · rw [of_decide_eq_true h]
    exact ⟨_, rfl⟩
  · cases h
def fdOf (K : PySem.W.Frag) (f : Addr) : FuncData := match K.lookup f with
  | some ⟨_, _, .func fd, _⟩ => fd
  | _ => default
abbrev FnX : Type := Option (PySem.Str × PySem.Str × Arguments × FuncBody × Scope × Addr × List (PySem.Str × Addr) × Addr)
def fnX (K : PySem.W.Frag) (f : Addr) : FnX := match K.lookup f with
  | some ⟨_, _, .func fd, _⟩ => some (fd.name, fd.qualname, fd.params, fd.body, fd.scope, fd.globals, fd.closure, fd.builtins)
  | _ => none
def fnV (x qual : PySem.Str) (st : Stmt) : FnX := some (x, qual, defArgs st, .stmts (defBody st), defScope st, mainGlobals, [], builtinsNs)
def fnB (K : PySem.W.Frag) (f : Addr) (qual : PySem.Str) : Bool := match K.lookup f with
  | some ⟨_, _, .func fd, _⟩ => PySem.W.codeIn K fd.code qual && (match fd.defaults with
    | .none => true
    | _ => false)
  | _ => false
theorem fun_of {K : PySem.W.Frag} {f : Addr} {x qual : PySem.Str} {st : Stmt} (h1 : fnX K f = fnV x qual st) (h2 : fnB K f qual = true) (h3 : PySem.W.keepIn K (.ref f) = true) : Fun K x qual st f (fdOf K f) := by
  unfold fnX at h1
  unfold fnB at h2
  unfold fdOf
  split at h1
  · rename_i oc od fd sl hl
    rw [hl] at h2
    obtain ⟨a1, a2, a3, a4, a5, a6, a7, a8, a9, b1, b2, b3, b4, b5, b6⟩ := fd
    unfold fnV at h1
    simp only [Option.some.injEq, Prod.mk.injEq] at h1
    obtain ⟨rfl, rfl, rfl, rfl, rfl, rfl, rfl, rfl⟩ := h1
    rw [Bool.and_eq_true] at h2
    obtain ⟨h4, h5⟩ := h2
    dsimp only at h4 h5
    cases a8 with
    | none => exact ⟨⟨oc, od, _, _, _, _, _, _, _, rfl, hl, h4⟩, h3⟩
    | _ => cases h5
  · cases h1
def valB (v : V) (u : Value) : Bool := match v, u with
  | .str z, .str y _ => decide (y = z)
  | .int i, .int j _ => decide (j = i)
  | .ref a, .ref b => Nat.beq a b
  | .non, .none => true
  | .bl true, .bool true => true
  | .bl false, .bool false => true
  | _, _ => false
theorem valB_ok {v : V} {u : Value} (h : valB v u = true) : RelV v u := by
  unfold valB at h
  split at h
  · rw [of_decide_eq_true h]; exact ⟨_, rfl⟩
  · rw [of_decide_eq_true h]; exact ⟨_, rfl⟩
  · rw [Nat.eq_of_beq_eq_true h]; rfl
  · rfl
  · rfl
  · rfl
  · cases h
def valsB : List V → List Value → Bool
  | [], [] => true
  | v :: vs, u :: us => valB v u && valsB vs us
  | _, _ => false
theorem valsB_ok : ∀ {vs : List V} {us : List Value}, valsB vs us = true → Vals vs us
  | [], [], _ => .nil
  | v :: vs, u :: us, h => by
    unfold valsB at h
    rw [Bool.and_eq_true] at h
    exact .cons (valB_ok h.1) (valsB_ok h.2)
  | [], _ :: _, h => by cases h
  | _ :: _, [], h => by cases h
def tupB (K : PySem.W.Frag) (a : Addr) (vs : List V) : Bool := match K.lookup a with
  | some ⟨.type t, _, .seq its _, _⟩ => decide (t = "tuple") && valsB vs its.toList
  | _ => false
theorem tupB_ok {K : PySem.W.Frag} {a : Addr} {vs : List V} (h : tupB K a vs = true) (hl : vs.length ≤ 1000) : ∀ H, SqT K H a vs := fun H => by
  unfold tupB at h
  split at h
  · rename_i hk
    rw [Bool.and_eq_true] at h
    have v := valsB_ok h.2
    refine .inr ⟨_, _, _, hk, ?_, rfl, ?_, v⟩
    · rw [of_decide_eq_true h.1]
    · have e := Paired.length v
      simp only [Array.length_toList] at e
      have : sizeLine = 16777216 := sizeLine_eq
      omega
  · cases h
def fnBD (K : PySem.W.Frag) (f : Addr) (qual : PySem.Str) (dvs : List V) : Bool := match K.lookup f with
  | some ⟨_, _, .func fd, _⟩ => PySem.W.codeIn K fd.code qual && (match fd.defaults with
    | .ref t => (match K.lookup t with
      | some ⟨_, _, .seq its _, _⟩ => valsB dvs its.toList
      | _ => false)
    | _ => false) && (match fd.kwdefaults with
    | .none => true
    | _ => false)
  | _ => false
theorem funD_of {K : PySem.W.Frag} {f : Addr} {x qual : PySem.Str} {st : Stmt} {dvs : List V} (h0 : dvs ≠ []) (h1 : fnX K f = fnV x qual st) (h2 : fnBD K f qual dvs = true) (h3 : PySem.W.keepIn K (.ref f) = true) : FunD K x qual (defArgs st) (defBody st) (defScope st) dvs [] f (fdOf K f) := by
  unfold fnX at h1
  unfold fnBD at h2
  unfold fdOf
  split at h1
  · rename_i oc od fd sl hl
    rw [hl] at h2
    obtain ⟨a1, a2, a3, a4, a5, a6, a7, a8, a9, b1, b2, b3, b4, b5, b6⟩ := fd
    unfold fnV at h1
    simp only [Option.some.injEq, Prod.mk.injEq] at h1
    obtain ⟨rfl, rfl, rfl, rfl, rfl, rfl, rfl, rfl⟩ := h1
    rw [Bool.and_eq_true, Bool.and_eq_true] at h2
    obtain ⟨⟨h4, h5⟩, h6⟩ := h2
    dsimp only at h4 h5 h6
    cases a9 with
    | none =>
      cases a8 with
      | ref t =>
        dsimp only at h5
        split at h5
        · rename_i hk
          exact ⟨⟨oc, od, _, _, _, _, _, _, _, _, rfl, hl, h4, .inr ⟨h0, _, _, _, _, rfl, hk, rfl, by simpa using valsB_ok h5⟩, .inl rfl⟩, h3⟩
        · cases h5
      | _ => cases h5
    | _ => cases h6
  · cases h1
def fkB (K : PySem.W.Frag) (f : Addr) (qual : PySem.Str) : Bool := match K.lookup f with
  | some ⟨.type t, _, .func fd, _⟩ => decide (t = "function") && (PySem.W.codeIn K fd.code qual && (match fd.defaults with
    | .none => true
    | _ => false))
  | _ => false
theorem fk_ok {K : PySem.W.Frag} {f : Addr} {qual : PySem.Str} (h : fkB K f qual = true) : fnB K f qual = true ∧ PySem.W.keepIn K (.ref f) = true ∧ PySem.W.isFn K (.ref f) = true := by
  unfold fkB at h
  split at h
  · rename_i hl
    rw [Bool.and_eq_true] at h
    have e := of_decide_eq_true h.1
    subst e
    refine ⟨?_, ?_, ?_⟩
    · unfold fnB
      rw [hl]
      exact h.2
    · unfold PySem.W.keepIn
      simp only [hl]
    · unfold PySem.W.isFn PySem.W.typeIn
      simp only [hl]
      rfl
  · cases h
def oexB (K : PySem.W.Frag) (C : Addr) : Bool := match K.lookup C with
  | some ⟨.type t, _, .cls cd, sl⟩ => decide (t = "type") && (match cd.mro with
    | .ref C' :: bm => Nat.beq C' C && HandSPX.refsVE bm
    | _ => false) && (cd.hasDict && !cd.hasDel) && (match sl.toList with
    | [_, _, _, _, some (.builtin n), _] => decide (n = "ValueError.__new__")
    | _ => false)
  | _ => false
theorem oexB_ok {K : PySem.W.Frag} {C : Addr} (h : oexB K C = true) : ∃ nm q N bs bm sn sub ab col dd k0 k1 k2 k3 k5, K.lookup C = some (excClassObj nm q C N bs bm true sn sub ab col dd k0 k1 k2 k3 k5 "ValueError.__new__") ∧ HandSPX.refsVE bm = true := by
  unfold oexB at h
  split at h
  · rename_i t dd cd sl hk
    obtain ⟨c1, c2, c3, c4, c5, c6, c7, c8, c9, d1, d2⟩ := cd
    rw [Bool.and_eq_true, Bool.and_eq_true, Bool.and_eq_true] at h
    obtain ⟨⟨⟨h1, h2⟩, h3⟩, h4⟩ := h
    have h1 := of_decide_eq_true h1
    subst h1
    dsimp only at h2 h3 h4
    rw [Bool.and_eq_true] at h3
    obtain ⟨h5, h6⟩ := h3
    cases h5
    cases d2 with
    | true => cases h6
    | false =>
      split at h2
      · rename_i C' bm
        rw [Bool.and_eq_true] at h2
        have e := Nat.eq_of_beq_eq_true h2.1
        subst e
        split at h4
        · rename_i k0 k1 k2 k3 n k5 hs
          have e := of_decide_eq_true h4
          subst e
          have e2 : sl = #[k0, k1, k2, k3, some (.builtin "ValueError.__new__"), k5] := Array.toList_inj.mp hs
          subst e2
          exact ⟨_, _, _, _, bm, _, _, _, _, _, _, _, _, _, _, hk, h2.2⟩
        · cases h4
      · cases h2
  · cases h
/-! lists of Bools -/
def allB (l : List Bool) : Bool := List.rec (motive := fun _ => Bool) true (fun b _ go => match b with
  | true => go
  | false => false) l
theorem allB_at : ∀ {l : List Bool}, allB l = true → ∀ (i : Nat) {b : Bool}, l[i]? = some b → b = true
  | [], _, i, b, e => by simp at e
  | true :: r, h, 0, b, e => by simp at e; exact e
  | true :: r, h, i + 1, b, e => allB_at (l := r) h i (by simpa using e)
  | false :: r, h, i, b, e => by cases h
/-! the hook -/
structure HdD where
  as : List Addr
  ex : PySem.W.Frag → Bool
  fs : List Addr
  fv : List FnX
  ds : List Addr
  dk : List (List PySem.Str)
abbrev AlH : Type := Bool × List FnX × List (Option (List (Option (PySem.Str × Int))))
def frH (g : Addr → Option Obj) (as : List Addr) : PySem.W.Frag := He.frG g as
def obsH (D : HdD) (g : Addr → Option Obj) : AlH := (D.ex (He.frG g D.as), D.fs.map (fnX (He.frG g D.as)), D.ds.map (He.dicW (He.frG g D.as)))
def valH (D : HdD) (w : World) : AlH := (true, D.fv, D.dk.map fun ks => some (He.keysIn w.params ks))
structure SaysH (D : HdD) (w : World) (K : PySem.W.Frag) : Prop where
  ex : D.ex K = true
  fn : D.fs.map (fnX K) = D.fv
  dc : D.ds.map (He.dicW K) = D.dk.map fun ks => some (He.keysIn w.params ks)
def hookH (D : HdD) : PySem.W.Hook where
  α := AlH
  obs := fun s => obsH D s.heap.get?
  val := valH D
  says := fun w h => ∃ K, K.In h ∧ SaysH D w K
  of := fun w s e => by
    unfold obsH valH at e
    rw [Prod.mk.injEq, Prod.mk.injEq] at e
    exact ⟨He.frG s.heap.get? D.as, He.frG_in, e.1, e.2.1, e.2.2⟩
  keeps := fun w h h' ⟨K, k, s⟩ m => ⟨K, fun a o e => m a o (k a o e), s⟩
def obH (D : HdD) (s : PySem.W.SharedT) : AlH := obsH D (HandSHeadRun.getT s)
theorem obH_eq (D : HdD) (s : PySem.W.SharedT) : obH D s = (hookH D).obs s.abs := by
  show obsH D (HandSHeadRun.getT s) = obsH D s.abs.heap.get?
  rw [show HandSHeadRun.getT s = s.abs.heap.get? from funext (HandSHeadRun.getT_eq s)]
theorem joinH {r : PySem.W.OpenRow} {q : Program} {D : HdD} {M : Nat} {loose : List PySem.Str} {w : World} {os : OsState} (o : Option PySem.W.SharedT) (ho : HandSHeadRun.endF (HandSHeadRun.stepQ (HandSHeadRun.denQ HandSHeadRun.tabQ) r.prog w) M r.prog w os = o)
    (h1 : o.map (fun s => HandSHeadRun.looksF r.prog (PySem.W.boot_heap w.params) s.abs) = some true)
    (h2 : o.map (fun s => HandSHeadRun.seenQ q loose (importedModules r.prog.main.body) (fun s => PySem.W.xlAt q [] s && PySem.W.recOk r.records s) s.abs) = some (PySem.W.openGood q loose))
    (h3 : o.map (fun s => D.ex (He.frG (HandSHeadRun.getT s) D.as)) = some true) (h4 : o.map (fun s => D.fs.map (fnX (He.frG (HandSHeadRun.getT s) D.as))) = some D.fv)
    (h5 : o.map (fun s => D.ds.map (He.dicW (He.frG (HandSHeadRun.getT s) D.as))) = some (D.dk.map fun ks => some (He.keysIn w.params ks))) :
    Option.map (fun s => (HandSHeadRun.looksF r.prog (PySem.W.boot_heap w.params) s.abs, HandSHeadRun.seenQ q loose (importedModules r.prog.main.body) (fun s => PySem.W.xlAt q [] s && PySem.W.recOk r.records s) s.abs, obH D s)) (HandSHeadRun.endF (HandSHeadRun.stepQ (HandSHeadRun.denQ HandSHeadRun.tabQ) r.prog w) M r.prog w os) = some (true, PySem.W.openGood q loose, (hookH D).val w) := by
  rw [ho]
  cases o with
  | none => cases h1
  | some s =>
    have e1 := Option.some.inj h1
    have e2 := Option.some.inj h2
    have e3 := Option.some.inj h3
    have e4 := Option.some.inj h4
    have e5 := Option.some.inj h5
    show some (_, _, (D.ex (He.frG (HandSHeadRun.getT s) D.as), D.fs.map (fnX (He.frG (HandSHeadRun.getT s) D.as)), D.ds.map (He.dicW (He.frG (HandSHeadRun.getT s) D.as)))) = some (true, _, (true, D.fv, D.dk.map fun ks => some (He.keysIn w.params ks)))
    dsimp only at e1 e2 e3 e4 e5
    rw [e1, e2, e3, e4, e5]
theorem fn_at {D : HdD} {w : World} {K : PySem.W.Frag} (s : SaysH D w K) (i : Nat) {f : Addr} {v : FnX} (h1 : D.fs[i]? = some f) (h2 : D.fv[i]? = some v) : fnX K f = v := by
  have e := s.fn
  have e2 : (D.fs.map (fnX K))[i]? = D.fv[i]? := by rw [e]
  rw [List.getElem?_map, h1, h2] at e2
  exact Option.some.inj e2
theorem dc_at {D : HdD} {w : World} {K : PySem.W.Frag} (s : SaysH D w K) (i : Nat) {a : Addr} {ks : List PySem.Str} (h1 : D.ds[i]? = some a) (h2 : D.dk[i]? = some ks) : ∃ es n, KDict K w a es n := by
  have e2 : (D.ds.map (He.dicW K))[i]? = (D.dk.map fun ks => some (He.keysIn w.params ks))[i]? := by rw [s.dc]
  rw [List.getElem?_map, List.getElem?_map, h1, h2] at e2
  exact He.dicW_ok (Option.some.inj e2)
theorem kd_of {w : World} {K : PySem.W.Frag} {a : Addr} {x : PySem.Str} {b : Addr} (h : ∃ es n, KDict K w a es n) (h2 : eqR (PySem.W.nsIn K a x) b = true) : KDct K w a x (.ref b) := by
  obtain ⟨es, n, k⟩ := h
  exact ⟨es, n, .ref b, k.at_, k.lit, eqR_ok h2, rfl⟩
end
end Rn
namespace K68
open PySem PySem.Spec PyProof.Rows L2 TL
set_option autoImplicit false
open Rn
noncomputable section
theorem kit_self {K : PySem.W.Frag} {C : Addr} : PySem.W.kitOne K (.ref C) (.ref C) = some true := if_pos (beq_self_eq_true _)
theorem kit_own {K : PySem.W.Frag} {C D : Addr} {r : Bool} (h1 : PySem.W.isClsIn K D = true) (h2 : PySem.W.typeIn K (.ref D) = some (.type "type")) (h3 : PySem.W.subIn K (.ref C) (.ref D) = some r) (h4 : (Value.ref C == Value.ref D) = false) :
    PySem.W.kitOne K (.ref C) (.ref D) = some r := by
  have a1 : ((PySem.W.clsIn K D).isSome && PySem.W.typeIn K (.ref D) == some (.type "type")) = true := by
    rw [h2, show (PySem.W.clsIn K D).isSome = true from h1] <;> rfl
  have a2 : PySem.W.kitCls K (.ref C) (.ref D) = some r := Eq.trans (if_pos a1) h3
  exact Eq.trans (if_neg (by rw [h4] <;> decide)) a2
theorem exm_own {K : PySem.W.Frag} {S D : Addr} (h1 : PySem.W.subIn K (.ref D) (.type "BaseException") = some true) (h2 : PySem.W.isClsIn K D = true) (h3 : PySem.W.typeIn K (.ref D) = some (.type "type")) (h4 : PySem.W.subIn K (.ref S) (.ref D) = some true) :
    PySem.W.exmOne K (.ref S) (.ref D) = some true := by
  have a1 : (PySem.W.subIn K (.ref D) (.type "BaseException") == some true) = true := by
    rw [h1] <;> rfl
  have a2 : ((PySem.W.clsIn K D).isSome && PySem.W.typeIn K (.ref D) == some (.type "type")) = true := by
    rw [h3, show (PySem.W.clsIn K D).isSome = true from h2] <;> rfl
  exact Eq.trans (if_pos a1) (Eq.trans (if_pos a2) h4)
theorem kit_typ {K : PySem.W.Frag} {C : Addr} (h : PySem.W.subIn K (.ref C) (.type "ValueError") = some true) : PySem.W.kitOne K (.ref C) (.type "ValueError") = some true := by
  have a : PySem.W.kitCls K (.ref C) (.type "ValueError") = some true := by
    show (if PySem.W.kitMeta "ValueError" = true then PySem.W.subIn K (.ref C) (.type "ValueError") else none) = some true
    rw [if_pos (by decide +kernel)]
    exact h
  exact Eq.trans (if_neg (by simp)) a
def topS (i : Nat) : Stmt := PySem.Challenge.pw_oneheap_k68_faults_of_queries.main.body.getD i (.Pass ⟨0, 0, 0, 0⟩)
structure Ad where
  C_HeapError : Addr
  C_Fault : Addr
  C_Token : Addr
  C_IntSort : Addr
  C_TextSort : Addr
  C_ChoiceSort : Addr
  C_RefSort : Addr
  C_ListSort : Addr
  C_SingleTerm : Addr
  C_NumberTerm : Addr
  C_TextTerm : Addr
  C_ParameterTerm : Addr
  C_PathTerm : Addr
  C_SomeTerm : Addr
  C_CountTerm : Addr
  C_GroupTotal : Addr
  C_ListTotal : Addr
  C_ChainTerm : Addr
  C_CompareTerm : Addr
  C_NullTerm : Addr
  C_AmongTerm : Addr
  C_NotTerm : Addr
  C_MinusTerm : Addr
  C_QueryState : Addr
  C_DrawnPath : Addr
  C_TokenReader : Addr
  C_Drawn : Addr
  C_OrderTerm : Addr
  C_QueryParts : Addr
  C_Query : Addr
  C_Field : Addr
  C_Kind : Addr
  C_Schema : Addr
  f_Fault___init__ : Addr
  fd_Fault___init__ : FuncData
  f_Token___init__ : Addr
  fd_Token___init__ : FuncData
  f_IntSort___init__ : Addr
  fd_IntSort___init__ : FuncData
  f_TextSort___init__ : Addr
  fd_TextSort___init__ : FuncData
  f_RefSort___init__ : Addr
  fd_RefSort___init__ : FuncData
  f_ListSort___init__ : Addr
  fd_ListSort___init__ : FuncData
  f_SingleTerm___init__ : Addr
  fd_SingleTerm___init__ : FuncData
  f_NumberTerm___init__ : Addr
  fd_NumberTerm___init__ : FuncData
  f_TextTerm___init__ : Addr
  fd_TextTerm___init__ : FuncData
  f_ParameterTerm___init__ : Addr
  fd_ParameterTerm___init__ : FuncData
  f_PathTerm___init__ : Addr
  fd_PathTerm___init__ : FuncData
  f_SomeTerm___init__ : Addr
  fd_SomeTerm___init__ : FuncData
  f_CountTerm___init__ : Addr
  fd_CountTerm___init__ : FuncData
  f_GroupTotal___init__ : Addr
  fd_GroupTotal___init__ : FuncData
  f_ListTotal___init__ : Addr
  fd_ListTotal___init__ : FuncData
  f_ChainTerm___init__ : Addr
  fd_ChainTerm___init__ : FuncData
  f_CompareTerm___init__ : Addr
  fd_CompareTerm___init__ : FuncData
  f_NullTerm___init__ : Addr
  fd_NullTerm___init__ : FuncData
  f_AmongTerm___init__ : Addr
  fd_AmongTerm___init__ : FuncData
  f_NotTerm___init__ : Addr
  fd_NotTerm___init__ : FuncData
  f_MinusTerm___init__ : Addr
  fd_MinusTerm___init__ : FuncData
  f_QueryState___init__ : Addr
  fd_QueryState___init__ : FuncData
  f_QueryState_enter : Addr
  fd_QueryState_enter : FuncData
  f_QueryState_leave : Addr
  fd_QueryState_leave : FuncData
  f_QueryState_small_name : Addr
  fd_QueryState_small_name : FuncData
  f_QueryState_new_name : Addr
  fd_QueryState_new_name : FuncData
  f_DrawnPath___init__ : Addr
  fd_DrawnPath___init__ : FuncData
  f_TokenReader___init__ : Addr
  fd_TokenReader___init__ : FuncData
  f_TokenReader_here : Addr
  fd_TokenReader_here : FuncData
  f_TokenReader_following : Addr
  fd_TokenReader_following : FuncData
  f_TokenReader_take : Addr
  fd_TokenReader_take : FuncData
  f_TokenReader_at_end : Addr
  fd_TokenReader_at_end : FuncData
  f_TokenReader_stands : Addr
  fd_TokenReader_stands : FuncData
  f_TokenReader_stands_one : Addr
  fd_TokenReader_stands_one : FuncData
  f_TokenReader_passes : Addr
  fd_TokenReader_passes : FuncData
  f_TokenReader_must : Addr
  fd_TokenReader_must : FuncData
  f_TokenReader_must_end : Addr
  fd_TokenReader_must_end : FuncData
  f_TokenReader_must_role : Addr
  fd_TokenReader_must_role : FuncData
  f_TokenReader_number_token : Addr
  fd_TokenReader_number_token : FuncData
  f_TokenReader_is_name : Addr
  fd_TokenReader_is_name : FuncData
  f_TokenReader_small_name_stands : Addr
  fd_TokenReader_small_name_stands : FuncData
  f_TokenReader_kind_name : Addr
  fd_TokenReader_kind_name : FuncData
  f_TokenReader_small_name : Addr
  fd_TokenReader_small_name : FuncData
  f_TokenReader_field_name : Addr
  fd_TokenReader_field_name : FuncData
  f_Drawn___init__ : Addr
  fd_Drawn___init__ : FuncData
  f_OrderTerm___init__ : Addr
  fd_OrderTerm___init__ : FuncData
  f_QueryParts___init__ : Addr
  fd_QueryParts___init__ : FuncData
  f_Query___init__ : Addr
  fd_Query___init__ : FuncData
  f_Field___init__ : Addr
  fd_Field___init__ : FuncData
  f_Kind___init__ : Addr
  fd_Kind___init__ : FuncData
  f_Kind_field_of : Addr
  fd_Kind_field_of : FuncData
  f_Schema___init__ : Addr
  fd_Schema___init__ : FuncData
  f_Schema_kind_of : Addr
  fd_Schema_kind_of : FuncData
  f_Schema_field_of : Addr
  fd_Schema_field_of : FuncData
  f_tokens : Addr
  fd_tokens : FuncData
  f_behind_blanks : Addr
  fd_behind_blanks : FuncData
  f_token_at : Addr
  fd_token_at : FuncData
  f_behind_run : Addr
  fd_behind_run : FuncData
  f_word_at : Addr
  fd_word_at : FuncData
  f_number_at : Addr
  fd_number_at : FuncData
  f_quoted_at : Addr
  fd_quoted_at : FuncData
  f_may_stand : Addr
  fd_may_stand : FuncData
  f_sign_at : Addr
  fd_sign_at : FuncData
  f_is_reference : Addr
  fd_is_reference : FuncData
  f_sort_of_shape : Addr
  fd_sort_of_shape : FuncData
  f_kinds_of_shapes : Addr
  fd_kinds_of_shapes : FuncData
  f_common_sort : Addr
  fd_common_sort : FuncData
  f_read_path : Addr
  fd_read_path : FuncData
  f_behind_point : Addr
  fd_behind_point : FuncData
  f_read_plain_path : Addr
  fd_read_plain_path : FuncData
  f_read_list_path : Addr
  fd_read_list_path : FuncData
  f_read_total_path : Addr
  fd_read_total_path : FuncData
  f_refuse_list : Addr
  fd_refuse_list : FuncData
  f_check_group : Addr
  fd_check_group : FuncData
  f_is_certain : Addr
  fd_is_certain : FuncData
  f_parameters_as : Addr
  fd_parameters_as : FuncData
  f_merged : Addr
  fd_merged : FuncData
  f_joined_parameters : Addr
  fd_joined_parameters : FuncData
  f_read_either : Addr
  fd_read_either : FuncData
  f_read_both : Addr
  fd_read_both : FuncData
  f_read_sum : Addr
  fd_read_sum : FuncData
  f_read_product : Addr
  fd_read_product : FuncData
  f_read_chain : Addr
  fd_read_chain : FuncData
  f_longer_chain : Addr
  fd_longer_chain : FuncData
  f_pass_all : Addr
  fd_pass_all : FuncData
  f_read_turned : Addr
  fd_read_turned : FuncData
  f_read_test : Addr
  fd_read_test : FuncData
  f_read_comparison : Addr
  fd_read_comparison : FuncData
  f_read_null : Addr
  fd_read_null : FuncData
  f_read_among : Addr
  fd_read_among : FuncData
  f_read_signed : Addr
  fd_read_signed : FuncData
  f_read_single : Addr
  fd_read_single : FuncData
  f_read_number : Addr
  fd_read_number : FuncData
  f_read_parameter : Addr
  fd_read_parameter : FuncData
  f_read_enclosed : Addr
  fd_read_enclosed : FuncData
  f_read_over : Addr
  fd_read_over : FuncData
  f_read_some : Addr
  fd_read_some : FuncData
  f_read_count : Addr
  fd_read_count : FuncData
  f_refuse_without_group : Addr
  fd_refuse_without_group : FuncData
  f_read_total : Addr
  fd_read_total : FuncData
  f_read_list_total : Addr
  fd_read_list_total : FuncData
  f_read_group_total : Addr
  fd_read_group_total : FuncData
  f_check_total : Addr
  fd_check_total : FuncData
  f_read_query : Addr
  fd_read_query : FuncData
  f_read_from : Addr
  fd_read_from : FuncData
  f_read_where : Addr
  fd_read_where : FuncData
  f_read_group : Addr
  fd_read_group : FuncData
  f_read_group_path : Addr
  fd_read_group_path : FuncData
  f_read_several : Addr
  fd_read_several : FuncData
  f_read_told : Addr
  fd_read_told : FuncData
  f_read_order_term : Addr
  fd_read_order_term : FuncData
  f_read_order : Addr
  fd_read_order : FuncData
  f_read_give : Addr
  fd_read_give : FuncData
  f_read_counts : Addr
  fd_read_counts : FuncData
  f_read_bound : Addr
  fd_read_bound : FuncData
  f__law_schema : Addr
  fd__law_schema : FuncData
  f__law_texts : Addr
  fd__law_texts : FuncData
  f_law : Addr
  fd_law : FuncData
  f__law_cells : Addr
  fd__law_cells : FuncData
  f__law_draw : Addr
  fd__law_draw : FuncData
  f__law_pick : Addr
  fd__law_pick : FuncData
  t_COMPARISONS : Addr
  t_TOTALS : Addr
  t_QUERY_SIGNS : Addr
  t_QUERY_WORDS : Addr
  t_ASKED : Addr
  t_ASKED_0 : Addr
  t_ASKED_1 : Addr
  t_ASKED_2 : Addr
  t_ASKED_3 : Addr
  t_ASKED_4 : Addr
  t_ASKED_5 : Addr
  t_ASKED_6 : Addr
  t_ASKED_7 : Addr
  t_ASKED_8 : Addr
  t_ASKED_9 : Addr
  t_ASKED_10 : Addr
  t_ASKED_11 : Addr
  t_ASKED_12 : Addr
  t_ASKED_13 : Addr
  t_ASKED_14 : Addr
  t_ASKED_15 : Addr
  t_ASKED_16 : Addr
/-- what the top leaves, as the proofs of the defs ask it -/
structure Txt (w : World) (K : PySem.W.Frag) (mg : Str → Option Value) (A : Ad) : Prop where
  b_any : mg "any" = none
  b_int : mg "int" = none
  b_isinstance : mg "isinstance" = none
  b_len : mg "len" = none
  b_list : mg "list" = none
  b_ord : mg "ord" = none
  b_range : mg "range" = none
  g_CAPITALS : ∃ t, mg "CAPITALS" = some (.str "ABCDEFGHIJKLMNOPQRSTUVWXYZ" t)
  g_LETTERS : ∃ t, mg "LETTERS" = some (.str "abcdefghijklmnopqrstuvwxyzABCDEFGHIJKLMNOPQRSTUVWXYZ" t)
  g_DIGITS : ∃ t, mg "DIGITS" = some (.str "0123456789" t)
  g_WORD_SIGNS : ∃ t, mg "WORD_SIGNS" = some (.str "abcdefghijklmnopqrstuvwxyzABCDEFGHIJKLMNOPQRSTUVWXYZ0123456789_" t)
  g_QUOTE : ∃ t, mg "QUOTE" = some (.str "\"" t)
  g_BACKSLASH : ∃ t, mg "BACKSLASH" = some (.str "\\" t)
  g_PERCENT_CODE : ∃ t, mg "PERCENT_CODE" = some (.int 37 t)
  g_LONGEST_WORD : ∃ t, mg "LONGEST_WORD" = some (.int 12 t)
  g_LONGEST_NUMBER : ∃ t, mg "LONGEST_NUMBER" = some (.int 18 t)
  g_INTEGER : ∃ t, mg "INTEGER" = some (.str "integer" t)
  g_TEXT : ∃ t, mg "TEXT" = some (.str "text" t)
  g_TRUTH : ∃ t, mg "TRUTH" = some (.str "truth" t)
  g_OBJECT : ∃ t, mg "OBJECT" = some (.str "object" t)
  g_LIST : ∃ t, mg "LIST" = some (.str "list" t)
  g_PARAMETER : ∃ t, mg "PARAMETER" = some (.str "parameter" t)
  g_OR_LEVEL : ∃ t, mg "OR_LEVEL" = some (.int 1 t)
  g_AND_LEVEL : ∃ t, mg "AND_LEVEL" = some (.int 2 t)
  g_NOT_LEVEL : ∃ t, mg "NOT_LEVEL" = some (.int 3 t)
  g_TEST_LEVEL : ∃ t, mg "TEST_LEVEL" = some (.int 4 t)
  g_SUM_LEVEL : ∃ t, mg "SUM_LEVEL" = some (.int 5 t)
  g_PRODUCT_LEVEL : ∃ t, mg "PRODUCT_LEVEL" = some (.int 6 t)
  g_MINUS_LEVEL : ∃ t, mg "MINUS_LEVEL" = some (.int 7 t)
  g_SINGLE_LEVEL : ∃ t, mg "SINGLE_LEVEL" = some (.int 8 t)
  g_DEEPEST : ∃ t, mg "DEEPEST" = some (.int 6 t)
  g_LARGEST : ∃ t, mg "LARGEST" = some (.int 1000000000000 t)
  g_DIFFER : ∃ t, mg "DIFFER" = some (.str "sorts differ" t)
  g_LONGEST_QUERY : ∃ t, mg "LONGEST_QUERY" = some (.int 400 t)
  g_MOST_GIVEN : ∃ t, mg "MOST_GIVEN" = some (.int 6 t)
  g_MOST_ORDERED : ∃ t, mg "MOST_ORDERED" = some (.int 4 t)
  g_MOST_GROUPED : ∃ t, mg "MOST_GROUPED" = some (.int 4 t)
  g_HeapError : mg "HeapError" = some (.ref A.C_HeapError)
  g_Fault : mg "Fault" = some (.ref A.C_Fault)
  g_Token : mg "Token" = some (.ref A.C_Token)
  cl_Token : Cls K A.C_Token
  mk_Token : Mk K A.C_Token A.f_Token___init__
  na_Token_role : NoAttr K A.C_Token "role"
  na_Token_text : NoAttr K A.C_Token "text"
  na_Token_place : NoAttr K A.C_Token "place"
  g_IntSort : mg "IntSort" = some (.ref A.C_IntSort)
  cl_IntSort : Cls K A.C_IntSort
  mk_IntSort : Mk K A.C_IntSort A.f_IntSort___init__
  na_IntSort_low : NoAttr K A.C_IntSort "low"
  na_IntSort_high : NoAttr K A.C_IntSort "high"
  ii_IntSort : ∀ (H : Hp) (a dx : Addr) (fs : List (Str × V)), H a = some (.ins A.C_IntSort dx fs) → TyX K H (.ref a) (.ref A.C_IntSort)
  g_TextSort : mg "TextSort" = some (.ref A.C_TextSort)
  cl_TextSort : Cls K A.C_TextSort
  mk_TextSort : Mk K A.C_TextSort A.f_TextSort___init__
  na_TextSort_longest : NoAttr K A.C_TextSort "longest"
  na_TextSort_without : NoAttr K A.C_TextSort "without"
  ii_TextSort : ∀ (H : Hp) (a dx : Addr) (fs : List (Str × V)), H a = some (.ins A.C_TextSort dx fs) → TyX K H (.ref a) (.ref A.C_TextSort)
  g_ChoiceSort : mg "ChoiceSort" = some (.ref A.C_ChoiceSort)
  cl_ChoiceSort : Cls K A.C_ChoiceSort
  na_ChoiceSort_choices : NoAttr K A.C_ChoiceSort "choices"
  ii_ChoiceSort : ∀ (H : Hp) (a dx : Addr) (fs : List (Str × V)), H a = some (.ins A.C_ChoiceSort dx fs) → TyX K H (.ref a) (.ref A.C_ChoiceSort)
  g_RefSort : mg "RefSort" = some (.ref A.C_RefSort)
  cl_RefSort : Cls K A.C_RefSort
  mk_RefSort : Mk K A.C_RefSort A.f_RefSort___init__
  na_RefSort_kinds : NoAttr K A.C_RefSort "kinds"
  na_RefSort_rule : NoAttr K A.C_RefSort "rule"
  ii_RefSort : ∀ (H : Hp) (a dx : Addr) (fs : List (Str × V)), H a = some (.ins A.C_RefSort dx fs) → TyX K H (.ref a) (.ref A.C_RefSort)
  g_ListSort : mg "ListSort" = some (.ref A.C_ListSort)
  cl_ListSort : Cls K A.C_ListSort
  mk_ListSort : Mk K A.C_ListSort A.f_ListSort___init__
  na_ListSort_kinds : NoAttr K A.C_ListSort "kinds"
  ii_ListSort : ∀ (H : Hp) (a dx : Addr) (fs : List (Str × V)), H a = some (.ins A.C_ListSort dx fs) → TyX K H (.ref a) (.ref A.C_ListSort)
  g_SingleTerm : mg "SingleTerm" = some (.ref A.C_SingleTerm)
  cl_SingleTerm : Cls K A.C_SingleTerm
  mk_SingleTerm : Mk K A.C_SingleTerm A.f_SingleTerm___init__
  na_SingleTerm_level : NoAttr K A.C_SingleTerm "level"
  g_NumberTerm : mg "NumberTerm" = some (.ref A.C_NumberTerm)
  cl_NumberTerm : Cls K A.C_NumberTerm
  mk_NumberTerm : Mk K A.C_NumberTerm A.f_NumberTerm___init__
  na_NumberTerm_level : NoAttr K A.C_NumberTerm "level"
  na_NumberTerm_amount : NoAttr K A.C_NumberTerm "amount"
  ii_NumberTerm : ∀ (H : Hp) (a dx : Addr) (fs : List (Str × V)), H a = some (.ins A.C_NumberTerm dx fs) → TyX K H (.ref a) (.ref A.C_NumberTerm)
  g_TextTerm : mg "TextTerm" = some (.ref A.C_TextTerm)
  cl_TextTerm : Cls K A.C_TextTerm
  mk_TextTerm : Mk K A.C_TextTerm A.f_TextTerm___init__
  na_TextTerm_level : NoAttr K A.C_TextTerm "level"
  na_TextTerm_text : NoAttr K A.C_TextTerm "text"
  ii_TextTerm : ∀ (H : Hp) (a dx : Addr) (fs : List (Str × V)), H a = some (.ins A.C_TextTerm dx fs) → TyX K H (.ref a) (.ref A.C_TextTerm)
  g_ParameterTerm : mg "ParameterTerm" = some (.ref A.C_ParameterTerm)
  cl_ParameterTerm : Cls K A.C_ParameterTerm
  mk_ParameterTerm : Mk K A.C_ParameterTerm A.f_ParameterTerm___init__
  na_ParameterTerm_level : NoAttr K A.C_ParameterTerm "level"
  na_ParameterTerm_name : NoAttr K A.C_ParameterTerm "name"
  ii_ParameterTerm : ∀ (H : Hp) (a dx : Addr) (fs : List (Str × V)), H a = some (.ins A.C_ParameterTerm dx fs) → TyX K H (.ref a) (.ref A.C_ParameterTerm)
  g_PathTerm : mg "PathTerm" = some (.ref A.C_PathTerm)
  cl_PathTerm : Cls K A.C_PathTerm
  mk_PathTerm : Mk K A.C_PathTerm A.f_PathTerm___init__
  na_PathTerm_level : NoAttr K A.C_PathTerm "level"
  na_PathTerm_name : NoAttr K A.C_PathTerm "name"
  na_PathTerm_fields : NoAttr K A.C_PathTerm "fields"
  ii_PathTerm : ∀ (H : Hp) (a dx : Addr) (fs : List (Str × V)), H a = some (.ins A.C_PathTerm dx fs) → TyX K H (.ref a) (.ref A.C_PathTerm)
  g_SomeTerm : mg "SomeTerm" = some (.ref A.C_SomeTerm)
  cl_SomeTerm : Cls K A.C_SomeTerm
  mk_SomeTerm : Mk K A.C_SomeTerm A.f_SomeTerm___init__
  na_SomeTerm_level : NoAttr K A.C_SomeTerm "level"
  na_SomeTerm_word : NoAttr K A.C_SomeTerm "word"
  na_SomeTerm_name : NoAttr K A.C_SomeTerm "name"
  na_SomeTerm_path : NoAttr K A.C_SomeTerm "path"
  na_SomeTerm_inner : NoAttr K A.C_SomeTerm "inner"
  ii_SomeTerm : ∀ (H : Hp) (a dx : Addr) (fs : List (Str × V)), H a = some (.ins A.C_SomeTerm dx fs) → TyX K H (.ref a) (.ref A.C_SomeTerm)
  g_CountTerm : mg "CountTerm" = some (.ref A.C_CountTerm)
  cl_CountTerm : Cls K A.C_CountTerm
  mk_CountTerm : Mk K A.C_CountTerm A.f_CountTerm___init__
  na_CountTerm_level : NoAttr K A.C_CountTerm "level"
  na_CountTerm_path : NoAttr K A.C_CountTerm "path"
  ii_CountTerm : ∀ (H : Hp) (a dx : Addr) (fs : List (Str × V)), H a = some (.ins A.C_CountTerm dx fs) → TyX K H (.ref a) (.ref A.C_CountTerm)
  g_GroupTotal : mg "GroupTotal" = some (.ref A.C_GroupTotal)
  cl_GroupTotal : Cls K A.C_GroupTotal
  mk_GroupTotal : Mk K A.C_GroupTotal A.f_GroupTotal___init__
  na_GroupTotal_level : NoAttr K A.C_GroupTotal "level"
  na_GroupTotal_word : NoAttr K A.C_GroupTotal "word"
  na_GroupTotal_path : NoAttr K A.C_GroupTotal "path"
  ii_GroupTotal : ∀ (H : Hp) (a dx : Addr) (fs : List (Str × V)), H a = some (.ins A.C_GroupTotal dx fs) → TyX K H (.ref a) (.ref A.C_GroupTotal)
  g_ListTotal : mg "ListTotal" = some (.ref A.C_ListTotal)
  cl_ListTotal : Cls K A.C_ListTotal
  mk_ListTotal : Mk K A.C_ListTotal A.f_ListTotal___init__
  na_ListTotal_level : NoAttr K A.C_ListTotal "level"
  na_ListTotal_word : NoAttr K A.C_ListTotal "word"
  na_ListTotal_name : NoAttr K A.C_ListTotal "name"
  na_ListTotal_path : NoAttr K A.C_ListTotal "path"
  na_ListTotal_inner : NoAttr K A.C_ListTotal "inner"
  ii_ListTotal : ∀ (H : Hp) (a dx : Addr) (fs : List (Str × V)), H a = some (.ins A.C_ListTotal dx fs) → TyX K H (.ref a) (.ref A.C_ListTotal)
  g_ChainTerm : mg "ChainTerm" = some (.ref A.C_ChainTerm)
  cl_ChainTerm : Cls K A.C_ChainTerm
  mk_ChainTerm : Mk K A.C_ChainTerm A.f_ChainTerm___init__
  na_ChainTerm_level : NoAttr K A.C_ChainTerm "level"
  na_ChainTerm_first : NoAttr K A.C_ChainTerm "first"
  na_ChainTerm_rest : NoAttr K A.C_ChainTerm "rest"
  ii_ChainTerm : ∀ (H : Hp) (a dx : Addr) (fs : List (Str × V)), H a = some (.ins A.C_ChainTerm dx fs) → TyX K H (.ref a) (.ref A.C_ChainTerm)
  g_CompareTerm : mg "CompareTerm" = some (.ref A.C_CompareTerm)
  cl_CompareTerm : Cls K A.C_CompareTerm
  mk_CompareTerm : Mk K A.C_CompareTerm A.f_CompareTerm___init__
  na_CompareTerm_level : NoAttr K A.C_CompareTerm "level"
  na_CompareTerm_sign : NoAttr K A.C_CompareTerm "sign"
  na_CompareTerm_left : NoAttr K A.C_CompareTerm "left"
  na_CompareTerm_right : NoAttr K A.C_CompareTerm "right"
  ii_CompareTerm : ∀ (H : Hp) (a dx : Addr) (fs : List (Str × V)), H a = some (.ins A.C_CompareTerm dx fs) → TyX K H (.ref a) (.ref A.C_CompareTerm)
  g_NullTerm : mg "NullTerm" = some (.ref A.C_NullTerm)
  cl_NullTerm : Cls K A.C_NullTerm
  mk_NullTerm : Mk K A.C_NullTerm A.f_NullTerm___init__
  na_NullTerm_level : NoAttr K A.C_NullTerm "level"
  na_NullTerm_inner : NoAttr K A.C_NullTerm "inner"
  na_NullTerm_turned : NoAttr K A.C_NullTerm "turned"
  ii_NullTerm : ∀ (H : Hp) (a dx : Addr) (fs : List (Str × V)), H a = some (.ins A.C_NullTerm dx fs) → TyX K H (.ref a) (.ref A.C_NullTerm)
  g_AmongTerm : mg "AmongTerm" = some (.ref A.C_AmongTerm)
  cl_AmongTerm : Cls K A.C_AmongTerm
  mk_AmongTerm : Mk K A.C_AmongTerm A.f_AmongTerm___init__
  na_AmongTerm_level : NoAttr K A.C_AmongTerm "level"
  na_AmongTerm_inner : NoAttr K A.C_AmongTerm "inner"
  na_AmongTerm_others : NoAttr K A.C_AmongTerm "others"
  ii_AmongTerm : ∀ (H : Hp) (a dx : Addr) (fs : List (Str × V)), H a = some (.ins A.C_AmongTerm dx fs) → TyX K H (.ref a) (.ref A.C_AmongTerm)
  g_NotTerm : mg "NotTerm" = some (.ref A.C_NotTerm)
  cl_NotTerm : Cls K A.C_NotTerm
  mk_NotTerm : Mk K A.C_NotTerm A.f_NotTerm___init__
  na_NotTerm_level : NoAttr K A.C_NotTerm "level"
  na_NotTerm_many : NoAttr K A.C_NotTerm "many"
  na_NotTerm_inner : NoAttr K A.C_NotTerm "inner"
  ii_NotTerm : ∀ (H : Hp) (a dx : Addr) (fs : List (Str × V)), H a = some (.ins A.C_NotTerm dx fs) → TyX K H (.ref a) (.ref A.C_NotTerm)
  g_MinusTerm : mg "MinusTerm" = some (.ref A.C_MinusTerm)
  cl_MinusTerm : Cls K A.C_MinusTerm
  mk_MinusTerm : Mk K A.C_MinusTerm A.f_MinusTerm___init__
  na_MinusTerm_level : NoAttr K A.C_MinusTerm "level"
  na_MinusTerm_many : NoAttr K A.C_MinusTerm "many"
  na_MinusTerm_inner : NoAttr K A.C_MinusTerm "inner"
  ii_MinusTerm : ∀ (H : Hp) (a dx : Addr) (fs : List (Str × V)), H a = some (.ins A.C_MinusTerm dx fs) → TyX K H (.ref a) (.ref A.C_MinusTerm)
  g_QueryState : mg "QueryState" = some (.ref A.C_QueryState)
  cl_QueryState : Cls K A.C_QueryState
  mk_QueryState : Mk K A.C_QueryState A.f_QueryState___init__
  na_QueryState_schema : NoAttr K A.C_QueryState "schema"
  na_QueryState_reader : NoAttr K A.C_QueryState "reader"
  na_QueryState_origin : NoAttr K A.C_QueryState "origin"
  na_QueryState_names : NoAttr K A.C_QueryState "names"
  na_QueryState_groups : NoAttr K A.C_QueryState "groups"
  na_QueryState_depth : NoAttr K A.C_QueryState "depth"
  me_QueryState_enter : Meth K A.C_QueryState "enter" A.f_QueryState_enter
  me_QueryState_leave : Meth K A.C_QueryState "leave" A.f_QueryState_leave
  me_QueryState_small_name : Meth K A.C_QueryState "small_name" A.f_QueryState_small_name
  me_QueryState_new_name : Meth K A.C_QueryState "new_name" A.f_QueryState_new_name
  g_DrawnPath : mg "DrawnPath" = some (.ref A.C_DrawnPath)
  cl_DrawnPath : Cls K A.C_DrawnPath
  mk_DrawnPath : Mk K A.C_DrawnPath A.f_DrawnPath___init__
  na_DrawnPath_term : NoAttr K A.C_DrawnPath "term"
  na_DrawnPath_place : NoAttr K A.C_DrawnPath "place"
  na_DrawnPath_word : NoAttr K A.C_DrawnPath "word"
  na_DrawnPath_kinds : NoAttr K A.C_DrawnPath "kinds"
  g_TokenReader : mg "TokenReader" = some (.ref A.C_TokenReader)
  cl_TokenReader : Cls K A.C_TokenReader
  mk_TokenReader : Mk K A.C_TokenReader A.f_TokenReader___init__
  na_TokenReader_row : NoAttr K A.C_TokenReader "row"
  na_TokenReader_reserved : NoAttr K A.C_TokenReader "reserved"
  na_TokenReader_at : NoAttr K A.C_TokenReader "at"
  me_TokenReader_here : Meth K A.C_TokenReader "here" A.f_TokenReader_here
  me_TokenReader_following : Meth K A.C_TokenReader "following" A.f_TokenReader_following
  me_TokenReader_take : Meth K A.C_TokenReader "take" A.f_TokenReader_take
  me_TokenReader_at_end : Meth K A.C_TokenReader "at_end" A.f_TokenReader_at_end
  me_TokenReader_stands : Meth K A.C_TokenReader "stands" A.f_TokenReader_stands
  me_TokenReader_stands_one : Meth K A.C_TokenReader "stands_one" A.f_TokenReader_stands_one
  me_TokenReader_passes : Meth K A.C_TokenReader "passes" A.f_TokenReader_passes
  me_TokenReader_must : Meth K A.C_TokenReader "must" A.f_TokenReader_must
  me_TokenReader_must_end : Meth K A.C_TokenReader "must_end" A.f_TokenReader_must_end
  me_TokenReader_must_role : Meth K A.C_TokenReader "must_role" A.f_TokenReader_must_role
  me_TokenReader_number_token : Meth K A.C_TokenReader "number_token" A.f_TokenReader_number_token
  me_TokenReader_is_name : Meth K A.C_TokenReader "is_name" A.f_TokenReader_is_name
  me_TokenReader_small_name_stands : Meth K A.C_TokenReader "small_name_stands" A.f_TokenReader_small_name_stands
  me_TokenReader_kind_name : Meth K A.C_TokenReader "kind_name" A.f_TokenReader_kind_name
  me_TokenReader_small_name : Meth K A.C_TokenReader "small_name" A.f_TokenReader_small_name
  me_TokenReader_field_name : Meth K A.C_TokenReader "field_name" A.f_TokenReader_field_name
  g_Drawn : mg "Drawn" = some (.ref A.C_Drawn)
  cl_Drawn : Cls K A.C_Drawn
  mk_Drawn : Mk K A.C_Drawn A.f_Drawn___init__
  na_Drawn_term : NoAttr K A.C_Drawn "term"
  na_Drawn_word : NoAttr K A.C_Drawn "word"
  na_Drawn_parameters : NoAttr K A.C_Drawn "parameters"
  g_OrderTerm : mg "OrderTerm" = some (.ref A.C_OrderTerm)
  cl_OrderTerm : Cls K A.C_OrderTerm
  mk_OrderTerm : Mk K A.C_OrderTerm A.f_OrderTerm___init__
  na_OrderTerm_term : NoAttr K A.C_OrderTerm "term"
  na_OrderTerm_down : NoAttr K A.C_OrderTerm "down"
  g_QueryParts : mg "QueryParts" = some (.ref A.C_QueryParts)
  cl_QueryParts : Cls K A.C_QueryParts
  mk_QueryParts : Mk K A.C_QueryParts A.f_QueryParts___init__
  na_QueryParts_kind : NoAttr K A.C_QueryParts "kind"
  na_QueryParts_name : NoAttr K A.C_QueryParts "name"
  na_QueryParts_where : NoAttr K A.C_QueryParts "where"
  na_QueryParts_groups : NoAttr K A.C_QueryParts "groups"
  na_QueryParts_order : NoAttr K A.C_QueryParts "order"
  na_QueryParts_given : NoAttr K A.C_QueryParts "given"
  na_QueryParts_skipped : NoAttr K A.C_QueryParts "skipped"
  na_QueryParts_kept : NoAttr K A.C_QueryParts "kept"
  na_QueryParts_parameters : NoAttr K A.C_QueryParts "parameters"
  g_Query : mg "Query" = some (.ref A.C_Query)
  cl_Query : Cls K A.C_Query
  mk_Query : Mk K A.C_Query A.f_Query___init__
  na_Query_parts : NoAttr K A.C_Query "parts"
  na_Query_kind : NoAttr K A.C_Query "kind"
  na_Query_name : NoAttr K A.C_Query "name"
  na_Query_text : NoAttr K A.C_Query "text"
  g_Field : mg "Field" = some (.ref A.C_Field)
  cl_Field : Cls K A.C_Field
  mk_Field : Mk K A.C_Field A.f_Field___init__
  na_Field_name : NoAttr K A.C_Field "name"
  na_Field_shape : NoAttr K A.C_Field "shape"
  na_Field_needed : NoAttr K A.C_Field "needed"
  g_Kind : mg "Kind" = some (.ref A.C_Kind)
  cl_Kind : Cls K A.C_Kind
  mk_Kind : Mk K A.C_Kind A.f_Kind___init__
  na_Kind_name : NoAttr K A.C_Kind "name"
  na_Kind_fields : NoAttr K A.C_Kind "fields"
  na_Kind_key_rows : NoAttr K A.C_Kind "key_rows"
  me_Kind_field_of : Meth K A.C_Kind "field_of" A.f_Kind_field_of
  g_Schema : mg "Schema" = some (.ref A.C_Schema)
  cl_Schema : Cls K A.C_Schema
  mk_Schema : Mk K A.C_Schema A.f_Schema___init__
  na_Schema_kinds : NoAttr K A.C_Schema "kinds"
  me_Schema_kind_of : Meth K A.C_Schema "kind_of" A.f_Schema_kind_of
  me_Schema_field_of : Meth K A.C_Schema "field_of" A.f_Schema_field_of
  is_IntSort_IntSort : PySem.W.kitOne K (.ref A.C_IntSort) (.ref A.C_IntSort) = some true
  is_TextSort_IntSort : PySem.W.kitOne K (.ref A.C_TextSort) (.ref A.C_IntSort) = some false
  is_ChoiceSort_IntSort : PySem.W.kitOne K (.ref A.C_ChoiceSort) (.ref A.C_IntSort) = some false
  is_RefSort_IntSort : PySem.W.kitOne K (.ref A.C_RefSort) (.ref A.C_IntSort) = some false
  is_ListSort_IntSort : PySem.W.kitOne K (.ref A.C_ListSort) (.ref A.C_IntSort) = some false
  is_IntSort_TextSort : PySem.W.kitOne K (.ref A.C_IntSort) (.ref A.C_TextSort) = some false
  is_TextSort_TextSort : PySem.W.kitOne K (.ref A.C_TextSort) (.ref A.C_TextSort) = some true
  is_ChoiceSort_TextSort : PySem.W.kitOne K (.ref A.C_ChoiceSort) (.ref A.C_TextSort) = some false
  is_RefSort_TextSort : PySem.W.kitOne K (.ref A.C_RefSort) (.ref A.C_TextSort) = some false
  is_ListSort_TextSort : PySem.W.kitOne K (.ref A.C_ListSort) (.ref A.C_TextSort) = some false
  is_IntSort_ChoiceSort : PySem.W.kitOne K (.ref A.C_IntSort) (.ref A.C_ChoiceSort) = some false
  is_TextSort_ChoiceSort : PySem.W.kitOne K (.ref A.C_TextSort) (.ref A.C_ChoiceSort) = some false
  is_ChoiceSort_ChoiceSort : PySem.W.kitOne K (.ref A.C_ChoiceSort) (.ref A.C_ChoiceSort) = some true
  is_RefSort_ChoiceSort : PySem.W.kitOne K (.ref A.C_RefSort) (.ref A.C_ChoiceSort) = some false
  is_ListSort_ChoiceSort : PySem.W.kitOne K (.ref A.C_ListSort) (.ref A.C_ChoiceSort) = some false
  is_IntSort_RefSort : PySem.W.kitOne K (.ref A.C_IntSort) (.ref A.C_RefSort) = some false
  is_TextSort_RefSort : PySem.W.kitOne K (.ref A.C_TextSort) (.ref A.C_RefSort) = some false
  is_ChoiceSort_RefSort : PySem.W.kitOne K (.ref A.C_ChoiceSort) (.ref A.C_RefSort) = some false
  is_RefSort_RefSort : PySem.W.kitOne K (.ref A.C_RefSort) (.ref A.C_RefSort) = some true
  is_ListSort_RefSort : PySem.W.kitOne K (.ref A.C_ListSort) (.ref A.C_RefSort) = some false
  is_NumberTerm_ChainTerm : PySem.W.kitOne K (.ref A.C_NumberTerm) (.ref A.C_ChainTerm) = some false
  is_TextTerm_ChainTerm : PySem.W.kitOne K (.ref A.C_TextTerm) (.ref A.C_ChainTerm) = some false
  is_ParameterTerm_ChainTerm : PySem.W.kitOne K (.ref A.C_ParameterTerm) (.ref A.C_ChainTerm) = some false
  is_PathTerm_ChainTerm : PySem.W.kitOne K (.ref A.C_PathTerm) (.ref A.C_ChainTerm) = some false
  is_SomeTerm_ChainTerm : PySem.W.kitOne K (.ref A.C_SomeTerm) (.ref A.C_ChainTerm) = some false
  is_CountTerm_ChainTerm : PySem.W.kitOne K (.ref A.C_CountTerm) (.ref A.C_ChainTerm) = some false
  is_GroupTotal_ChainTerm : PySem.W.kitOne K (.ref A.C_GroupTotal) (.ref A.C_ChainTerm) = some false
  is_ListTotal_ChainTerm : PySem.W.kitOne K (.ref A.C_ListTotal) (.ref A.C_ChainTerm) = some false
  is_ChainTerm_ChainTerm : PySem.W.kitOne K (.ref A.C_ChainTerm) (.ref A.C_ChainTerm) = some true
  is_CompareTerm_ChainTerm : PySem.W.kitOne K (.ref A.C_CompareTerm) (.ref A.C_ChainTerm) = some false
  is_NullTerm_ChainTerm : PySem.W.kitOne K (.ref A.C_NullTerm) (.ref A.C_ChainTerm) = some false
  is_AmongTerm_ChainTerm : PySem.W.kitOne K (.ref A.C_AmongTerm) (.ref A.C_ChainTerm) = some false
  is_NotTerm_ChainTerm : PySem.W.kitOne K (.ref A.C_NotTerm) (.ref A.C_ChainTerm) = some false
  is_MinusTerm_ChainTerm : PySem.W.kitOne K (.ref A.C_MinusTerm) (.ref A.C_ChainTerm) = some false
  is_NumberTerm_ParameterTerm : PySem.W.kitOne K (.ref A.C_NumberTerm) (.ref A.C_ParameterTerm) = some false
  is_ParameterTerm_ParameterTerm : PySem.W.kitOne K (.ref A.C_ParameterTerm) (.ref A.C_ParameterTerm) = some true
  F_Fault___init__ : Fun K "__init__" "Fault.__init__" (inClass (topS 3) 0) A.f_Fault___init__ A.fd_Fault___init__
  b_Fault___init__ : Binds K A.fd_Fault___init__ ["self", "place", "reason"] []
  F_Token___init__ : Fun K "__init__" "Token.__init__" (inClass (topS 14) 0) A.f_Token___init__ A.fd_Token___init__
  b_Token___init__ : Binds K A.fd_Token___init__ ["self", "role", "text", "place"] []
  F_IntSort___init__ : Fun K "__init__" "IntSort.__init__" (inClass (topS 26) 0) A.f_IntSort___init__ A.fd_IntSort___init__
  b_IntSort___init__ : Binds K A.fd_IntSort___init__ ["self", "low", "high"] []
  F_TextSort___init__ : FunD K "__init__" "TextSort.__init__" (defArgs (inClass (topS 27) 0)) (defBody (inClass (topS 27) 0)) (defScope (inClass (topS 27) 0)) [.non] [] A.f_TextSort___init__ A.fd_TextSort___init__
  b_TextSort___init__ : Binds K A.fd_TextSort___init__ ["self", "longest", "without"] []
  F_RefSort___init__ : Fun K "__init__" "RefSort.__init__" (inClass (topS 29) 0) A.f_RefSort___init__ A.fd_RefSort___init__
  b_RefSort___init__ : Binds K A.fd_RefSort___init__ ["self", "kinds", "rule"] []
  F_ListSort___init__ : Fun K "__init__" "ListSort.__init__" (inClass (topS 30) 0) A.f_ListSort___init__ A.fd_ListSort___init__
  b_ListSort___init__ : Binds K A.fd_ListSort___init__ ["self", "kinds"] []
  F_SingleTerm___init__ : Fun K "__init__" "SingleTerm.__init__" (inClass (topS 53) 0) A.f_SingleTerm___init__ A.fd_SingleTerm___init__
  b_SingleTerm___init__ : Binds K A.fd_SingleTerm___init__ ["self"] []
  F_NumberTerm___init__ : Fun K "__init__" "NumberTerm.__init__" (inClass (topS 54) 0) A.f_NumberTerm___init__ A.fd_NumberTerm___init__
  b_NumberTerm___init__ : Binds K A.fd_NumberTerm___init__ ["self", "amount"] []
  F_TextTerm___init__ : Fun K "__init__" "TextTerm.__init__" (inClass (topS 55) 0) A.f_TextTerm___init__ A.fd_TextTerm___init__
  b_TextTerm___init__ : Binds K A.fd_TextTerm___init__ ["self", "text"] []
  F_ParameterTerm___init__ : Fun K "__init__" "ParameterTerm.__init__" (inClass (topS 56) 0) A.f_ParameterTerm___init__ A.fd_ParameterTerm___init__
  b_ParameterTerm___init__ : Binds K A.fd_ParameterTerm___init__ ["self", "name"] []
  F_PathTerm___init__ : Fun K "__init__" "PathTerm.__init__" (inClass (topS 57) 0) A.f_PathTerm___init__ A.fd_PathTerm___init__
  b_PathTerm___init__ : Binds K A.fd_PathTerm___init__ ["self", "name", "fields"] []
  F_SomeTerm___init__ : Fun K "__init__" "SomeTerm.__init__" (inClass (topS 58) 0) A.f_SomeTerm___init__ A.fd_SomeTerm___init__
  b_SomeTerm___init__ : Binds K A.fd_SomeTerm___init__ ["self", "word", "name", "path", "inner"] []
  F_CountTerm___init__ : Fun K "__init__" "CountTerm.__init__" (inClass (topS 59) 0) A.f_CountTerm___init__ A.fd_CountTerm___init__
  b_CountTerm___init__ : Binds K A.fd_CountTerm___init__ ["self", "path"] []
  F_GroupTotal___init__ : Fun K "__init__" "GroupTotal.__init__" (inClass (topS 60) 0) A.f_GroupTotal___init__ A.fd_GroupTotal___init__
  b_GroupTotal___init__ : Binds K A.fd_GroupTotal___init__ ["self", "word", "path"] []
  F_ListTotal___init__ : Fun K "__init__" "ListTotal.__init__" (inClass (topS 61) 0) A.f_ListTotal___init__ A.fd_ListTotal___init__
  b_ListTotal___init__ : Binds K A.fd_ListTotal___init__ ["self", "word", "name", "path", "inner"] []
  F_ChainTerm___init__ : Fun K "__init__" "ChainTerm.__init__" (inClass (topS 62) 0) A.f_ChainTerm___init__ A.fd_ChainTerm___init__
  b_ChainTerm___init__ : Binds K A.fd_ChainTerm___init__ ["self", "level", "first", "rest"] []
  F_CompareTerm___init__ : Fun K "__init__" "CompareTerm.__init__" (inClass (topS 63) 0) A.f_CompareTerm___init__ A.fd_CompareTerm___init__
  b_CompareTerm___init__ : Binds K A.fd_CompareTerm___init__ ["self", "sign", "left", "right"] []
  F_NullTerm___init__ : Fun K "__init__" "NullTerm.__init__" (inClass (topS 64) 0) A.f_NullTerm___init__ A.fd_NullTerm___init__
  b_NullTerm___init__ : Binds K A.fd_NullTerm___init__ ["self", "inner", "turned"] []
  F_AmongTerm___init__ : Fun K "__init__" "AmongTerm.__init__" (inClass (topS 65) 0) A.f_AmongTerm___init__ A.fd_AmongTerm___init__
  b_AmongTerm___init__ : Binds K A.fd_AmongTerm___init__ ["self", "inner", "others"] []
  F_NotTerm___init__ : Fun K "__init__" "NotTerm.__init__" (inClass (topS 66) 0) A.f_NotTerm___init__ A.fd_NotTerm___init__
  b_NotTerm___init__ : Binds K A.fd_NotTerm___init__ ["self", "many", "inner"] []
  F_MinusTerm___init__ : Fun K "__init__" "MinusTerm.__init__" (inClass (topS 67) 0) A.f_MinusTerm___init__ A.fd_MinusTerm___init__
  b_MinusTerm___init__ : Binds K A.fd_MinusTerm___init__ ["self", "many", "inner"] []
  F_QueryState___init__ : Fun K "__init__" "QueryState.__init__" (inClass (topS 70) 0) A.f_QueryState___init__ A.fd_QueryState___init__
  b_QueryState___init__ : Binds K A.fd_QueryState___init__ ["self", "schema", "reader"] []
  F_QueryState_enter : Fun K "enter" "QueryState.enter" (inClass (topS 70) 1) A.f_QueryState_enter A.fd_QueryState_enter
  b_QueryState_enter : Binds K A.fd_QueryState_enter ["self", "token"] []
  F_QueryState_leave : Fun K "leave" "QueryState.leave" (inClass (topS 70) 2) A.f_QueryState_leave A.fd_QueryState_leave
  b_QueryState_leave : Binds K A.fd_QueryState_leave ["self"] []
  F_QueryState_small_name : Fun K "small_name" "QueryState.small_name" (inClass (topS 70) 3) A.f_QueryState_small_name A.fd_QueryState_small_name
  b_QueryState_small_name : Binds K A.fd_QueryState_small_name ["self"] []
  F_QueryState_new_name : Fun K "new_name" "QueryState.new_name" (inClass (topS 70) 4) A.f_QueryState_new_name A.fd_QueryState_new_name
  b_QueryState_new_name : Binds K A.fd_QueryState_new_name ["self"] []
  F_DrawnPath___init__ : Fun K "__init__" "DrawnPath.__init__" (inClass (topS 71) 0) A.f_DrawnPath___init__ A.fd_DrawnPath___init__
  b_DrawnPath___init__ : Binds K A.fd_DrawnPath___init__ ["self", "term", "place", "word", "kinds"] []
  F_TokenReader___init__ : Fun K "__init__" "TokenReader.__init__" (inClass (topS 80) 0) A.f_TokenReader___init__ A.fd_TokenReader___init__
  b_TokenReader___init__ : Binds K A.fd_TokenReader___init__ ["self", "row", "reserved"] []
  F_TokenReader_here : Fun K "here" "TokenReader.here" (inClass (topS 80) 1) A.f_TokenReader_here A.fd_TokenReader_here
  b_TokenReader_here : Binds K A.fd_TokenReader_here ["self"] []
  F_TokenReader_following : Fun K "following" "TokenReader.following" (inClass (topS 80) 2) A.f_TokenReader_following A.fd_TokenReader_following
  b_TokenReader_following : Binds K A.fd_TokenReader_following ["self"] []
  F_TokenReader_take : Fun K "take" "TokenReader.take" (inClass (topS 80) 3) A.f_TokenReader_take A.fd_TokenReader_take
  b_TokenReader_take : Binds K A.fd_TokenReader_take ["self"] []
  F_TokenReader_at_end : Fun K "at_end" "TokenReader.at_end" (inClass (topS 80) 4) A.f_TokenReader_at_end A.fd_TokenReader_at_end
  b_TokenReader_at_end : Binds K A.fd_TokenReader_at_end ["self"] []
  F_TokenReader_stands : Fun K "stands" "TokenReader.stands" (inClass (topS 80) 5) A.f_TokenReader_stands A.fd_TokenReader_stands
  b_TokenReader_stands : Binds K A.fd_TokenReader_stands ["self", "text"] []
  F_TokenReader_stands_one : Fun K "stands_one" "TokenReader.stands_one" (inClass (topS 80) 6) A.f_TokenReader_stands_one A.fd_TokenReader_stands_one
  b_TokenReader_stands_one : Binds K A.fd_TokenReader_stands_one ["self", "texts"] []
  F_TokenReader_passes : Fun K "passes" "TokenReader.passes" (inClass (topS 80) 7) A.f_TokenReader_passes A.fd_TokenReader_passes
  b_TokenReader_passes : Binds K A.fd_TokenReader_passes ["self", "text"] []
  F_TokenReader_must : Fun K "must" "TokenReader.must" (inClass (topS 80) 8) A.f_TokenReader_must A.fd_TokenReader_must
  b_TokenReader_must : Binds K A.fd_TokenReader_must ["self", "text"] []
  F_TokenReader_must_end : Fun K "must_end" "TokenReader.must_end" (inClass (topS 80) 9) A.f_TokenReader_must_end A.fd_TokenReader_must_end
  b_TokenReader_must_end : Binds K A.fd_TokenReader_must_end ["self"] []
  F_TokenReader_must_role : Fun K "must_role" "TokenReader.must_role" (inClass (topS 80) 10) A.f_TokenReader_must_role A.fd_TokenReader_must_role
  b_TokenReader_must_role : Binds K A.fd_TokenReader_must_role ["self", "role", "reason"] []
  F_TokenReader_number_token : Fun K "number_token" "TokenReader.number_token" (inClass (topS 80) 11) A.f_TokenReader_number_token A.fd_TokenReader_number_token
  b_TokenReader_number_token : Binds K A.fd_TokenReader_number_token ["self"] []
  F_TokenReader_is_name : Fun K "is_name" "TokenReader.is_name" (inClass (topS 80) 14) A.f_TokenReader_is_name A.fd_TokenReader_is_name
  b_TokenReader_is_name : Binds K A.fd_TokenReader_is_name ["self", "token", "capital"] []
  F_TokenReader_small_name_stands : Fun K "small_name_stands" "TokenReader.small_name_stands" (inClass (topS 80) 15) A.f_TokenReader_small_name_stands A.fd_TokenReader_small_name_stands
  b_TokenReader_small_name_stands : Binds K A.fd_TokenReader_small_name_stands ["self"] []
  F_TokenReader_kind_name : Fun K "kind_name" "TokenReader.kind_name" (inClass (topS 80) 17) A.f_TokenReader_kind_name A.fd_TokenReader_kind_name
  b_TokenReader_kind_name : Binds K A.fd_TokenReader_kind_name ["self"] []
  F_TokenReader_small_name : Fun K "small_name" "TokenReader.small_name" (inClass (topS 80) 18) A.f_TokenReader_small_name A.fd_TokenReader_small_name
  b_TokenReader_small_name : Binds K A.fd_TokenReader_small_name ["self", "reason"] []
  F_TokenReader_field_name : Fun K "field_name" "TokenReader.field_name" (inClass (topS 80) 19) A.f_TokenReader_field_name A.fd_TokenReader_field_name
  b_TokenReader_field_name : Binds K A.fd_TokenReader_field_name ["self"] []
  F_Drawn___init__ : Fun K "__init__" "Drawn.__init__" (inClass (topS 87) 0) A.f_Drawn___init__ A.fd_Drawn___init__
  b_Drawn___init__ : Binds K A.fd_Drawn___init__ ["self", "term", "word", "parameters"] []
  F_OrderTerm___init__ : Fun K "__init__" "OrderTerm.__init__" (inClass (topS 117) 0) A.f_OrderTerm___init__ A.fd_OrderTerm___init__
  b_OrderTerm___init__ : Binds K A.fd_OrderTerm___init__ ["self", "term", "down"] []
  F_QueryParts___init__ : Fun K "__init__" "QueryParts.__init__" (inClass (topS 118) 0) A.f_QueryParts___init__ A.fd_QueryParts___init__
  b_QueryParts___init__ : Binds K A.fd_QueryParts___init__ ["self", "kind", "name"] []
  F_Query___init__ : Fun K "__init__" "Query.__init__" (inClass (topS 119) 0) A.f_Query___init__ A.fd_Query___init__
  b_Query___init__ : Binds K A.fd_Query___init__ ["self", "parts", "text"] []
  F_Field___init__ : FunD K "__init__" "Field.__init__" (defArgs (inClass (topS 143) 0)) (defBody (inClass (topS 143) 0)) (defScope (inClass (topS 143) 0)) [.bl false] [] A.f_Field___init__ A.fd_Field___init__
  b_Field___init__ : Binds K A.fd_Field___init__ ["self", "name", "shape", "needed"] []
  F_Kind___init__ : Fun K "__init__" "Kind.__init__" (inClass (topS 144) 0) A.f_Kind___init__ A.fd_Kind___init__
  b_Kind___init__ : Binds K A.fd_Kind___init__ ["self", "name", "fields", "key_rows"] []
  F_Kind_field_of : Fun K "field_of" "Kind.field_of" (inClass (topS 144) 1) A.f_Kind_field_of A.fd_Kind_field_of
  b_Kind_field_of : Binds K A.fd_Kind_field_of ["self", "name"] []
  F_Schema___init__ : Fun K "__init__" "Schema.__init__" (inClass (topS 145) 0) A.f_Schema___init__ A.fd_Schema___init__
  b_Schema___init__ : Binds K A.fd_Schema___init__ ["self", "kinds"] []
  F_Schema_kind_of : Fun K "kind_of" "Schema.kind_of" (inClass (topS 145) 1) A.f_Schema_kind_of A.fd_Schema_kind_of
  b_Schema_kind_of : Binds K A.fd_Schema_kind_of ["self", "name"] []
  F_Schema_field_of : Fun K "field_of" "Schema.field_of" (inClass (topS 145) 2) A.f_Schema_field_of A.fd_Schema_field_of
  b_Schema_field_of : Binds K A.fd_Schema_field_of ["self", "kind", "name"] []
  F_tokens : Fun K "tokens" "tokens" (topS 15) A.f_tokens A.fd_tokens
  b_tokens : Binds K A.fd_tokens ["text", "signs", "longest"] []
  g_tokens : mg "tokens" = some (.ref A.f_tokens)
  F_behind_blanks : Fun K "behind_blanks" "behind_blanks" (topS 17) A.f_behind_blanks A.fd_behind_blanks
  b_behind_blanks : Binds K A.fd_behind_blanks ["text", "at"] []
  g_behind_blanks : mg "behind_blanks" = some (.ref A.f_behind_blanks)
  F_token_at : Fun K "token_at" "token_at" (topS 18) A.f_token_at A.fd_token_at
  b_token_at : Binds K A.fd_token_at ["text", "at", "signs"] []
  g_token_at : mg "token_at" = some (.ref A.f_token_at)
  F_behind_run : Fun K "behind_run" "behind_run" (topS 19) A.f_behind_run A.fd_behind_run
  b_behind_run : Binds K A.fd_behind_run ["text", "at", "allowed"] []
  g_behind_run : mg "behind_run" = some (.ref A.f_behind_run)
  F_word_at : Fun K "word_at" "word_at" (topS 20) A.f_word_at A.fd_word_at
  b_word_at : Binds K A.fd_word_at ["text", "at"] []
  g_word_at : mg "word_at" = some (.ref A.f_word_at)
  F_number_at : Fun K "number_at" "number_at" (topS 21) A.f_number_at A.fd_number_at
  b_number_at : Binds K A.fd_number_at ["text", "at"] []
  g_number_at : mg "number_at" = some (.ref A.f_number_at)
  F_quoted_at : Fun K "quoted_at" "quoted_at" (topS 22) A.f_quoted_at A.fd_quoted_at
  b_quoted_at : Binds K A.fd_quoted_at ["text", "start"] []
  g_quoted_at : mg "quoted_at" = some (.ref A.f_quoted_at)
  F_may_stand : Fun K "may_stand" "may_stand" (topS 23) A.f_may_stand A.fd_may_stand
  b_may_stand : Binds K A.fd_may_stand ["character", "escaped"] []
  g_may_stand : mg "may_stand" = some (.ref A.f_may_stand)
  F_sign_at : Fun K "sign_at" "sign_at" (topS 24) A.f_sign_at A.fd_sign_at
  b_sign_at : Binds K A.fd_sign_at ["text", "at", "signs"] []
  g_sign_at : mg "sign_at" = some (.ref A.f_sign_at)
  F_is_reference : Fun K "is_reference" "is_reference" (topS 31) A.f_is_reference A.fd_is_reference
  b_is_reference : Binds K A.fd_is_reference ["shape"] []
  g_is_reference : mg "is_reference" = some (.ref A.f_is_reference)
  F_sort_of_shape : Fun K "sort_of_shape" "sort_of_shape" (topS 40) A.f_sort_of_shape A.fd_sort_of_shape
  b_sort_of_shape : Binds K A.fd_sort_of_shape ["shape"] []
  g_sort_of_shape : mg "sort_of_shape" = some (.ref A.f_sort_of_shape)
  F_kinds_of_shapes : Fun K "kinds_of_shapes" "kinds_of_shapes" (topS 41) A.f_kinds_of_shapes A.fd_kinds_of_shapes
  b_kinds_of_shapes : Binds K A.fd_kinds_of_shapes ["shapes"] []
  g_kinds_of_shapes : mg "kinds_of_shapes" = some (.ref A.f_kinds_of_shapes)
  F_common_sort : Fun K "common_sort" "common_sort" (topS 42) A.f_common_sort A.fd_common_sort
  b_common_sort : Binds K A.fd_common_sort ["sign", "sorts"] []
  g_common_sort : mg "common_sort" = some (.ref A.f_common_sort)
  F_read_path : Fun K "read_path" "read_path" (topS 72) A.f_read_path A.fd_read_path
  b_read_path : Binds K A.fd_read_path ["state"] []
  g_read_path : mg "read_path" = some (.ref A.f_read_path)
  F_behind_point : Fun K "behind_point" "behind_point" (topS 73) A.f_behind_point A.fd_behind_point
  b_behind_point : Binds K A.fd_behind_point ["schema", "word", "kinds", "field"] []
  g_behind_point : mg "behind_point" = some (.ref A.f_behind_point)
  F_read_plain_path : Fun K "read_plain_path" "read_plain_path" (topS 74) A.f_read_plain_path A.fd_read_plain_path
  b_read_plain_path : Binds K A.fd_read_plain_path ["state"] []
  g_read_plain_path : mg "read_plain_path" = some (.ref A.f_read_plain_path)
  F_read_list_path : Fun K "read_list_path" "read_list_path" (topS 75) A.f_read_list_path A.fd_read_list_path
  b_read_list_path : Binds K A.fd_read_list_path ["state"] []
  g_read_list_path : mg "read_list_path" = some (.ref A.f_read_list_path)
  F_read_total_path : Fun K "read_total_path" "read_total_path" (topS 76) A.f_read_total_path A.fd_read_total_path
  b_read_total_path : Binds K A.fd_read_total_path ["state"] []
  g_read_total_path : mg "read_total_path" = some (.ref A.f_read_total_path)
  F_refuse_list : Fun K "refuse_list" "refuse_list" (topS 77) A.f_refuse_list A.fd_refuse_list
  b_refuse_list : Binds K A.fd_refuse_list ["path"] []
  g_refuse_list : mg "refuse_list" = some (.ref A.f_refuse_list)
  F_check_group : Fun K "check_group" "check_group" (topS 78) A.f_check_group A.fd_check_group
  b_check_group : Binds K A.fd_check_group ["state", "path"] []
  g_check_group : mg "check_group" = some (.ref A.f_check_group)
  F_is_certain : Fun K "is_certain" "is_certain" (topS 81) A.f_is_certain A.fd_is_certain
  b_is_certain : Binds K A.fd_is_certain ["token", "text"] []
  g_is_certain : mg "is_certain" = some (.ref A.f_is_certain)
  F_parameters_as : Fun K "parameters_as" "parameters_as" (topS 88) A.f_parameters_as A.fd_parameters_as
  b_parameters_as : Binds K A.fd_parameters_as ["drawn", "word"] []
  g_parameters_as : mg "parameters_as" = some (.ref A.f_parameters_as)
  F_merged : Fun K "merged" "merged" (topS 89) A.f_merged A.fd_merged
  b_merged : Binds K A.fd_merged ["rows", "place"] []
  g_merged : mg "merged" = some (.ref A.f_merged)
  F_joined_parameters : Fun K "joined_parameters" "joined_parameters" (topS 90) A.f_joined_parameters A.fd_joined_parameters
  b_joined_parameters : Binds K A.fd_joined_parameters ["sign", "sides"] []
  g_joined_parameters : mg "joined_parameters" = some (.ref A.f_joined_parameters)
  F_read_either : Fun K "read_either" "read_either" (topS 91) A.f_read_either A.fd_read_either
  b_read_either : Binds K A.fd_read_either ["state"] []
  g_read_either : mg "read_either" = some (.ref A.f_read_either)
  F_read_both : Fun K "read_both" "read_both" (topS 92) A.f_read_both A.fd_read_both
  b_read_both : Binds K A.fd_read_both ["state"] []
  g_read_both : mg "read_both" = some (.ref A.f_read_both)
  F_read_sum : Fun K "read_sum" "read_sum" (topS 93) A.f_read_sum A.fd_read_sum
  b_read_sum : Binds K A.fd_read_sum ["state"] []
  g_read_sum : mg "read_sum" = some (.ref A.f_read_sum)
  F_read_product : Fun K "read_product" "read_product" (topS 94) A.f_read_product A.fd_read_product
  b_read_product : Binds K A.fd_read_product ["state"] []
  g_read_product : mg "read_product" = some (.ref A.f_read_product)
  F_read_chain : Fun K "read_chain" "read_chain" (topS 95) A.f_read_chain A.fd_read_chain
  b_read_chain : Binds K A.fd_read_chain ["state", "level", "signs", "read_side"] []
  g_read_chain : mg "read_chain" = some (.ref A.f_read_chain)
  F_longer_chain : Fun K "longer_chain" "longer_chain" (topS 96) A.f_longer_chain A.fd_longer_chain
  b_longer_chain : Binds K A.fd_longer_chain ["level", "sign", "left", "right"] []
  g_longer_chain : mg "longer_chain" = some (.ref A.f_longer_chain)
  F_pass_all : Fun K "pass_all" "pass_all" (topS 97) A.f_pass_all A.fd_pass_all
  b_pass_all : Binds K A.fd_pass_all ["state", "text"] []
  g_pass_all : mg "pass_all" = some (.ref A.f_pass_all)
  F_read_turned : Fun K "read_turned" "read_turned" (topS 98) A.f_read_turned A.fd_read_turned
  b_read_turned : Binds K A.fd_read_turned ["state"] []
  g_read_turned : mg "read_turned" = some (.ref A.f_read_turned)
  F_read_test : Fun K "read_test" "read_test" (topS 99) A.f_read_test A.fd_read_test
  b_read_test : Binds K A.fd_read_test ["state"] []
  g_read_test : mg "read_test" = some (.ref A.f_read_test)
  F_read_comparison : Fun K "read_comparison" "read_comparison" (topS 100) A.f_read_comparison A.fd_read_comparison
  b_read_comparison : Binds K A.fd_read_comparison ["state", "left"] []
  g_read_comparison : mg "read_comparison" = some (.ref A.f_read_comparison)
  F_read_null : Fun K "read_null" "read_null" (topS 101) A.f_read_null A.fd_read_null
  b_read_null : Binds K A.fd_read_null ["state", "left"] []
  g_read_null : mg "read_null" = some (.ref A.f_read_null)
  F_read_among : Fun K "read_among" "read_among" (topS 102) A.f_read_among A.fd_read_among
  b_read_among : Binds K A.fd_read_among ["state", "left"] []
  g_read_among : mg "read_among" = some (.ref A.f_read_among)
  F_read_signed : Fun K "read_signed" "read_signed" (topS 103) A.f_read_signed A.fd_read_signed
  b_read_signed : Binds K A.fd_read_signed ["state"] []
  g_read_signed : mg "read_signed" = some (.ref A.f_read_signed)
  F_read_single : Fun K "read_single" "read_single" (topS 104) A.f_read_single A.fd_read_single
  b_read_single : Binds K A.fd_read_single ["state"] []
  g_read_single : mg "read_single" = some (.ref A.f_read_single)
  F_read_number : Fun K "read_number" "read_number" (topS 105) A.f_read_number A.fd_read_number
  b_read_number : Binds K A.fd_read_number ["state"] []
  g_read_number : mg "read_number" = some (.ref A.f_read_number)
  F_read_parameter : Fun K "read_parameter" "read_parameter" (topS 106) A.f_read_parameter A.fd_read_parameter
  b_read_parameter : Binds K A.fd_read_parameter ["state"] []
  g_read_parameter : mg "read_parameter" = some (.ref A.f_read_parameter)
  F_read_enclosed : Fun K "read_enclosed" "read_enclosed" (topS 107) A.f_read_enclosed A.fd_read_enclosed
  b_read_enclosed : Binds K A.fd_read_enclosed ["state"] []
  g_read_enclosed : mg "read_enclosed" = some (.ref A.f_read_enclosed)
  F_read_over : Fun K "read_over" "read_over" (topS 108) A.f_read_over A.fd_read_over
  b_read_over : Binds K A.fd_read_over ["state", "name", "path"] []
  g_read_over : mg "read_over" = some (.ref A.f_read_over)
  F_read_some : Fun K "read_some" "read_some" (topS 109) A.f_read_some A.fd_read_some
  b_read_some : Binds K A.fd_read_some ["state"] []
  g_read_some : mg "read_some" = some (.ref A.f_read_some)
  F_read_count : Fun K "read_count" "read_count" (topS 110) A.f_read_count A.fd_read_count
  b_read_count : Binds K A.fd_read_count ["state"] []
  g_read_count : mg "read_count" = some (.ref A.f_read_count)
  F_refuse_without_group : Fun K "refuse_without_group" "refuse_without_group" (topS 111) A.f_refuse_without_group A.fd_refuse_without_group
  b_refuse_without_group : Binds K A.fd_refuse_without_group ["state", "word"] []
  g_refuse_without_group : mg "refuse_without_group" = some (.ref A.f_refuse_without_group)
  F_read_total : Fun K "read_total" "read_total" (topS 112) A.f_read_total A.fd_read_total
  b_read_total : Binds K A.fd_read_total ["state"] []
  g_read_total : mg "read_total" = some (.ref A.f_read_total)
  F_read_list_total : Fun K "read_list_total" "read_list_total" (topS 113) A.f_read_list_total A.fd_read_list_total
  b_read_list_total : Binds K A.fd_read_list_total ["state", "word"] []
  g_read_list_total : mg "read_list_total" = some (.ref A.f_read_list_total)
  F_read_group_total : Fun K "read_group_total" "read_group_total" (topS 114) A.f_read_group_total A.fd_read_group_total
  b_read_group_total : Binds K A.fd_read_group_total ["state", "word"] []
  g_read_group_total : mg "read_group_total" = some (.ref A.f_read_group_total)
  F_check_total : Fun K "check_total" "check_total" (topS 115) A.f_check_total A.fd_check_total
  b_check_total : Binds K A.fd_check_total ["word", "sort"] []
  g_check_total : mg "check_total" = some (.ref A.f_check_total)
  F_read_query : Fun K "read_query" "read_query" (topS 130) A.f_read_query A.fd_read_query
  b_read_query : Binds K A.fd_read_query ["schema", "text"] []
  g_read_query : mg "read_query" = some (.ref A.f_read_query)
  F_read_from : Fun K "read_from" "read_from" (topS 131) A.f_read_from A.fd_read_from
  b_read_from : Binds K A.fd_read_from ["state"] []
  g_read_from : mg "read_from" = some (.ref A.f_read_from)
  F_read_where : Fun K "read_where" "read_where" (topS 132) A.f_read_where A.fd_read_where
  b_read_where : Binds K A.fd_read_where ["state", "parts"] []
  g_read_where : mg "read_where" = some (.ref A.f_read_where)
  F_read_group : Fun K "read_group" "read_group" (topS 133) A.f_read_group A.fd_read_group
  b_read_group : Binds K A.fd_read_group ["state", "parts"] []
  g_read_group : mg "read_group" = some (.ref A.f_read_group)
  F_read_group_path : Fun K "read_group_path" "read_group_path" (topS 134) A.f_read_group_path A.fd_read_group_path
  b_read_group_path : Binds K A.fd_read_group_path ["state"] []
  g_read_group_path : mg "read_group_path" = some (.ref A.f_read_group_path)
  F_read_several : Fun K "read_several" "read_several" (topS 135) A.f_read_several A.fd_read_several
  b_read_several : Binds K A.fd_read_several ["state", "most", "read_one"] []
  g_read_several : mg "read_several" = some (.ref A.f_read_several)
  F_read_told : Fun K "read_told" "read_told" (topS 136) A.f_read_told A.fd_read_told
  b_read_told : Binds K A.fd_read_told ["state"] []
  g_read_told : mg "read_told" = some (.ref A.f_read_told)
  F_read_order_term : Fun K "read_order_term" "read_order_term" (topS 137) A.f_read_order_term A.fd_read_order_term
  b_read_order_term : Binds K A.fd_read_order_term ["state"] []
  g_read_order_term : mg "read_order_term" = some (.ref A.f_read_order_term)
  F_read_order : Fun K "read_order" "read_order" (topS 138) A.f_read_order A.fd_read_order
  b_read_order : Binds K A.fd_read_order ["state", "parts"] []
  g_read_order : mg "read_order" = some (.ref A.f_read_order)
  F_read_give : Fun K "read_give" "read_give" (topS 139) A.f_read_give A.fd_read_give
  b_read_give : Binds K A.fd_read_give ["state", "parts"] []
  g_read_give : mg "read_give" = some (.ref A.f_read_give)
  F_read_counts : Fun K "read_counts" "read_counts" (topS 140) A.f_read_counts A.fd_read_counts
  b_read_counts : Binds K A.fd_read_counts ["state", "parts"] []
  g_read_counts : mg "read_counts" = some (.ref A.f_read_counts)
  F_read_bound : Fun K "read_bound" "read_bound" (topS 141) A.f_read_bound A.fd_read_bound
  b_read_bound : Binds K A.fd_read_bound ["state"] []
  g_read_bound : mg "read_bound" = some (.ref A.f_read_bound)
  F__law_schema : Fun K "_law_schema" "_law_schema" (topS 150) A.f__law_schema A.fd__law_schema
  b__law_schema : Binds K A.fd__law_schema ["rules", "needed"] []
  g__law_schema : mg "_law_schema" = some (.ref A.f__law_schema)
  F__law_texts : Fun K "_law_texts" "_law_texts" (topS 151) A.f__law_texts A.fd__law_texts
  b__law_texts : Binds K A.fd__law_texts [] []
  g__law_texts : mg "_law_texts" = some (.ref A.f__law_texts)
  F_law : Fun K "law" "law" (topS 152) A.f_law A.fd_law
  b_law : Binds K A.fd_law ["script"] []
  F__law_cells : Fun K "_law_cells" "_law_cells" (topS 147) A.f__law_cells A.fd__law_cells
  b__law_cells : Binds K A.fd__law_cells ["script", "count"] []
  g__law_cells : mg "_law_cells" = some (.ref A.f__law_cells)
  F__law_draw : Fun K "_law_draw" "_law_draw" (topS 148) A.f__law_draw A.fd__law_draw
  b__law_draw : Binds K A.fd__law_draw ["draws", "bound"] []
  g__law_draw : mg "_law_draw" = some (.ref A.f__law_draw)
  F__law_pick : Fun K "_law_pick" "_law_pick" (topS 149) A.f__law_pick A.fd__law_pick
  b__law_pick : Binds K A.fd__law_pick ["draws", "row"] []
  g__law_pick : mg "_law_pick" = some (.ref A.f__law_pick)
  oex : OexC K A.C_Fault
  ic_Fault : PySem.W.findIn K (.ref A.C_Fault) "__init__" = some (some (.ref A.f_Fault___init__))
  ti_Fault : PySem.W.typeIn K (.ref A.f_Fault___init__) = some (.type "function")
  np_Fault : PySem.W.findIn K (.ref A.C_Fault) "place" = some none
  nr_Fault : PySem.W.findIn K (.ref A.C_Fault) "reason" = some none
  xf_Fault : XfC K A.C_Fault
  ec_Fault : ExcC K A.C_Fault
  em_Fault : PySem.W.exmOne K (.ref A.C_Fault) (.ref A.C_Fault) = some true
  cs_Fault : PySem.W.isClsIn K A.C_Fault = true
  ih_Fault : PySem.W.kitOne K (.ref A.C_Fault) (.ref A.C_HeapError) = some true
  iv_Fault : PySem.W.kitOne K (.ref A.C_Fault) (.type "ValueError") = some true
  q_COMPARISONS : ∀ H : Hp, SqT K H A.t_COMPARISONS (([.str "=", .str "!=", .str "<", .str "<=", .str ">", .str ">=", .str "starts", .str "holds"] : List V))
  g_COMPARISONS : mg "COMPARISONS" = some (.ref A.t_COMPARISONS)
  q_TOTALS : ∀ H : Hp, SqT K H A.t_TOTALS (([.str "sum", .str "least", .str "greatest"] : List V))
  g_TOTALS : mg "TOTALS" = some (.ref A.t_TOTALS)
  q_QUERY_SIGNS : ∀ H : Hp, SqT K H A.t_QUERY_SIGNS (([.str ".", .str ",", .str "(", .str ")", .str ":", .str "=", .str "!=", .str "<", .str "<=", .str ">", .str ">=", .str "+", .str "-", .str "*"] : List V))
  g_QUERY_SIGNS : mg "QUERY_SIGNS" = some (.ref A.t_QUERY_SIGNS)
  q_QUERY_WORDS : ∀ H : Hp, SqT K H A.t_QUERY_WORDS (([.str "from", .str "where", .str "group", .str "all", .str "by", .str "order", .str "down", .str "give", .str "skip", .str "first", .str "or", .str "and", .str "not", .str "some", .str "every", .str "in", .str "starts", .str "holds", .str "is", .str "null", .str "count", .str "sum", .str "least", .str "greatest"] : List V))
  g_QUERY_WORDS : mg "QUERY_WORDS" = some (.ref A.t_QUERY_WORDS)
  g_ASKED : mg "ASKED" = some (.ref A.t_ASKED)
  q_ASKED_0 : ∀ H : Hp, SqT K H A.t_ASKED_0 (([.str "truth"] : List V))
  q_ASKED_1 : ∀ H : Hp, SqT K H A.t_ASKED_1 (([.str "truth"] : List V))
  q_ASKED_2 : ∀ H : Hp, SqT K H A.t_ASKED_2 (([.str "integer", .str "text", .str "object"] : List V))
  q_ASKED_3 : ∀ H : Hp, SqT K H A.t_ASKED_3 (([.str "integer", .str "text", .str "object"] : List V))
  q_ASKED_4 : ∀ H : Hp, SqT K H A.t_ASKED_4 (([.str "integer", .str "text"] : List V))
  q_ASKED_5 : ∀ H : Hp, SqT K H A.t_ASKED_5 (([.str "integer", .str "text"] : List V))
  q_ASKED_6 : ∀ H : Hp, SqT K H A.t_ASKED_6 (([.str "integer", .str "text"] : List V))
  q_ASKED_7 : ∀ H : Hp, SqT K H A.t_ASKED_7 (([.str "integer", .str "text"] : List V))
  q_ASKED_8 : ∀ H : Hp, SqT K H A.t_ASKED_8 (([.str "text"] : List V))
  q_ASKED_9 : ∀ H : Hp, SqT K H A.t_ASKED_9 (([.str "text"] : List V))
  q_ASKED_10 : ∀ H : Hp, SqT K H A.t_ASKED_10 (([.str "integer", .str "text", .str "object"] : List V))
  q_ASKED_11 : ∀ H : Hp, SqT K H A.t_ASKED_11 (([.str "integer"] : List V))
  q_ASKED_12 : ∀ H : Hp, SqT K H A.t_ASKED_12 (([.str "integer"] : List V))
  q_ASKED_13 : ∀ H : Hp, SqT K H A.t_ASKED_13 (([.str "integer"] : List V))
  q_ASKED_14 : ∀ H : Hp, SqT K H A.t_ASKED_14 (([.str "integer"] : List V))
  q_ASKED_15 : ∀ H : Hp, SqT K H A.t_ASKED_15 (([.str "integer", .str "text"] : List V))
  q_ASKED_16 : ∀ H : Hp, SqT K H A.t_ASKED_16 (([.str "integer", .str "text"] : List V))
  d_ASKED_0 : KDct K w A.t_ASKED "or" (.ref A.t_ASKED_0)
  d_ASKED_1 : KDct K w A.t_ASKED "and" (.ref A.t_ASKED_1)
  d_ASKED_2 : KDct K w A.t_ASKED "=" (.ref A.t_ASKED_2)
  d_ASKED_3 : KDct K w A.t_ASKED "!=" (.ref A.t_ASKED_3)
  d_ASKED_4 : KDct K w A.t_ASKED "<" (.ref A.t_ASKED_4)
  d_ASKED_5 : KDct K w A.t_ASKED "<=" (.ref A.t_ASKED_5)
  d_ASKED_6 : KDct K w A.t_ASKED ">" (.ref A.t_ASKED_6)
  d_ASKED_7 : KDct K w A.t_ASKED ">=" (.ref A.t_ASKED_7)
  d_ASKED_8 : KDct K w A.t_ASKED "starts" (.ref A.t_ASKED_8)
  d_ASKED_9 : KDct K w A.t_ASKED "holds" (.ref A.t_ASKED_9)
  d_ASKED_10 : KDct K w A.t_ASKED "in" (.ref A.t_ASKED_10)
  d_ASKED_11 : KDct K w A.t_ASKED "+" (.ref A.t_ASKED_11)
  d_ASKED_12 : KDct K w A.t_ASKED "-" (.ref A.t_ASKED_12)
  d_ASKED_13 : KDct K w A.t_ASKED "*" (.ref A.t_ASKED_13)
  d_ASKED_14 : KDct K w A.t_ASKED "sum" (.ref A.t_ASKED_14)
  d_ASKED_15 : KDct K w A.t_ASKED "least" (.ref A.t_ASKED_15)
  d_ASKED_16 : KDct K w A.t_ASKED "greatest" (.ref A.t_ASKED_16)
  cr_SingleTerm : ClX.CRead K A.C_SingleTerm (.type "type")
  cv_SingleTerm : ClX.CVal K A.C_SingleTerm (.type "type") "__init__" (.ref A.f_SingleTerm___init__) (.ref A.f_SingleTerm___init__)
  no_Field : PySem.W.mroIn K A.C_Field (.type "object") = some true ∧ PySem.W.findIn K (.ref A.C_Field) "__eq__" = some (some (.builtin "object.__eq__"))
  isn_ParameterTerm : PySem.W.kitOne K (.type "NoneType") (.ref A.C_ParameterTerm) = some false
  b1_TextSort___init__ : ∃ ds, Vals [V.non] ds ∧ Binds K A.fd_TextSort___init__ ["self", "longest", "without"] ds
  b1_Field___init__ : ∃ ds, Vals [V.bl false] ds ∧ Binds K A.fd_Field___init__ ["self", "name", "shape", "needed"] ds
end
end K68
namespace K68
open PySem PySem.Spec PyProof.Rows L2 TL
set_option autoImplicit false
open Rn
noncomputable section
def e0 (K : PySem.W.Frag) : List Bool := [eqN (PySem.W.nsIn K mainGlobals "any"), eqN (PySem.W.nsIn K mainGlobals "int"), eqN (PySem.W.nsIn K mainGlobals "isinstance"), eqN (PySem.W.nsIn K mainGlobals "len"), eqN (PySem.W.nsIn K mainGlobals "list"), eqN (PySem.W.nsIn K mainGlobals "ord"), eqN (PySem.W.nsIn K mainGlobals "range"), strAt (PySem.W.nsIn K mainGlobals "CAPITALS") "ABCDEFGHIJKLMNOPQRSTUVWXYZ", strAt (PySem.W.nsIn K mainGlobals "LETTERS") "abcdefghijklmnopqrstuvwxyzABCDEFGHIJKLMNOPQRSTUVWXYZ", strAt (PySem.W.nsIn K mainGlobals "DIGITS") "0123456789", strAt (PySem.W.nsIn K mainGlobals "WORD_SIGNS") "abcdefghijklmnopqrstuvwxyzABCDEFGHIJKLMNOPQRSTUVWXYZ0123456789_", strAt (PySem.W.nsIn K mainGlobals "QUOTE") "\"", strAt (PySem.W.nsIn K mainGlobals "BACKSLASH") "\\", intAt (PySem.W.nsIn K mainGlobals "PERCENT_CODE") 37, intAt (PySem.W.nsIn K mainGlobals "LONGEST_WORD") 12, intAt (PySem.W.nsIn K mainGlobals "LONGEST_NUMBER") 18, strAt (PySem.W.nsIn K mainGlobals "INTEGER") "integer", strAt (PySem.W.nsIn K mainGlobals "TEXT") "text", strAt (PySem.W.nsIn K mainGlobals "TRUTH") "truth", strAt (PySem.W.nsIn K mainGlobals "OBJECT") "object", strAt (PySem.W.nsIn K mainGlobals "LIST") "list", strAt (PySem.W.nsIn K mainGlobals "PARAMETER") "parameter", intAt (PySem.W.nsIn K mainGlobals "OR_LEVEL") 1, intAt (PySem.W.nsIn K mainGlobals "AND_LEVEL") 2, intAt (PySem.W.nsIn K mainGlobals "NOT_LEVEL") 3, intAt (PySem.W.nsIn K mainGlobals "TEST_LEVEL") 4, intAt (PySem.W.nsIn K mainGlobals "SUM_LEVEL") 5, intAt (PySem.W.nsIn K mainGlobals "PRODUCT_LEVEL") 6, intAt (PySem.W.nsIn K mainGlobals "MINUS_LEVEL") 7, intAt (PySem.W.nsIn K mainGlobals "SINGLE_LEVEL") 8, intAt (PySem.W.nsIn K mainGlobals "DEEPEST") 6, intAt (PySem.W.nsIn K mainGlobals "LARGEST") 1000000000000, strAt (PySem.W.nsIn K mainGlobals "DIFFER") "sorts differ", intAt (PySem.W.nsIn K mainGlobals "LONGEST_QUERY") 400, intAt (PySem.W.nsIn K mainGlobals "MOST_GIVEN") 6, intAt (PySem.W.nsIn K mainGlobals "MOST_ORDERED") 4, intAt (PySem.W.nsIn K mainGlobals "MOST_GROUPED") 4, eqR (PySem.W.nsIn K mainGlobals "HeapError") 31, eqR (PySem.W.nsIn K mainGlobals "Fault") 51, eqR (PySem.W.nsIn K mainGlobals "Token") 70]
def e1 (K : PySem.W.Frag) : List Bool := [eqR (PySem.W.nsIn K mainGlobals "IntSort") 182, eqR (PySem.W.nsIn K mainGlobals "TextSort") 225, eqR (PySem.W.nsIn K mainGlobals "ChoiceSort") 265, eqR (PySem.W.nsIn K mainGlobals "RefSort") 307, eqR (PySem.W.nsIn K mainGlobals "ListSort") 349, eqR (PySem.W.nsIn K mainGlobals "SingleTerm") 421, eqR (PySem.W.nsIn K mainGlobals "NumberTerm") 449, eqR (PySem.W.nsIn K mainGlobals "TextTerm") 475, eqR (PySem.W.nsIn K mainGlobals "ParameterTerm") 501, eqR (PySem.W.nsIn K mainGlobals "PathTerm") 527, eqR (PySem.W.nsIn K mainGlobals "SomeTerm") 553, eqR (PySem.W.nsIn K mainGlobals "CountTerm") 579, eqR (PySem.W.nsIn K mainGlobals "GroupTotal") 605, eqR (PySem.W.nsIn K mainGlobals "ListTotal") 631, eqR (PySem.W.nsIn K mainGlobals "ChainTerm") 657, eqR (PySem.W.nsIn K mainGlobals "CompareTerm") 685, eqR (PySem.W.nsIn K mainGlobals "NullTerm") 713, eqR (PySem.W.nsIn K mainGlobals "AmongTerm") 739, eqR (PySem.W.nsIn K mainGlobals "NotTerm") 767, eqR (PySem.W.nsIn K mainGlobals "MinusTerm") 795, eqR (PySem.W.nsIn K mainGlobals "QueryState") 844, eqR (PySem.W.nsIn K mainGlobals "DrawnPath") 865, eqR (PySem.W.nsIn K mainGlobals "TokenReader") 1064, eqR (PySem.W.nsIn K mainGlobals "Drawn") 1094, eqR (PySem.W.nsIn K mainGlobals "OrderTerm") 1314, eqR (PySem.W.nsIn K mainGlobals "QueryParts") 1335, eqR (PySem.W.nsIn K mainGlobals "Query") 1356, eqR (PySem.W.nsIn K mainGlobals "Field") 1475, eqR (PySem.W.nsIn K mainGlobals "Kind") 1511, eqR (PySem.W.nsIn K mainGlobals "Schema") 1556, eqR (PySem.W.nsIn K mainGlobals "tokens") 81, eqR (PySem.W.nsIn K mainGlobals "behind_blanks") 95, eqR (PySem.W.nsIn K mainGlobals "token_at") 102, eqR (PySem.W.nsIn K mainGlobals "behind_run") 109, eqR (PySem.W.nsIn K mainGlobals "word_at") 116, eqR (PySem.W.nsIn K mainGlobals "number_at") 123, eqR (PySem.W.nsIn K mainGlobals "quoted_at") 130, eqR (PySem.W.nsIn K mainGlobals "may_stand") 137, eqR (PySem.W.nsIn K mainGlobals "sign_at") 144, eqR (PySem.W.nsIn K mainGlobals "is_reference") 360]
def e2 (K : PySem.W.Frag) : List Bool := [eqR (PySem.W.nsIn K mainGlobals "sort_of_shape") 385, eqR (PySem.W.nsIn K mainGlobals "kinds_of_shapes") 392, eqR (PySem.W.nsIn K mainGlobals "common_sort") 397, eqR (PySem.W.nsIn K mainGlobals "read_path") 876, eqR (PySem.W.nsIn K mainGlobals "behind_point") 881, eqR (PySem.W.nsIn K mainGlobals "read_plain_path") 888, eqR (PySem.W.nsIn K mainGlobals "read_list_path") 895, eqR (PySem.W.nsIn K mainGlobals "read_total_path") 902, eqR (PySem.W.nsIn K mainGlobals "refuse_list") 909, eqR (PySem.W.nsIn K mainGlobals "check_group") 916, eqR (PySem.W.nsIn K mainGlobals "is_certain") 1075, eqR (PySem.W.nsIn K mainGlobals "parameters_as") 1105, eqR (PySem.W.nsIn K mainGlobals "merged") 1112, eqR (PySem.W.nsIn K mainGlobals "joined_parameters") 1117, eqR (PySem.W.nsIn K mainGlobals "read_either") 1124, eqR (PySem.W.nsIn K mainGlobals "read_both") 1131, eqR (PySem.W.nsIn K mainGlobals "read_sum") 1138, eqR (PySem.W.nsIn K mainGlobals "read_product") 1145, eqR (PySem.W.nsIn K mainGlobals "read_chain") 1152, eqR (PySem.W.nsIn K mainGlobals "longer_chain") 1159, eqR (PySem.W.nsIn K mainGlobals "pass_all") 1166, eqR (PySem.W.nsIn K mainGlobals "read_turned") 1173, eqR (PySem.W.nsIn K mainGlobals "read_test") 1180, eqR (PySem.W.nsIn K mainGlobals "read_comparison") 1187, eqR (PySem.W.nsIn K mainGlobals "read_null") 1194, eqR (PySem.W.nsIn K mainGlobals "read_among") 1199, eqR (PySem.W.nsIn K mainGlobals "read_signed") 1206, eqR (PySem.W.nsIn K mainGlobals "read_single") 1213, eqR (PySem.W.nsIn K mainGlobals "read_number") 1220, eqR (PySem.W.nsIn K mainGlobals "read_parameter") 1227, eqR (PySem.W.nsIn K mainGlobals "read_enclosed") 1234, eqR (PySem.W.nsIn K mainGlobals "read_over") 1241, eqR (PySem.W.nsIn K mainGlobals "read_some") 1248, eqR (PySem.W.nsIn K mainGlobals "read_count") 1255, eqR (PySem.W.nsIn K mainGlobals "refuse_without_group") 1262, eqR (PySem.W.nsIn K mainGlobals "read_total") 1269, eqR (PySem.W.nsIn K mainGlobals "read_list_total") 1276, eqR (PySem.W.nsIn K mainGlobals "read_group_total") 1283, eqR (PySem.W.nsIn K mainGlobals "check_total") 1290, eqR (PySem.W.nsIn K mainGlobals "read_query") 1381]
def e3 (K : PySem.W.Frag) : List Bool := [eqR (PySem.W.nsIn K mainGlobals "read_from") 1388, eqR (PySem.W.nsIn K mainGlobals "read_where") 1395, eqR (PySem.W.nsIn K mainGlobals "read_group") 1400, eqR (PySem.W.nsIn K mainGlobals "read_group_path") 1407, eqR (PySem.W.nsIn K mainGlobals "read_several") 1414, eqR (PySem.W.nsIn K mainGlobals "read_told") 1421, eqR (PySem.W.nsIn K mainGlobals "read_order_term") 1428, eqR (PySem.W.nsIn K mainGlobals "read_order") 1433, eqR (PySem.W.nsIn K mainGlobals "read_give") 1438, eqR (PySem.W.nsIn K mainGlobals "read_counts") 1443, eqR (PySem.W.nsIn K mainGlobals "read_bound") 1450, eqR (PySem.W.nsIn K mainGlobals "_law_schema") 1588, eqR (PySem.W.nsIn K mainGlobals "_law_texts") 1595, eqR (PySem.W.nsIn K mainGlobals "law") 1602, eqR (PySem.W.nsIn K mainGlobals "_law_cells") 1567, eqR (PySem.W.nsIn K mainGlobals "_law_draw") 1574, eqR (PySem.W.nsIn K mainGlobals "_law_pick") 1581, eqR (PySem.W.nsIn K mainGlobals "COMPARISONS") 1076, eqR (PySem.W.nsIn K mainGlobals "TOTALS") 1077, eqR (PySem.W.nsIn K mainGlobals "QUERY_SIGNS") 1373, eqR (PySem.W.nsIn K mainGlobals "QUERY_WORDS") 1374, eqR (PySem.W.nsIn K mainGlobals "ASKED") 361]
def e4 (K : PySem.W.Frag) : List Bool := [PySem.W.plainGet K 70 Str.empty, PySem.W.hasDictIn K 70, PySem.W.plainOver K 70, eqF (PySem.W.findIn K (.ref 70) "__setattr__") "object.__setattr__", PySem.W.makesIn K 70, PySem.W.keepIn K (.ref 70), eqN (PySem.W.findIn K (.ref 70) "role"), eqN (PySem.W.findIn K (.ref 70) "text"), eqN (PySem.W.findIn K (.ref 70) "place"), eqR (PySem.W.findIn K (.ref 70) "__init__") 67]
def e5 (K : PySem.W.Frag) : List Bool := [PySem.W.plainGet K 182 Str.empty, PySem.W.hasDictIn K 182, PySem.W.plainOver K 182, eqF (PySem.W.findIn K (.ref 182) "__setattr__") "object.__setattr__", PySem.W.makesIn K 182, PySem.W.keepIn K (.ref 182), eqN (PySem.W.findIn K (.ref 182) "low"), eqN (PySem.W.findIn K (.ref 182) "high"), eqR (PySem.W.findIn K (.ref 182) "__init__") 158, eqF (PySem.W.findIn K (.ref 182) "__class__") "object.__class__", eqB (PySem.W.mroIn K 182 (.type "object")) true]
def e6 (K : PySem.W.Frag) : List Bool := [PySem.W.plainGet K 225 Str.empty, PySem.W.hasDictIn K 225, PySem.W.plainOver K 225, eqF (PySem.W.findIn K (.ref 225) "__setattr__") "object.__setattr__", PySem.W.makesIn K 225, PySem.W.keepIn K (.ref 225), eqN (PySem.W.findIn K (.ref 225) "longest"), eqN (PySem.W.findIn K (.ref 225) "without"), eqR (PySem.W.findIn K (.ref 225) "__init__") 201, eqF (PySem.W.findIn K (.ref 225) "__class__") "object.__class__", eqB (PySem.W.mroIn K 225 (.type "object")) true]
def e7 (K : PySem.W.Frag) : List Bool := [PySem.W.plainGet K 265 Str.empty, PySem.W.hasDictIn K 265, PySem.W.plainOver K 265, eqF (PySem.W.findIn K (.ref 265) "__setattr__") "object.__setattr__", PySem.W.makesIn K 265, PySem.W.keepIn K (.ref 265), eqN (PySem.W.findIn K (.ref 265) "choices"), eqF (PySem.W.findIn K (.ref 265) "__class__") "object.__class__", eqB (PySem.W.mroIn K 265 (.type "object")) true]
def e8 (K : PySem.W.Frag) : List Bool := [PySem.W.plainGet K 307 Str.empty, PySem.W.hasDictIn K 307, PySem.W.plainOver K 307, eqF (PySem.W.findIn K (.ref 307) "__setattr__") "object.__setattr__", PySem.W.makesIn K 307, PySem.W.keepIn K (.ref 307), eqN (PySem.W.findIn K (.ref 307) "kinds"), eqN (PySem.W.findIn K (.ref 307) "rule"), eqR (PySem.W.findIn K (.ref 307) "__init__") 283, eqF (PySem.W.findIn K (.ref 307) "__class__") "object.__class__", eqB (PySem.W.mroIn K 307 (.type "object")) true]
def e9 (K : PySem.W.Frag) : List Bool := [PySem.W.plainGet K 349 Str.empty, PySem.W.hasDictIn K 349, PySem.W.plainOver K 349, eqF (PySem.W.findIn K (.ref 349) "__setattr__") "object.__setattr__", PySem.W.makesIn K 349, PySem.W.keepIn K (.ref 349), eqN (PySem.W.findIn K (.ref 349) "kinds"), eqR (PySem.W.findIn K (.ref 349) "__init__") 325, eqF (PySem.W.findIn K (.ref 349) "__class__") "object.__class__", eqB (PySem.W.mroIn K 349 (.type "object")) true]
def e10 (K : PySem.W.Frag) : List Bool := [PySem.W.plainGet K 421 Str.empty, PySem.W.hasDictIn K 421, PySem.W.plainOver K 421, eqF (PySem.W.findIn K (.ref 421) "__setattr__") "object.__setattr__", PySem.W.makesIn K 421, PySem.W.keepIn K (.ref 421), eqN (PySem.W.findIn K (.ref 421) "level"), eqR (PySem.W.findIn K (.ref 421) "__init__") 418]
def e11 (K : PySem.W.Frag) : List Bool := [PySem.W.plainGet K 449 Str.empty, PySem.W.hasDictIn K 449, PySem.W.plainOver K 449, eqF (PySem.W.findIn K (.ref 449) "__setattr__") "object.__setattr__", PySem.W.makesIn K 449, PySem.W.keepIn K (.ref 449), eqN (PySem.W.findIn K (.ref 449) "level"), eqN (PySem.W.findIn K (.ref 449) "amount"), eqR (PySem.W.findIn K (.ref 449) "__init__") 439, eqF (PySem.W.findIn K (.ref 449) "__class__") "object.__class__", eqB (PySem.W.mroIn K 449 (.type "object")) true]
def e12 (K : PySem.W.Frag) : List Bool := [PySem.W.plainGet K 475 Str.empty, PySem.W.hasDictIn K 475, PySem.W.plainOver K 475, eqF (PySem.W.findIn K (.ref 475) "__setattr__") "object.__setattr__", PySem.W.makesIn K 475, PySem.W.keepIn K (.ref 475), eqN (PySem.W.findIn K (.ref 475) "level"), eqN (PySem.W.findIn K (.ref 475) "text"), eqR (PySem.W.findIn K (.ref 475) "__init__") 465, eqF (PySem.W.findIn K (.ref 475) "__class__") "object.__class__", eqB (PySem.W.mroIn K 475 (.type "object")) true]
def e13 (K : PySem.W.Frag) : List Bool := [PySem.W.plainGet K 501 Str.empty, PySem.W.hasDictIn K 501, PySem.W.plainOver K 501, eqF (PySem.W.findIn K (.ref 501) "__setattr__") "object.__setattr__", PySem.W.makesIn K 501, PySem.W.keepIn K (.ref 501), eqN (PySem.W.findIn K (.ref 501) "level"), eqN (PySem.W.findIn K (.ref 501) "name"), eqR (PySem.W.findIn K (.ref 501) "__init__") 491, eqF (PySem.W.findIn K (.ref 501) "__class__") "object.__class__", eqB (PySem.W.mroIn K 501 (.type "object")) true]
def e14 (K : PySem.W.Frag) : List Bool := [PySem.W.plainGet K 527 Str.empty, PySem.W.hasDictIn K 527, PySem.W.plainOver K 527, eqF (PySem.W.findIn K (.ref 527) "__setattr__") "object.__setattr__", PySem.W.makesIn K 527, PySem.W.keepIn K (.ref 527), eqN (PySem.W.findIn K (.ref 527) "level"), eqN (PySem.W.findIn K (.ref 527) "name"), eqN (PySem.W.findIn K (.ref 527) "fields"), eqR (PySem.W.findIn K (.ref 527) "__init__") 517, eqF (PySem.W.findIn K (.ref 527) "__class__") "object.__class__", eqB (PySem.W.mroIn K 527 (.type "object")) true]
def e15 (K : PySem.W.Frag) : List Bool := [PySem.W.plainGet K 553 Str.empty, PySem.W.hasDictIn K 553, PySem.W.plainOver K 553, eqF (PySem.W.findIn K (.ref 553) "__setattr__") "object.__setattr__", PySem.W.makesIn K 553, PySem.W.keepIn K (.ref 553), eqN (PySem.W.findIn K (.ref 553) "level"), eqN (PySem.W.findIn K (.ref 553) "word"), eqN (PySem.W.findIn K (.ref 553) "name"), eqN (PySem.W.findIn K (.ref 553) "path"), eqN (PySem.W.findIn K (.ref 553) "inner"), eqR (PySem.W.findIn K (.ref 553) "__init__") 543, eqF (PySem.W.findIn K (.ref 553) "__class__") "object.__class__", eqB (PySem.W.mroIn K 553 (.type "object")) true]
def e16 (K : PySem.W.Frag) : List Bool := [PySem.W.plainGet K 579 Str.empty, PySem.W.hasDictIn K 579, PySem.W.plainOver K 579, eqF (PySem.W.findIn K (.ref 579) "__setattr__") "object.__setattr__", PySem.W.makesIn K 579, PySem.W.keepIn K (.ref 579), eqN (PySem.W.findIn K (.ref 579) "level"), eqN (PySem.W.findIn K (.ref 579) "path"), eqR (PySem.W.findIn K (.ref 579) "__init__") 569, eqF (PySem.W.findIn K (.ref 579) "__class__") "object.__class__", eqB (PySem.W.mroIn K 579 (.type "object")) true]
def e17 (K : PySem.W.Frag) : List Bool := [PySem.W.plainGet K 605 Str.empty, PySem.W.hasDictIn K 605, PySem.W.plainOver K 605, eqF (PySem.W.findIn K (.ref 605) "__setattr__") "object.__setattr__", PySem.W.makesIn K 605, PySem.W.keepIn K (.ref 605), eqN (PySem.W.findIn K (.ref 605) "level"), eqN (PySem.W.findIn K (.ref 605) "word"), eqN (PySem.W.findIn K (.ref 605) "path"), eqR (PySem.W.findIn K (.ref 605) "__init__") 595, eqF (PySem.W.findIn K (.ref 605) "__class__") "object.__class__", eqB (PySem.W.mroIn K 605 (.type "object")) true]
def e18 (K : PySem.W.Frag) : List Bool := [PySem.W.plainGet K 631 Str.empty, PySem.W.hasDictIn K 631, PySem.W.plainOver K 631, eqF (PySem.W.findIn K (.ref 631) "__setattr__") "object.__setattr__", PySem.W.makesIn K 631, PySem.W.keepIn K (.ref 631), eqN (PySem.W.findIn K (.ref 631) "level"), eqN (PySem.W.findIn K (.ref 631) "word"), eqN (PySem.W.findIn K (.ref 631) "name"), eqN (PySem.W.findIn K (.ref 631) "path"), eqN (PySem.W.findIn K (.ref 631) "inner"), eqR (PySem.W.findIn K (.ref 631) "__init__") 621, eqF (PySem.W.findIn K (.ref 631) "__class__") "object.__class__", eqB (PySem.W.mroIn K 631 (.type "object")) true]
def e19 (K : PySem.W.Frag) : List Bool := [PySem.W.plainGet K 657 Str.empty, PySem.W.hasDictIn K 657, PySem.W.plainOver K 657, eqF (PySem.W.findIn K (.ref 657) "__setattr__") "object.__setattr__", PySem.W.makesIn K 657, PySem.W.keepIn K (.ref 657), eqN (PySem.W.findIn K (.ref 657) "level"), eqN (PySem.W.findIn K (.ref 657) "first"), eqN (PySem.W.findIn K (.ref 657) "rest"), eqR (PySem.W.findIn K (.ref 657) "__init__") 647, eqF (PySem.W.findIn K (.ref 657) "__class__") "object.__class__", eqB (PySem.W.mroIn K 657 (.type "object")) true]
def e20 (K : PySem.W.Frag) : List Bool := [PySem.W.plainGet K 685 Str.empty, PySem.W.hasDictIn K 685, PySem.W.plainOver K 685, eqF (PySem.W.findIn K (.ref 685) "__setattr__") "object.__setattr__", PySem.W.makesIn K 685, PySem.W.keepIn K (.ref 685), eqN (PySem.W.findIn K (.ref 685) "level"), eqN (PySem.W.findIn K (.ref 685) "sign"), eqN (PySem.W.findIn K (.ref 685) "left"), eqN (PySem.W.findIn K (.ref 685) "right"), eqR (PySem.W.findIn K (.ref 685) "__init__") 675, eqF (PySem.W.findIn K (.ref 685) "__class__") "object.__class__", eqB (PySem.W.mroIn K 685 (.type "object")) true]
def e21 (K : PySem.W.Frag) : List Bool := [PySem.W.plainGet K 713 Str.empty, PySem.W.hasDictIn K 713, PySem.W.plainOver K 713, eqF (PySem.W.findIn K (.ref 713) "__setattr__") "object.__setattr__", PySem.W.makesIn K 713, PySem.W.keepIn K (.ref 713), eqN (PySem.W.findIn K (.ref 713) "level"), eqN (PySem.W.findIn K (.ref 713) "inner"), eqN (PySem.W.findIn K (.ref 713) "turned"), eqR (PySem.W.findIn K (.ref 713) "__init__") 703, eqF (PySem.W.findIn K (.ref 713) "__class__") "object.__class__", eqB (PySem.W.mroIn K 713 (.type "object")) true]
def e22 (K : PySem.W.Frag) : List Bool := [PySem.W.plainGet K 739 Str.empty, PySem.W.hasDictIn K 739, PySem.W.plainOver K 739, eqF (PySem.W.findIn K (.ref 739) "__setattr__") "object.__setattr__", PySem.W.makesIn K 739, PySem.W.keepIn K (.ref 739), eqN (PySem.W.findIn K (.ref 739) "level"), eqN (PySem.W.findIn K (.ref 739) "inner"), eqN (PySem.W.findIn K (.ref 739) "others"), eqR (PySem.W.findIn K (.ref 739) "__init__") 731, eqF (PySem.W.findIn K (.ref 739) "__class__") "object.__class__", eqB (PySem.W.mroIn K 739 (.type "object")) true]
def e23 (K : PySem.W.Frag) : List Bool := [PySem.W.plainGet K 767 Str.empty, PySem.W.hasDictIn K 767, PySem.W.plainOver K 767, eqF (PySem.W.findIn K (.ref 767) "__setattr__") "object.__setattr__", PySem.W.makesIn K 767, PySem.W.keepIn K (.ref 767), eqN (PySem.W.findIn K (.ref 767) "level"), eqN (PySem.W.findIn K (.ref 767) "many"), eqN (PySem.W.findIn K (.ref 767) "inner"), eqR (PySem.W.findIn K (.ref 767) "__init__") 757, eqF (PySem.W.findIn K (.ref 767) "__class__") "object.__class__", eqB (PySem.W.mroIn K 767 (.type "object")) true]
def e24 (K : PySem.W.Frag) : List Bool := [PySem.W.plainGet K 795 Str.empty, PySem.W.hasDictIn K 795, PySem.W.plainOver K 795, eqF (PySem.W.findIn K (.ref 795) "__setattr__") "object.__setattr__", PySem.W.makesIn K 795, PySem.W.keepIn K (.ref 795), eqN (PySem.W.findIn K (.ref 795) "level"), eqN (PySem.W.findIn K (.ref 795) "many"), eqN (PySem.W.findIn K (.ref 795) "inner"), eqR (PySem.W.findIn K (.ref 795) "__init__") 785, eqF (PySem.W.findIn K (.ref 795) "__class__") "object.__class__", eqB (PySem.W.mroIn K 795 (.type "object")) true]
def e25 (K : PySem.W.Frag) : List Bool := [PySem.W.plainGet K 844 Str.empty, PySem.W.hasDictIn K 844, PySem.W.plainOver K 844, eqF (PySem.W.findIn K (.ref 844) "__setattr__") "object.__setattr__", PySem.W.makesIn K 844, PySem.W.keepIn K (.ref 844), eqN (PySem.W.findIn K (.ref 844) "schema"), eqN (PySem.W.findIn K (.ref 844) "reader"), eqN (PySem.W.findIn K (.ref 844) "origin"), eqN (PySem.W.findIn K (.ref 844) "names"), eqN (PySem.W.findIn K (.ref 844) "groups"), eqN (PySem.W.findIn K (.ref 844) "depth"), eqR (PySem.W.findIn K (.ref 844) "__init__") 813, eqR (PySem.W.findIn K (.ref 844) "enter") 820, eqR (PySem.W.findIn K (.ref 844) "leave") 827, eqR (PySem.W.findIn K (.ref 844) "small_name") 834, eqR (PySem.W.findIn K (.ref 844) "new_name") 841]
def e26 (K : PySem.W.Frag) : List Bool := [PySem.W.plainGet K 865 Str.empty, PySem.W.hasDictIn K 865, PySem.W.plainOver K 865, eqF (PySem.W.findIn K (.ref 865) "__setattr__") "object.__setattr__", PySem.W.makesIn K 865, PySem.W.keepIn K (.ref 865), eqN (PySem.W.findIn K (.ref 865) "term"), eqN (PySem.W.findIn K (.ref 865) "place"), eqN (PySem.W.findIn K (.ref 865) "word"), eqN (PySem.W.findIn K (.ref 865) "kinds"), eqR (PySem.W.findIn K (.ref 865) "__init__") 862]
def e27 (K : PySem.W.Frag) : List Bool := [PySem.W.plainGet K 1064 Str.empty, PySem.W.hasDictIn K 1064, PySem.W.plainOver K 1064, eqF (PySem.W.findIn K (.ref 1064) "__setattr__") "object.__setattr__", PySem.W.makesIn K 1064, PySem.W.keepIn K (.ref 1064), eqN (PySem.W.findIn K (.ref 1064) "row"), eqN (PySem.W.findIn K (.ref 1064) "reserved"), eqN (PySem.W.findIn K (.ref 1064) "at"), eqR (PySem.W.findIn K (.ref 1064) "__init__") 930, eqR (PySem.W.findIn K (.ref 1064) "here") 937, eqR (PySem.W.findIn K (.ref 1064) "following") 944, eqR (PySem.W.findIn K (.ref 1064) "take") 951, eqR (PySem.W.findIn K (.ref 1064) "at_end") 958, eqR (PySem.W.findIn K (.ref 1064) "stands") 965, eqR (PySem.W.findIn K (.ref 1064) "stands_one") 970, eqR (PySem.W.findIn K (.ref 1064) "passes") 977, eqR (PySem.W.findIn K (.ref 1064) "must") 984, eqR (PySem.W.findIn K (.ref 1064) "must_end") 991, eqR (PySem.W.findIn K (.ref 1064) "must_role") 998, eqR (PySem.W.findIn K (.ref 1064) "number_token") 1005, eqR (PySem.W.findIn K (.ref 1064) "is_name") 1026, eqR (PySem.W.findIn K (.ref 1064) "small_name_stands") 1033, eqR (PySem.W.findIn K (.ref 1064) "kind_name") 1047, eqR (PySem.W.findIn K (.ref 1064) "small_name") 1054, eqR (PySem.W.findIn K (.ref 1064) "field_name") 1061]
def e28 (K : PySem.W.Frag) : List Bool := [PySem.W.plainGet K 1094 Str.empty, PySem.W.hasDictIn K 1094, PySem.W.plainOver K 1094, eqF (PySem.W.findIn K (.ref 1094) "__setattr__") "object.__setattr__", PySem.W.makesIn K 1094, PySem.W.keepIn K (.ref 1094), eqN (PySem.W.findIn K (.ref 1094) "term"), eqN (PySem.W.findIn K (.ref 1094) "word"), eqN (PySem.W.findIn K (.ref 1094) "parameters"), eqR (PySem.W.findIn K (.ref 1094) "__init__") 1091]
def e29 (K : PySem.W.Frag) : List Bool := [PySem.W.plainGet K 1314 Str.empty, PySem.W.hasDictIn K 1314, PySem.W.plainOver K 1314, eqF (PySem.W.findIn K (.ref 1314) "__setattr__") "object.__setattr__", PySem.W.makesIn K 1314, PySem.W.keepIn K (.ref 1314), eqN (PySem.W.findIn K (.ref 1314) "term"), eqN (PySem.W.findIn K (.ref 1314) "down"), eqR (PySem.W.findIn K (.ref 1314) "__init__") 1304]
def e30 (K : PySem.W.Frag) : List Bool := [PySem.W.plainGet K 1335 Str.empty, PySem.W.hasDictIn K 1335, PySem.W.plainOver K 1335, eqF (PySem.W.findIn K (.ref 1335) "__setattr__") "object.__setattr__", PySem.W.makesIn K 1335, PySem.W.keepIn K (.ref 1335), eqN (PySem.W.findIn K (.ref 1335) "kind"), eqN (PySem.W.findIn K (.ref 1335) "name"), eqN (PySem.W.findIn K (.ref 1335) "where"), eqN (PySem.W.findIn K (.ref 1335) "groups"), eqN (PySem.W.findIn K (.ref 1335) "order"), eqN (PySem.W.findIn K (.ref 1335) "given"), eqN (PySem.W.findIn K (.ref 1335) "skipped"), eqN (PySem.W.findIn K (.ref 1335) "kept"), eqN (PySem.W.findIn K (.ref 1335) "parameters"), eqR (PySem.W.findIn K (.ref 1335) "__init__") 1332]
def e31 (K : PySem.W.Frag) : List Bool := [PySem.W.plainGet K 1356 Str.empty, PySem.W.hasDictIn K 1356, PySem.W.plainOver K 1356, eqF (PySem.W.findIn K (.ref 1356) "__setattr__") "object.__setattr__", PySem.W.makesIn K 1356, PySem.W.keepIn K (.ref 1356), eqN (PySem.W.findIn K (.ref 1356) "parts"), eqN (PySem.W.findIn K (.ref 1356) "kind"), eqN (PySem.W.findIn K (.ref 1356) "name"), eqN (PySem.W.findIn K (.ref 1356) "text"), eqR (PySem.W.findIn K (.ref 1356) "__init__") 1353]
def e32 (K : PySem.W.Frag) : List Bool := [PySem.W.plainGet K 1475 Str.empty, PySem.W.hasDictIn K 1475, PySem.W.plainOver K 1475, eqF (PySem.W.findIn K (.ref 1475) "__setattr__") "object.__setattr__", PySem.W.makesIn K 1475, PySem.W.keepIn K (.ref 1475), eqN (PySem.W.findIn K (.ref 1475) "name"), eqN (PySem.W.findIn K (.ref 1475) "shape"), eqN (PySem.W.findIn K (.ref 1475) "needed"), eqR (PySem.W.findIn K (.ref 1475) "__init__") 1465]
def e33 (K : PySem.W.Frag) : List Bool := [PySem.W.plainGet K 1511 Str.empty, PySem.W.hasDictIn K 1511, PySem.W.plainOver K 1511, eqF (PySem.W.findIn K (.ref 1511) "__setattr__") "object.__setattr__", PySem.W.makesIn K 1511, PySem.W.keepIn K (.ref 1511), eqN (PySem.W.findIn K (.ref 1511) "name"), eqN (PySem.W.findIn K (.ref 1511) "fields"), eqN (PySem.W.findIn K (.ref 1511) "key_rows"), eqR (PySem.W.findIn K (.ref 1511) "__init__") 1491, eqR (PySem.W.findIn K (.ref 1511) "field_of") 1498]
def e34 (K : PySem.W.Frag) : List Bool := [PySem.W.plainGet K 1556 Str.empty, PySem.W.hasDictIn K 1556, PySem.W.plainOver K 1556, eqF (PySem.W.findIn K (.ref 1556) "__setattr__") "object.__setattr__", PySem.W.makesIn K 1556, PySem.W.keepIn K (.ref 1556), eqN (PySem.W.findIn K (.ref 1556) "kinds"), eqR (PySem.W.findIn K (.ref 1556) "__init__") 1529, eqR (PySem.W.findIn K (.ref 1556) "kind_of") 1536, eqR (PySem.W.findIn K (.ref 1556) "field_of") 1543]
def e35 (K : PySem.W.Frag) : List Bool := [eqF (PySem.W.specialIn K (.builtin "object.__class__") "__get__") "getset_descriptor.__get__", eqB (PySem.W.takesIn K (.builtin "object.__class__")) true, eqB (PySem.W.kitOne K (.ref 182) (.ref 182)) true, eqB (PySem.W.kitOne K (.ref 225) (.ref 182)) false, eqB (PySem.W.kitOne K (.ref 265) (.ref 182)) false, eqB (PySem.W.kitOne K (.ref 307) (.ref 182)) false, eqB (PySem.W.kitOne K (.ref 349) (.ref 182)) false, eqB (PySem.W.kitOne K (.ref 182) (.ref 225)) false, eqB (PySem.W.kitOne K (.ref 225) (.ref 225)) true, eqB (PySem.W.kitOne K (.ref 265) (.ref 225)) false, eqB (PySem.W.kitOne K (.ref 307) (.ref 225)) false, eqB (PySem.W.kitOne K (.ref 349) (.ref 225)) false, eqB (PySem.W.kitOne K (.ref 182) (.ref 265)) false, eqB (PySem.W.kitOne K (.ref 225) (.ref 265)) false, eqB (PySem.W.kitOne K (.ref 265) (.ref 265)) true, eqB (PySem.W.kitOne K (.ref 307) (.ref 265)) false, eqB (PySem.W.kitOne K (.ref 349) (.ref 265)) false, eqB (PySem.W.kitOne K (.ref 182) (.ref 307)) false, eqB (PySem.W.kitOne K (.ref 225) (.ref 307)) false, eqB (PySem.W.kitOne K (.ref 265) (.ref 307)) false, eqB (PySem.W.kitOne K (.ref 307) (.ref 307)) true, eqB (PySem.W.kitOne K (.ref 349) (.ref 307)) false, eqB (PySem.W.kitOne K (.ref 449) (.ref 657)) false, eqB (PySem.W.kitOne K (.ref 475) (.ref 657)) false, eqB (PySem.W.kitOne K (.ref 501) (.ref 657)) false, eqB (PySem.W.kitOne K (.ref 527) (.ref 657)) false, eqB (PySem.W.kitOne K (.ref 553) (.ref 657)) false, eqB (PySem.W.kitOne K (.ref 579) (.ref 657)) false, eqB (PySem.W.kitOne K (.ref 605) (.ref 657)) false, eqB (PySem.W.kitOne K (.ref 631) (.ref 657)) false, eqB (PySem.W.kitOne K (.ref 657) (.ref 657)) true, eqB (PySem.W.kitOne K (.ref 685) (.ref 657)) false, eqB (PySem.W.kitOne K (.ref 713) (.ref 657)) false, eqB (PySem.W.kitOne K (.ref 739) (.ref 657)) false, eqB (PySem.W.kitOne K (.ref 767) (.ref 657)) false, eqB (PySem.W.kitOne K (.ref 795) (.ref 657)) false, eqB (PySem.W.kitOne K (.ref 449) (.ref 501)) false, eqB (PySem.W.kitOne K (.ref 501) (.ref 501)) true, eqB (PySem.W.kitOne K (.type "NoneType") (.ref 501)) false, PySem.W.readsIn K 421 (.type "type")]
def e36 (K : PySem.W.Frag) : List Bool := [eqF (PySem.W.specialIn K (.ref 421) "__getattribute__") "type.__getattribute__", eqC1 (PySem.W.findCls K (.ref 421) (.type "type") "__init__") 418, eqB (PySem.W.mroIn K 1475 (.type "object")) true, eqF (PySem.W.findIn K (.ref 1475) "__eq__") "object.__eq__", tupB K 1076 [V.str "=", V.str "!=", V.str "<", V.str "<=", V.str ">", V.str ">=", V.str "starts", V.str "holds"], tupB K 1077 [V.str "sum", V.str "least", V.str "greatest"], tupB K 1373 [V.str ".", V.str ",", V.str "(", V.str ")", V.str ":", V.str "=", V.str "!=", V.str "<", V.str "<=", V.str ">", V.str ">=", V.str "+", V.str "-", V.str "*"], tupB K 1374 [V.str "from", V.str "where", V.str "group", V.str "all", V.str "by", V.str "order", V.str "down", V.str "give", V.str "skip", V.str "first", V.str "or", V.str "and", V.str "not", V.str "some", V.str "every", V.str "in", V.str "starts", V.str "holds", V.str "is", V.str "null", V.str "count", V.str "sum", V.str "least", V.str "greatest"], tupB K 362 [V.str "truth"], eqR (PySem.W.nsIn K 361 "or") 362, tupB K 363 [V.str "truth"], eqR (PySem.W.nsIn K 361 "and") 363, tupB K 364 [V.str "integer", V.str "text", V.str "object"], eqR (PySem.W.nsIn K 361 "=") 364, tupB K 365 [V.str "integer", V.str "text", V.str "object"], eqR (PySem.W.nsIn K 361 "!=") 365, tupB K 366 [V.str "integer", V.str "text"], eqR (PySem.W.nsIn K 361 "<") 366, tupB K 367 [V.str "integer", V.str "text"], eqR (PySem.W.nsIn K 361 "<=") 367, tupB K 368 [V.str "integer", V.str "text"], eqR (PySem.W.nsIn K 361 ">") 368, tupB K 369 [V.str "integer", V.str "text"], eqR (PySem.W.nsIn K 361 ">=") 369, tupB K 370 [V.str "text"], eqR (PySem.W.nsIn K 361 "starts") 370, tupB K 371 [V.str "text"], eqR (PySem.W.nsIn K 361 "holds") 371, tupB K 372 [V.str "integer", V.str "text", V.str "object"], eqR (PySem.W.nsIn K 361 "in") 372, tupB K 373 [V.str "integer"], eqR (PySem.W.nsIn K 361 "+") 373, tupB K 374 [V.str "integer"], eqR (PySem.W.nsIn K 361 "-") 374, tupB K 375 [V.str "integer"], eqR (PySem.W.nsIn K 361 "*") 375, tupB K 376 [V.str "integer"], eqR (PySem.W.nsIn K 361 "sum") 376, tupB K 377 [V.str "integer", V.str "text"], eqR (PySem.W.nsIn K 361 "least") 377]
def e37 (K : PySem.W.Frag) : List Bool := [tupB K 378 [V.str "integer", V.str "text"], eqR (PySem.W.nsIn K 361 "greatest") 378, oexB K 51, eqF (PySem.W.findIn K (.ref 51) "__setattr__") "object.__setattr__", eqB (PySem.W.subIn K (.ref 51) (.type "BaseException")) true, eqT (PySem.W.typeIn K (.ref 51)) "type", PySem.W.keepIn K (.ref 51), eqR (PySem.W.findIn K (.ref 51) "__init__") 48, eqT (PySem.W.typeIn K (.ref 48)) "function", eqN (PySem.W.findIn K (.ref 51) "place"), eqN (PySem.W.findIn K (.ref 51) "reason"), eqF (PySem.W.findIn K (.ref 51) "__getattribute__") "BaseException.__getattribute__", eqN (PySem.W.findIn K (.ref 51) "__getattr__"), PySem.W.hasDictIn K 51, eqF (PySem.W.findIn K (.ref 51) "__class__") "object.__class__", eqB (PySem.W.mroIn K 51 (.type "object")) true, eqB (PySem.W.exmOne K (.ref 51) (.ref 51)) true, PySem.W.isClsIn K 51, eqB (PySem.W.kitOne K (.ref 51) (.ref 31)) true, eqB (PySem.W.kitOne K (.ref 51) (.type "ValueError")) true]
def e38 (K : PySem.W.Frag) : List Bool := [fkB K 48 "Fault.__init__", fkB K 67 "Token.__init__", fkB K 158 "IntSort.__init__", fnBD K 201 "TextSort.__init__" [V.non], PySem.W.keepIn K (.ref 201), PySem.W.isFn K (.ref 201), fkB K 283 "RefSort.__init__", fkB K 325 "ListSort.__init__", fkB K 418 "SingleTerm.__init__", fkB K 439 "NumberTerm.__init__", fkB K 465 "TextTerm.__init__", fkB K 491 "ParameterTerm.__init__", fkB K 517 "PathTerm.__init__", fkB K 543 "SomeTerm.__init__", fkB K 569 "CountTerm.__init__", fkB K 595 "GroupTotal.__init__", fkB K 621 "ListTotal.__init__", fkB K 647 "ChainTerm.__init__", fkB K 675 "CompareTerm.__init__", fkB K 703 "NullTerm.__init__", fkB K 731 "AmongTerm.__init__", fkB K 757 "NotTerm.__init__", fkB K 785 "MinusTerm.__init__", fkB K 813 "QueryState.__init__", fkB K 820 "QueryState.enter", fkB K 827 "QueryState.leave", fkB K 834 "QueryState.small_name", fkB K 841 "QueryState.new_name", fkB K 862 "DrawnPath.__init__", fkB K 930 "TokenReader.__init__", fkB K 937 "TokenReader.here", fkB K 944 "TokenReader.following", fkB K 951 "TokenReader.take", fkB K 958 "TokenReader.at_end", fkB K 965 "TokenReader.stands", fkB K 970 "TokenReader.stands_one", fkB K 977 "TokenReader.passes", fkB K 984 "TokenReader.must", fkB K 991 "TokenReader.must_end", fkB K 998 "TokenReader.must_role"]
def e39 (K : PySem.W.Frag) : List Bool := [fkB K 1005 "TokenReader.number_token", fkB K 1026 "TokenReader.is_name", fkB K 1033 "TokenReader.small_name_stands", fkB K 1047 "TokenReader.kind_name", fkB K 1054 "TokenReader.small_name", fkB K 1061 "TokenReader.field_name", fkB K 1091 "Drawn.__init__", fkB K 1304 "OrderTerm.__init__", fkB K 1332 "QueryParts.__init__", fkB K 1353 "Query.__init__", fnBD K 1465 "Field.__init__" [V.bl false], PySem.W.keepIn K (.ref 1465), PySem.W.isFn K (.ref 1465), fkB K 1491 "Kind.__init__", fkB K 1498 "Kind.field_of", fkB K 1529 "Schema.__init__", fkB K 1536 "Schema.kind_of", fkB K 1543 "Schema.field_of", fkB K 81 "tokens", fkB K 95 "behind_blanks", fkB K 102 "token_at", fkB K 109 "behind_run", fkB K 116 "word_at", fkB K 123 "number_at", fkB K 130 "quoted_at", fkB K 137 "may_stand", fkB K 144 "sign_at", fkB K 360 "is_reference", fkB K 385 "sort_of_shape", fkB K 392 "kinds_of_shapes", fkB K 397 "common_sort", fkB K 876 "read_path", fkB K 881 "behind_point", fkB K 888 "read_plain_path", fkB K 895 "read_list_path", fkB K 902 "read_total_path", fkB K 909 "refuse_list", fkB K 916 "check_group", fkB K 1075 "is_certain", fkB K 1105 "parameters_as"]
def e40 (K : PySem.W.Frag) : List Bool := [fkB K 1112 "merged", fkB K 1117 "joined_parameters", fkB K 1124 "read_either", fkB K 1131 "read_both", fkB K 1138 "read_sum", fkB K 1145 "read_product", fkB K 1152 "read_chain", fkB K 1159 "longer_chain", fkB K 1166 "pass_all", fkB K 1173 "read_turned", fkB K 1180 "read_test", fkB K 1187 "read_comparison", fkB K 1194 "read_null", fkB K 1199 "read_among", fkB K 1206 "read_signed", fkB K 1213 "read_single", fkB K 1220 "read_number", fkB K 1227 "read_parameter", fkB K 1234 "read_enclosed", fkB K 1241 "read_over", fkB K 1248 "read_some", fkB K 1255 "read_count", fkB K 1262 "refuse_without_group", fkB K 1269 "read_total", fkB K 1276 "read_list_total", fkB K 1283 "read_group_total", fkB K 1290 "check_total", fkB K 1381 "read_query", fkB K 1388 "read_from", fkB K 1395 "read_where", fkB K 1400 "read_group", fkB K 1407 "read_group_path", fkB K 1414 "read_several", fkB K 1421 "read_told", fkB K 1428 "read_order_term", fkB K 1433 "read_order", fkB K 1438 "read_give", fkB K 1443 "read_counts", fkB K 1450 "read_bound", fkB K 1588 "_law_schema"]
def e41 (K : PySem.W.Frag) : List Bool := [fkB K 1595 "_law_texts", fkB K 1602 "law", fkB K 1567 "_law_cells", fkB K 1574 "_law_draw", fkB K 1581 "_law_pick"]
def eA (K : PySem.W.Frag) : List Bool := [allB (e0 K), allB (e1 K), allB (e2 K), allB (e3 K)]
def eB (K : PySem.W.Frag) : List Bool := [allB (e38 K), allB (e39 K), allB (e40 K), allB (e41 K)]
def eC (K : PySem.W.Frag) : List Bool := [allB (e35 K), allB (e36 K), allB (e37 K)]
def eP (K : PySem.W.Frag) : List Bool := [allB (e4 K), allB (e5 K), allB (e6 K), allB (e7 K), allB (e8 K), allB (e9 K), allB (e10 K), allB (e11 K), allB (e12 K), allB (e13 K), allB (e14 K), allB (e15 K), allB (e16 K), allB (e17 K), allB (e18 K), allB (e19 K), allB (e20 K), allB (e21 K), allB (e22 K), allB (e23 K), allB (e24 K), allB (e25 K), allB (e26 K), allB (e27 K), allB (e28 K), allB (e29 K), allB (e30 K), allB (e31 K), allB (e32 K), allB (e33 K), allB (e34 K)]
def exB (K : PySem.W.Frag) : Bool := allB [allB (eA K), allB (eB K), allB (eC K), allB (eP K)]
def asL0 : List Addr := [3, 2, 31, 30, 51, 50, 70, 69, 182, 181, 225, 224, 265, 264, 307, 306, 349, 348, 421, 420, 449, 448, 475, 474, 501, 500, 527, 526, 553, 552, 579, 578, 605, 604, 631, 630, 657, 656, 685, 684]
def asL1 : List Addr := [713, 712, 739, 738, 767, 766, 795, 794, 844, 843, 865, 864, 1064, 1063, 1094, 1093, 1314, 1313, 1335, 1334, 1356, 1355, 1475, 1474, 1511, 1510, 1556, 1555, 361, 1076, 1077, 1373, 1374, 362, 363, 364, 365, 366, 367, 368]
def asL2 : List Addr := [369, 370, 371, 372, 373, 374, 375, 376, 377, 378, 48, 47, 67, 66, 158, 157, 201, 200, 194, 283, 282, 325, 324, 418, 417, 439, 438, 465, 464, 491, 490, 517, 516, 543, 542, 569, 568, 595, 594, 621]
def asL3 : List Addr := [620, 647, 646, 675, 674, 703, 702, 731, 730, 757, 756, 785, 784, 813, 812, 820, 819, 827, 826, 834, 833, 841, 840, 862, 861, 930, 929, 937, 936, 944, 943, 951, 950, 958, 957, 965, 964, 970, 969, 977]
def asL4 : List Addr := [976, 984, 983, 991, 990, 998, 997, 1005, 1004, 1026, 1025, 1033, 1032, 1047, 1046, 1054, 1053, 1061, 1060, 1091, 1090, 1304, 1303, 1332, 1331, 1353, 1352, 1465, 1464, 1458, 1491, 1490, 1498, 1497, 1529, 1528, 1536, 1535, 1543, 1542]
def asL5 : List Addr := [81, 80, 95, 94, 102, 101, 109, 108, 116, 115, 123, 122, 130, 129, 137, 136, 144, 143, 360, 359, 385, 384, 392, 391, 397, 396, 876, 875, 881, 880, 888, 887, 895, 894, 902, 901, 909, 908, 916, 915]
def asL6 : List Addr := [1075, 1074, 1105, 1104, 1112, 1111, 1117, 1116, 1124, 1123, 1131, 1130, 1138, 1137, 1145, 1144, 1152, 1151, 1159, 1158, 1166, 1165, 1173, 1172, 1180, 1179, 1187, 1186, 1194, 1193, 1199, 1198, 1206, 1205, 1213, 1212, 1220, 1219, 1227, 1226]
def asL7 : List Addr := [1234, 1233, 1241, 1240, 1248, 1247, 1255, 1254, 1262, 1261, 1269, 1268, 1276, 1275, 1283, 1282, 1290, 1289, 1381, 1380, 1388, 1387, 1395, 1394, 1400, 1399, 1407, 1406, 1414, 1413, 1421, 1420, 1428, 1427, 1433, 1432, 1438, 1437, 1443, 1442]
def asL8 : List Addr := [1450, 1449, 1588, 1587, 1595, 1594, 1602, 1601, 1567, 1566, 1574, 1573, 1581, 1580]
def asL : List Addr := asL0 ++ asL1 ++ asL2 ++ asL3 ++ asL4 ++ asL5 ++ asL6 ++ asL7 ++ asL8
def fsL0 : List Addr := [48, 67, 158, 201, 283, 325, 418, 439, 465, 491, 517, 543, 569, 595, 621, 647, 675, 703, 731, 757, 785, 813, 820, 827, 834, 841, 862, 930, 937, 944, 951, 958, 965, 970, 977, 984, 991, 998, 1005, 1026]
def fsL1 : List Addr := [1033, 1047, 1054, 1061, 1091, 1304, 1332, 1353, 1465, 1491, 1498, 1529, 1536, 1543, 81, 95, 102, 109, 116, 123, 130, 137, 144, 360, 385, 392, 397, 876, 881, 888, 895, 902, 909, 916, 1075, 1105, 1112, 1117, 1124, 1131]
def fsL2 : List Addr := [1138, 1145, 1152, 1159, 1166, 1173, 1180, 1187, 1194, 1199, 1206, 1213, 1220, 1227, 1234, 1241, 1248, 1255, 1262, 1269, 1276, 1283, 1290, 1381, 1388, 1395, 1400, 1407, 1414, 1421, 1428, 1433, 1438, 1443, 1450, 1588, 1595, 1602, 1567, 1574]
def fsL3 : List Addr := [1581]
def fsL : List Addr := fsL0 ++ fsL1 ++ fsL2 ++ fsL3
def fvL0 : List FnX := [fnV "__init__" "Fault.__init__" (inClass (topS 3) 0), fnV "__init__" "Token.__init__" (inClass (topS 14) 0), fnV "__init__" "IntSort.__init__" (inClass (topS 26) 0), fnV "__init__" "TextSort.__init__" (inClass (topS 27) 0), fnV "__init__" "RefSort.__init__" (inClass (topS 29) 0), fnV "__init__" "ListSort.__init__" (inClass (topS 30) 0), fnV "__init__" "SingleTerm.__init__" (inClass (topS 53) 0), fnV "__init__" "NumberTerm.__init__" (inClass (topS 54) 0), fnV "__init__" "TextTerm.__init__" (inClass (topS 55) 0), fnV "__init__" "ParameterTerm.__init__" (inClass (topS 56) 0), fnV "__init__" "PathTerm.__init__" (inClass (topS 57) 0), fnV "__init__" "SomeTerm.__init__" (inClass (topS 58) 0), fnV "__init__" "CountTerm.__init__" (inClass (topS 59) 0), fnV "__init__" "GroupTotal.__init__" (inClass (topS 60) 0), fnV "__init__" "ListTotal.__init__" (inClass (topS 61) 0), fnV "__init__" "ChainTerm.__init__" (inClass (topS 62) 0), fnV "__init__" "CompareTerm.__init__" (inClass (topS 63) 0), fnV "__init__" "NullTerm.__init__" (inClass (topS 64) 0), fnV "__init__" "AmongTerm.__init__" (inClass (topS 65) 0), fnV "__init__" "NotTerm.__init__" (inClass (topS 66) 0), fnV "__init__" "MinusTerm.__init__" (inClass (topS 67) 0), fnV "__init__" "QueryState.__init__" (inClass (topS 70) 0), fnV "enter" "QueryState.enter" (inClass (topS 70) 1), fnV "leave" "QueryState.leave" (inClass (topS 70) 2), fnV "small_name" "QueryState.small_name" (inClass (topS 70) 3), fnV "new_name" "QueryState.new_name" (inClass (topS 70) 4), fnV "__init__" "DrawnPath.__init__" (inClass (topS 71) 0), fnV "__init__" "TokenReader.__init__" (inClass (topS 80) 0), fnV "here" "TokenReader.here" (inClass (topS 80) 1), fnV "following" "TokenReader.following" (inClass (topS 80) 2), fnV "take" "TokenReader.take" (inClass (topS 80) 3), fnV "at_end" "TokenReader.at_end" (inClass (topS 80) 4), fnV "stands" "TokenReader.stands" (inClass (topS 80) 5), fnV "stands_one" "TokenReader.stands_one" (inClass (topS 80) 6), fnV "passes" "TokenReader.passes" (inClass (topS 80) 7), fnV "must" "TokenReader.must" (inClass (topS 80) 8), fnV "must_end" "TokenReader.must_end" (inClass (topS 80) 9), fnV "must_role" "TokenReader.must_role" (inClass (topS 80) 10), fnV "number_token" "TokenReader.number_token" (inClass (topS 80) 11), fnV "is_name" "TokenReader.is_name" (inClass (topS 80) 14)]
def fvL1 : List FnX := [fnV "small_name_stands" "TokenReader.small_name_stands" (inClass (topS 80) 15), fnV "kind_name" "TokenReader.kind_name" (inClass (topS 80) 17), fnV "small_name" "TokenReader.small_name" (inClass (topS 80) 18), fnV "field_name" "TokenReader.field_name" (inClass (topS 80) 19), fnV "__init__" "Drawn.__init__" (inClass (topS 87) 0), fnV "__init__" "OrderTerm.__init__" (inClass (topS 117) 0), fnV "__init__" "QueryParts.__init__" (inClass (topS 118) 0), fnV "__init__" "Query.__init__" (inClass (topS 119) 0), fnV "__init__" "Field.__init__" (inClass (topS 143) 0), fnV "__init__" "Kind.__init__" (inClass (topS 144) 0), fnV "field_of" "Kind.field_of" (inClass (topS 144) 1), fnV "__init__" "Schema.__init__" (inClass (topS 145) 0), fnV "kind_of" "Schema.kind_of" (inClass (topS 145) 1), fnV "field_of" "Schema.field_of" (inClass (topS 145) 2), fnV "tokens" "tokens" (topS 15), fnV "behind_blanks" "behind_blanks" (topS 17), fnV "token_at" "token_at" (topS 18), fnV "behind_run" "behind_run" (topS 19), fnV "word_at" "word_at" (topS 20), fnV "number_at" "number_at" (topS 21), fnV "quoted_at" "quoted_at" (topS 22), fnV "may_stand" "may_stand" (topS 23), fnV "sign_at" "sign_at" (topS 24), fnV "is_reference" "is_reference" (topS 31), fnV "sort_of_shape" "sort_of_shape" (topS 40), fnV "kinds_of_shapes" "kinds_of_shapes" (topS 41), fnV "common_sort" "common_sort" (topS 42), fnV "read_path" "read_path" (topS 72), fnV "behind_point" "behind_point" (topS 73), fnV "read_plain_path" "read_plain_path" (topS 74), fnV "read_list_path" "read_list_path" (topS 75), fnV "read_total_path" "read_total_path" (topS 76), fnV "refuse_list" "refuse_list" (topS 77), fnV "check_group" "check_group" (topS 78), fnV "is_certain" "is_certain" (topS 81), fnV "parameters_as" "parameters_as" (topS 88), fnV "merged" "merged" (topS 89), fnV "joined_parameters" "joined_parameters" (topS 90), fnV "read_either" "read_either" (topS 91), fnV "read_both" "read_both" (topS 92)]
def fvL2 : List FnX := [fnV "read_sum" "read_sum" (topS 93), fnV "read_product" "read_product" (topS 94), fnV "read_chain" "read_chain" (topS 95), fnV "longer_chain" "longer_chain" (topS 96), fnV "pass_all" "pass_all" (topS 97), fnV "read_turned" "read_turned" (topS 98), fnV "read_test" "read_test" (topS 99), fnV "read_comparison" "read_comparison" (topS 100), fnV "read_null" "read_null" (topS 101), fnV "read_among" "read_among" (topS 102), fnV "read_signed" "read_signed" (topS 103), fnV "read_single" "read_single" (topS 104), fnV "read_number" "read_number" (topS 105), fnV "read_parameter" "read_parameter" (topS 106), fnV "read_enclosed" "read_enclosed" (topS 107), fnV "read_over" "read_over" (topS 108), fnV "read_some" "read_some" (topS 109), fnV "read_count" "read_count" (topS 110), fnV "refuse_without_group" "refuse_without_group" (topS 111), fnV "read_total" "read_total" (topS 112), fnV "read_list_total" "read_list_total" (topS 113), fnV "read_group_total" "read_group_total" (topS 114), fnV "check_total" "check_total" (topS 115), fnV "read_query" "read_query" (topS 130), fnV "read_from" "read_from" (topS 131), fnV "read_where" "read_where" (topS 132), fnV "read_group" "read_group" (topS 133), fnV "read_group_path" "read_group_path" (topS 134), fnV "read_several" "read_several" (topS 135), fnV "read_told" "read_told" (topS 136), fnV "read_order_term" "read_order_term" (topS 137), fnV "read_order" "read_order" (topS 138), fnV "read_give" "read_give" (topS 139), fnV "read_counts" "read_counts" (topS 140), fnV "read_bound" "read_bound" (topS 141), fnV "_law_schema" "_law_schema" (topS 150), fnV "_law_texts" "_law_texts" (topS 151), fnV "law" "law" (topS 152), fnV "_law_cells" "_law_cells" (topS 147), fnV "_law_draw" "_law_draw" (topS 148)]
def fvL3 : List FnX := [fnV "_law_pick" "_law_pick" (topS 149)]
def fvL : List FnX := fvL0 ++ fvL1 ++ fvL2 ++ fvL3
def HD : HdD := { as := asL, ex := exB, fs := fsL, fv := fvL, ds := [361], dk := [["or", "and", "=", "!=", "<", "<=", ">", ">=", "starts", "holds", "in", "+", "-", "*", "sum", "least", "greatest"]] }
def adr (K : PySem.W.Frag) : Ad := {
  C_HeapError := 31,
  C_Fault := 51,
  C_Token := 70,
  C_IntSort := 182,
  C_TextSort := 225,
  C_ChoiceSort := 265,
  C_RefSort := 307,
  C_ListSort := 349,
  C_SingleTerm := 421,
  C_NumberTerm := 449,
  C_TextTerm := 475,
  C_ParameterTerm := 501,
  C_PathTerm := 527,
  C_SomeTerm := 553,
  C_CountTerm := 579,
  C_GroupTotal := 605,
  C_ListTotal := 631,
  C_ChainTerm := 657,
  C_CompareTerm := 685,
  C_NullTerm := 713,
  C_AmongTerm := 739,
  C_NotTerm := 767,
  C_MinusTerm := 795,
  C_QueryState := 844,
  C_DrawnPath := 865,
  C_TokenReader := 1064,
  C_Drawn := 1094,
  C_OrderTerm := 1314,
  C_QueryParts := 1335,
  C_Query := 1356,
  C_Field := 1475,
  C_Kind := 1511,
  C_Schema := 1556,
  f_Fault___init__ := 48,
  fd_Fault___init__ := fdOf K 48,
  f_Token___init__ := 67,
  fd_Token___init__ := fdOf K 67,
  f_IntSort___init__ := 158,
  fd_IntSort___init__ := fdOf K 158,
  f_TextSort___init__ := 201,
  fd_TextSort___init__ := fdOf K 201,
  f_RefSort___init__ := 283,
  fd_RefSort___init__ := fdOf K 283,
  f_ListSort___init__ := 325,
  fd_ListSort___init__ := fdOf K 325,
  f_SingleTerm___init__ := 418,
  fd_SingleTerm___init__ := fdOf K 418,
  f_NumberTerm___init__ := 439,
  fd_NumberTerm___init__ := fdOf K 439,
  f_TextTerm___init__ := 465,
  fd_TextTerm___init__ := fdOf K 465,
  f_ParameterTerm___init__ := 491,
  fd_ParameterTerm___init__ := fdOf K 491,
  f_PathTerm___init__ := 517,
  fd_PathTerm___init__ := fdOf K 517,
  f_SomeTerm___init__ := 543,
  fd_SomeTerm___init__ := fdOf K 543,
  f_CountTerm___init__ := 569,
  fd_CountTerm___init__ := fdOf K 569,
  f_GroupTotal___init__ := 595,
  fd_GroupTotal___init__ := fdOf K 595,
  f_ListTotal___init__ := 621,
  fd_ListTotal___init__ := fdOf K 621,
  f_ChainTerm___init__ := 647,
  fd_ChainTerm___init__ := fdOf K 647,
  f_CompareTerm___init__ := 675,
  fd_CompareTerm___init__ := fdOf K 675,
  f_NullTerm___init__ := 703,
  fd_NullTerm___init__ := fdOf K 703,
  f_AmongTerm___init__ := 731,
  fd_AmongTerm___init__ := fdOf K 731,
  f_NotTerm___init__ := 757,
  fd_NotTerm___init__ := fdOf K 757,
  f_MinusTerm___init__ := 785,
  fd_MinusTerm___init__ := fdOf K 785,
  f_QueryState___init__ := 813,
  fd_QueryState___init__ := fdOf K 813,
  f_QueryState_enter := 820,
  fd_QueryState_enter := fdOf K 820,
  f_QueryState_leave := 827,
  fd_QueryState_leave := fdOf K 827,
  f_QueryState_small_name := 834,
  fd_QueryState_small_name := fdOf K 834,
  f_QueryState_new_name := 841,
  fd_QueryState_new_name := fdOf K 841,
  f_DrawnPath___init__ := 862,
  fd_DrawnPath___init__ := fdOf K 862,
  f_TokenReader___init__ := 930,
  fd_TokenReader___init__ := fdOf K 930,
  f_TokenReader_here := 937,
  fd_TokenReader_here := fdOf K 937,
  f_TokenReader_following := 944,
  fd_TokenReader_following := fdOf K 944,
  f_TokenReader_take := 951,
  fd_TokenReader_take := fdOf K 951,
  f_TokenReader_at_end := 958,
  fd_TokenReader_at_end := fdOf K 958,
  f_TokenReader_stands := 965,
  fd_TokenReader_stands := fdOf K 965,
  f_TokenReader_stands_one := 970,
  fd_TokenReader_stands_one := fdOf K 970,
  f_TokenReader_passes := 977,
  fd_TokenReader_passes := fdOf K 977,
  f_TokenReader_must := 984,
  fd_TokenReader_must := fdOf K 984,
  f_TokenReader_must_end := 991,
  fd_TokenReader_must_end := fdOf K 991,
  f_TokenReader_must_role := 998,
  fd_TokenReader_must_role := fdOf K 998,
  f_TokenReader_number_token := 1005,
  fd_TokenReader_number_token := fdOf K 1005,
  f_TokenReader_is_name := 1026,
  fd_TokenReader_is_name := fdOf K 1026,
  f_TokenReader_small_name_stands := 1033,
  fd_TokenReader_small_name_stands := fdOf K 1033,
  f_TokenReader_kind_name := 1047,
  fd_TokenReader_kind_name := fdOf K 1047,
  f_TokenReader_small_name := 1054,
  fd_TokenReader_small_name := fdOf K 1054,
  f_TokenReader_field_name := 1061,
  fd_TokenReader_field_name := fdOf K 1061,
  f_Drawn___init__ := 1091,
  fd_Drawn___init__ := fdOf K 1091,
  f_OrderTerm___init__ := 1304,
  fd_OrderTerm___init__ := fdOf K 1304,
  f_QueryParts___init__ := 1332,
  fd_QueryParts___init__ := fdOf K 1332,
  f_Query___init__ := 1353,
  fd_Query___init__ := fdOf K 1353,
  f_Field___init__ := 1465,
  fd_Field___init__ := fdOf K 1465,
  f_Kind___init__ := 1491,
  fd_Kind___init__ := fdOf K 1491,
  f_Kind_field_of := 1498,
  fd_Kind_field_of := fdOf K 1498,
  f_Schema___init__ := 1529,
  fd_Schema___init__ := fdOf K 1529,
  f_Schema_kind_of := 1536,
  fd_Schema_kind_of := fdOf K 1536,
  f_Schema_field_of := 1543,
  fd_Schema_field_of := fdOf K 1543,
  f_tokens := 81,
  fd_tokens := fdOf K 81,
  f_behind_blanks := 95,
  fd_behind_blanks := fdOf K 95,
  f_token_at := 102,
  fd_token_at := fdOf K 102,
  f_behind_run := 109,
  fd_behind_run := fdOf K 109,
  f_word_at := 116,
  fd_word_at := fdOf K 116,
  f_number_at := 123,
  fd_number_at := fdOf K 123,
  f_quoted_at := 130,
  fd_quoted_at := fdOf K 130,
  f_may_stand := 137,
  fd_may_stand := fdOf K 137,
  f_sign_at := 144,
  fd_sign_at := fdOf K 144,
  f_is_reference := 360,
  fd_is_reference := fdOf K 360,
  f_sort_of_shape := 385,
  fd_sort_of_shape := fdOf K 385,
  f_kinds_of_shapes := 392,
  fd_kinds_of_shapes := fdOf K 392,
  f_common_sort := 397,
  fd_common_sort := fdOf K 397,
  f_read_path := 876,
  fd_read_path := fdOf K 876,
  f_behind_point := 881,
  fd_behind_point := fdOf K 881,
  f_read_plain_path := 888,
  fd_read_plain_path := fdOf K 888,
  f_read_list_path := 895,
  fd_read_list_path := fdOf K 895,
  f_read_total_path := 902,
  fd_read_total_path := fdOf K 902,
  f_refuse_list := 909,
  fd_refuse_list := fdOf K 909,
  f_check_group := 916,
  fd_check_group := fdOf K 916,
  f_is_certain := 1075,
  fd_is_certain := fdOf K 1075,
  f_parameters_as := 1105,
  fd_parameters_as := fdOf K 1105,
  f_merged := 1112,
  fd_merged := fdOf K 1112,
  f_joined_parameters := 1117,
  fd_joined_parameters := fdOf K 1117,
  f_read_either := 1124,
  fd_read_either := fdOf K 1124,
  f_read_both := 1131,
  fd_read_both := fdOf K 1131,
  f_read_sum := 1138,
  fd_read_sum := fdOf K 1138,
  f_read_product := 1145,
  fd_read_product := fdOf K 1145,
  f_read_chain := 1152,
  fd_read_chain := fdOf K 1152,
  f_longer_chain := 1159,
  fd_longer_chain := fdOf K 1159,
  f_pass_all := 1166,
  fd_pass_all := fdOf K 1166,
  f_read_turned := 1173,
  fd_read_turned := fdOf K 1173,
  f_read_test := 1180,
  fd_read_test := fdOf K 1180,
  f_read_comparison := 1187,
  fd_read_comparison := fdOf K 1187,
  f_read_null := 1194,
  fd_read_null := fdOf K 1194,
  f_read_among := 1199,
  fd_read_among := fdOf K 1199,
  f_read_signed := 1206,
  fd_read_signed := fdOf K 1206,
  f_read_single := 1213,
  fd_read_single := fdOf K 1213,
  f_read_number := 1220,
  fd_read_number := fdOf K 1220,
  f_read_parameter := 1227,
  fd_read_parameter := fdOf K 1227,
  f_read_enclosed := 1234,
  fd_read_enclosed := fdOf K 1234,
  f_read_over := 1241,
  fd_read_over := fdOf K 1241,
  f_read_some := 1248,
  fd_read_some := fdOf K 1248,
  f_read_count := 1255,
  fd_read_count := fdOf K 1255,
  f_refuse_without_group := 1262,
  fd_refuse_without_group := fdOf K 1262,
  f_read_total := 1269,
  fd_read_total := fdOf K 1269,
  f_read_list_total := 1276,
  fd_read_list_total := fdOf K 1276,
  f_read_group_total := 1283,
  fd_read_group_total := fdOf K 1283,
  f_check_total := 1290,
  fd_check_total := fdOf K 1290,
  f_read_query := 1381,
  fd_read_query := fdOf K 1381,
  f_read_from := 1388,
  fd_read_from := fdOf K 1388,
  f_read_where := 1395,
  fd_read_where := fdOf K 1395,
  f_read_group := 1400,
  fd_read_group := fdOf K 1400,
  f_read_group_path := 1407,
  fd_read_group_path := fdOf K 1407,
  f_read_several := 1414,
  fd_read_several := fdOf K 1414,
  f_read_told := 1421,
  fd_read_told := fdOf K 1421,
  f_read_order_term := 1428,
  fd_read_order_term := fdOf K 1428,
  f_read_order := 1433,
  fd_read_order := fdOf K 1433,
  f_read_give := 1438,
  fd_read_give := fdOf K 1438,
  f_read_counts := 1443,
  fd_read_counts := fdOf K 1443,
  f_read_bound := 1450,
  fd_read_bound := fdOf K 1450,
  f__law_schema := 1588,
  fd__law_schema := fdOf K 1588,
  f__law_texts := 1595,
  fd__law_texts := fdOf K 1595,
  f_law := 1602,
  fd_law := fdOf K 1602,
  f__law_cells := 1567,
  fd__law_cells := fdOf K 1567,
  f__law_draw := 1574,
  fd__law_draw := fdOf K 1574,
  f__law_pick := 1581,
  fd__law_pick := fdOf K 1581,
  t_COMPARISONS := 1076,
  t_TOTALS := 1077,
  t_QUERY_SIGNS := 1373,
  t_QUERY_WORDS := 1374,
  t_ASKED := 361,
  t_ASKED_0 := 362,
  t_ASKED_1 := 363,
  t_ASKED_2 := 364,
  t_ASKED_3 := 365,
  t_ASKED_4 := 366,
  t_ASKED_5 := 367,
  t_ASKED_6 := 368,
  t_ASKED_7 := 369,
  t_ASKED_8 := 370,
  t_ASKED_9 := 371,
  t_ASKED_10 := 372,
  t_ASKED_11 := 373,
  t_ASKED_12 := 374,
  t_ASKED_13 := 375,
  t_ASKED_14 := 376,
  t_ASKED_15 := 377,
  t_ASKED_16 := 378 }
abbrev RR : PySem.W.OpenRow := PySem.W.OpenLaw.row PySem.Challenge.rw_oneheap_k68_faults_of_queries
def nm0 : List PySem.Str := ["_wall", "HeapError", "Fault", "CAPITALS", "LETTERS", "DIGITS", "WORD_SIGNS", "QUOTE", "BACKSLASH", "PERCENT_CODE", "LONGEST_WORD", "LONGEST_NUMBER", "Token", "tokens", "quoted", "behind_blanks", "token_at", "behind_run", "word_at", "number_at", "quoted_at", "may_stand", "sign_at", "IntSort", "TextSort", "ChoiceSort", "RefSort", "ListSort", "is_reference", "INTEGER"]
def nm1 : List PySem.Str := ["TEXT", "TRUTH", "OBJECT", "LIST", "PARAMETER", "ASKED", "sort_of_shape", "kinds_of_shapes", "common_sort", "OR_LEVEL", "AND_LEVEL", "NOT_LEVEL", "TEST_LEVEL", "SUM_LEVEL", "PRODUCT_LEVEL", "MINUS_LEVEL", "SINGLE_LEVEL", "enclosed", "SingleTerm", "NumberTerm", "TextTerm", "ParameterTerm", "PathTerm", "SomeTerm", "CountTerm", "GroupTotal", "ListTotal", "ChainTerm", "CompareTerm", "NullTerm"]
def nm2 : List PySem.Str := ["AmongTerm", "NotTerm", "MinusTerm", "DEEPEST", "QueryState", "DrawnPath", "read_path", "behind_point", "read_plain_path", "read_list_path", "read_total_path", "refuse_list", "check_group", "TokenReader", "is_certain", "LARGEST", "COMPARISONS", "TOTALS", "DIFFER", "Drawn", "parameters_as", "merged", "joined_parameters", "read_either", "read_both", "read_sum", "read_product", "read_chain", "longer_chain", "pass_all"]
def nm3 : List PySem.Str := ["read_turned", "read_test", "read_comparison", "read_null", "read_among", "read_signed", "read_single", "read_number", "read_parameter", "read_enclosed", "read_over", "read_some", "read_count", "refuse_without_group", "read_total", "read_list_total", "read_group_total", "check_total", "OrderTerm", "QueryParts", "Query", "parts_text", "terms_text", "QUERY_SIGNS", "QUERY_WORDS", "LONGEST_QUERY", "MOST_GIVEN", "MOST_ORDERED", "MOST_GROUPED", "read_query"]
def nm4 : List PySem.Str := ["read_from", "read_where", "read_group", "read_group_path", "read_several", "read_told", "read_order_term", "read_order", "read_give", "read_counts", "read_bound", "Field", "Kind", "Schema", "_law_cells", "_law_draw", "_law_pick", "_law_schema", "_law_texts"]
def nms : List PySem.Str := nm0 ++ nm1 ++ nm2 ++ nm3 ++ nm4
abbrev qv : Program := PySem.W.view RR.prog [152]
def finS (w : World) (os : OsState) : Option PySem.W.SharedT := HandSHeadRun.endF (HandSHeadRun.stepQ (HandSHeadRun.denQ HandSHeadRun.tabQ) RR.prog w) 100000 RR.prog w os
abbrev wf (w : World) (b : Bool) : World := w.withFollow "special-get-raises" b
theorem runLf (w : World) (os : OsState) : (finS (wf w false) os).map (fun s => HandSHeadRun.looksF RR.prog (PySem.W.boot_heap (wf w false).params) s.abs) = some (true) := by kernel_rfl
theorem runSf (w : World) (os : OsState) : (finS (wf w false) os).map (fun s => (HandSHeadRun.seenQ qv nms (importedModules RR.prog.main.body) (fun s => PySem.W.xlAt qv [] s && PySem.W.recOk RR.records s) s.abs, HD.ds.map (He.dicW (He.frG (HandSHeadRun.getT s) asL)), allB (eC (He.frG (HandSHeadRun.getT s) asL)))) = some ((PySem.W.openGood qv nms, (HD.dk.map fun ks => some (He.keysIn (wf w false).params ks)), true)) := by kernel_rfl
theorem runAf (w : World) (os : OsState) : (finS (wf w false) os).map (fun s => allB (eA (He.frG (HandSHeadRun.getT s) asL))) = some (true) := by kernel_rfl
theorem runBf (w : World) (os : OsState) : (finS (wf w false) os).map (fun s => allB (eB (He.frG (HandSHeadRun.getT s) asL))) = some (true) := by kernel_rfl
theorem runFf (w : World) (os : OsState) : (finS (wf w false) os).map (fun s => (fsL.map (fnX (He.frG (HandSHeadRun.getT s) asL)), allB (eP (He.frG (HandSHeadRun.getT s) asL)))) = some ((fvL, true)) := by kernel_rfl
theorem runLt (w : World) (os : OsState) : (finS (wf w true) os).map (fun s => HandSHeadRun.looksF RR.prog (PySem.W.boot_heap (wf w true).params) s.abs) = some (true) := by kernel_rfl
theorem runSt (w : World) (os : OsState) : (finS (wf w true) os).map (fun s => (HandSHeadRun.seenQ qv nms (importedModules RR.prog.main.body) (fun s => PySem.W.xlAt qv [] s && PySem.W.recOk RR.records s) s.abs, HD.ds.map (He.dicW (He.frG (HandSHeadRun.getT s) asL)), allB (eC (He.frG (HandSHeadRun.getT s) asL)))) = some ((PySem.W.openGood qv nms, (HD.dk.map fun ks => some (He.keysIn (wf w true).params ks)), true)) := by kernel_rfl
theorem runAt (w : World) (os : OsState) : (finS (wf w true) os).map (fun s => allB (eA (He.frG (HandSHeadRun.getT s) asL))) = some (true) := by kernel_rfl
theorem runBt (w : World) (os : OsState) : (finS (wf w true) os).map (fun s => allB (eB (He.frG (HandSHeadRun.getT s) asL))) = some (true) := by kernel_rfl
theorem runFt (w : World) (os : OsState) : (finS (wf w true) os).map (fun s => (fsL.map (fnX (He.frG (HandSHeadRun.getT s) asL)), allB (eP (He.frG (HandSHeadRun.getT s) asL)))) = some ((fvL, true)) := by kernel_rfl
theorem join2 {α a b : Type} {o : Option α} {f1 : α → a} {f2 : α → b} {v1 : a} {v2 : b} (h1 : o.map f1 = some v1) (h2 : o.map f2 = some v2) : o.map (fun s => (f1 s, f2 s)) = some (v1, v2) := by
  cases o with
  | none => cases h1
  | some s =>
    rw [Option.map_some] at h1 h2 ⊢
    rw [Option.some.inj h1, Option.some.inj h2]
theorem runCf (w : World) (os : OsState) : (finS (wf w false) os).map (fun s => allB (eC (He.frG (HandSHeadRun.getT s) asL))) = some true := by
  have h := runSf w os
  generalize finS (wf w false) os = o at h ⊢
  cases o with
  | none => cases h
  | some s =>
    have h2 := Option.some.inj h
    exact congrArg some (congrArg (fun p => p.2.2) h2)
theorem runCt (w : World) (os : OsState) : (finS (wf w true) os).map (fun s => allB (eC (He.frG (HandSHeadRun.getT s) asL))) = some true := by
  have h := runSt w os
  generalize finS (wf w true) os = o at h ⊢
  cases o with
  | none => cases h
  | some s =>
    have h2 := Option.some.inj h
    exact congrArg some (congrArg (fun p => p.2.2) h2)
theorem runPf (w : World) (os : OsState) : (finS (wf w false) os).map (fun s => allB (eP (He.frG (HandSHeadRun.getT s) asL))) = some true := by
  have h := runFf w os
  generalize finS (wf w false) os = o at h ⊢
  cases o with
  | none => cases h
  | some s =>
    have h2 := Option.some.inj h
    exact congrArg some (congrArg Prod.snd h2)
theorem runPt (w : World) (os : OsState) : (finS (wf w true) os).map (fun s => allB (eP (He.frG (HandSHeadRun.getT s) asL))) = some true := by
  have h := runFt w os
  generalize finS (wf w true) os = o at h ⊢
  cases o with
  | none => cases h
  | some s =>
    have h2 := Option.some.inj h
    exact congrArg some (congrArg Prod.snd h2)
theorem ex_of {K : PySem.W.Frag} (a : allB (eA K) = true) (b : allB (eB K) = true) (c : allB (eC K) = true) (d : allB (eP K) = true) : exB K = true := by
  unfold exB
  rw [a, b, c, d]
  rfl
theorem exRun {o : Option PySem.W.SharedT} (a : o.map (fun s => allB (eA (He.frG (HandSHeadRun.getT s) asL))) = some true) (b : o.map (fun s => allB (eB (He.frG (HandSHeadRun.getT s) asL))) = some true) (c : o.map (fun s => allB (eC (He.frG (HandSHeadRun.getT s) asL))) = some true) (d : o.map (fun s => allB (eP (He.frG (HandSHeadRun.getT s) asL))) = some true) : o.map (fun s => exB (He.frG (HandSHeadRun.getT s) asL)) = some true := by
  cases o with
  | none => cases a
  | some s => exact congrArg some (ex_of (Option.some.inj a) (Option.some.inj b) (Option.some.inj c) (Option.some.inj d))
theorem runf (w : World) : HandSHeadRun.RunEq RR qv (hookH HD) (obH HD) 100000 nms (wf w false) := by
  intro os
  refine joinH (D := HD) (finS (wf w false) os) rfl ?_ ?_ ?_ ?_ ?_
  · have h := runLf w os
    generalize finS (wf w false) os = o at h ⊢
    exact h
  · have h := runSf w os
    generalize finS (wf w false) os = o at h ⊢
    cases o with
    | none => cases h
    | some s =>
      have h2 := Option.some.inj h
      exact congrArg some (congrArg Prod.fst h2)
  · have h := exRun (runAf w os) (runBf w os) (runCf w os) (runPf w os)
    generalize finS (wf w false) os = o at h ⊢
    exact h
  · have h := runFf w os
    generalize finS (wf w false) os = o at h ⊢
    cases o with
    | none => cases h
    | some s =>
      have h2 := Option.some.inj h
      exact congrArg some (congrArg Prod.fst h2)
  · have h := runSf w os
    generalize finS (wf w false) os = o at h ⊢
    cases o with
    | none => cases h
    | some s =>
      have h2 := Option.some.inj h
      exact congrArg some (congrArg (fun p => p.2.1) h2)
theorem runt (w : World) : HandSHeadRun.RunEq RR qv (hookH HD) (obH HD) 100000 nms (wf w true) := by
  intro os
  refine joinH (D := HD) (finS (wf w true) os) rfl ?_ ?_ ?_ ?_ ?_
  · have h := runLt w os
    generalize finS (wf w true) os = o at h ⊢
    exact h
  · have h := runSt w os
    generalize finS (wf w true) os = o at h ⊢
    cases o with
    | none => cases h
    | some s =>
      have h2 := Option.some.inj h
      exact congrArg some (congrArg Prod.fst h2)
  · have h := exRun (runAt w os) (runBt w os) (runCt w os) (runPt w os)
    generalize finS (wf w true) os = o at h ⊢
    exact h
  · have h := runFt w os
    generalize finS (wf w true) os = o at h ⊢
    cases o with
    | none => cases h
    | some s =>
      have h2 := Option.some.inj h
      exact congrArg some (congrArg Prod.fst h2)
  · have h := runSt w os
    generalize finS (wf w true) os = o at h ⊢
    cases o with
    | none => cases h
    | some s =>
      have h2 := Option.some.inj h
      exact congrArg some (congrArg (fun p => p.2.1) h2)
theorem runH (w : World) : HandSHeadRun.RunEq RR qv (hookH HD) (obH HD) 100000 nms w :=
  PySem.W.byRow2 "special-get-raises" (P := fun w => HandSHeadRun.RunEq RR qv (hookH HD) (obH HD) 100000 nms w) runf runt w
end
end K68
namespace Rn
open PySem PySem.Spec PyProof.Rows L2 TL
set_option autoImplicit false
noncomputable section
/-! ### texts as numbers -/
def encL (l : List Nat) : Nat := l.foldl (fun a c => a * 256 + c) 1
def lenN (k : Nat) : Nat := Nat.log2 k / 8
def decF (f : Nat) : Nat → List Nat → List Nat := Nat.rec (motive := fun _ => Nat → List Nat → List Nat) (fun _ acc => acc) (fun _ go k acc => go (k / 256) (k % 256 :: acc)) f
def dec (k : Nat) : List Nat := decF (lenN k) k []
def okT (k : Nat) : Bool := Nat.beq (encL (dec k)) k
def tx (k : Nat) : Str := ⟨(dec k).toArray⟩
theorem tl_tx (k : Nat) : tl (tx k) = dec k := rfl
theorem ok_eq {k : Nat} (h : okT k = true) : encL (dec k) = k := Nat.eq_of_beq_eq_true h
theorem okT.of {k : Nat} (h : encL (dec k) = k) : okT k = true := by
  unfold okT
  rw [h]
  exact Nat.beq_refl k
theorem fold_gen : ∀ (l : List Nat) (a : Nat), l.foldl (fun a c => a * 256 + c) a = a * 256 ^ l.length + l.foldl (fun a c => a * 256 + c) 0
  | [], a => by simp
  | c :: l, a => by
    rw [List.foldl_cons, List.foldl_cons, fold_gen l (a * 256 + c), fold_gen l (0 * 256 + c), List.length_cons, Nat.pow_succ, Nat.add_mul]
    rw [Nat.mul_assoc a 256, Nat.mul_comm 256, Nat.zero_mul, Nat.zero_add]
    omega
def vL (l : List Nat) : Nat := l.foldl (fun a c => a * 256 + c) 0
theorem enc_v (l : List Nat) : encL l = 256 ^ l.length + vL l := by
  unfold encL vL
  rw [fold_gen l 1]
  omega
theorem vL_append (l m : List Nat) : vL (l ++ m) = vL l * 256 ^ m.length + vL m := by
  unfold vL
  rw [List.foldl_append, fold_gen m]
theorem vL_lt : ∀ (l : List Nat), (∀ c ∈ l, c < 256) → vL l < 256 ^ l.length
  | [], _ => by decide
  | c :: l, h => by
    have h1 := vL_lt l fun x hx => h x (List.mem_cons_of_mem _ hx)
    have h2 := h c (List.mem_cons_self ..)
    have e : vL (c :: l) = c * 256 ^ l.length + vL l := by
      show (c :: l).foldl _ 0 = _
      rw [List.foldl_cons, fold_gen l, Nat.zero_mul, Nat.zero_add]
      rfl
    rw [e, List.length_cons, Nat.pow_succ]
    have : (c + 1) * 256 ^ l.length ≤ 256 * 256 ^ l.length := Nat.mul_le_mul_right _ h2
    rw [Nat.add_mul, Nat.one_mul] at this
    rw [Nat.mul_comm (256 ^ l.length) 256]
    omega
theorem enc_append (l m : List Nat) : encL (l ++ m) = encL l * 256 ^ m.length + vL m := by
  unfold encL
  rw [List.foldl_append, fold_gen m]
  rfl
theorem pow8 (n : Nat) : (256 : Nat) ^ n = 2 ^ (8 * n) := by
  rw [Nat.pow_mul]
theorem len_enc {l : List Nat} (h : ∀ c ∈ l, c < 256) : lenN (encL l) = l.length := by
  have h1 := vL_lt l h
  rw [enc_v]
  have hp : 0 < 256 ^ l.length := Nat.pow_pos (by decide)
  have hne : 256 ^ l.length + vL l ≠ 0 := by omega
  have a1 : 8 * l.length ≤ Nat.log2 (256 ^ l.length + vL l) := (Nat.le_log2 hne).mpr (by rw [← pow8]; omega)
  have a2 : Nat.log2 (256 ^ l.length + vL l) < 8 * l.length + 1 := (Nat.log2_lt hne).mpr (by rw [Nat.pow_succ, ← pow8]; omega)
  unfold lenN
  omega
theorem decF_zero (k : Nat) (acc : List Nat) : decF 0 k acc = acc := rfl
theorem decF_succ (f k : Nat) (acc : List Nat) : decF (f + 1) k acc = decF f (k / 256) (k % 256 :: acc) := rfl
theorem decF_acc : ∀ (f k : Nat) (acc : List Nat), decF f k acc = decF f k [] ++ acc
  | 0, _, _ => rfl
  | f + 1, k, acc => by
    rw [decF_succ, decF_succ, decF_acc f _ (k % 256 :: acc), decF_acc f _ [k % 256], List.append_assoc]
    rfl
theorem decF_len : ∀ (f k : Nat) (acc : List Nat), (decF f k acc).length = f + acc.length
  | 0, _, _ => by rw [decF_zero]; omega
  | f + 1, k, acc => by
    rw [decF_succ, decF_len f, List.length_cons]
    omega
theorem decF_lt : ∀ (f k : Nat) (acc : List Nat), (∀ c ∈ acc, c < 256) → ∀ c ∈ decF f k acc, c < 256
  | 0, _, _, h => h
  | f + 1, k, acc, h => by
    rw [decF_succ]
    refine decF_lt f _ _ fun c hc => ?_
    rcases List.mem_cons.mp hc with rfl | hc
    · exact Nat.mod_lt _ (by decide)
    · exact h c hc
theorem dec_lt (k : Nat) : ∀ c ∈ dec k, c < 256 := decF_lt _ _ _ fun c hc => by cases hc
theorem dec_len (k : Nat) : (dec k).length = lenN k := by
  unfold dec
  rw [decF_len]
  rfl
theorem decF_enc : ∀ (n : Nat) (l : List Nat), l.length = n → (∀ c ∈ l, c < 256) → decF n (encL l) [] = l
  | 0, l, hl, _ => by
    rw [List.length_eq_zero_iff.mp hl]
    rfl
  | n + 1, l, hl, h => by
    rcases List.eq_nil_or_concat l with rfl | ⟨m, c, rfl⟩
    · cases hl
    · rw [List.concat_eq_append] at hl h ⊢
      rw [List.length_append] at hl
      have hc : c < 256 := h c (List.mem_append_right _ (List.mem_singleton.mpr rfl))
      have e : encL (m ++ [c]) = encL m * 256 + c := by
        rw [enc_append]
        show encL m * 256 ^ 1 + (0 * 256 + c) = _
        omega
      rw [decF_succ, e, show (encL m * 256 + c) / 256 = encL m by omega, show (encL m * 256 + c) % 256 = c by omega, decF_acc, decF_enc n m (by simp at hl; omega) fun x hx => h x (List.mem_append_left _ hx)]
theorem dec_enc {l : List Nat} (h : ∀ c ∈ l, c < 256) : dec (encL l) = l := by
  unfold dec
  rw [len_enc h]
  exact decF_enc _ _ rfl h
theorem ok_enc {l : List Nat} (h : ∀ c ∈ l, c < 256) : okT (encL l) = true := okT.of (by rw [dec_enc h])
theorem tx_enc {l : List Nat} (h : ∀ c ∈ l, c < 256) : tx (encL l) = ⟨l.toArray⟩ := by
  unfold tx
  rw [dec_enc h]
theorem tx_inj {a b : Nat} (ha : okT a = true) (hb : okT b = true) (h : tx a = tx b) : a = b := by
  have e : dec a = dec b := congrArg tl h
  rw [← ok_eq ha, ← ok_eq hb, e]
theorem tx_eq {a b : Nat} (ha : okT a = true) (hb : okT b = true) : decide (tx a = tx b) = Nat.beq a b := by
  cases h : Nat.beq a b with
  | true => rw [Nat.eq_of_beq_eq_true h]; exact decide_eq_true rfl
  | false => exact decide_eq_false (fun e => by
      rw [tx_inj ha hb e, Nat.beq_refl] at h
      cases h)
theorem tx_len (k : Nat) : (tx k).length = lenN k := by
  rw [len_tl, tl_tx, dec_len]
def catK (a b : Nat) : Nat := a * 256 ^ lenN b + (b - 256 ^ lenN b)
theorem catK_enc {l m : List Nat} (hm : ∀ c ∈ m, c < 256) : catK (encL l) (encL m) = encL (l ++ m) := by
  unfold catK
  rw [len_enc hm, enc_append, enc_v m]
  omega
theorem tx_cat {a b : Nat} (ha : okT a = true) (hb : okT b = true) : tx (catK a b) = tx a ++ tx b ∧ okT (catK a b) = true := by
  have e : catK a b = encL (dec a ++ dec b) := by
    rw [← catK_enc (dec_lt b), ok_eq ha, ok_eq hb]
  have hl : ∀ c ∈ dec a ++ dec b, c < 256 := fun c hc => (List.mem_append.mp hc).elim (dec_lt a c) (dec_lt b c)
  rw [e]
  refine ⟨ext_tl ?_, ok_enc hl⟩
  rw [tx_enc hl, tl_append, tl_tx, tl_tx]
/-- from the a-th sign to ahead of the b-th -/
def subK (k a b : Nat) : Nat := 256 ^ (b - a) + k / 256 ^ (lenN k - b) % 256 ^ (b - a)
theorem subK_eq {k a b : Nat} (hk : okT k = true) (h1 : a ≤ b) (h2 : b ≤ lenN k) : subK k a b = encL (((dec k).drop a).take (b - a)) := by
  obtain ⟨p, m, s, e, hp, hm, hs⟩ : ∃ p m s : List Nat, dec k = p ++ (m ++ s) ∧ p.length = a ∧ m.length = b - a ∧ s.length = lenN k - b := by
    refine ⟨(dec k).take a, ((dec k).drop a).take (b - a), ((dec k).drop a).drop (b - a), ?_, ?_, ?_, ?_⟩
    · rw [List.take_append_drop, List.take_append_drop]
    · rw [List.length_take, dec_len]; omega
    · rw [List.length_take, List.length_drop, dec_len]; omega
    · rw [List.length_drop, List.length_drop, dec_len]; omega
  have hlt := dec_lt k
  rw [e] at hlt
  have lm : ∀ c ∈ m, c < 256 := fun c hc => hlt c (List.mem_append_right _ (List.mem_append_left _ hc))
  have ls : ∀ c ∈ s, c < 256 := fun c hc => hlt c (List.mem_append_right _ (List.mem_append_right _ hc))
  have ek : k = encL (p ++ m) * 256 ^ s.length + vL s := by
    rw [← enc_append, List.append_assoc, ← e, ok_eq hk]
  have v1 := vL_lt s ls
  have v2 := vL_lt m lm
  have d1 : k / 256 ^ (lenN k - b) = encL (p ++ m) := by
    rw [← hs]
    conv => lhs; rw [ek]
    rw [Nat.mul_comm, Nat.mul_add_div (Nat.pow_pos (by decide)), Nat.div_eq_of_lt v1]
    rfl
  have t1 : ((dec k).drop a).take (b - a) = m := by
    rw [e, ← hm, ← hp, List.drop_left, List.take_left]
  rw [t1, enc_v m]
  unfold subK
  rw [d1, enc_append, ← hm, Nat.mul_comm (encL p), Nat.mul_add_mod, Nat.mod_eq_of_lt v2]
theorem tx_sub {k a b : Nat} (hk : okT k = true) (h1 : a ≤ b) (h2 : b ≤ lenN k) : tx (subK k a b) = ⟨(((dec k).drop a).take (b - a)).toArray⟩ ∧ okT (subK k a b) = true := by
  rw [subK_eq hk h1 h2]
  have hl : ∀ c ∈ ((dec k).drop a).take (b - a), c < 256 := fun c hc => dec_lt k c (List.mem_of_mem_drop (List.mem_of_mem_take hc))
  exact ⟨tx_enc hl, ok_enc hl⟩
/-- a sign stands in a text -/
def chIn (f : Nat) : Nat → Nat → Bool := Nat.rec (motive := fun _ => Nat → Nat → Bool) (fun _ _ => false) (fun _ go c k => match Nat.beq (k % 256) c with
  | true => true
  | false => go c (k / 256)) f
theorem chIn_iff : ∀ (f c k : Nat), chIn f c k = decide (c ∈ decF f k [])
  | 0, c, k => by
    show false = _
    rw [decF_zero]
    simp
  | f + 1, c, k => by
    have e : chIn (f + 1) c k = match Nat.beq (k % 256) c with
      | true => true
      | false => chIn f c (k / 256) := rfl
    rw [e, decF_succ, decF_acc, chIn_iff f]
    cases h : Nat.beq (k % 256) c with
    | true =>
      have := Nat.eq_of_beq_eq_true h
      simp [this]
    | false =>
      have hn : ¬ c = k % 256 := fun q => by
        rw [q, Nat.beq_refl] at h
        cases h
      simp [hn]
theorem chIn_dec (c k : Nat) : chIn (lenN k) c k = decide (c ∈ dec k) := chIn_iff _ _ _
end
end Rn
namespace Rn
open PySem PySem.Spec PyProof.Rows L2 TL
set_option autoImplicit false
noncomputable section
/-! ### values, objects, the heap of a run -/
inductive CV where
  | non | bl (b : Bool) | int (i : Int) | pl (n : Nat) | str (k : Nat) | ref (i : Nat) | st (k : Nat)
inductive CO where
  | lst (xs : List CV) | tup (xs : List CV) | ins (C : Nat) (fs : List (Nat × CV)) | dct (kvs : List (Nat × CV)) | gone
structure Bt where
  β : Int
  L : List Nat
inductive Tr where
  | lf
  | nd (l : Tr) (v : Option CO) (r : Tr)
def Tr.left (t : Tr) : Tr := Tr.rec (motive := fun _ => Tr) .lf (fun l _ _ _ _ => l) t
def Tr.right (t : Tr) : Tr := Tr.rec (motive := fun _ => Tr) .lf (fun _ _ r _ _ => r) t
def Tr.val (t : Tr) : Option CO := Tr.rec (motive := fun _ => Option CO) none (fun _ v _ _ _ => v) t
def Tr.get (t : Tr) : Nat → Option CO := Tr.rec (motive := fun _ => Nat → Option CO) (fun _ => none) (fun _ v _ gl gr n => match Nat.beq n 0 with
  | true => v
  | false => match Nat.beq (n % 2) 1 with
    | true => gl (n / 2)
    | false => gr (n / 2 - 1)) t
def trPut (f : Nat) : Tr → Nat → CO → Tr := Nat.rec (motive := fun _ => Tr → Nat → CO → Tr) (fun t _ _ => t) (fun _ go t n c => match Nat.beq n 0 with
  | true => .nd t.left (some c) t.right
  | false => match Nat.beq (n % 2) 1 with
    | true => .nd (go t.left (n / 2) c) t.val t.right
    | false => .nd t.left t.val (go t.right (n / 2 - 1) c)) f
theorem Tr.get_eq (t : Tr) (n : Nat) : t.get n = match Nat.beq n 0 with
    | true => t.val
    | false => match Nat.beq (n % 2) 1 with
      | true => t.left.get (n / 2)
      | false => t.right.get (n / 2 - 1) := by
  cases t with
  | lf =>
    show none = _
    split
    · rfl
    · split <;> rfl
  | nd l v r => rfl
theorem beq_f {a b : Nat} (h : a ≠ b) : Nat.beq a b = false := by
  cases e : Nat.beq a b with
  | false => rfl
  | true => exact absurd (Nat.eq_of_beq_eq_true e) h
theorem get_put : ∀ (f : Nat) (t : Tr) (n m : Nat) (c : CO), n + 1 < 2 ^ f → (trPut f t n c).get m = if m = n then some c else t.get m
  | 0, _, n, _, _, h => by
    rw [Nat.pow_zero] at h
    omega
  | f + 1, t, n, m, c, h => by
    have hp : 2 ^ (f + 1) = 2 ^ f * 2 := Nat.pow_succ ..
    have e : trPut (f + 1) t n c = match Nat.beq n 0 with
      | true => .nd t.left (some c) t.right
      | false => match Nat.beq (n % 2) 1 with
        | true => .nd (trPut f t.left (n / 2) c) t.val t.right
        | false => .nd t.left t.val (trPut f t.right (n / 2 - 1) c) := rfl
    rw [e, Tr.get_eq, Tr.get_eq t m]
    by_cases hn : n = 0
    · subst hn
      rw [show Nat.beq 0 0 = true from rfl]
      by_cases hm : m = 0
      · subst hm
        rw [if_pos rfl]
        rfl
      · rw [if_neg hm, beq_f hm]
        rfl
    · rw [beq_f hn]
      by_cases ho : n % 2 = 1
      · rw [ho, show Nat.beq 1 1 = true from rfl]
        by_cases hm : m = 0
        · subst hm
          rw [if_neg (by omega)]
          rfl
        · rw [beq_f hm]
          by_cases hmo : m % 2 = 1
          · rw [hmo, show Nat.beq 1 1 = true from rfl]
            show (trPut f t.left (n / 2) c).get (m / 2) = _
            rw [get_put f _ _ _ _ (by omega)]
            by_cases q : m = n
            · rw [if_pos (by omega), if_pos q]
            · rw [if_neg (by omega), if_neg q]
          · rw [beq_f hmo, if_neg (by omega)]
            rfl
      · rw [beq_f ho]
        by_cases hm : m = 0
        · subst hm
          rw [if_neg (by omega)]
          rfl
        · rw [beq_f hm]
          by_cases hmo : m % 2 = 1
          · rw [hmo, show Nat.beq 1 1 = true from rfl, if_neg (by omega)]
            rfl
          · rw [beq_f hmo]
            show (trPut f t.right (n / 2 - 1) c).get (m / 2 - 1) = _
            rw [get_put f _ _ _ _ (by omega)]
            by_cases q : m = n
            · rw [if_pos (by omega), if_pos q]
            · rw [if_neg (by omega), if_neg q]
structure Hc where
  n : Nat
  t : Tr
def Hc.get (h : Hc) (i : Nat) : Option CO := h.t.get i
def Hc.set (h : Hc) (i : Nat) (o : CO) : Hc := ⟨h.n, trPut 14 h.t i o⟩
def Hc.push (h : Hc) (o : CO) : Hc := ⟨h.n + 1, trPut 14 h.t h.n o⟩
theorem set_get {h : Hc} {i : Nat} {o : CO} (hi : i < 16000) (j : Nat) : (h.set i o).get j = if j = i then some o else h.get j := get_put 14 h.t i j o (by show i + 1 < 16384; omega)
theorem push_get {h : Hc} {o : CO} (hi : h.n < 16000) (j : Nat) : (h.push o).get j = if j = h.n then some o else h.get j := get_put 14 h.t h.n j o (by show h.n + 1 < 16384; omega)

/-! ### what it stands for -/
section
variable (S : Nat → Addr) (β : Bt)
def RelC (ρ : List Addr) : CV → V → Prop
  | .non, v => v = .non
  | .bl b, v => v = .bl b
  | .int i, v => v = .int i
  | .pl n, v => v = .int (β.β + n)
  | .str k, v => v = .str (tx k) ∧ okT k = true
  | .ref i, v => ∃ a, ρ[i]? = some a ∧ v = .ref a
  | .st k, v => v = .ref (S k)
abbrev RelL (ρ : List Addr) : List CV → List V → Prop := Paired (RelC S β ρ)
def RelF (ρ : List Addr) (p : Nat × CV) (q : Str × V) : Prop := q.1 = tx p.1 ∧ okT p.1 = true ∧ RelC S β ρ p.2 q.2
def RelK (ρ : List Addr) (p : Nat × CV) (q : Key × V) : Prop := q.1 = .inr (tx p.1) ∧ okT p.1 = true ∧ RelC S β ρ p.2 q.2
def RelO (ρ : List Addr) : CO → HO → Prop
  | .lst cs, o => ∃ vs, o = .lst vs ∧ RelL S β ρ cs vs
  | .tup cs, o => ∃ vs, o = .tup vs ∧ RelL S β ρ cs vs
  | .ins C fs, o => ∃ dx vs, o = .ins (S C) dx vs ∧ Paired (RelF S β ρ) fs vs
  | .dct kvs, o => ∃ ws, o = .dK ws ∧ Paired (RelK S β ρ) kvs ws
  | .gone, _ => True
structure Rep (ρ : List Addr) (h : Hc) (H : Hp) : Prop where
  nd : ρ.Nodup
  sz : ρ.length = h.n
  lk : ∀ i ∈ β.L, h.get i = some .gone
  ob : ∀ i a, ρ[i]? = some a → ∃ co ho, h.get i = some co ∧ H a = some ho ∧ RelO S β ρ co ho
  up : ∀ i co, h.get i = some co → i < h.n
end
def Mv (β : Bt) (ρ : List Addr) (H : Hp) (ρ' : List Addr) (H' : Hp) : Prop := (∃ l, ρ ++ l = ρ') ∧ (∀ b o, b ∉ ρ → H b = some o → H' b = some o ∧ b ∉ ρ') ∧ ∀ i ∈ β.L, ∀ a o, ρ[i]? = some a → H a = some o → H' a = some o
theorem Mv.refl {β : Bt} (ρ : List Addr) (H : Hp) : Mv β ρ H ρ H := ⟨⟨[], List.append_nil _⟩, fun _ _ n e => ⟨e, n⟩, fun _ _ _ _ _ e => e⟩
theorem at_app {ρ l : List Addr} {i : Nat} {a : Addr} (e : ρ[i]? = some a) : (ρ ++ l)[i]? = some a := by
  rw [List.getElem?_append_left (List.getElem?_eq_some_iff.mp e).1]
  exact e
theorem Mv.trans {β : Bt} {ρ ρ1 ρ2 : List Addr} {H H1 H2 : Hp} (a : Mv β ρ H ρ1 H1) (b : Mv β ρ1 H1 ρ2 H2) : Mv β ρ H ρ2 H2 := by
  obtain ⟨⟨l, rfl⟩, f, fl⟩ := a
  obtain ⟨⟨m, rfl⟩, g, gl⟩ := b
  refine ⟨⟨l ++ m, by rw [List.append_assoc]⟩, fun c o n e => ?_, fun i hi c o e1 e2 => gl i hi c o (at_app e1) (fl i hi c o e1 e2)⟩
  obtain ⟨e1, n1⟩ := f c o n e
  exact g c o n1 e1
section
variable {S : Nat → Addr} {β : Bt} {ρ ρ' : List Addr} {h : Hc} {H H' : Hp}
theorem RelC.mono {c : CV} {v : V} (l : List Addr) (r : RelC S β ρ c v) : RelC S β (ρ ++ l) c v := by
  cases c with
  | ref i =>
    obtain ⟨a, e, rfl⟩ := r
    exact ⟨a, by rw [List.getElem?_append_left (List.getElem?_eq_some_iff.mp e).1]; exact e, rfl⟩
  | _ => exact r
theorem RelC.mv {c : CV} {v : V} (r : RelC S β ρ c v) (m : Mv β ρ H ρ' H') : RelC S β ρ' c v := by
  obtain ⟨⟨l, rfl⟩, _, _⟩ := m
  exact r.mono l
theorem RelL.mv {cs : List CV} {vs : List V} (r : RelL S β ρ cs vs) (m : Mv β ρ H ρ' H') : RelL S β ρ' cs vs := L2.Paired.mapP r fun _ _ q => q.mv m
theorem RelO.mono {c : CO} {o : HO} (l : List Addr) (r : RelO S β ρ c o) : RelO S β (ρ ++ l) c o := by
  cases c with
  | lst cs =>
    obtain ⟨vs, e, q⟩ := r
    exact ⟨vs, e, L2.Paired.mapP q fun _ _ q => q.mono l⟩
  | tup cs =>
    obtain ⟨vs, e, q⟩ := r
    exact ⟨vs, e, L2.Paired.mapP q fun _ _ q => q.mono l⟩
  | ins C fs =>
    obtain ⟨dx, vs, e, q⟩ := r
    exact ⟨dx, vs, e, L2.Paired.mapP q fun _ _ q => ⟨q.1, q.2.1, q.2.2.mono l⟩⟩
  | dct kvs =>
    obtain ⟨vs, e, q⟩ := r
    exact ⟨vs, e, L2.Paired.mapP q fun _ _ q => ⟨q.1, q.2.1, q.2.2.mono l⟩⟩
  | gone => trivial
theorem Rep.at {i : Nat} {v : V} {co : CO} (R : Rep S β ρ h H) (r : RelC S β ρ (.ref i) v) (e : h.get i = some co) : ∃ a ho, v = .ref a ∧ ρ[i]? = some a ∧ H a = some ho ∧ RelO S β ρ co ho := by
  obtain ⟨a, ea, rfl⟩ := r
  obtain ⟨co', ho, e1, e2, e3⟩ := R.ob i a ea
  rw [e] at e1
  cases e1
  exact ⟨a, ho, rfl, ea, e2, e3⟩
theorem Rep.notin (R : Rep S β ρ h H) {p : Addr} (hp : H p = none) : p ∉ ρ := fun m => by
  obtain ⟨i, hi, e⟩ := List.getElem_of_mem m
  obtain ⟨_, ho, _, e2, _⟩ := R.ob i p (by rw [List.getElem?_eq_getElem hi, e])
  rw [hp] at e2
  cases e2
/-- a new object that is none of ours -/
theorem Rep.other (R : Rep S β ρ h H) {p : Addr} {o : HO} (hp : H p = none) : Rep S β ρ h (upd H p o) ∧ Mv β ρ H ρ (upd H p o) := by
  have hn := R.notin hp
  refine ⟨⟨R.nd, R.sz, R.lk, fun i a e => ?_, R.up⟩, ⟨[], List.append_nil _⟩, fun b u n e => ⟨by rw [upd_ne (ne_of_none e hp)]; exact e, n⟩, fun i _ a u _ e => by rw [upd_ne (ne_of_none e hp)]; exact e⟩
  obtain ⟨co, ho, e1, e2, e3⟩ := R.ob i a e
  exact ⟨co, ho, e1, by rw [upd_ne (ne_of_none e2 hp)]; exact e2, e3⟩
theorem Rep.push (R : Rep S β ρ h H) {p : Addr} {co : CO} {o : HO} (hp : H p = none) (ro : RelO S β (ρ ++ [p]) co o) (hn : h.n < 16000) : Rep S β (ρ ++ [p]) (h.push co) (upd H p o) ∧ Mv β ρ H (ρ ++ [p]) (upd H p o) ∧ RelC S β (ρ ++ [p]) (.ref h.n) (.ref p) := by
  have ni := R.notin hp
  have el : (ρ ++ [p])[h.n]? = some p := by
    rw [← R.sz, List.getElem?_append_right (Nat.le_refl _), Nat.sub_self]
    rfl
  refine ⟨⟨?_, ?_, fun i hi => ?_, fun i a e => ?_, fun i co' e => ?_⟩, ⟨⟨[p], rfl⟩, fun b u n e => ⟨by rw [upd_ne (ne_of_none e hp)]; exact e, fun m => ?_⟩, fun i _ a u _ e => by rw [upd_ne (ne_of_none e hp)]; exact e⟩, p, el, rfl⟩
  · rw [List.nodup_append]
    refine ⟨R.nd, by simp, fun x hx y hy => ?_⟩
    rw [List.mem_singleton.mp hy]
    exact fun e => ni (e ▸ hx)
  · rw [List.length_append, R.sz]
    rfl
  · rw [push_get hn, if_neg (Nat.ne_of_lt (R.up i _ (R.lk i hi)))]
    exact R.lk i hi
  · by_cases hi : i < ρ.length
    · rw [List.getElem?_append_left hi] at e
      obtain ⟨co', ho, e1, e2, e3⟩ := R.ob i a e
      refine ⟨co', ho, ?_, by rw [upd_ne (ne_of_none e2 hp)]; exact e2, e3.mono _⟩
      rw [push_get hn, if_neg (by rw [← R.sz]; omega)]
      exact e1
    · have hl := (List.getElem?_eq_some_iff.mp e).1
      rw [List.length_append, List.length_singleton] at hl
      have ei : i = h.n := by rw [← R.sz]; omega
      subst ei
      rw [el] at e
      cases e
      exact ⟨co, o, by rw [push_get hn, if_pos rfl], upd_same, ro⟩
  · rw [push_get hn] at e
    by_cases hi : i = h.n
    · rw [hi]; exact Nat.lt_succ_self _
    · rw [if_neg hi] at e
      exact Nat.lt_succ_of_lt (R.up i _ e)
  · rcases List.mem_append.mp m with m | m
    · exact n m
    · rw [List.mem_singleton.mp m, hp] at e
      cases e
theorem Rep.set (R : Rep S β ρ h H) {i : Nat} {a : Addr} {co co0 : CO} {o : HO} (hi : i < 16000) (h0 : h.get i = some co0) (hg : co0 ≠ .gone) (ha : ρ[i]? = some a) (ro : RelO S β ρ co o) : Rep S β ρ (h.set i co) (upd H a o) ∧ Mv β ρ H ρ (upd H a o) := by
  have hm : a ∈ ρ := List.mem_of_getElem? ha
  have hL : ∀ j ∈ β.L, j ≠ i := fun j hj e => by
    have := R.lk j hj
    rw [e, h0] at this
    exact hg (Option.some.inj this)
  have inj : ∀ j b, ρ[j]? = some b → j ≠ i → b ≠ a := fun j b e hj q => by
    subst q
    obtain ⟨h1, e4⟩ := List.getElem?_eq_some_iff.mp ha
    obtain ⟨h2, e5⟩ := List.getElem?_eq_some_iff.mp e
    exact hj ((List.getElem_inj R.nd).mp (e5.trans e4.symm))
  refine ⟨⟨R.nd, R.sz, fun j hj => ?_, fun j b e => ?_, fun j co' e => ?_⟩, ⟨[], List.append_nil _⟩, fun b u n e => ⟨by rw [upd_ne (fun q => n (by rw [q]; exact hm))]; exact e, n⟩, fun j hj b u e1 e2 => by rw [upd_ne (inj j b e1 (hL j hj))]; exact e2⟩
  · rw [set_get hi, if_neg (hL j hj)]
    exact R.lk j hj
  · by_cases hj : j = i
    · subst hj
      rw [ha] at e
      cases e
      exact ⟨co, o, by rw [set_get hi, if_pos rfl], upd_same, ro⟩
    · obtain ⟨co', ho, e1, e2, e3⟩ := R.ob j b e
      refine ⟨co', ho, by rw [set_get hi, if_neg hj]; exact e1, ?_, e3⟩
      rw [upd_ne (inj j b e hj)]
      exact e2
  · rw [set_get hi] at e
    by_cases hj : j = i
    · subst hj
      exact R.up _ _ h0
    · rw [if_neg hj] at e
      exact R.up _ _ e
end

/-! ### the readings of a run -/
abbrev Sg := List (Option CV)
abbrev KX := CV → Nat → Hc → Bool
abbrev KV := CV → Hc → Bool
abbrev Ev := Sg → Hc → KV → KX → Bool
abbrev EvT := Sg → Hc → (Bool → Hc → Bool) → KX → Bool
abbrev EvA := Sg → Hc → (List CV → Hc → Bool) → KX → Bool
abbrev KS := Sg → Hc → Bool
abbrev EvS := Sg → Hc → KS → KV → KS → KS → KX → Bool
def RelS (S : Nat → Addr) (β : Bt) (ρ : List Addr) : Sg → L2.St → Prop := Paired fun c v => ∀ x, c = some x → ∃ y, v = some y ∧ RelC S β ρ x y
theorem RelS.mv {S : Nat → Addr} {β : Bt} {ρ ρ' : List Addr} {H H' : Hp} {σc : Sg} {σ : L2.St} (r : RelS S β ρ σc σ) (m : Mv β ρ H ρ' H') : RelS S β ρ' σc σ := L2.Paired.mapP r fun _ _ q x e => by
  obtain ⟨y, e2, q⟩ := q x e
  exact ⟨y, e2, q.mv m⟩
def KOk (S : Nat → Addr) {α γ : Type} (R : List Addr → α → γ → Prop) (β : Bt) (ρ : List Addr) (H : Hp) (k : α → Hc → Bool) (Q : γ → Hp → Prop) : Prop :=
  ∀ (v : α) (h' : Hc) (ρ' : List Addr) (H' : Hp) (x : γ), Mv β ρ H ρ' H' → Rep S β ρ' h' H' → R ρ' v x → k v h' = true → Q x H'
def fF (x : V) (s : Str) : List (Str × V) := [("reason", .str s), ("place", x)]
def XOk (S : Nat → Addr) (β : Bt) (ρ : List Addr) (H : Hp) (kx : KX) (E : XK) : Prop :=
  ∀ (p : CV) (s : Nat) (h' : Hc) (ρ' : List Addr) (H' : Hp) (dd : Addr) (x : V), Mv β ρ H ρ' H' → Rep S β ρ' h' H' → RelC S β ρ' p x → okT s = true → H' dd = some (.xd (fF x (tx s))) → kx p s h' = true → E (.ref (S 0)) (some dd) H'
def KSk (S : Nat → Addr) (β : Bt) (ρ : List Addr) (H : Hp) (k : KS) (N : L2.St → Hp → Prop) : Prop :=
  ∀ (σc : Sg) (h' : Hc) (ρ' : List Addr) (H' : Hp) (σ : L2.St), Mv β ρ H ρ' H' → Rep S β ρ' h' H' → RelS S β ρ' σc σ → k σc h' = true → N σ H'
/-- a reading of values, argument lists, tests -/
def Snd (S : Nat → Addr) {α γ : Type} (R : Bt → List Addr → α → γ → Prop) (E : XK) (ev : Sg → Hc → (α → Hc → Bool) → KX → Bool) (t : L2.St → Hp → (γ → Hp → Prop) → Prop) : Prop :=
  ∀ (β : Bt) (ρ : List Addr) (H : Hp) (h : Hc) (σc : Sg) (σ : L2.St) (k : α → Hc → Bool) (kx : KX) (Q : γ → Hp → Prop), Rep S β ρ h H → RelS S β ρ σc σ → ev σc h k kx = true → KOk S (R β) β ρ H k Q → XOk S β ρ H kx E → t σ H Q
def SndS (S : Nat → Addr) (E : XK) (ev : EvS) (ts : TS) : Prop :=
  ∀ (β : Bt) (ρ : List Addr) (H : Hp) (h : Hc) (σc : Sg) (σ : L2.St) (nx : KS) (rt : KV) (bk ct : KS) (kx : KX) (D : Ends), Rep S β ρ h H → RelS S β ρ σc σ → ev σc h nx rt bk ct kx = true →
    KSk S β ρ H nx D.nx → KOk S (RelC S β) β ρ H rt D.rt → KSk S β ρ H bk D.bk → KSk S β ρ H ct D.ct → XOk S β ρ H kx E → ts D σ H
theorem KOk.mv {S : Nat → Addr} {α γ : Type} {R : List Addr → α → γ → Prop} {β : Bt} {ρ ρ' : List Addr} {H H' : Hp} {k : α → Hc → Bool} {Q : γ → Hp → Prop} (h : KOk S R β ρ H k Q) (m : Mv β ρ H ρ' H') : KOk S R β ρ' H' k Q :=
  fun v h' ρ2 H2 x m2 => h v h' ρ2 H2 x (m.trans m2)
theorem XOk.mv {S : Nat → Addr} {β : Bt} {ρ ρ' : List Addr} {H H' : Hp} {kx : KX} {E : XK} (h : XOk S β ρ H kx E) (m : Mv β ρ H ρ' H') : XOk S β ρ' H' kx E :=
  fun p s h' ρ2 H2 dd x m2 => h p s h' ρ2 H2 dd x (m.trans m2)
theorem KSk.mv {S : Nat → Addr} {β : Bt} {ρ ρ' : List Addr} {H H' : Hp} {k : KS} {N : L2.St → Hp → Prop} (h : KSk S β ρ H k N) (m : Mv β ρ H ρ' H') : KSk S β ρ' H' k N :=
  fun σc h' ρ2 H2 σ m2 => h σc h' ρ2 H2 σ (m.trans m2)
abbrev RV (S : Nat → Addr) : Bt → List Addr → CV → V → Prop := fun β ρ => RelC S β ρ
abbrev RA (S : Nat → Addr) : Bt → List Addr → List CV → List V → Prop := fun β ρ => RelL S β ρ
abbrev RB : Bt → List Addr → Bool → Bool → Prop := fun _ _ a b => a = b
/-- an expression and its run -/
def RE (S : Nat → Addr) (X : Cx) (E : XK) (e : Expr) (ev : Ev) : Prop := ∃ t, PE X e t ∧ Snd S (RV S) E ev t
def RT (S : Nat → Addr) (X : Cx) (E : XK) (e : Expr) (ev : EvT) : Prop := ∃ t, PT X e t ∧ Snd S RB E ev t
def RW (S : Nat → Addr) (X : Cx) (E : XK) (e : Expr) (ev : EvT) : Prop := ∃ t, PW X e t ∧ Snd S RB E ev t
def RAs (S : Nat → Addr) (X : Cx) (E : XK) (es : List Expr) (ev : EvA) : Prop := ∃ t, PA X es t ∧ Snd S (RA S) E ev t
def RSt (S : Nat → Addr) (X : Cx) (E : XK) (st : Stmt) (ev : EvS) : Prop := ∃ t, PS X st t ∧ SndS S E ev t
def RSs (S : Nat → Addr) (X : Cx) (E : XK) (st : List Stmt) (ev : EvS) : Prop := ∃ t, PSs X st t ∧ SndS S E ev t
end
end Rn
namespace Rn
open PySem PySem.Spec PyProof.Rows L2 TL
set_option autoImplicit false
noncomputable section
/-! ### the canonical readings -/
def Tev (S : Nat → Addr) {α γ : Type} (R : Bt → List Addr → α → γ → Prop) (E : XK) (ev : Sg → Hc → (α → Hc → Bool) → KX → Bool) : L2.St → Hp → (γ → Hp → Prop) → Prop := fun σ H Q =>
  ∃ (β : Bt) (ρ : List Addr) (h : Hc) (σc : Sg) (k : α → Hc → Bool) (kx : KX), Rep S β ρ h H ∧ RelS S β ρ σc σ ∧ ev σc h k kx = true ∧ KOk S (R β) β ρ H k Q ∧ XOk S β ρ H kx E
def TevS (S : Nat → Addr) (E : XK) (ev : EvS) : TS := fun D σ H =>
  ∃ (β : Bt) (ρ : List Addr) (h : Hc) (σc : Sg) (nx : KS) (rt : KV) (bk ct : KS) (kx : KX), Rep S β ρ h H ∧ RelS S β ρ σc σ ∧ ev σc h nx rt bk ct kx = true ∧
    KSk S β ρ H nx D.nx ∧ KOk S (RelC S β) β ρ H rt D.rt ∧ KSk S β ρ H bk D.bk ∧ KSk S β ρ H ct D.ct ∧ XOk S β ρ H kx E
theorem snd_tev {S : Nat → Addr} {α γ : Type} {R : Bt → List Addr → α → γ → Prop} {E : XK} {ev : Sg → Hc → (α → Hc → Bool) → KX → Bool} : Snd S R E ev (Tev S R E ev) :=
  fun β ρ H h σc σ k kx Q R rs e ok ox => ⟨β, ρ, h, σc, k, kx, R, rs, e, ok, ox⟩
theorem snd_tevS {S : Nat → Addr} {E : XK} {ev : EvS} : SndS S E ev (TevS S E ev) :=
  fun β ρ H h σc σ nx rt bk ct kx D R rs e a b c d f => ⟨β, ρ, h, σc, nx, rt, bk, ct, kx, R, rs, e, a, b, c, d, f⟩
abbrev QE (S : Nat → Addr) (X : Cx) (E : XK) (e : Expr) (ev : Ev) : Prop := PE X e (Tev S (RV S) E ev)
abbrev QT (S : Nat → Addr) (X : Cx) (E : XK) (e : Expr) (ev : EvT) : Prop := PT X e (Tev S RB E ev)
abbrev QW (S : Nat → Addr) (X : Cx) (E : XK) (e : Expr) (ev : EvT) : Prop := PW X e (Tev S RB E ev)
abbrev QA (S : Nat → Addr) (X : Cx) (E : XK) (es : List Expr) (ev : EvA) : Prop := PA X es (Tev S (RA S) E ev)
abbrev QS (S : Nat → Addr) (X : Cx) (E : XK) (st : Stmt) (ev : EvS) : Prop := PS X st (TevS S E ev)
abbrev QSs (S : Nat → Addr) (X : Cx) (E : XK) (st : List Stmt) (ev : EvS) : Prop := PSs X st (TevS S E ev)
section
variable {S : Nat → Addr} {X : Cx} {E : XK}
theorem qe_of {e : Expr} {ev : Ev} {t : TE} (p : PE X e t) (s : Snd S (RV S) E ev t) : QE S X E e ev := ⟨fun pins s0 σ H Q I ⟨β, ρ, h, σc, k, kx, R, rs, e1, ok, ox⟩ => p.run pins s0 σ H Q I (s β ρ H h σc σ k kx Q R rs e1 ok ox)⟩
theorem qt_of {e : Expr} {ev : EvT} {t : TT} (p : PT X e t) (s : Snd S RB E ev t) : QT S X E e ev := ⟨fun pins s0 σ H Q I ⟨β, ρ, h, σc, k, kx, R, rs, e1, ok, ox⟩ => p.run pins s0 σ H Q I (s β ρ H h σc σ k kx Q R rs e1 ok ox)⟩
theorem qw_of {e : Expr} {ev : EvT} {t : TT} (p : PW X e t) (s : Snd S RB E ev t) : QW S X E e ev := ⟨fun wh pins s0 σ H Q I ⟨β, ρ, h, σc, k, kx, R, rs, e1, ok, ox⟩ => p.run wh pins s0 σ H Q I (s β ρ H h σc σ k kx Q R rs e1 ok ox)⟩
theorem qa_of {es : List Expr} {ev : EvA} {t : TA} (p : PA X es t) (s : Snd S (RA S) E ev t) : QA S X E es ev := ⟨fun pos pins s0 σ H Q I ⟨β, ρ, h, σc, k, kx, R, rs, e1, ok, ox⟩ => p.run pos pins s0 σ H Q I (s β ρ H h σc σ k kx Q R rs e1 ok ox)⟩
theorem qs_of {st : Stmt} {ev : EvS} {t : TS} (p : PS X st t) (s : SndS S E ev t) : QS S X E st ev := ⟨fun pins s0 σ H D I ⟨β, ρ, h, σc, nx, rt, bk, ct, kx, R, rs, e1, a, b, c, d, f⟩ => p.run pins s0 σ H D I (s β ρ H h σc σ nx rt bk ct kx D R rs e1 a b c d f)⟩
theorem qss_of {st : List Stmt} {ev : EvS} {t : TS} (p : PSs X st t) (s : SndS S E ev t) : QSs S X E st ev := ⟨fun pins s0 σ H D I ⟨β, ρ, h, σc, nx, rt, bk, ct, kx, R, rs, e1, a, b, c, d, f⟩ => p.run pins s0 σ H D I (s β ρ H h σc σ nx rt bk ct kx D R rs e1 a b c d f)⟩
end

/-! ### leaves -/
def nth {α : Type} (l : List α) : Nat → Option α := List.rec (motive := fun _ => Nat → Option α) (fun _ => none) (fun a _ go n => Nat.rec (motive := fun _ => Option α) (some a) (fun m _ => go m) n) l
theorem nth_eq {α : Type} : ∀ (l : List α) (n : Nat), nth l n = l[n]?
  | [], _ => by simp [nth]
  | a :: r, 0 => rfl
  | a :: r, n + 1 => (nth_eq r n).trans (by simp)
def setS (l : Sg) : Nat → CV → Sg := List.rec (motive := fun _ => Nat → CV → Sg) (fun _ _ => []) (fun a r go n v => Nat.rec (motive := fun _ => Sg) (some v :: r) (fun m _ => a :: go m v) n) l
theorem relS_set {S : Nat → Addr} {β : Bt} {ρ : List Addr} {c : CV} {v : V} (r : RelC S β ρ c v) : ∀ {σc : Sg} {σ : L2.St} (i : Nat), RelS S β ρ σc σ → RelS S β ρ (setS σc i c) (σ.set i (some v))
  | _, _, _, .nil => .nil
  | _, _, 0, .cons q t => .cons (fun x e => ⟨v, rfl, by cases e; exact r⟩) t
  | _, _, i + 1, .cons q t => .cons q (relS_set r i t)
theorem paired_get {α γ : Type} {F : α → γ → Prop} : ∀ {l : List α} {m : List γ} {i : Nat} {a : α}, Paired F l m → l[i]? = some a → ∃ b, m[i]? = some b ∧ F a b
  | _, _, _, _, .nil, e => by simp at e
  | _, _, 0, _, .cons r _, e => by simp at e; subst e; exact ⟨_, rfl, r⟩
  | _, _, i + 1, a, .cons _ t, e => by
    obtain ⟨u, h1, h2⟩ := paired_get (i := i) (a := a) t (by simpa using e)
    exact ⟨u, by simpa using h1, h2⟩
def xVar (i : Nat) : Ev := fun σ h k _ => match nth σ i with
  | some (some v) => k v h
  | _ => false
def xC (c : CV) : Ev := fun _ h k _ => k c h
section
variable {S : Nat → Addr} {X : Cx} {E : XK}
theorem q_var {i : Nat} {e : Expr} (p : PE X e (tVar i)) : QE S X E e (xVar i) := qe_of p fun β ρ H h σc σ k kx Q R rs e ok ox => by
  unfold xVar at e
  rw [nth_eq] at e
  split at e
  · rename_i v hv
    obtain ⟨b, hb, q⟩ := paired_get rs hv
    obtain ⟨y, rfl, r⟩ := q v rfl
    exact ⟨y, hb, ok v h ρ H y (.refl _ _) R r e⟩
  · cases e
theorem q_c {c : CV} {v : V} {e : Expr} (p : PE X e (tC v)) (r : ∀ β ρ, RelC S β ρ c v) : QE S X E e (xC c) := qe_of p fun β ρ H h σc σ k kx Q R rs e ok ox => ok c h ρ H v (.refl _ _) R (r β ρ) e
theorem q_str {k : Nat} {x : Str} {j : Nat} {pos : Pos} (h1 : tx k = x) (h2 : okT k = true) : QE S X E (.Constant (.str x) j pos) (xC (.str k)) := q_c pe_str fun _ _ => ⟨by rw [h1], h2⟩
end

/-! ### operations -/
abbrev FO := CV → CV → Hc → KV → Bool
def xOp (f : FO) (a b : Ev) : Ev := fun σ h k kx => a σ h (fun x h1 => b σ h1 (fun y h2 => f x y h2 k) kx) kx
def SOp (S : Nat → Addr) (f : FO) (r : R2) : Prop := ∀ (β : Bt) (ρ : List Addr) (H : Hp) (h : Hc) (x y : CV) (v w : V) (k : KV) (Q : VK), Rep S β ρ h H → RelC S β ρ x v → RelC S β ρ y w → f x y h k = true → KOk S (RelC S β) β ρ H k Q → r v w H Q
def SUn (S : Nat → Addr) (f : CV → Hc → KV → Bool) (r : V → Hp → VK → Prop) : Prop := ∀ (β : Bt) (ρ : List Addr) (H : Hp) (h : Hc) (x : CV) (v : V) (k : KV) (Q : VK), Rep S β ρ h H → RelC S β ρ x v → f x h k = true → KOk S (RelC S β) β ρ H k Q → r v H Q
def SCl (S : Nat → Addr) (f : List CV → Hc → KV → Bool) (r : List V → Hp → VK → Prop) : Prop := ∀ (β : Bt) (ρ : List Addr) (H : Hp) (h : Hc) (x : List CV) (v : List V) (k : KV) (Q : VK), Rep S β ρ h H → RelL S β ρ x v → f x h k = true → KOk S (RelC S β) β ρ H k Q → r v H Q
def SMt (S : Nat → Addr) (f : CV → List CV → Hc → KV → Bool) (r : V → List V → Hp → VK → Prop) : Prop := ∀ (β : Bt) (ρ : List Addr) (H : Hp) (h : Hc) (x : CV) (xs : List CV) (v : V) (vs : List V) (k : KV) (Q : VK), Rep S β ρ h H → RelC S β ρ x v → RelL S β ρ xs vs → f x xs h k = true → KOk S (RelC S β) β ρ H k Q → r v vs H Q
def r2or (a b : R2) : R2 := fun x y H Q => a x y H Q ∨ b x y H Q
theorem opOr {X : Cx} {f : Value → Value → Sem Value} {r r' : R2} (a : OpR X f r) (b : OpR X f r') : OpR X f (r2or r r') := fun pins s σ H x y v u Q I r1 r2 h => h.elim (a pins s σ H x y v u Q I r1 r2) (b pins s σ H x y v u Q I r1 r2)
theorem SOp.l {S : Nat → Addr} {f : FO} {r r' : R2} (h : SOp S f r) : SOp S f (r2or r r') := fun β ρ H hh x y v w k Q a b c d e => .inl (h β ρ H hh x y v w k Q a b c d e)
section
variable {S : Nat → Addr} {X : Cx} {E : XK} {a b : Expr} {ea eb : Ev} {pos : Pos}
theorem snd_op {f : FO} {r : R2} {ta tb : TE} (so : SOp S f r) (sa : Snd S (RV S) E ea ta) (sb : Snd S (RV S) E eb tb) : Snd S (RV S) E (xOp f ea eb) (tOp r ta tb) := fun β ρ H h σc σ k kx Q R rs e ok ox => by
  refine sa β ρ H h σc σ _ kx _ R rs e (fun x h1 ρ1 H1 v m1 R1 r1 e1 => ?_) ox
  refine sb β ρ1 H1 h1 σc σ _ kx _ R1 (rs.mv m1) e1 (fun y h2 ρ2 H2 w m2 R2 r2 e2 => ?_) (ox.mv m1)
  exact so β ρ2 H2 h2 x y v w k _ R2 (r1.mv m2) r2 e2 (ok.mv (m1.trans m2))
theorem q_op {op : Operator} {f : FO} {r : R2} (ho : OpR X (binaryOp op) r) (so : SOp S f r) (ha : QE S X E a ea) (hb : QE S X E b eb) : QE S X E (.BinOp a op b pos) (xOp f ea eb) :=
  qe_of (pe_op ho ha hb) (snd_op so snd_tev snd_tev)
theorem q_cmp {op : CmpOp} {f : FO} {r : R2} (ho : OpR X (compareOp op) r) (so : SOp S f r) (ha : QE S X E a ea) (hb : QE S X E b eb) (hm : behindInMarks op b = false) : QE S X E (.Compare a [op] [b] pos) (xOp f ea eb) :=
  qe_of (pe_cmpR ho ha hb hm) (snd_op so snd_tev snd_tev)
theorem q_ix {f : FO} {r : R2} (ho : IxR X r) (so : SOp S f r) (ha : QE S X E a ea) (hb : QE S X E b eb) (hs : PlainIx b) : QE S X E (.Subscript a b pos) (xOp f ea eb) :=
  qe_of (pe_ix ho ha hb hs) (snd_op so snd_tev snd_tev)
def xUn (f : CV → Hc → KV → Bool) (a : Ev) : Ev := fun σ h k kx => a σ h (fun x h1 => f x h1 k) kx
theorem q_un {op : UnaryOp} {f : CV → Hc → KV → Bool} {r : V → Hp → VK → Prop} (ho : UnR X (unaryOp op) r) (so : SUn S f r) (ha : QE S X E a ea) : QE S X E (.UnaryOp op a pos) (xUn f ea) :=
  qe_of (pe_un ho ha) fun β ρ H h σc σ k kx Q R rs e ok ox => snd_tev β ρ H h σc σ _ kx _ R rs e (fun x h1 ρ1 H1 v m1 R1 r1 e1 => so β ρ1 H1 h1 x v k _ R1 r1 e1 (ok.mv m1)) ox
def xNot (a : Ev) : Ev := fun σ h k kx => a σ h (fun x h1 => match x with
  | .bl b => k (.bl (!b)) h1
  | _ => false) kx
theorem q_not (ha : QE S X E a ea) : QE S X E (.UnaryOp .Not a pos) (xNot ea) :=
  qe_of (pe_not ha) fun β ρ H h σc σ k kx Q R rs e ok ox => snd_tev β ρ H h σc σ _ kx _ R rs e (fun x h1 ρ1 H1 v m1 R1 r1 e1 => by
    cases x with
    | bl b => exact ⟨b, r1, ok (.bl (!b)) h1 ρ1 H1 _ m1 R1 rfl e1⟩
    | _ => cases e1) ox
/-! tests -/
def xTest (a : Ev) : EvT := fun σ h k kx => a σ h (fun x h1 => match x with
  | .bl b => k b h1
  | _ => false) kx
theorem snd_test {ta : TE} (sa : Snd S (RV S) E ea ta) : Snd S RB E (xTest ea) (tB ta) := fun β ρ H h σc σ k kx Q R rs e ok ox => sa β ρ H h σc σ _ kx _ R rs e (fun x h1 ρ1 H1 v m1 R1 r1 e1 => by
    cases x with
    | bl b => exact ⟨b, r1, ok _ h1 ρ1 H1 _ m1 R1 rfl e1⟩
    | _ => cases e1) ox
theorem q_val (ha : QE S X E a ea) (he : ∀ whole, isTrue a X.env whole = (do let v ← whole; standAt a.pos; holding [v] (truthy v)) := by intro _; rfl) : QT S X E a (xTest ea) :=
  qt_of (pt_val ha he) (snd_test snd_tev)
theorem q_cmpT {op : CmpOp} {f : FO} {r : R2} (ho : OpR X (compareOp op) r) (so : SOp S f r) (ha : QE S X E a ea) (hb : QE S X E b eb) (hm : behindInMarks op b = false) : QT S X E (.Compare a [op] [b] pos) (xTest (xOp f ea eb)) :=
  qt_of (pt_cmpR ho ha hb hm) (snd_test (snd_op so snd_tev snd_tev))
def xNotT (a : EvT) : EvT := fun σ h k kx => a σ h (fun x h1 => k (!x) h1) kx
variable {et eu : EvT} {rest : List Expr}
theorem q_notT (ha : QT S X E a et) : QT S X E (.UnaryOp .Not a pos) (xNotT et) :=
  qt_of (pt_not ha) fun β ρ H h σc σ k kx Q R rs e ok ox => snd_tev β ρ H h σc σ _ kx _ R rs e (fun x h1 ρ1 H1 v m1 R1 r1 e1 => by cases r1; exact ok _ h1 ρ1 H1 _ m1 R1 rfl e1) ox
def xAndT (a b : EvT) : EvT := fun σ h k kx => a σ h (fun x h1 => match x with
  | true => b σ h1 k kx
  | false => k false h1) kx
def xOrT (a b : EvT) : EvT := fun σ h k kx => a σ h (fun x h1 => match x with
  | true => k true h1
  | false => b σ h1 k kx) kx
theorem q_wand1 (ha : QT S X E a et) : QW S X E (.BoolOp .And [a] pos) et := qw_of (pw_and1 ha) snd_tev
theorem q_wor1 (ha : QT S X E a et) : QW S X E (.BoolOp .Or [a] pos) et := qw_of (pw_or1 ha) snd_tev
theorem q_wand (ha : QT S X E a et) (hb : QW S X E (.BoolOp .And (b :: rest) pos) eu) : QW S X E (.BoolOp .And (a :: b :: rest) pos) (xAndT et eu) :=
  qw_of (pw_and ha hb) fun β ρ H h σc σ k kx Q R rs e ok ox => snd_tev β ρ H h σc σ _ kx _ R rs e (fun x h1 ρ1 H1 v m1 R1 r1 e1 => by
    cases r1
    cases x with
    | true => exact snd_tev β ρ1 H1 h1 σc σ k kx _ R1 (rs.mv m1) e1 (ok.mv m1) (ox.mv m1)
    | false => exact ok _ h1 ρ1 H1 _ m1 R1 rfl e1) ox
theorem q_wor (ha : QT S X E a et) (hb : QW S X E (.BoolOp .Or (b :: rest) pos) eu) : QW S X E (.BoolOp .Or (a :: b :: rest) pos) (xOrT et eu) :=
  qw_of (pw_or ha hb) fun β ρ H h σc σ k kx Q R rs e ok ox => snd_tev β ρ H h σc σ _ kx _ R rs e (fun x h1 ρ1 H1 v m1 R1 r1 e1 => by
    cases r1
    cases x with
    | true => exact ok _ h1 ρ1 H1 _ m1 R1 rfl e1
    | false => exact snd_tev β ρ1 H1 h1 σc σ k kx _ R1 (rs.mv m1) e1 (ok.mv m1) (ox.mv m1)) ox
theorem q_pt (h : QW S X E a et) : QT S X E a et := PW.pt h
/-! and, or as values -/
def xAndV (a b : Ev) : Ev := fun σ h k kx => a σ h (fun x h1 => match x with
  | .bl true => b σ h1 k kx
  | .bl false => k (.bl false) h1
  | _ => false) kx
def xOrV (a b : Ev) : Ev := fun σ h k kx => a σ h (fun x h1 => match x with
  | .bl true => k (.bl true) h1
  | .bl false => b σ h1 k kx
  | _ => false) kx
theorem q_one {op : BoolOp} (h : QE S X E a ea) : QE S X E (.BoolOp op [a] pos) ea := pe_one h
theorem q_and (ha : QE S X E a ea) (hb : QE S X E (.BoolOp .And (b :: rest) pos) eb) : QE S X E (.BoolOp .And (a :: b :: rest) pos) (xAndV ea eb) :=
  qe_of (pe_and ha hb) fun β ρ H h σc σ k kx Q R rs e ok ox => snd_tev β ρ H h σc σ _ kx _ R rs e (fun x h1 ρ1 H1 v m1 R1 r1 e1 => by
    cases x with
    | bl c =>
      refine ⟨c, r1, ?_⟩
      cases c with
      | true => exact snd_tev β ρ1 H1 h1 σc σ k kx _ R1 (rs.mv m1) e1 (ok.mv m1) (ox.mv m1)
      | false => exact ok (.bl false) h1 ρ1 H1 _ m1 R1 rfl e1
    | _ => cases e1) ox
theorem q_or (ha : QE S X E a ea) (hb : QE S X E (.BoolOp .Or (b :: rest) pos) eb) : QE S X E (.BoolOp .Or (a :: b :: rest) pos) (xOrV ea eb) :=
  qe_of (pe_or ha hb) fun β ρ H h σc σ k kx Q R rs e ok ox => snd_tev β ρ H h σc σ _ kx _ R rs e (fun x h1 ρ1 H1 v m1 R1 r1 e1 => by
    cases x with
    | bl c =>
      refine ⟨c, r1, ?_⟩
      cases c with
      | true => exact ok (.bl true) h1 ρ1 H1 _ m1 R1 rfl e1
      | false => exact snd_tev β ρ1 H1 h1 σc σ k kx _ R1 (rs.mv m1) e1 (ok.mv m1) (ox.mv m1)
    | _ => cases e1) ox
def xIf (t : EvT) (a b : Ev) : Ev := fun σ h k kx => t σ h (fun x h1 => match x with
  | true => a σ h1 k kx
  | false => b σ h1 k kx) kx
theorem q_if {c : Expr} (hc : QT S X E c et) (ha : QE S X E a ea) (hb : QE S X E b eb) : QE S X E (.IfExp c a b pos) (xIf et ea eb) :=
  qe_of (pe_ifExp hc ha hb) fun β ρ H h σc σ k kx Q R rs e ok ox => snd_tev β ρ H h σc σ _ kx _ R rs e (fun x h1 ρ1 H1 v m1 R1 r1 e1 => by
    cases r1
    cases x with
    | true => exact snd_tev β ρ1 H1 h1 σc σ k kx _ R1 (rs.mv m1) e1 (ok.mv m1) (ox.mv m1)
    | false => exact snd_tev β ρ1 H1 h1 σc σ k kx _ R1 (rs.mv m1) e1 (ok.mv m1) (ox.mv m1)) ox
/-! argument lists, displays -/
def xNil : EvA := fun _ h k _ => k [] h
def xCons (a : Ev) (r : EvA) : EvA := fun σ h k kx => a σ h (fun x h1 => r σ h1 (fun xs h2 => k (x :: xs) h2) kx) kx
variable {es : List Expr} {er : EvA}
theorem q_nil : QA S X E [] xNil := qa_of pa_nil fun β ρ H h σc σ k kx Q R rs e ok ox => ok [] h ρ H [] (.refl _ _) R .nil e
theorem q_cons (ha : QE S X E a ea) (hr : QA S X E es er) (hs : starEach (a :: es) X.env = (false, eval a X.env) :: starEach es X.env := by rfl) : QA S X E (a :: es) (xCons ea er) :=
  qa_of (pa_cons ha hr hs) fun β ρ H h σc σ k kx Q R rs e ok ox => snd_tev β ρ H h σc σ _ kx _ R rs e (fun x h1 ρ1 H1 v m1 R1 r1 e1 =>
    snd_tev β ρ1 H1 h1 σc σ _ kx _ R1 (rs.mv m1) e1 (fun xs h2 ρ2 H2 vs m2 R2 r2 e2 => ok _ h2 ρ2 H2 _ (m1.trans m2) R2 (.cons (r1.mv m2) r2) e2) (ox.mv m1)) ox
def lenL {α : Type} (l : List α) : Nat := List.rec (motive := fun _ => Nat) 0 (fun _ _ n => n + 1) l
theorem lenL_eq {α : Type} : ∀ l : List α, lenL l = l.length
  | [] => rfl
  | a :: r => by
    show lenL r + 1 = _
    rw [lenL_eq r]
    rfl
theorem paired_len {α γ : Type} {F : α → γ → Prop} {l : List α} {m : List γ} (p : Paired F l m) : l.length = m.length := Paired.length p
/-- a new object -/
def newO (o : CO) (h : Hc) (k : KV) : Bool := match Nat.blt h.n 16000 with
  | true => k (.ref h.n) (h.push o)
  | false => false
theorem new_ok {β : Bt} {ρ : List Addr} {H : Hp} {h : Hc} {o : CO} {ho : HO} {k : KV} {Q : VK} (R : Rep S β ρ h H) (e : newO o h k = true) (ok : KOk S (RelC S β) β ρ H k Q) (ro : ∀ l, RelO S β (ρ ++ l) o ho) : ∀ p, H p = none → Q (.ref p) (upd H p ho) := fun p hp => by
  unfold newO at e
  split at e
  · rename_i hn
    obtain ⟨R', m, r⟩ := R.push hp (ro [p]) (Nat.lt_of_succ_le (Nat.le_of_ble_eq_true hn))
    exact ok _ _ _ _ _ m R' r e
  · cases e
theorem line10 {n : Nat} (h : n ≤ 1000000) : n ≤ sizeLine := by
  have : sizeLine = 16777216 := sizeLine_eq
  omega
def xLst (r : EvA) : Ev := fun σ h k kx => r σ h (fun xs h1 => match Nat.ble (lenL xs) 1000 with
  | true => newO (.lst xs) h1 k
  | false => false) kx
def xTup (r : EvA) : Ev := fun σ h k kx => r σ h (fun xs h1 => match Nat.ble (lenL xs) 1000 with
  | true => newO (.tup xs) h1 k
  | false => false) kx
theorem snd_lst {t : TA} (s : Snd S (RA S) E er t) : Snd S (RV S) E (xLst er) (tLst t) := fun β ρ H h σc σ k kx Q R rs e ok ox => s β ρ H h σc σ _ kx _ R rs e (fun xs h1 ρ1 H1 vs m1 R1 r1 e1 => by
    split at e1
    · rename_i hl
      rw [lenL_eq] at hl
      refine ⟨line10 (by rw [← paired_len r1]; exact Nat.le_trans (Nat.le_of_ble_eq_true hl) (by decide)), new_ok R1 e1 (ok.mv m1) fun l => ⟨vs, rfl, L2.Paired.mapP r1 fun _ _ q => q.mono l⟩⟩
    · cases e1) ox
theorem q_lst (h : QA S X E es er) : QE S X E (.List es pos) (xLst er) := qe_of (pe_lst h) (snd_lst snd_tev)
theorem q_tup {x1} (h : QA S X E es er) : QE S X E (.Tuple es x1 pos) (xTup er) := qe_of (pe_tup h) fun β ρ H h σc σ k kx Q R rs e ok ox => snd_tev β ρ H h σc σ _ kx _ R rs e (fun xs h1 ρ1 H1 vs m1 R1 r1 e1 => by
    split at e1
    · rename_i hl
      rw [lenL_eq] at hl
      refine ⟨line10 (by rw [← paired_len r1]; exact Nat.le_trans (Nat.le_of_ble_eq_true hl) (by decide)), new_ok R1 e1 (ok.mv m1) fun l => ⟨vs, rfl, L2.Paired.mapP r1 fun _ _ q => q.mono l⟩⟩
    · cases e1) ox
/-! calls of built-ins, methods of built-ins -/
def xCB (f : List CV → Hc → KV → Bool) (r : EvA) : Ev := fun σ h k kx => r σ h (fun xs h1 => f xs h1 k) kx
theorem snd_cb {f : List CV → Hc → KV → Bool} {r : List V → Hp → VK → Prop} {t : TA} (so : SCl S f r) (s : Snd S (RA S) E er t) : Snd S (RV S) E (xCB f er) (tCB r t) := fun β ρ H h σc σ k kx Q R rs e ok ox =>
  s β ρ H h σc σ _ kx _ R rs e (fun xs h1 ρ1 H1 vs m1 R1 r1 e1 => so β ρ1 H1 h1 xs vs k _ R1 r1 e1 (ok.mv m1)) ox
theorem q_callB {id : String} {x : Str} {p : Pos} {f : List CV → Hc → KV → Bool} {r : List V → Hp → VK → Prop} (hc : CallR X (.builtin id) r) (so : SCl S f r) (hg : Gl X x) (hm : X.mg x = none) (hv : bootBuiltins x = some (.builtin id)) (ha : QA S X E (a :: es) er) (hn : x ≠ "__name__" := by decide) (hdb : (x == ("__debug__" : Str)) = false := by decide)
    (he : starEach (a :: es) X.env = (false, eval a X.env) :: starEach es X.env := by rfl) (hpl : (backTo pos (starEach es X.env)).any (·.1) = false := by rfl) : QE S X E (.Call (.Name x p) (a :: es) [] pos) (xCB f er) :=
  qe_of (pe_callB hc hg hm hv ha hn hdb he hpl) (snd_cb so snd_tev)
theorem q_callTy {T : String} {x : Str} {p : Pos} {f : List CV → Hc → KV → Bool} {r : List V → Hp → VK → Prop} (hc : CallR X (.type T) r) (so : SCl S f r) (hg : Gl X x) (hm : X.mg x = none) (hv : bootBuiltins x = some (.type T)) (ha : QA S X E (a :: es) er) (hn : x ≠ "__name__" := by decide) (hdb : (x == ("__debug__" : Str)) = false := by decide)
    (he : starEach (a :: es) X.env = (false, eval a X.env) :: starEach es X.env := by rfl) (hpl : (backTo pos (starEach es X.env)).any (·.1) = false := by rfl) : QE S X E (.Call (.Name x p) (a :: es) [] pos) (xCB f er) :=
  qe_of (pe_callTy hc hg hm hv ha hn hdb he hpl) (snd_cb so snd_tev)
end
end
end Rn
namespace Rn
open PySem PySem.Spec PyProof.Rows L2 TL
set_option autoImplicit false
noncomputable section
/-! ### tables of numbers -/
def memN (c : Nat) (l : List Nat) : Bool := List.rec (motive := fun _ => Bool) false (fun a _ go => match Nat.beq a c with
  | true => true
  | false => go) l
def AllC : List Nat → (Nat → Prop) → Prop
  | [], _ => True
  | a :: r, P => P a ∧ AllC r P
theorem AllC.at {P : Nat → Prop} {c : Nat} : ∀ {l : List Nat}, AllC l P → memN c l = true → P c
  | [], _, e => by cases e
  | a :: r, h, e => by
    have e' : (match Nat.beq a c with
      | true => true
      | false => memN c r) = true := e
    split at e'
    · rename_i q
      rw [← Nat.eq_of_beq_eq_true q]
      exact h.1
    · exact AllC.at h.2 e'
def findN (c : Nat) (l : List (Nat × Nat)) : Option Nat := List.rec (motive := fun _ => Option Nat) none (fun a _ go => match Nat.beq a.1 c with
  | true => some a.2
  | false => go) l
def AllP : List (Nat × Nat) → (Nat → Nat → Prop) → Prop
  | [], _ => True
  | a :: r, P => P a.1 a.2 ∧ AllP r P
theorem AllP.at {P : Nat → Nat → Prop} {c i : Nat} : ∀ {l : List (Nat × Nat)}, AllP l P → findN c l = some i → P c i
  | [], _, e => by cases e
  | a :: r, h, e => by
    have e' : (match Nat.beq a.1 c with
      | true => some a.2
      | false => findN c r) = some i := e
    split at e'
    · rename_i q
      cases e'
      rw [← Nat.eq_of_beq_eq_true q]
      exact h.1
    · exact AllP.at h.2 e'
/-! ### fields -/
def lookN (k : Nat) (l : List (Nat × CV)) : Option CV := List.rec (motive := fun _ => Option CV) none (fun a _ go => match Nat.beq a.1 k with
  | true => some a.2
  | false => go) l
def putN (k : Nat) (c : CV) (l : List (Nat × CV)) : List (Nat × CV) := List.rec (motive := fun _ => List (Nat × CV)) [(k, c)] (fun a r go => match Nat.beq a.1 k with
  | true => (a.1, c) :: r
  | false => a :: go) l
section
variable {S : Nat → Addr} {β : Bt} {ρ : List Addr}
theorem beq_tx {a b : Nat} (ha : okT a = true) (hb : okT b = true) : (tx a == tx b) = Nat.beq a b := by
  rw [← tx_eq ha hb, Bool.eq_iff_iff]
  simp
theorem lookN_ok {k : Nat} (hk : okT k = true) : ∀ {fs : List (Nat × CV)} {vs : List (Str × V)}, Paired (RelF S β ρ) fs vs → (∀ c, lookN k fs = some c → ∃ v, vs.lookup (tx k) = some v ∧ RelC S β ρ c v) ∧ (lookN k fs = none → vs.lookup (tx k) = none)
  | _, _, .nil => ⟨fun _ e => (by cases e), fun _ => rfl⟩
  | (a, x) :: r, (s, v) :: t, .cons q p => by
    obtain ⟨e1, e2, e3⟩ := q
    have e1 : s = tx a := e1
    have e2 : okT a = true := e2
    subst e1
    have ih := lookN_ok hk p
    have el : lookN k ((a, x) :: r) = match Nat.beq a k with
      | true => some x
      | false => lookN k r := rfl
    have ev : List.lookup (tx k) ((tx a, v) :: t) = match Nat.beq k a with
      | true => some v
      | false => List.lookup (tx k) t := by
      rw [List.lookup_cons, beq_tx hk e2]
      rfl
    have sym : Nat.beq k a = Nat.beq a k := by
      by_cases h : k = a
      · rw [h]
      · rw [beq_f h, beq_f (Ne.symm h)]
    rw [el, ev, sym]
    cases Nat.beq a k with
    | true => exact ⟨fun c e => by cases e; exact ⟨v, rfl, e3⟩, fun e => by cases e⟩
    | false => exact ih
theorem putN_ok {k : Nat} {c : CV} {v : V} (hk : okT k = true) (r : RelC S β ρ c v) : ∀ {fs : List (Nat × CV)} {vs : List (Str × V)}, Paired (RelF S β ρ) fs vs → Paired (RelF S β ρ) (putN k c fs) (putF (tx k) v vs)
  | _, _, .nil => .cons ⟨rfl, hk, r⟩ .nil
  | (a, x) :: r', (s, w) :: t, .cons q p => by
    obtain ⟨e1, e2, e3⟩ := q
    have e1 : s = tx a := e1
    have e2 : okT a = true := e2
    subst e1
    have el : putN k c ((a, x) :: r') = match Nat.beq a k with
      | true => (a, c) :: r'
      | false => (a, x) :: putN k c r' := rfl
    have ev : putF (tx k) v ((tx a, w) :: t) = if tx a = tx k then (tx a, v) :: t else (tx a, w) :: putF (tx k) v t := rfl
    rw [el, ev]
    cases h : Nat.beq a k with
    | true =>
      rw [Nat.eq_of_beq_eq_true h, if_pos rfl]
      exact .cons ⟨rfl, hk, r⟩ p
    | false =>
      rw [if_neg fun e => by rw [tx_inj e2 hk e, Nat.beq_refl] at h; cases h]
      exact .cons ⟨rfl, e2, e3⟩ (putN_ok hk r p)
end
def xFld (cs : List Nat) (f : Nat) (a : Ev) : Ev := fun σ h k kx => a σ h (fun x h1 => match x with
  | .ref i => match h1.get i with
    | some (.ins C fs) => match memN C cs with
      | true => match lookN f fs with
        | some v => k v h1
        | none => false
      | false => false
    | _ => false
  | _ => false) kx
abbrev FldOk (K : PySem.W.Frag) (S : Nat → Addr) (f : Nat) (cs : List Nat) : Prop := AllC cs fun C => Cls K (S C) ∧ NoAttr K (S C) (tx f)
section
variable {S : Nat → Addr} {X : Cx} {E : XK} {a b : Expr} {ea eb : Ev} {pos : Pos}
theorem q_fld {f : Nat} {s : Str} {cs : List Nat} (hf : okT f = true) (hs : tx f = s) (hc : FldOk X.K S f cs) (ha : QE S X E a ea) (hb : attributeBase a s X.env (eval a X.env) = eval a X.env) : QE S X E (.Attribute a s pos) (xFld cs f ea) := by
  subst hs
  refine qe_of (pe_fld ha hb) fun β ρ H h σc σ k kx Q R rs e ok ox => snd_tev β ρ H h σc σ _ kx _ R rs e (fun x h1 ρ1 H1 v m1 R1 r1 e1 => ?_) ox
  cases x with
  | ref i =>
    dsimp only at e1
    split at e1
    · rename_i C fs hg
      split at e1
      · rename_i hm
        split at e1
        · rename_i c hl
          obtain ⟨a', ho, rfl, ea', eh, dx, vs, rfl, pf⟩ := R1.at r1 hg
          obtain ⟨c1, c2⟩ := hc.at hm
          obtain ⟨v, el, rv⟩ := (lookN_ok hf pf).1 c hl
          exact ⟨a', S C, dx, vs, v, rfl, eh, c1, c2, el, ok c h1 ρ1 H1 v m1 R1 rv e1⟩
        · cases e1
      · cases e1
    · cases e1
  | _ => cases e1
/-! ### promises -/
abbrev Fg := List CV → Hc → KV → KX → Bool
abbrev Orc := Nat → Fg
def kx0 : KX := fun _ _ _ => false
def spE (S : Nat → Addr) (n : Nat) (g : Fg) : Sp := fun vs H Q E => ∃ (β : Bt) (ρ : List Addr) (h : Hc) (cs : List CV) (k : KV) (kx : KX), Rep S β ρ h H ∧ RelL S β ρ cs vs ∧ cs.length = n ∧ g cs h k kx = true ∧ KOk S (RelC S β) β ρ H k Q ∧ XOk S β ρ H kx E
def spN (S : Nat → Addr) (n : Nat) (g : Fg) : Sp := fun vs H Q _ => ∃ (β : Bt) (ρ : List Addr) (h : Hc) (cs : List CV) (k : KV), Rep S β ρ h H ∧ RelL S β ρ cs vs ∧ cs.length = n ∧ g cs h k kx0 = true ∧ KOk S (RelC S β) β ρ H k Q
def E0 : XK := fun _ _ _ => False
def Prm (S : Nat → Addr) (E : XK) (g : Fg) (sp : Sp) (E' : XK) : Prop := ∀ (β : Bt) (ρ : List Addr) (H : Hp) (h : Hc) (cs : List CV) (vs : List V) (k : KV) (kx : KX) (Q : VK), Rep S β ρ h H → RelL S β ρ cs vs → g cs h k kx = true → KOk S (RelC S β) β ρ H k Q → XOk S β ρ H kx E → sp vs H Q E'
def gE (C : Orc) (i n : Nat) : Fg := fun cs h k kx => match Nat.beq (lenL cs) n with
  | true => C i cs h k kx
  | false => false
def gN (C : Orc) (i n : Nat) : Fg := fun cs h k _ => match Nat.beq (lenL cs) n with
  | true => C i cs h k kx0
  | false => false
theorem prm_E {C : Orc} {i n : Nat} : Prm S E (gE C i n) (spE S n (C i)) E := fun β ρ H h cs vs k kx Q R r e ok ox => by
  unfold gE at e
  split at e
  · rename_i hl
    exact ⟨β, ρ, h, cs, k, kx, R, r, by rw [← lenL_eq]; exact Nat.eq_of_beq_eq_true hl, e, ok, ox⟩
  · cases e
theorem prm_N {C : Orc} {i n : Nat} {E' : XK} : Prm S E (gN C i n) (spN S n (C i)) E' := fun β ρ H h cs vs k kx Q R r e ok ox => by
  unfold gN at e
  split at e
  · rename_i hl
    exact ⟨β, ρ, h, cs, k, R, r, by rw [← lenL_eq]; exact Nat.eq_of_beq_eq_true hl, e, ok⟩
  · cases e
/-! ### calls -/
def xCall (g : Fg) (r : EvA) : Ev := fun σ h k kx => r σ h (fun vs h1 => g vs h1 k kx) kx
variable {CX : CXT} {k : Nat} {f C : Addr} {fd : FuncData} {ps : List Str} {sp : Sp} {dvs : List V} {ds : List Value} {E' : XK} {x m : Str} {p apos : Pos} {e o : Expr} {es : List Expr} {er : EvA} {g : Fg} {eo : Ev}
theorem relL_app {β : Bt} {ρ : List Addr} : ∀ {cs ds : List CV} {vs ws : List V}, RelL S β ρ cs vs → RelL S β ρ ds ws → RelL S β ρ (cs ++ ds) (vs ++ ws)
  | _, _, _, _, .nil, q => q
  | _, _, _, _, .cons r t, q => .cons r (relL_app t q)
def gD (dcs : List CV) (g : Fg) : Fg := fun cs h k kx => g (cs ++ dcs) h k kx
theorem snd_call {t : TA} (P : Prm S E g sp E') (s : Snd S (RA S) E er t) : Snd S (RV S) E (xCall g er) (tCall sp [] E' t) := fun β ρ H h σc σ k kx Q R rs e ok ox => s β ρ H h σc σ _ kx _ R rs e (fun xs h1 ρ1 H1 vs m1 R1 r1 e1 => by
  rw [List.append_nil]
  exact P β ρ1 H1 h1 xs vs k kx _ R1 r1 e1 (ok.mv m1) (ox.mv m1)) ox
theorem q_call (P : Prm S E g sp E') (F : FnOk X.prog X.w X.K X.mg X.base CX k f fd ps sp) (hr : Room k X.A) (hg : Gl X x) (hm : X.mg x = some (.ref f)) (hk : PySem.W.keepIn X.K (.ref f) = true) (hb : Binds X.K fd ps []) (hx : Passes CX X E')
    (ha : QA S X E (e :: es) er) (hdb : (x == ("__debug__" : Str)) = false := by decide) (he : starEach (e :: es) X.env = (false, eval e X.env) :: starEach es X.env := by rfl) (hpl : (backTo pos (starEach es X.env)).any (·.1) = false := by rfl) :
    QE S X E (.Call (.Name x p) (e :: es) [] pos) (xCall g er) := qe_of (pe_call F hr hg hm hk hb .nil hx ha hdb he hpl) (snd_call P snd_tev)
theorem snd_nil : Snd S (RA S) E xNil tNil := fun β ρ H h σc σ k kx Q R rs e ok ox => ok [] h ρ H [] (.refl _ _) R .nil e
theorem q_call0 (P : Prm S E g sp E') (F : FnOk X.prog X.w X.K X.mg X.base CX k f fd ps sp) (hr : Room k X.A) (hg : Gl X x) (hm : X.mg x = some (.ref f)) (hk : PySem.W.keepIn X.K (.ref f) = true) (hb : Binds X.K fd ps []) (hx : Passes CX X E')
    (hdb : (x == ("__debug__" : Str)) = false := by decide) : QE S X E (.Call (.Name x p) [] [] pos) (xCall g xNil) := qe_of (pe_call0 F hr hg hm hk hb .nil hx hdb) (snd_call P snd_nil)
/-- C(..) -/
def xMake (ci : Nat) (g : Fg) (r : EvA) : Ev := fun σ h k kx => r σ h (fun vs h1 => match Nat.blt h1.n 16000 with
  | true => g (.ref h1.n :: vs) (h1.push (.ins ci [])) (fun v h2 => match v with
    | .non => k (.ref h1.n) h2
    | _ => false) kx
  | false => false) kx
theorem snd_make {ci : Nat} {t : TA} {dcs : List CV} (hd : ∀ β ρ, RelL S β ρ dcs dvs) (P : Prm S E g sp E') (s : Snd S (RA S) E er t) : Snd S (RV S) E (xMake ci (gD dcs g) er) (tMake (S ci) sp dvs E' t) := fun β ρ H h σc σ k kx Q R rs e ok ox => s β ρ H h σc σ _ kx _ R rs e (fun xs h1 ρ1 H1 vs m1 R1 r1 e1 => by
  intro x dx hx hdx hne
  split at e1
  · rename_i hn
    obtain ⟨R2, m2⟩ := R1.other (p := dx) (o := .own x) hdx
    obtain ⟨R3, m3, r3⟩ := R2.push (p := x) (co := .ins ci []) (o := .ins (S ci) dx []) (by rw [upd_ne (Ne.symm hne)]; exact hx) ⟨dx, [], rfl, .nil⟩ (Nat.lt_of_succ_le (Nat.le_of_ble_eq_true hn))
    have m := m2.trans m3
    refine P β _ _ _ (.ref h1.n :: (xs ++ dcs)) (.ref x :: (vs ++ dvs)) _ kx _ R3 (.cons r3 (relL_app (RelL.mv r1 m) (hd _ _))) e1 (fun v h2 ρ2 H2 w mv R4 r4 e4 => ?_) (ox.mv (m1.trans m))
    split at e4
    · exact ⟨r4, ok _ h2 ρ2 H2 _ ((m1.trans m).trans mv) R4 (r3.mv mv) e4⟩
    · cases e4
  · cases e1) ox
theorem q_make {ci : Nat} {dcs : List CV} (hd : ∀ β ρ, RelL S β ρ dcs dvs) (P : Prm S E g sp E') (M : Mk X.K (S ci) f) (F : FnOk X.prog X.w X.K X.mg X.base CX k f fd ps sp) (hr : Room (k + 1) X.A) (hg : Gl X x) (hm : X.mg x = some (.ref (S ci))) (hb : Binds X.K fd ps ds) (hdv : Vals dvs ds) (hx : Passes CX X E')
    (ha : QA S X E (e :: es) er) (hdb : (x == ("__debug__" : Str)) = false := by decide) (he : starEach (e :: es) X.env = (false, eval e X.env) :: starEach es X.env := by rfl) (hpl : (backTo pos (starEach es X.env)).any (·.1) = false := by rfl) :
    QE S X E (.Call (.Name x p) (e :: es) [] pos) (xMake ci (gD dcs g) er) := qe_of (pe_make M F hr hg hm hb hdv hx ha hdb he hpl) (snd_make hd P snd_tev)
/-! methods, by the receiver's class -/
def tMD (G : Addr → Addr → Sp → Prop) (m : Str) (E : XK) (ta : TE) (t : TA) : TE := fun σ H Q => ta σ H fun x H1 => ∃ a C dx fs f sp, x = .ref a ∧ H1 a = some (.ins C dx fs) ∧ fs.lookup m = none ∧ G C f sp ∧ t σ H1 fun vs H2 => sp (x :: vs) H2 Q E
def MG (X : Cx) (CX : CXT) (k : Nat) (m : Str) (G : Addr → Addr → Sp → Prop) : Prop := ∀ C f sp, G C f sp → Cls X.K C ∧ Meth X.K C m f ∧ ∃ fd ps, FnOk X.prog X.w X.K X.mg X.base CX k f fd ps sp ∧ Binds X.K fd ps []
theorem pe_methD {G : Addr → Addr → Sp → Prop} {ta : TE} {t : TA} {pl : Sem Bool} (he : PE X o ta) (hG : MG X CX k m G) (hr : Room k X.A) (hx : Passes CX X E') (ha : PA X (e :: es) t)
    (hst : starEach (e :: es) X.env = (false, eval e X.env) :: starEach es X.env := by rfl) (hpl : (backTo pos (starEach es X.env)).any (·.1) = false := by rfl)
    (ht : eval (.Call (.Attribute o m apos) (e :: es) [] pos) X.env = (do
      let ov ← eval o X.env
      standAt apos.atName
      let (f, first) ← holding [ov] (getMethod ov m pl)
      callWith pos f first (backTo pos (starEach (e :: es) X.env)) (backToKw pos (keywordEach [] X.env))) := by rfl) :
    PE X (.Call (.Attribute o m apos) (e :: es) [] pos) (tMD G m E' ta t) := by
  refine ⟨fun pins s σ H Q I h => ?_⟩
  refine PySem.W.methodCall_KW (pl := pl) (thn (he.run pins s σ H _ I h) fun u s1 ⟨x, H1, I1, rx, a, C, dx, fs, f, sp, ex, ea, l, hg, q⟩ => ?_) ht
  obtain ⟨c, hm, fd, ps, F, hb⟩ := hG C f sp hg
  subst ex
  obtain rfl : u = Value.ref a := rx
  refine getmeth_ok I1 ea c hm l ?_
  refine PySem.W.callWith_K (first := [.ref a]) (h₀ := X.base) I.ok.mod.kin hm.kp (thn (ha.run pos pins s1 σ H1 _ I1 q) fun us s2 ⟨vs, H2, I2, r, q2⟩ => ⟨I2.kIn, ?_⟩) hst hpl
  exact run_fn (dvs := []) (us := .ref a :: us) (vs := .ref a :: vs) F hr hb .nil hx I2 (.cons rfl r) (by rw [List.append_nil]; exact q2)
theorem pe_methD0 {G : Addr → Addr → Sp → Prop} {ta : TE} {pl : Sem Bool} (he : PE X o ta) (hG : MG X CX k m G) (hr : Room k X.A) (hx : Passes CX X E')
    (ht : eval (.Call (.Attribute o m apos) [] [] pos) X.env = (do
      let ov ← eval o X.env
      standAt apos.atName
      let (f, first) ← holding [ov] (getMethod ov m pl)
      callWith pos f first (backTo pos (starEach [] X.env)) (backToKw pos (keywordEach [] X.env))) := by rfl) :
    PE X (.Call (.Attribute o m apos) [] [] pos) (tMD G m E' ta tNil) := by
  refine ⟨fun pins s σ H Q I h => ?_⟩
  refine PySem.W.methodCall_KW (pl := pl) (thn (he.run pins s σ H _ I h) fun u s1 ⟨x, H1, I1, rx, a, C, dx, fs, f, sp, ex, ea, l, hg, q⟩ => ?_) ht
  obtain ⟨c, hm, fd, ps, F, hb⟩ := hG C f sp hg
  subst ex
  obtain rfl : u = Value.ref a := rx
  refine getmeth_ok I1 ea c hm l ?_
  exact PySem.W.callWith_K0 (first := [.ref a]) I1.kIn hm.kp (run_fn (dvs := []) (us := [.ref a]) (vs := [.ref a]) F hr hb .nil hx I1 (.cons rfl .nil) q)
/-- tb: the methods by class; gs: how a run of one goes -/
def xMeth (m : Nat) (tb : List (Nat × Nat)) (gs : Nat → Fg) (o : Ev) (r : EvA) : Ev := fun σ h k kx => o σ h (fun x h1 => match x with
  | .ref i => match h1.get i with
    | some (.ins C fs) => match findN C tb with
      | some j => match lookN m fs with
        | none => r σ h1 (fun vs h2 => gs j (.ref i :: vs) h2 k kx) kx
        | some _ => false
      | none => false
    | _ => false
  | _ => false) kx
def GT (S : Nat → Addr) (tb : List (Nat × Nat)) (sps : Nat → Sp) : Addr → Addr → Sp → Prop := fun C f sp => ∃ c j, findN c tb = some j ∧ C = S c ∧ f = S j ∧ sp = sps j
theorem snd_meth {mk : Nat} {tb : List (Nat × Nat)} {gs : Nat → Fg} {sps : Nat → Sp} {ta : TE} {t : TA} (hk : okT mk = true) (P : ∀ j, Prm S E (gs j) (sps j) E') (so : Snd S (RV S) E eo ta) (s : Snd S (RA S) E er t) : Snd S (RV S) E (xMeth mk tb gs eo er) (tMD (GT S tb sps) (tx mk) E' ta t) := fun β ρ H h σc σ k kx Q R rs e ok ox => so β ρ H h σc σ _ kx _ R rs e (fun x h1 ρ1 H1 v m1 R1 r1 e1 => by
  cases x with
  | ref i =>
    dsimp only at e1
    split at e1
    · rename_i C fs hg
      split at e1
      · rename_i j hj
        split at e1
        · rename_i hl
          obtain ⟨a', ho, ev, ea', eh, dx, vs, rfl, pf⟩ := R1.at r1 hg
          refine ⟨a', S C, dx, vs, S j, sps j, ev, eh, (lookN_ok hk pf).2 hl, ⟨C, j, hj, rfl, rfl, rfl⟩, ?_⟩
          refine s β ρ1 H1 h1 σc σ _ kx _ R1 (rs.mv m1) e1 (fun xs h2 ρ2 H2 ws m2 R2 r2 e2 => ?_) (ox.mv m1)
          exact P j β ρ2 H2 h2 _ _ k kx _ R2 (.cons (r1.mv m2) r2) e2 (ok.mv (m1.trans m2)) (ox.mv (m1.trans m2))
        · cases e1
      · cases e1
    · cases e1
  | _ => cases e1) ox
theorem mg_of {tb : List (Nat × Nat)} {sps : Nat → Sp} (h : AllP tb fun c j => Cls X.K (S c) ∧ Meth X.K (S c) m (S j) ∧ ∃ fd ps, FnOk X.prog X.w X.K X.mg X.base CX k (S j) fd ps (sps j) ∧ Binds X.K fd ps []) : MG X CX k m (GT S tb sps) := by
  rintro C f sp ⟨c, j, e, rfl, rfl, rfl⟩
  exact h.at e
theorem q_meth {mk : Nat} {tb : List (Nat × Nat)} {gs : Nat → Fg} {sps : Nat → Sp} {pl : Sem Bool} (hk : okT mk = true) (hs : tx mk = m) (P : ∀ j, Prm S E (gs j) (sps j) E') (ho : QE S X E o eo) (hG : AllP tb fun c j => Cls X.K (S c) ∧ Meth X.K (S c) m (S j) ∧ ∃ fd ps, FnOk X.prog X.w X.K X.mg X.base CX k (S j) fd ps (sps j) ∧ Binds X.K fd ps []) (hr : Room k X.A) (hx : Passes CX X E') (ha : QA S X E (e :: es) er)
    (hst : starEach (e :: es) X.env = (false, eval e X.env) :: starEach es X.env := by rfl) (hpl : (backTo pos (starEach es X.env)).any (·.1) = false := by rfl)
    (ht : eval (.Call (.Attribute o m apos) (e :: es) [] pos) X.env = (do
      let ov ← eval o X.env
      standAt apos.atName
      let (f, first) ← holding [ov] (getMethod ov m pl)
      callWith pos f first (backTo pos (starEach (e :: es) X.env)) (backToKw pos (keywordEach [] X.env))) := by rfl) :
    QE S X E (.Call (.Attribute o m apos) (e :: es) [] pos) (xMeth mk tb gs eo er) := by
  subst hs
  exact qe_of (pe_methD (pl := pl) ho (mg_of hG) hr hx ha hst hpl ht) (snd_meth hk P snd_tev snd_tev)
theorem q_meth0 {mk : Nat} {tb : List (Nat × Nat)} {gs : Nat → Fg} {sps : Nat → Sp} {pl : Sem Bool} (hk : okT mk = true) (hs : tx mk = m) (P : ∀ j, Prm S E (gs j) (sps j) E') (ho : QE S X E o eo) (hG : AllP tb fun c j => Cls X.K (S c) ∧ Meth X.K (S c) m (S j) ∧ ∃ fd ps, FnOk X.prog X.w X.K X.mg X.base CX k (S j) fd ps (sps j) ∧ Binds X.K fd ps []) (hr : Room k X.A) (hx : Passes CX X E')
    (ht : eval (.Call (.Attribute o m apos) [] [] pos) X.env = (do
      let ov ← eval o X.env
      standAt apos.atName
      let (f, first) ← holding [ov] (getMethod ov m pl)
      callWith pos f first (backTo pos (starEach [] X.env)) (backToKw pos (keywordEach [] X.env))) := by rfl) :
    QE S X E (.Call (.Attribute o m apos) [] [] pos) (xMeth mk tb gs eo xNil) := by
  subst hs
  exact qe_of (pe_methD0 (pl := pl) ho (mg_of hG) hr hx ht) (snd_meth hk P snd_tev snd_nil)
/-! a local name that holds a def -/
def tCallD (i : Nat) (G : Addr → Sp → Prop) (E : XK) (t : TA) : TE := fun σ H Q => ∃ f sp, σ[i]? = some (some (.ref f)) ∧ G f sp ∧ t σ H fun vs H1 => sp vs H1 Q E
theorem pe_callD {i : Nat} {G : Addr → Sp → Prop} {t : TA} (hG : ∀ f sp, G f sp → PySem.W.keepIn X.K (.ref f) = true ∧ ∃ fd ps, FnOk X.prog X.w X.K X.mg X.base CX k f fd ps sp ∧ Binds X.K fd ps []) (hr : Room k X.A) (hN : X.N[i]? = some x) (hv : Vis X.env.scope x) (hx : Passes CX X E') (ha : PA X (e :: es) t)
    (hdb : (x == ("__debug__" : Str)) = false := by decide) (hcd : (x == ("__classdict__" : Str)) = false := by decide)
    (he : starEach (e :: es) X.env = (false, eval e X.env) :: starEach es X.env := by rfl) (hpl : (backTo pos (starEach es X.env)).any (·.1) = false := by rfl) : PE X (.Call (.Name x p) (e :: es) [] pos) (tCallD i G E' t) := by
  refine ⟨fun pins s σ H Q I ⟨f, sp, hs, hg, ht⟩ => ?_⟩
  obtain ⟨hk, fd, ps, F, hb⟩ := hG f sp hg
  refine (pe_callL (i := i) (f := f) (sp := sp) (dvs := []) (E := E') F hr hN hv hk hb .nil hx ha hdb hcd he hpl).run pins s σ H Q I ⟨hs, ?_⟩
  have e0 : (fun (vs : List V) (H1 : Hp) => sp (vs ++ []) H1 Q E') = fun vs H1 => sp vs H1 Q E' := by
    funext vs H1
    rw [List.append_nil]
  show t σ H (fun vs H1 => sp (vs ++ []) H1 Q E')
  rw [e0]
  exact ht
def xCallL (i : Nat) (fs : List Nat) (gs : Nat → Fg) (r : EvA) : Ev := fun σ h k kx => match nth σ i with
  | some (some (.st j)) => match memN j fs with
    | true => r σ h (fun vs h1 => gs j vs h1 k kx) kx
    | false => false
  | _ => false
theorem q_callL {i : Nat} {fs : List Nat} {gs : Nat → Fg} {sps : Nat → Sp} (P : ∀ j, Prm S E (gs j) (sps j) E') (hG : AllC fs fun j => PySem.W.keepIn X.K (.ref (S j)) = true ∧ ∃ fd ps, FnOk X.prog X.w X.K X.mg X.base CX k (S j) fd ps (sps j) ∧ Binds X.K fd ps []) (hr : Room k X.A) (hN : X.N[i]? = some x) (hv : Vis X.env.scope x) (hx : Passes CX X E') (ha : QA S X E (e :: es) er)
    (hdb : (x == ("__debug__" : Str)) = false := by decide) (hcd : (x == ("__classdict__" : Str)) = false := by decide)
    (he : starEach (e :: es) X.env = (false, eval e X.env) :: starEach es X.env := by rfl) (hpl : (backTo pos (starEach es X.env)).any (·.1) = false := by rfl) : QE S X E (.Call (.Name x p) (e :: es) [] pos) (xCallL i fs gs er) :=
  qe_of (pe_callD (G := fun f sp => ∃ j, memN j fs = true ∧ f = S j ∧ sp = sps j) (by rintro f sp ⟨j, e, rfl, rfl⟩; exact hG.at e) hr hN hv hx ha hdb hcd he hpl) fun β ρ H h σc σ k kx Q R rs e ok ox => by
    unfold xCallL at e
    rw [nth_eq] at e
    split at e
    · rename_i j hj
      split at e
      · rename_i hm
        obtain ⟨b, hb, q⟩ := paired_get rs hj
        obtain ⟨y, rfl, r⟩ := q _ rfl
        have r : y = .ref (S j) := r
        subst r
        exact ⟨S j, sps j, hb, ⟨j, hm, rfl, rfl⟩, snd_tev β ρ H h σc σ _ kx _ R rs e (fun xs h1 ρ1 H1 vs m1 R1 r1 e1 => P j β ρ1 H1 h1 xs vs k kx _ R1 r1 e1 (ok.mv m1) (ox.mv m1)) ox⟩
      · cases e
    · cases e
end
end
end Rn
namespace Rn
open PySem PySem.Spec PyProof.Rows L2 TL
set_option autoImplicit false
noncomputable section
/-! ### statements -/
section
variable {S : Nat → Addr} {X : Cx} {E : XK} {a b e : Expr} {ea eb ee : Ev} {pos : Pos} {st : Stmt} {rest : List Stmt} {es er : EvS} {et : EvT}
def xSeq (a b : EvS) : EvS := fun σ h nx rt bk ct kx => a σ h (fun σ1 h1 => b σ1 h1 nx rt bk ct kx) rt bk ct kx
def xNx : EvS := fun σ h nx _ _ _ _ => nx σ h
theorem s_nil : QSs S X E [] xNx := qss_of pss_nil fun β ρ H h σc σ nx rt bk ct kx D R rs e a b c d f => a σc h ρ H σ (.refl _ _) R rs e
theorem s_cons (h1 : QS S X E st es) (h2 : QSs S X E rest er) : QSs S X E (st :: rest) (xSeq es er) := qss_of (pss_cons h1 h2) fun β ρ H h σc σ nx rt bk ct kx D R rs e a b c d f =>
  snd_tevS β ρ H h σc σ _ rt bk ct kx { D with nx := TevS S E er D } R rs e (fun σ1 h1 ρ1 H1 σ' m R1 r1 e1 => snd_tevS β ρ1 H1 h1 σ1 σ' nx rt bk ct kx D R1 r1 e1 (a.mv m) (b.mv m) (c.mv m) (d.mv m) (f.mv m)) b c d f
theorem s_one (h1 : QS S X E st es) : QSs S X E [st] es := qss_of (pss_one h1) snd_tevS
theorem s_pass : QS S X E (.Pass pos) xNx := qs_of ps_pass fun β ρ H h σc σ nx rt bk ct kx D R rs e a b c d f => a σc h ρ H σ (.refl _ _) R rs e
def xNo : EvS := fun _ _ _ _ _ _ _ => false
theorem s_no : QS S X E st xNo := qs_of ps_never fun β ρ H h σc σ nx rt bk ct kx D R rs e a b c d f => by cases e
theorem ss_no {sts : List Stmt} : QSs S X E sts xNo := qss_of pss_never fun β ρ H h σc σ nx rt bk ct kx D R rs e a b c d f => by cases e
def xeNo : Ev := fun _ _ _ _ => false
theorem q_no : QE S X E e xeNo := qe_of (t := fun _ _ _ => False) ⟨fun _ _ _ _ _ _ h => h.elim⟩ fun β ρ H h σc σ k kx Q R rs e ok ox => by cases e
def xDrop (a : Ev) : EvS := fun σ h nx _ _ _ kx => a σ h (fun _ h1 => nx σ h1) kx
theorem s_expr (he : QE S X E e ee) (hs : swapsWith e none pos.line X.env = pure false := by rfl) : QS S X E (.Expr e pos) (xDrop ee) := qs_of (ps_expr he hs) fun β ρ H h σc σ nx rt bk ct kx D R rs e a b c d f =>
  snd_tev β ρ H h σc σ _ kx _ R rs e (fun x h1 ρ1 H1 v m1 R1 r1 e1 => a σc h1 ρ1 H1 σ m1 R1 (rs.mv m1) e1) f
def xRet (a : Ev) : EvS := fun σ h _ rt _ _ kx => a σ h rt kx
theorem s_ret (he : QE S X E e ee) : QS S X E (.Return (some e) pos) (xRet ee) := qs_of (ps_ret he) fun β ρ H h σc σ nx rt bk ct kx D R rs e a b c d f => snd_tev β ρ H h σc σ _ kx _ R rs e b f
def xRetN : EvS := fun _ h _ rt _ _ _ => rt .non h
theorem s_retN : QS S X E (.Return none pos) xRetN := qs_of ps_retN fun β ρ H h σc σ nx rt bk ct kx D R rs e a b c d f => b .non h ρ H .non (.refl _ _) R rfl e
def xIfS (c : EvT) (a b : EvS) : EvS := fun σ h nx rt bk ct kx => c σ h (fun x h1 => match x with
  | true => a σ h1 nx rt bk ct kx
  | false => b σ h1 nx rt bk ct kx) kx
theorem s_if {c : Expr} {as bs : List Stmt} (hc : QT S X E c et) (ha : QSs S X E as es) (hb : QSs S X E bs er) : QS S X E (.If c as bs pos) (xIfS et es er) := qs_of (ps_if hc ha hb) fun β ρ H h σc σ nx rt bk ct kx D R rs e a b c d f =>
  snd_tev β ρ H h σc σ _ kx _ R rs e (fun x h1 ρ1 H1 v m1 R1 r1 e1 => by
    cases r1
    cases x with
    | true => exact snd_tevS β ρ1 H1 h1 σc σ nx rt bk ct kx D R1 (rs.mv m1) e1 (a.mv m1) (b.mv m1) (c.mv m1) (d.mv m1) (f.mv m1)
    | false => exact snd_tevS β ρ1 H1 h1 σc σ nx rt bk ct kx D R1 (rs.mv m1) e1 (a.mv m1) (b.mv m1) (c.mv m1) (d.mv m1) (f.mv m1)) f
def xSet (i : Nat) (a : Ev) : EvS := fun σ h nx _ _ _ kx => a σ h (fun x h1 => nx (setS σ i x) h1) kx
theorem snd_set {i : Nat} {te : TE} (s : Snd S (RV S) E ee te) : SndS S E (xSet i ee) (tAsg te (gName i)) := fun β ρ H h σc σ nx rt bk ct kx D R rs e a b c d f =>
  s β ρ H h σc σ _ kx _ R rs e (fun x h1 ρ1 H1 v m1 R1 r1 e1 => a _ h1 ρ1 H1 _ m1 R1 (relS_set r1 i (rs.mv m1)) e1) f
theorem s_set {i : Nat} {x : Str} {pos' : Pos} (hN : X.N.Nodup) (hi : X.N[i]? = some x) (hx : Loc X.env.scope x) (he : QE S X E e ee) (hs : swapsWith e (some (.Name x pos')) pos.line X.env = pure false := by rfl) (hf : X.fn x = true ∨ X.env.scope.names.lookup x = some .local := by first | exact .inl rfl | exact .inr rfl | assumption) :
    QS S X E (.Assign [.Name x pos'] e pos) (xSet i ee) := qs_of (ps_set hN hi hx he hs hf) (snd_set snd_tev)
/-! fields -/
def xFldS (cs : List Nat) (f : Nat) (o a : Ev) : EvS := fun σ h nx _ _ _ kx => a σ h (fun y h1 => o σ h1 (fun x h2 => match x with
  | .ref i => match h2.get i with
    | some (.ins C fs) => match memN C cs with
      | true => match Nat.blt i 16000 with
        | true => match Nat.ble (lenL fs) 100 with
          | true => nx σ (h2.set i (.ins C (putN f y fs)))
          | false => false
        | false => false
      | false => false
    | _ => false
  | _ => false) kx) kx
theorem ins_ne {C : Nat} {fs : List (Nat × CV)} : CO.ins C fs ≠ .gone := fun e => by cases e
theorem lst_ne {xs : List CV} : CO.lst xs ≠ .gone := fun e => by cases e
theorem dct_ne {xs : List (Nat × CV)} : CO.dct xs ≠ .gone := fun e => by cases e
theorem s_fld {f : Nat} {s : Str} {cs : List Nat} {o value : Expr} {eo ev : Ev} {pos' : Pos} (hf : okT f = true) (hsf : tx f = s) (hc : FldOk X.K S f cs) (ho : QE S X E o eo) (hv : QE S X E value ev) (hs : swapsWith value (some (.Attribute o s pos')) pos.line X.env = pure false) :
    QS S X E (.Assign [.Attribute o s pos'] value pos) (xFldS cs f eo ev) := by
  subst hsf
  refine qs_of (ps_fld ho hv hs) fun β ρ H h σc σ nx rt bk ct kx D R rs e a b c d g => snd_tev β ρ H h σc σ _ kx _ R rs e (fun y h1 ρ1 H1 v m1 R1 r1 e1 => snd_tev β ρ1 H1 h1 σc σ _ kx _ R1 (rs.mv m1) e1 (fun x h2 ρ2 H2 w m2 R2 r2 e2 => ?_) (g.mv m1)) g
  cases x with
  | ref i =>
    dsimp only at e2
    split at e2
    · rename_i C fs hg
      split at e2
      · rename_i hm
        split at e2
        · rename_i hi
          split at e2
          · rename_i hl
            obtain ⟨a', ho', rfl, ea', eh, dx, vs, rfl, pf⟩ := R2.at r2 hg
            obtain ⟨c1, c2⟩ := hc.at hm
            have hlen : vs.length < 1000 := by
              rw [← paired_len pf, ← lenL_eq]
              exact Nat.lt_of_le_of_lt (Nat.le_of_ble_eq_true hl) (by decide)
            refine ⟨a', S C, dx, vs, rfl, eh, c1, c2, hlen, ?_⟩
            obtain ⟨R3, m3⟩ := R2.set (co := .ins C (putN f y fs)) (o := .ins (S C) dx (putF (tx f) v vs)) (Nat.lt_of_succ_le (Nat.le_of_ble_eq_true hi)) hg ins_ne ea' ⟨dx, _, rfl, putN_ok hf (r1.mv m2) pf⟩
            exact a _ _ ρ2 _ σ ((m1.trans m2).trans m3) R3 (rs.mv ((m1.trans m2).trans m3)) e2
          · cases e2
        · cases e2
      · cases e2
    · cases e2
  | _ => cases e2
/-- o.f += value -/
def xFldA (cs : List Nat) (f : Nat) (op : FO) (o a : Ev) : EvS := fun σ h nx _ _ _ kx => o σ h (fun x h1 => match x with
  | .ref i => match h1.get i with
    | some (.ins C fs) => match memN C cs with
      | true => match lookN f fs with
        | some v => a σ h1 (fun y h2 => op v y h2 (fun z h3 => match h3.get i with
          | some (.ins C' fs') => match Nat.beq C' C with
            | true => match Nat.blt i 16000 with
              | true => match Nat.ble (lenL fs') 100 with
                | true => nx σ (h3.set i (.ins C' (putN f z fs')))
                | false => false
              | false => false
            | false => false
          | _ => false)) kx
        | none => false
      | false => false
    | _ => false
  | _ => false) kx
theorem s_fldA {f : Nat} {s : Str} {cs : List Nat} {o value : Expr} {eo ev : Ev} {tpos : Pos} {op : Operator} {fo : FO} {rd : V → V → Hp → VK → Prop} (hf : okT f = true) (hsf : tx f = s) (hc : FldOk X.K S f cs) (hop : InOp X op rd) (so : SOp S fo rd) (ho : QE S X E o eo) (hv : QE S X E value ev) :
    QS S X E (.AugAssign (.Attribute o s tpos) op value pos) (xFldA cs f fo eo ev) := by
  subst hsf
  refine qs_of (ps_fldaug ho hv hop) fun β ρ H h σc σ nx rt bk ct kx D R rs e a b c d g => snd_tev β ρ H h σc σ _ kx _ R rs e (fun x h1 ρ1 H1 v m1 R1 r1 e1 => ?_) g
  cases x with
  | ref i =>
    dsimp only at e1
    split at e1
    · rename_i C fs hg
      split at e1
      · rename_i hm
        split at e1
        · rename_i cv hl
          obtain ⟨a', ho', rfl, ea', eh, dx, vs, rfl, pf⟩ := R1.at r1 hg
          obtain ⟨c1, c2⟩ := hc.at hm
          obtain ⟨u, el, ru⟩ := (lookN_ok hf pf).1 cv hl
          refine ⟨a', S C, dx, vs, u, rfl, eh, c1, c2, el, ?_⟩
          refine snd_tev β ρ1 H1 h1 σc σ _ kx _ R1 (rs.mv m1) e1 (fun y h2 ρ2 H2 w m2 R2 r2 e2 => ?_) (g.mv m1)
          refine so β ρ2 H2 h2 cv y u w _ _ R2 (ru.mv m2) r2 e2 (fun z h3 ρ3 H3 zz m3 R3 r3 e3 => ?_)
          split at e3
          · rename_i C' fs' hg'
            split at e3
            · rename_i hCC
              have hCC := Nat.eq_of_beq_eq_true hCC
              subst hCC
              split at e3
              · rename_i hi
                split at e3
                · rename_i hll
                  obtain ⟨a2, ho2, q2, ea2, eh2, dx2, vs2, rfl, pf2⟩ := R3.at ((r1.mv m2).mv m3) hg'
                  cases q2
                  have hlen : vs2.length < 1000 := by
                    rw [← paired_len pf2, ← lenL_eq]
                    exact Nat.lt_of_le_of_lt (Nat.le_of_ble_eq_true hll) (by decide)
                  refine ⟨dx2, vs2, eh2, hlen, ?_⟩
                  obtain ⟨R4, m4⟩ := R3.set (co := .ins C' (putN f z fs')) (o := .ins (S C') dx2 (putF (tx f) zz vs2)) (Nat.lt_of_succ_le (Nat.le_of_ble_eq_true hi)) hg' ins_ne ea2 ⟨dx2, _, rfl, putN_ok hf r3 pf2⟩
                  exact a _ _ ρ3 _ σ (((m1.trans m2).trans m3).trans m4) R4 (rs.mv (((m1.trans m2).trans m3).trans m4)) e3
                · cases e3
              · cases e3
            · cases e3
          · cases e3
        · cases e1
      · cases e1
    · cases e1
  | _ => cases e1
/-- name += value -/
def xAug (i : Nat) (op : FO) (a : Ev) : EvS := fun σ h nx _ _ _ kx => match nth σ i with
  | some (some x) => a σ h (fun y h1 => op x y h1 (fun z h2 => nx (setS σ i z) h2)) kx
  | _ => false
theorem s_aug {i : Nat} {x : Str} {op : Operator} {fo : FO} {ti : TIp} {pos' : Pos} (so : SOp S fo ti) (hN : X.N.Nodup) (hi : X.N[i]? = some x) (hx : Loc X.env.scope x) (he : QE S X E e ee) (ho : PIp X op ti) (hf : X.fn x = true ∨ X.env.scope.names.lookup x = some .local := by first | exact .inl rfl | exact .inr rfl | assumption) :
    QS S X E (.AugAssign (.Name x pos') op e pos) (xAug i fo ee) := qs_of (ps_aug hN hi hx he ho hf) fun β ρ H h σc σ nx rt bk ct kx D R rs e a b c d f => by
  unfold xAug at e
  rw [nth_eq] at e
  split at e
  · rename_i v hv
    obtain ⟨bb, hb, q⟩ := paired_get rs hv
    obtain ⟨y, rfl, r⟩ := q v rfl
    refine ⟨y, hb, snd_tev β ρ H h σc σ _ kx _ R rs e (fun w h1 ρ1 H1 ww m1 R1 r1 e1 => ?_) f⟩
    exact so β ρ1 H1 h1 v w y ww _ _ R1 (r.mv m1) r1 e1 (fun z h2 ρ2 H2 zz m2 R2 r2 e2 => a _ h2 ρ2 H2 _ (m1.trans m2) R2 (relS_set r2 i (rs.mv (m1.trans m2))) e2)
  · cases e
/-! while -/
def wLoop (c : EvT) (b : EvS) (f : Nat) : Sg → Hc → KS → KV → KX → Bool := Nat.rec (motive := fun _ => Sg → Hc → KS → KV → KX → Bool) (fun _ _ _ _ _ => false)
  (fun _ go σ h nx rt kx => c σ h (fun x h1 => match x with
    | true => b σ h1 (fun σ1 h2 => go σ1 h2 nx rt kx) rt nx (fun σ1 h2 => go σ1 h2 nx rt kx) kx
    | false => nx σ h1) kx) f
def xWhile (f : Nat) (c : EvT) (b : EvS) : EvS := fun σ h nx rt _ _ kx => wLoop c b f σ h nx rt kx
theorem s_while {c : Expr} {body : List Stmt} (f : Nat) (hp : PassesOwn (model X.prog X.w) X.A X.env X.xe) (hc : QT S X E c et) (hb : QSs S X E body es) : QS S X E (.While c body [] pos) (xWhile f et es) := qs_of (ps_while hp hc hb) fun β ρ H h σc σ nx rt bk ct kx D R rs e a b c d g => by
  refine ⟨fun m σ' H' => ∃ (ρ' : List Addr) (h' : Hc) (σc' : Sg), Mv β ρ H ρ' H' ∧ Rep S β ρ' h' H' ∧ RelS S β ρ' σc' σ' ∧ wLoop et es m σc' h' nx rt kx = true, ⟨f, ρ, h, σc, .refl _ _, R, rs, e⟩, ?_⟩
  rintro m σ' H' ⟨ρ', h', σc', mv, R', rs', e'⟩
  cases m with
  | zero => cases e'
  | succ m =>
    refine snd_tev β ρ' H' h' σc' σ' _ kx _ R' rs' e' (fun x h1 ρ1 H1 v m1 R1 r1 e1 => ?_) (g.mv mv)
    cases r1
    have mm := mv.trans m1
    cases x with
    | true =>
      refine ⟨fun σ2 H2 => ∃ m', m' < m + 1 ∧ ∃ (ρ' : List Addr) (h' : Hc) (σc' : Sg), Mv β ρ H ρ' H2 ∧ Rep S β ρ' h' H2 ∧ RelS S β ρ' σc' σ2 ∧ wLoop et es m' σc' h' nx rt kx = true, fun _ _ z => z, ?_⟩
      have again : KSk S β ρ1 H1 (fun σ1 h2 => wLoop et es m σ1 h2 nx rt kx) (fun σ2 H2 => ∃ m', m' < m + 1 ∧ ∃ (ρ' : List Addr) (h' : Hc) (σc' : Sg), Mv β ρ H ρ' H2 ∧ Rep S β ρ' h' H2 ∧ RelS S β ρ' σc' σ2 ∧ wLoop et es m' σc' h' nx rt kx = true) :=
        fun σc2 h2 ρ2 H2 σ2 m2 R2 r2 e2 => ⟨m, Nat.lt_succ_self _, ρ2, h2, σc2, mm.trans m2, R2, r2, e2⟩
      exact snd_tevS β ρ1 H1 h1 σc' σ' _ rt nx _ kx { D with nx := _, ct := _, bk := D.nx } R1 (rs'.mv m1) e1 again (b.mv mm) (a.mv mm) again (g.mv mm)
    | false => exact a σc' h1 ρ1 H1 σ' mm R1 (rs'.mv m1) e1
end
/-! ### targets -/
abbrev EvG := CV → Sg → Hc → KS → Bool
abbrev EvGs := List CV → Sg → Hc → KS → Bool
theorem wipe_at {σ : L2.St} : ∀ (vs : List Nat) (j : Nat), (wipe σ vs)[j]? = if j ∈ vs then (if j < σ.length then some none else none) else σ[j]?
  | [], j => by simp [wipe]
  | v :: vs, j => by
    unfold wipe
    by_cases h : v = j
    · subst h
      by_cases hl : v < σ.length
      · rw [List.getElem?_set_self (by rw [wipe_length]; exact hl)]
        simp [hl]
      · rw [List.getElem?_eq_none_iff.mpr (by rw [List.length_set, wipe_length]; omega)]
        simp [hl]
    · rw [List.getElem?_set_ne h, wipe_at vs j]
      have : j ≠ v := fun e => h e.symm
      simp [this]
theorem wipe_set {σ : L2.St} {i : Nat} {x : Option V} {vs : List Nat} (h : i ∈ vs) : wipe (σ.set i x) vs = wipe σ vs := by
  refine List.ext_getElem? fun j => ?_
  rw [wipe_at, wipe_at, List.length_set]
  by_cases hj : j ∈ vs
  · rw [if_pos hj, if_pos hj]
  · rw [if_neg hj, if_neg hj, List.getElem?_set_ne (fun e => hj (by rw [← e]; exact h))]
def SndG (S : Nat → Addr) (gs : List Nat) (eg : EvG) (g : TG) : Prop := ∀ (β : Bt) (ρ : List Addr) (H : Hp) (h : Hc) (σc : Sg) (σ : L2.St) (c : CV) (v : V) (nx : KS) (N : L2.St → Hp → Prop), Rep S β ρ h H → RelS S β ρ σc σ → RelC S β ρ c v → eg c σc h nx = true →
  (∀ (σc' : Sg) (h' : Hc) (ρ' : List Addr) (H' : Hp) (σ' : L2.St), Mv β ρ H ρ' H' → Rep S β ρ' h' H' → RelS S β ρ' σc' σ' → (∀ vs, (∀ i ∈ gs, i ∈ vs) → wipe σ' vs = wipe σ vs) → nx σc' h' = true → N σ' H') → g v σ H N
def SndGs (S : Nat → Addr) (gs : List Nat) (eg : EvGs) (g : TGs) : Prop := ∀ (β : Bt) (ρ : List Addr) (H : Hp) (h : Hc) (σc : Sg) (σ : L2.St) (c : List CV) (v : List V) (nx : KS) (N : L2.St → Hp → Prop), Rep S β ρ h H → RelS S β ρ σc σ → RelL S β ρ c v → eg c σc h nx = true →
  (∀ (σc' : Sg) (h' : Hc) (ρ' : List Addr) (H' : Hp) (σ' : L2.St), Mv β ρ H ρ' H' → Rep S β ρ' h' H' → RelS S β ρ' σc' σ' → (∀ vs, (∀ i ∈ gs, i ∈ vs) → wipe σ' vs = wipe σ vs) → nx σc' h' = true → N σ' H') → g v σ H N
def yName (i : Nat) : EvG := fun c σ h nx => nx (setS σ i c) h
def yNil : EvGs := fun cs σ h nx => match cs with
  | [] => nx σ h
  | _ => false
def yCons (a : EvG) (r : EvGs) : EvGs := fun cs σ h nx => match cs with
  | [] => false
  | c :: t => a c σ h (fun σ1 h1 => r t σ1 h1 nx)
def yTup (n : Nat) (r : EvGs) : EvG := fun c σ h nx => match c with
  | .ref i => match h.get i with
    | some (.tup cs) => match Nat.beq (lenL cs) n with
      | true => r cs σ h nx
      | false => false
    | _ => false
  | _ => false
section
variable {S : Nat → Addr} {K : PySem.W.Frag}
theorem g_name (i : Nat) : SndG S [i] (yName i) (gName i) := fun β ρ H h σc σ c v nx N R rs r e k => k _ h ρ H _ (.refl _ _) R (relS_set r i rs) (fun vs hv => wipe_set (hv i (List.mem_singleton.mpr rfl))) e
theorem g_nil : SndGs S [] yNil gNil := fun β ρ H h σc σ c v nx N R rs r e k => by
  cases r with
  | nil => exact ⟨rfl, k _ h ρ H _ (.refl _ _) R rs (fun _ _ => rfl) e⟩
  | cons _ _ => cases e
theorem g_cons {gs gr : List Nat} {eg : EvG} {er : EvGs} {g : TG} {r : TGs} (a : SndG S gs eg g) (b : SndGs S gr er r) : SndGs S (gs ++ gr) (yCons eg er) (gCons g r) := fun β ρ H h σc σ c v nx N R rs rl e k => by
  cases rl with
  | nil => cases e
  | cons q t =>
    refine ⟨_, _, rfl, a β ρ H h σc σ _ _ _ _ R rs q e fun σ1 h1 ρ1 H1 σ' m1 R1 r1 w1 e1 => b β ρ1 H1 h1 σ1 σ' _ _ nx _ R1 r1 (RelL.mv t m1) e1 fun σ2 h2 ρ2 H2 σ'' m2 R2 r2 w2 e2 => k σ2 h2 ρ2 H2 σ'' (m1.trans m2) R2 r2 (fun vs hv => ?_) e2⟩
    rw [w2 vs fun i hi => hv i (List.mem_append_right _ hi), w1 vs fun i hi => hv i (List.mem_append_left _ hi)]
theorem g_tup {gs : List Nat} {n : Nat} {er : EvGs} {r : TGs} (b : SndGs S gs er r) : SndG S gs (yTup n er) (gTup K n r) := fun β ρ H h σc σ c v nx N R rs rl e k => by
  cases c with
  | ref i =>
    have e : (match h.get i with
      | some (.tup cs) => match Nat.beq (lenL cs) n with
        | true => er cs σc h nx
        | false => false
      | _ => false) = true := e
    split at e
    · rename_i cs hg
      split at e
      · rename_i hl
        obtain ⟨a', ho, rfl, ea', eh, vs, rfl, pf⟩ := R.at rl hg
        refine ⟨a', vs, rfl, SqT.of eh, ?_, b β ρ H h σc σ cs vs nx N R rs pf e k⟩
        rw [← paired_len pf, ← lenL_eq]
        exact Nat.eq_of_beq_eq_true hl
      · cases e
    · cases e
  | _ => cases e
end
/-! ### what is walked -/
def seqK (SQ : Nat → Option (List CV)) (b : Bool) (c : CV) (h : Hc) : Option (List CV) := match b, c with
  | false, .ref i => match h.get i with
    | some (.lst xs) => some xs
    | _ => none
  | true, .ref i => match h.get i with
    | some (.tup xs) => some xs
    | _ => none
  | true, .st k => SQ k
  | _, _ => none
def kindK (c : CV) (h : Hc) : Option Bool := match c with
  | .ref i => match h.get i with
    | some (.lst _) => some false
    | some (.tup _) => some true
    | _ => none
  | .st _ => some true
  | _ => none
def StaOk (K : PySem.W.Frag) (S : Nat → Addr) (SQ : Nat → Option (List CV)) : Prop := ∀ k cs, SQ k = some cs → ∃ vs, (∀ H, SqT K H (S k) vs) ∧ ∀ β ρ, RelL S β ρ cs vs
section
variable {S : Nat → Addr} {K : PySem.W.Frag} {SQ : Nat → Option (List CV)} {β : Bt} {ρ : List Addr} {H : Hp} {h : Hc}
theorem seqK_ok (T : StaOk K S SQ) (R : Rep S β ρ h H) {b : Bool} {c : CV} {v : V} {cs : List CV} (r : RelC S β ρ c v) (e : seqK SQ b c h = some cs) : ∃ a vs, v = .ref a ∧ RelL S β ρ cs vs ∧ (b = false → SqL K H a vs) ∧ (b = true → SqT K H a vs) := by
  cases c with
  | ref i =>
    cases b with
    | false =>
      have e : (match h.get i with
        | some (.lst xs) => some xs
        | _ => none) = some cs := e
      split at e
      · rename_i xs hg
        cases e
        obtain ⟨a', ho, rfl, ea', eh, vs, rfl, pf⟩ := R.at r hg
        exact ⟨a', vs, rfl, pf, fun _ => SqL.of eh, fun e => by cases e⟩
      · cases e
    | true =>
      have e : (match h.get i with
        | some (.tup xs) => some xs
        | _ => none) = some cs := e
      split at e
      · rename_i xs hg
        cases e
        obtain ⟨a', ho, rfl, ea', eh, vs, rfl, pf⟩ := R.at r hg
        exact ⟨a', vs, rfl, pf, (fun e => by cases e), fun _ => SqT.of eh⟩
      · cases e
  | st k =>
    cases b with
    | false => cases e
    | true =>
      obtain ⟨vs, h1, h2⟩ := T k cs e
      exact ⟨S k, vs, r, h2 _ _, (fun e => by cases e), fun _ => h1 H⟩
  | _ => cases b <;> cases e
end
def iSeq (K : PySem.W.Frag) (tl : TE) : TI := fun σ H R => tl σ H fun x H1 => ∃ a, x = .ref a ∧ (((∃ xs, SqL K H1 a xs) ∧ R (Itl K a) H1) ∨ ((∃ xs, SqT K H1 a xs) ∧ R (Itt K a) H1))
theorem pi_seq {X : Cx} {tg l : Expr} {tl : TE} (hl : PE X l tl) : PI X tg l (iSeq X.K tl) := by
  refine ⟨fun pins s σ H R I h => ?_⟩
  refine thn (hl.run pins s σ H _ I h) fun v s1 ⟨x, H1, I1, r1, a, e, q⟩ => ?_
  subst e
  cases r1
  rcases q with ⟨⟨xs, hq⟩, q⟩ | ⟨⟨xs, hq⟩, q⟩
  · obtain ⟨its, rv, p, hz⟩ := I1.list hq
    refine wpAny_pyIter_list p.isList ?_
    refine ⟨s1.heap.objs.size, [s1.heap.objs.size], _, _, H1, rfl, I1.kept (t' := s1.toks) fun b o e => Heap.get?_push_of_some _ e, turn_list a _, ⟨_, Heap.get?_push_size _ rfl, rfl, rfl⟩, fun b hb => ?_, q⟩
    have e : b = s1.heap.objs.size := by simpa using hb
    subst e
    exact I1.fpOk (Nat.le_refl _) (I1.hok.fresh (Nat.le_refl _))
  · obtain ⟨its, rv, p, hz⟩ := I1.tuple hq
    refine wpAny_pyIter_tuple (show s1.heap.IsTuple a its.toArray from p) ?_
    refine ⟨s1.heap.objs.size, [s1.heap.objs.size], _, _, H1, rfl, I1.kept (t' := s1.toks) fun b o e => Heap.get?_push_of_some _ e, turn_tuple a _, ⟨_, Heap.get?_push_size _ rfl, rfl, rfl⟩, fun b hb => ?_, q⟩
    have e : b = s1.heap.objs.size := by simpa using hb
    subst e
    exact I1.fpOk (Nat.le_refl _) (I1.hok.fresh (Nat.le_refl _))
end
end Rn
namespace Rn
open PySem PySem.Spec PyProof.Rows L2 TL
set_option autoImplicit false
noncomputable section
/-! ### for over a list or a tuple -/
def fLoop (SQ : Nat → Option (List CV)) (b : Bool) (c : CV) (eg : EvG) (eb : EvS) (f : Nat) : Nat → Sg → Hc → KS → KV → KX → Bool := Nat.rec (motive := fun _ => Nat → Sg → Hc → KS → KV → KX → Bool) (fun _ _ _ _ _ _ => false)
  (fun _ go i σ h nx rt kx => match seqK SQ b c h with
    | none => false
    | some cs => match nth cs i with
      | none => nx σ h
      | some x => eg x σ h (fun σ1 h1 => eb σ1 h1 (fun σ2 h2 => go (i + 1) σ2 h2 nx rt kx) rt nx (fun σ2 h2 => go (i + 1) σ2 h2 nx rt kx) kx)) f
def xFor (f : Nat) (SQ : Nat → Option (List CV)) (ei : Ev) (eg : EvG) (eb : EvS) : EvS := fun σ h nx rt _ _ kx => ei σ h (fun c h1 => match kindK c h1 with
  | some b => fLoop SQ b c eg eb f 0 σ h1 nx rt kx
  | none => false) kx
section
variable {S : Nat → Addr} {X : Cx} {E : XK} {a b e iter tg : Expr} {ea eb ei : Ev} {pos : Pos} {body : List Stmt} {es er : EvS} {et : EvT} {SQ : Nat → Option (List CV)} {eg : EvG} {g : TG} {gs : List Nat}
theorem kind_seq (T : StaOk X.K S SQ) {β : Bt} {ρ : List Addr} {H : Hp} {h : Hc} {c : CV} {v : V} {bb : Bool} (R : Rep S β ρ h H) (r : RelC S β ρ c v) (e : kindK c h = some bb) {cs : List CV} (es : seqK SQ bb c h = some cs) {R' : It → Hp → Prop} (q : ∀ J, (∃ a, v = .ref a ∧ ((bb = false ∧ J = Itl X.K a) ∨ (bb = true ∧ J = Itt X.K a))) → R' J H) :
    ∃ a, v = .ref a ∧ (((∃ xs, SqL X.K H a xs) ∧ R' (Itl X.K a) H) ∨ ((∃ xs, SqT X.K H a xs) ∧ R' (Itt X.K a) H)) := by
  obtain ⟨a, vs, rfl, _, h1, h2⟩ := seqK_ok T R r es
  cases bb with
  | false => exact ⟨a, rfl, .inl ⟨⟨vs, h1 rfl⟩, q _ ⟨a, rfl, .inl ⟨rfl, rfl⟩⟩⟩⟩
  | true => exact ⟨a, rfl, .inr ⟨⟨vs, h2 rfl⟩, q _ ⟨a, rfl, .inr ⟨rfl, rfl⟩⟩⟩⟩
/-- what a turn meets -/
theorem turn_it (T : StaOk X.K S SQ) {β : Bt} {ρ : List Addr} {H : Hp} {h : Hc} {c : CV} {v : V} {bb : Bool} {J : It} (R : Rep S β ρ h H) (r : RelC S β ρ c v) (hJ : ∃ a, v = .ref a ∧ ((bb = false ∧ J = Itl X.K a) ∨ (bb = true ∧ J = Itt X.K a))) {cs : List CV} (es : seqK SQ bb c h = some cs) (i : Nat) :
    (nth cs i = none → J.stop i H) ∧ ∀ x, nth cs i = some x → J.go i H ∧ ∀ y H', J.yld i H y H' → H' = H ∧ RelC S β ρ x y := by
  obtain ⟨a, vs, rfl, rl, h1, h2⟩ := seqK_ok T R r es
  have hl := paired_len rl
  rw [nth_eq]
  obtain ⟨a', e, q⟩ := hJ
  cases e
  rcases q with ⟨rfl, rfl⟩ | ⟨rfl, rfl⟩
  · have hs := h1 rfl
    refine ⟨fun z => ⟨vs, hs, ?_⟩, fun x z => ?_⟩
    · have := List.getElem?_eq_none_iff.mp z
      omega
    · obtain ⟨y, hy, ry⟩ := paired_get rl z
      refine ⟨⟨vs, y, hs, hy⟩, fun y' H' ⟨e1, e2⟩ => ⟨e1, ?_⟩⟩
      have := e2 vs hs
      rw [hy] at this
      cases this
      exact ry
  · have hs := h2 rfl
    refine ⟨fun z => ⟨vs, hs, ?_⟩, fun x z => ?_⟩
    · have := List.getElem?_eq_none_iff.mp z
      omega
    · obtain ⟨y, hy, ry⟩ := paired_get rl z
      refine ⟨⟨vs, y, hs, hy⟩, fun y' H' ⟨e1, e2⟩ => ⟨e1, ?_⟩⟩
      have := e2 vs hs
      rw [hy] at this
      cases this
      exact ry
theorem seqK_congr {bb : Bool} {i : Nat} {h h' : Hc} (e : h.get i = h'.get i) : seqK SQ bb (.ref i) h = seqK SQ bb (.ref i) h' := by
  cases bb with
  | false =>
    show (match h.get i with
      | some (.lst xs) => some xs
      | _ => none) = (match h'.get i with
      | some (.lst xs) => some xs
      | _ => none)
    rw [e]
  | true =>
    show (match h.get i with
      | some (.tup xs) => some xs
      | _ => none) = (match h'.get i with
      | some (.tup xs) => some xs
      | _ => none)
    rw [e]
def ForQ (J : It) (g : TG) (tb : TS) (D : Ends) (σ : L2.St) (H1 : Hp) : Prop := ∃ W : Nat → Nat → L2.St → Hp → Prop, (∃ m, W 0 m σ H1) ∧ ∀ i m σ H, W i m σ H →
  (J.stop i H ∧ D.nx σ H) ∨ (J.go i H ∧ ∃ N : L2.St → Hp → Prop, (∀ σ' H', N σ' H' → ∃ m', m' < m ∧ W (i + 1) m' σ' H') ∧ ∀ x H', J.yld i H x H' → g x σ H' fun σ2 H2 => tb { D with nx := N, ct := N, bk := D.nx } σ2 H2)
def LcQ (J : It) (g : TG) (tt : TT) (te : TE) (vs : List Nat) (σ : L2.St) (Q : VK) (H1 : Hp) : Prop := ∀ D, H1 D = none → ∃ W : Nat → Nat → Hp → Prop, (∃ m, W 0 m (upd H1 D (.lst []))) ∧ ∀ i m H, W i m H →
  (J.stop i H ∧ Q (.ref D) H) ∨ (J.go i H ∧ ∃ Nx : Hp → Prop, (∀ H', Nx H' → ∃ m', m' < m ∧ W (i + 1) m' H') ∧ ∀ x H', J.yld i H x H' → g x (wipe σ vs) H' fun σ2 H2 => wipe σ2 vs = wipe σ vs ∧ tt σ2 H2 fun b H3 =>
    if b = true then te σ2 H3 fun y H4 => ∃ acc, H4 D = some (.lst acc) ∧ acc.length < sizeLine ∧ Nx (upd H4 D (.lst (acc ++ [y]))) else Nx H3)
theorem fLoop_seq {bb : Bool} {c : CV} {f i : Nat} {σ : Sg} {h : Hc} {nx : KS} {rt : KV} {kx : KX} (e : fLoop SQ bb c eg es f i σ h nx rt kx = true) : ∃ cs, seqK SQ bb c h = some cs := by
  cases f with
  | zero => cases e
  | succ f =>
    have e : (match seqK SQ bb c h with
      | none => false
      | some cs => match nth cs i with
        | none => nx σ h
        | some x => eg x σ h (fun σ1 h1 => es σ1 h1 (fun σ2 h2 => fLoop SQ bb c eg es f (i + 1) σ2 h2 nx rt kx) rt nx (fun σ2 h2 => fLoop SQ bb c eg es f (i + 1) σ2 h2 nx rt kx) kx)) = true := e
    split at e
    · cases e
    · rename_i cs q
      exact ⟨cs, q⟩
theorem s_for (f : Nat) (T : StaOk X.K S SQ) (hp : PassesOwn (model X.prog X.w) X.A X.env X.xe) (hc : X.calm = true) (hi : QE S X E iter ei) (hg : PG X tg g) (sg : SndG S gs eg g) (hb : QSs S X E body es) (hs : ∀ x, foldedSetIterable iter X.env x = pure x := by intro _; rfl) :
    QS S X E (.For tg iter body [] pos) (xFor f SQ ei eg es) := qs_of (ps_for hp hc (pi_seq hi) hg hb hs) fun β ρ H h σc σ nx rt bk ct kx D R rs e a b c d k => by
  refine snd_tev β ρ H h σc σ _ kx _ R rs e (fun cc h1 ρ1 H1 v m1 R1 r1 e1 => ?_) k
  split at e1
  · rename_i bb hk
    obtain ⟨cs, hcs⟩ := fLoop_seq e1
    refine kind_seq (R' := fun J H1 => ForQ J g (TevS S E es) D σ H1) T R1 r1 hk hcs fun J hJ => ?_
    refine ⟨fun i m σ' H' => ∃ (ρ' : List Addr) (h' : Hc) (σc' : Sg), Mv β ρ1 H1 ρ' H' ∧ Rep S β ρ' h' H' ∧ RelS S β ρ' σc' σ' ∧ fLoop SQ bb cc eg es m i σc' h' nx rt kx = true, ⟨f, ρ1, h1, σc, .refl _ _, R1, rs.mv m1, e1⟩, ?_⟩
    rintro i m σ' H' ⟨ρ', h', σc', mv, R', rs', e'⟩
    cases m with
    | zero => cases e'
    | succ m =>
      have e' : (match seqK SQ bb cc h' with
        | none => false
        | some cs => match nth cs i with
          | none => nx σc' h'
          | some x => eg x σc' h' (fun σ1 h1 => es σ1 h1 (fun σ2 h2 => fLoop SQ bb cc eg es m (i + 1) σ2 h2 nx rt kx) rt nx (fun σ2 h2 => fLoop SQ bb cc eg es m (i + 1) σ2 h2 nx rt kx) kx)) = true := e'
      split at e'
      · cases e'
      · rename_i cs' hcs'
        obtain ⟨t1, t2⟩ := turn_it T R' (r1.mv mv) hJ hcs' i
        have mm := m1.trans mv
        split at e'
        · rename_i hn
          exact .inl ⟨t1 hn, a σc' h' ρ' H' σ' mm R' rs' e'⟩
        · rename_i x hn
          obtain ⟨g1, g2⟩ := t2 x hn
          refine .inr ⟨g1, fun σ2 H2 => ∃ m', m' < m + 1 ∧ ∃ (ρ' : List Addr) (h' : Hc) (σc' : Sg), Mv β ρ1 H1 ρ' H2 ∧ Rep S β ρ' h' H2 ∧ RelS S β ρ' σc' σ2 ∧ fLoop SQ bb cc eg es m' (i + 1) σc' h' nx rt kx = true, fun _ _ z => z, fun y H'' hy => ?_⟩
          obtain ⟨rfl, ry⟩ := g2 y H'' hy
          refine sg β ρ' _ h' σc' σ' x y _ _ R' rs' ry e' fun σ1 h2 ρ2 H2 σ2 m2 R2 r2 _ e2 => ?_
          have mm2 := mm.trans m2
          have again : KSk S β ρ2 H2 (fun σ1 h2 => fLoop SQ bb cc eg es m (i + 1) σ1 h2 nx rt kx) (fun σ2 H2 => ∃ m', m' < m + 1 ∧ ∃ (ρ' : List Addr) (h' : Hc) (σc' : Sg), Mv β ρ1 H1 ρ' H2 ∧ Rep S β ρ' h' H2 ∧ RelS S β ρ' σc' σ2 ∧ fLoop SQ bb cc eg es m' (i + 1) σc' h' nx rt kx = true) :=
            fun σc3 h3 ρ3 H3 σ3 m3 R3 r3 e3 => ⟨m, Nat.lt_succ_self _, ρ3, h3, σc3, (mv.trans m2).trans m3, R3, r3, e3⟩
          exact snd_tevS β ρ2 H2 h2 σ1 σ2 _ rt nx _ kx { D with nx := _, ct := _, bk := D.nx } R2 r2 e2 again (b.mv mm2) (a.mv mm2) again (k.mv mm2)
  · cases e1
/-! ### list comprehensions -/
def wipeC (σ : Sg) (vs : List Nat) : Sg := List.rec (motive := fun _ => Sg) σ (fun v _ go => List.rec (motive := fun _ => Nat → Sg) (fun _ => []) (fun a r ih n => Nat.rec (motive := fun _ => Sg) (none :: r) (fun m _ => a :: ih m) n) go v) vs
def noneAt (σ : Sg) : Nat → Sg := List.rec (motive := fun _ => Nat → Sg) (fun _ => []) (fun a r ih n => Nat.rec (motive := fun _ => Sg) (none :: r) (fun m _ => a :: ih m) n) σ
theorem rel_noneAt {β : Bt} {ρ : List Addr} : ∀ {σc : Sg} {σ : L2.St} (i : Nat), RelS S β ρ σc σ → RelS S β ρ (noneAt σc i) (σ.set i none)
  | _, _, _, .nil => .nil
  | _, _, 0, .cons q t => .cons (fun x e => by cases e) t
  | _, _, i + 1, .cons q t => .cons q (rel_noneAt i t)
theorem rel_wipe {β : Bt} {ρ : List Addr} {σc : Sg} {σ : L2.St} (r : RelS S β ρ σc σ) : ∀ vs, RelS S β ρ (wipeC σc vs) (wipe σ vs)
  | [] => r
  | v :: vs => rel_noneAt v (rel_wipe r vs)
def cLoop (SQ : Nat → Option (List CV)) (b : Bool) (c : CV) (eg : EvG) (et : EvT) (ee : Ev) (d : Nat) (σ : Sg) (f : Nat) : Nat → Hc → KV → Bool := Nat.rec (motive := fun _ => Nat → Hc → KV → Bool) (fun _ _ _ => false)
  (fun _ go i h k => match seqK SQ b c h with
    | none => false
    | some cs => match nth cs i with
      | none => k (.ref d) h
      | some x => eg x σ h (fun σ1 h1 => et σ1 h1 (fun t h2 => match t with
        | true => ee σ1 h2 (fun y h3 => match h3.get d with
          | some (.lst acc) => match Nat.ble (lenL acc) 1000 with
            | true => go (i + 1) (h3.set d (.lst (acc ++ [y]))) k
            | false => false
          | _ => false) kx0
        | false => go (i + 1) h2 k) kx0)) f
def xLc (f : Nat) (SQ : Nat → Option (List CV)) (ei : Ev) (eg : EvG) (et : EvT) (ee : Ev) (vs : List Nat) : Ev := fun σ h k kx => ei σ h (fun c h1 => match kindK c h1 with
  | some b => match Nat.blt h1.n 16000 with
    | true => cLoop SQ b c eg et ee h1.n (wipeC σ vs) f 0 (h1.push (.lst [])) k
    | false => false
  | none => false) kx
theorem xok0 {β : Bt} {ρ : List Addr} {H : Hp} {E : XK} : XOk S β ρ H kx0 E := fun p s h' ρ' H' dd x _ _ _ _ _ e => by cases e
theorem cLoop_seq {bb : Bool} {c : CV} {ee : Ev} {d f i : Nat} {σ : Sg} {h : Hc} {k : KV} (e : cLoop SQ bb c eg et ee d σ f i h k = true) : ∃ cs, seqK SQ bb c h = some cs := by
  cases f with
  | zero => cases e
  | succ f =>
    have e : (match seqK SQ bb c h with
      | none => false
      | some cs => match nth cs i with
        | none => k (.ref d) h
        | some x => eg x σ h (fun σ1 h1 => et σ1 h1 (fun t h2 => match t with
          | true => ee σ1 h2 (fun y h3 => match h3.get d with
            | some (.lst acc) => match Nat.ble (lenL acc) 1000 with
              | true => cLoop SQ bb c eg et ee d σ f (i + 1) (h3.set d (.lst (acc ++ [y]))) k
              | false => false
            | _ => false) kx0
          | false => cLoop SQ bb c eg et ee d σ f (i + 1) h2 k) kx0)) = true := e
    split at e
    · cases e
    · rename_i cs q
      exact ⟨cs, q⟩
theorem snd_lc {f : Nat} {ee : Ev} {tt : TT} {te : TE} {vs : List Nat} (T : StaOk X.K S SQ) (sg : SndG S gs eg g) (hv : ∀ i ∈ gs, i ∈ vs) (st : Snd S RB E0 et tt) (se : Snd S (RV S) E0 ee te) : Snd S (RV S) E (xLc f SQ ei eg et ee vs) (tLc (iSeq X.K (Tev S (RV S) E ei)) g tt te vs) := fun β ρ H h σc σ k kx Q R rs e ok ox => by
  refine snd_tev β ρ H h σc σ _ kx _ R rs e (fun cc h1 ρ1 H1 v m1 R1 r1 e1 => ?_) ox
  split at e1
  · rename_i bb hk
    split at e1
    · rename_i hn
      have hn : h1.n < 16000 := Nat.lt_of_succ_le (Nat.le_of_ble_eq_true hn)
      have hcs0 : ∃ cs, seqK SQ bb cc h1 = some cs := by
        obtain ⟨cs, hcs⟩ := cLoop_seq e1
        -- the new list is another object
        cases cc with
        | ref i =>
          have hi : h1.get i = (h1.push (.lst [])).get i := by
            obtain ⟨a, ea, _⟩ := r1
            have hl := (List.getElem?_eq_some_iff.mp ea).1
            rw [push_get hn, if_neg (by rw [R1.sz] at hl; omega)]
          exact ⟨cs, (seqK_congr hi).trans hcs⟩
        | st n => cases bb <;> exact ⟨cs, hcs⟩
        | _ => cases bb <;> exact ⟨cs, hcs⟩
      obtain ⟨cs, hcs⟩ := hcs0
      refine kind_seq (R' := fun J H1 => LcQ J g tt te vs σ Q H1) T R1 r1 hk hcs fun J hJ D hD => ?_
      obtain ⟨R2, m2, r2⟩ := R1.push (p := D) (co := .lst []) (o := .lst []) hD ⟨[], rfl, .nil⟩ hn
      refine ⟨fun i m H' => ∃ (ρ' : List Addr) (h' : Hc), Mv β (ρ1 ++ [D]) (upd H1 D (.lst [])) ρ' H' ∧ Rep S β ρ' h' H' ∧ cLoop SQ bb cc eg et ee h1.n (wipeC σc vs) m i h' k = true, ⟨f, _, _, .refl _ _, R2, e1⟩, ?_⟩
      rintro i m H' ⟨ρ', h', mv, R', e'⟩
      cases m with
      | zero => cases e'
      | succ m =>
        have e' : (match seqK SQ bb cc h' with
          | none => false
          | some cs => match nth cs i with
            | none => k (.ref h1.n) h'
            | some x => eg x (wipeC σc vs) h' (fun σ1 h4 => et σ1 h4 (fun t h2 => match t with
              | true => ee σ1 h2 (fun y h3 => match h3.get h1.n with
                | some (.lst acc) => match Nat.ble (lenL acc) 1000 with
                  | true => cLoop SQ bb cc eg et ee h1.n (wipeC σc vs) m (i + 1) (h3.set h1.n (.lst (acc ++ [y]))) k
                  | false => false
                | _ => false) kx0
              | false => cLoop SQ bb cc eg et ee h1.n (wipeC σc vs) m (i + 1) h2 k) kx0)) = true := e'
        split at e'
        · cases e'
        · rename_i cs' hcs'
          have mm := m2.trans mv
          obtain ⟨t1, t2⟩ := turn_it T R' ((r1.mv m2).mv mv) hJ hcs' i
          split at e'
          · rename_i hnn
            exact .inl ⟨t1 hnn, ok _ h' ρ' H' _ (m1.trans mm) R' (r2.mv mv) e'⟩
          · rename_i x hnn
            obtain ⟨g1, g2⟩ := t2 x hnn
            refine .inr ⟨g1, fun H2 => ∃ m', m' < m + 1 ∧ ∃ (ρ' : List Addr) (h' : Hc), Mv β (ρ1 ++ [D]) (upd H1 D (.lst [])) ρ' H2 ∧ Rep S β ρ' h' H2 ∧ cLoop SQ bb cc eg et ee h1.n (wipeC σc vs) m' (i + 1) h' k = true, fun _ z => z, fun y H'' hy => ?_⟩
            obtain ⟨rfl, ry⟩ := g2 y H'' hy
            refine sg β ρ' _ h' _ (wipe σ vs) x y _ _ R' (rel_wipe (rs.mv (m1.trans mm)) vs) ry e' fun σ1 h4 ρ4 H4 σ4 m4 R4 r4 w4 e4 => ⟨?_, ?_⟩
            · have := w4 vs hv
              rw [this]
              refine List.ext_getElem? fun j => ?_
              rw [wipe_at, wipe_at]
              by_cases hj : j ∈ vs
              · rw [if_pos hj, if_pos hj, wipe_length]
              · simp [hj]
            · refine st β ρ4 H4 h4 σ1 σ4 _ kx0 _ R4 r4 e4 (fun t h5 ρ5 H5 bv m5 R5 r5 e5 => ?_) xok0
              cases r5
              have m45 := (mv.trans m4).trans m5
              cases t with
              | true =>
                refine se β ρ5 H5 h5 σ1 σ4 _ kx0 _ R5 (r4.mv m5) e5 (fun y h6 ρ6 H6 yv m6 R6 r6 e6 => ?_) xok0
                split at e6
                · rename_i acc hacc
                  split at e6
                  · rename_i hlen
                    have m46 := m45.trans m6
                    obtain ⟨a', ho, q1, ea', eh, ws, rfl, pf⟩ := R6.at (r2.mv m46) hacc
                    cases q1
                    refine ⟨ws, eh, ?_, m, Nat.lt_succ_self _, ?_⟩
                    · rw [← paired_len pf, ← lenL_eq]
                      have := line10 (n := 1000) (by decide)
                      have hs : sizeLine = 16777216 := sizeLine_eq
                      have := Nat.le_of_ble_eq_true hlen
                      omega
                    · obtain ⟨R7, m7⟩ := R6.set (co := .lst (acc ++ [y])) (o := .lst (ws ++ [yv])) hn hacc lst_ne ea' ⟨_, rfl, relL_app pf (.cons r6 .nil)⟩
                      exact ⟨ρ6, _, m46.trans m7, R7, e6⟩
                  · cases e6
                · cases e6
              | false => exact ⟨m, Nat.lt_succ_self _, ρ5, h5, m45, R5, e5⟩
    · cases e1
  · cases e1
end
end
end Rn
namespace Rn
open PySem PySem.Spec PyProof.Rows L2 TL
set_option autoImplicit false
noncomputable section
section
variable {S : Nat → Addr} {X : Cx} {E : XK} {a b e iter tg elt : Expr} {ea eb ei ee : Ev} {pos : Pos} {et : EvT} {SQ : Nat → Option (List CV)} {eg : EvG} {g : TG} {gs : List Nat}
/-! ### comprehensions, the rules -/
def xYes : EvT := fun _ h k _ => k true h
theorem snd_yes : Snd S RB E xYes tYes := fun β ρ H h σc σ k kx Q R rs e ok ox => ok true h ρ H true (.refl _ _) R rfl e
theorem q_lc {ifs : List Expr} {scope : Scope} {own : List (Str × Nat)} {vs : List Nat} {tt : TT} (f : Nat) (T : StaOk X.K S SQ) (hc : X.calm = true) (hN : X.N.Nodup) (hi : QE S X E iter ei) (ok : BlkOk X.N X.env.scope scope own) (hvs : own.map (·.2) = vs)
    (hg : ∀ (s : Shared) (H : Hp) (C : Addr) (cl : List (Str × Addr)) (fp : List Addr), PG (X.blk s H scope (compEnvC scope cl C X.env) fp) tg g) (sg : SndG S gs eg g) (hv : ∀ i ∈ gs, i ∈ vs)
    (ht : ∀ (s : Shared) (H : Hp) (C : Addr) (cl : List (Str × Addr)) (fp : List Addr), PTs (X.blk s H scope (compEnvC scope cl C X.env) fp) ifs tt) (st : Snd S RB E0 et tt)
    (he : ∀ (s : Shared) (H : Hp) (C : Addr) (cl : List (Str × Addr)) (fp : List Addr), QE S (X.blk s H scope (compEnvC scope cl C X.env) fp) E0 elt ee) (hs : ∀ x, foldedSetIterable iter X.env x = pure x := by intro _; rfl) :
    QE S X E (.ListComp elt [⟨tg, iter, ifs, 0⟩] scope pos) (xLc f SQ ei eg et ee vs) := by
  subst hvs
  exact qe_of (pe_lc hc hN (pi_seq hi) ok hg ht he hs) (snd_lc T sg hv st snd_tev)
theorem s_setLc {ifs : List Expr} {scope : Scope} {own : List (Str × Nat)} {vs : List Nat} {tt : TT} {i : Nat} {y : Str} {py spos : Pos} (f : Nat) (T : StaOk X.K S SQ) (hc : X.calm = true) (hN : X.N.Nodup) (hy : X.N[i]? = some y) (hyl : X.env.scope.names.lookup y = some .local)
    (hsw : swapsWith (.ListComp elt [⟨tg, iter, ifs, 0⟩] scope pos) (some (.Name y py)) spos.line X.env = pure true) (hi : QE S X E iter ei) (ok : BlkOk X.N X.env.scope scope own) (hvs : own.map (·.2) = vs)
    (hg : ∀ (s : Shared) (H : Hp) (C : Addr) (cl : List (Str × Addr)) (fp : List Addr), PG (X.blk s H scope (compEnvC scope cl C X.env) fp) tg g) (sg : SndG S gs eg g) (hv : ∀ i ∈ gs, i ∈ vs)
    (ht : ∀ (s : Shared) (H : Hp) (C : Addr) (cl : List (Str × Addr)) (fp : List Addr), PTs (X.blk s H scope (compEnvC scope cl C X.env) fp) ifs tt) (st : Snd S RB E0 et tt)
    (he : ∀ (s : Shared) (H : Hp) (C : Addr) (cl : List (Str × Addr)) (fp : List Addr), QE S (X.blk s H scope (compEnvC scope cl C X.env) fp) E0 elt ee) (hs : ∀ x, foldedSetIterable iter X.env x = pure x := by intro _; rfl) :
    QS S X E (.Assign [.Name y py] (.ListComp elt [⟨tg, iter, ifs, 0⟩] scope pos) spos) (xSet i (xLc f SQ ei eg et ee vs)) := by
  subst hvs
  exact qs_of (ps_setLc hc hN hy hyl hsw (pi_seq hi) ok hg ht he hs) (snd_set (snd_lc T sg hv st snd_tev))
/-! ### a tuple target -/
def xAsg (a : Ev) (g : EvG) : EvS := fun σ h nx _ _ _ kx => a σ h (fun x h1 => g x σ h1 nx) kx
theorem s_asg (he : QE S X E e ee) (hg : PG X tg g) (sg : SndG S gs eg g) (hs : swapsWithSole [tg] e pos.line X.env = pure false := by rfl) (hw : swappedStores [tg] e X.env = pure none := by rfl)
    (h1 : (assignEach [tg] X.env).map (·.2) = [assign tg X.env] := by rfl) : QS S X E (.Assign [tg] e pos) (xAsg ee eg) := qs_of (ps_asg he hg hs hw h1) fun β ρ H h σc σ nx rt bk ct kx D R rs e a b c d f =>
  snd_tev β ρ H h σc σ _ kx _ R rs e (fun x h1 ρ1 H1 v m1 R1 r1 e1 => sg β ρ1 H1 h1 σc σ x v nx _ R1 (rs.mv m1) r1 e1 fun σ2 h2 ρ2 H2 σ' m2 R2 r2 _ e2 => a σ2 h2 ρ2 H2 σ' (m1.trans m2) R2 r2 e2) f
/-! ### a fault is raised -/
theorem same_mv {β : Bt} {ρ : List Addr} {h : Hc} {H H' : Hp} (R : Rep S β ρ h H) (s : Same H H') : Rep S β ρ h H' ∧ Mv β ρ H ρ H' :=
  ⟨⟨R.nd, R.sz, R.lk, fun i a e => let ⟨co, ho, e1, e2, e3⟩ := R.ob i a e; ⟨co, ho, e1, s _ _ e2, e3⟩, R.up⟩, ⟨[], List.append_nil _⟩, fun b o n e => ⟨s _ _ e, n⟩, fun i _ a o _ e => s _ _ e⟩
def spFI (C : Addr) : Sp := fun vs H Q _ => ∃ (a : Addr) (x y : V), vs = [.ref a, x, y] ∧ H a = some (exo a C none) ∧ ∀ d, H d = none → d ≠ a → Q .non (upd (upd (upd H d (exd d [(("place" : Str), x)])) a (exo a C (some d))) d (exd d [(("reason" : Str), y), (("place" : Str), x)]))
theorem made_faultV {H : Hp} {a d C : Addr} {x y : V} (ha : H a = none) (hd : H d = none) (hda : d ≠ a) {fs gs : List (Str × V)} {o : HO} :
    Same H (upd (del (upd (upd (upd (upd H a (exo a C none)) d (exd d fs)) a (exo a C (some d))) d (exd d gs)) a) d o) := fun b u e => by
  have n1 := ne_of_none e ha
  have n2 := ne_of_none e hd
  rw [upd_ne n2, del_ne n1, upd_ne n2, upd_ne n1, upd_ne n2, upd_ne n1]
  exact e
def xRaise (r : EvA) : EvS := fun σ h _ _ _ _ kx => r σ h (fun vs h1 => match vs with
  | [p, .str s] => kx p s h1
  | _ => false) kx
theorem s_raise {st : Stmt} {er : EvA} (p : PS X st (fun _ σ H => tMkO (S 0) (spFI (S 0)) [] (Tev S (RA S) E er) σ H fun cls d H' => E cls d H')) : QS S X E st (xRaise er) := qs_of p fun β ρ H h σc σ nx rt bk ct kx D R rs e a b c d f =>
  snd_tev β ρ H h σc σ _ kx _ R rs e (fun xs h1 ρ1 H1 vs m1 R1 r1 e1 => by
    cases r1 with
    | nil => cases e1
    | @cons x1 v1 _ _ q1 t1 =>
      cases t1 with
      | nil => cases e1
      | @cons y v2 _ _ q2 t2 =>
        cases t2 with
        | nil =>
          cases y with
          | str s =>
            obtain ⟨e2, os⟩ := q2
            have e2 : v2 = .str (tx s) := e2
            subst e2
            refine ⟨(by show 2 ≤ 1000; decide), fun a ha => ⟨a, _, _, rfl, upd_same, fun d hd hda => ⟨rfl, d, _, (upd_ne hda.symm).trans upd_same, upd_same, (upd_ne hda).symm.trans hd, ?_⟩⟩⟩
            have sm := made_faultV (C := S 0) (x := .non) (y := .non) (fs := [(("place" : Str), v1)]) (gs := [(("reason" : Str), V.str (tx s)), (("place" : Str), v1)]) (o := .xd (fF v1 (tx s))) ha ((upd_ne hda).symm.trans hd) hda
            obtain ⟨R2, m2⟩ := same_mv R1 sm
            exact f _ s h1 ρ1 _ d _ (m1.trans m2) R2 q1 os upd_same e1
          | _ => cases e1
        | cons _ _ =>
          cases y <;> cases e1) f
/-! ### equality, order of plain values -/
def eqI (i j : Int) : Bool := match i, j with
  | .ofNat a, .ofNat b => Nat.beq a b
  | .negSucc a, .negSucc b => Nat.beq a b
  | _, _ => false
theorem eqI_ok (i j : Int) : eqI i j = decide (i = j) := by
  cases i with
  | ofNat a =>
    cases j with
    | ofNat b =>
      show Nat.beq a b = _
      by_cases h : a = b
      · subst h; simp
      · rw [beq_f h]; exact (decide_eq_false fun e => h (Int.ofNat.inj e)).symm
    | negSucc b => exact (decide_eq_false fun e => by cases e).symm
  | negSucc a =>
    cases j with
    | ofNat b => exact (decide_eq_false fun e => by cases e).symm
    | negSucc b =>
      show Nat.beq a b = _
      by_cases h : a = b
      · subst h; simp
      · rw [beq_f h]; exact (decide_eq_false fun e => h (Int.negSucc.inj e)).symm
def ltI (i j : Int) : Bool := match i, j with
  | .ofNat a, .ofNat b => Nat.blt a b
  | .negSucc a, .negSucc b => Nat.blt b a
  | .negSucc _, .ofNat _ => true
  | .ofNat _, .negSucc _ => false
theorem blt_ok (a b : Nat) : Nat.blt a b = decide (a < b) := by
  by_cases h : a < b
  · rw [decide_eq_true h]; exact Nat.ble_eq_true_of_le h
  · rw [decide_eq_false h]
    cases e : Nat.blt a b with
    | false => rfl
    | true => exact absurd (Nat.lt_of_succ_le (Nat.le_of_ble_eq_true e)) h
theorem ltI_ok (i j : Int) : ltI i j = decide (i < j) := by
  cases i with
  | ofNat a =>
    cases j with
    | ofNat b =>
      show Nat.blt a b = _
      rw [blt_ok]
      have e1 : (Int.ofNat a) = (a : Int) := rfl
      have e2 : (Int.ofNat b) = (b : Int) := rfl
      by_cases h : a < b
      · rw [decide_eq_true h, decide_eq_true (by omega)]
      · rw [decide_eq_false h, decide_eq_false (by omega)]
    | negSucc b => exact (decide_eq_false (by have : (Int.ofNat a) = (a : Int) := rfl; omega)).symm
  | negSucc a =>
    cases j with
    | ofNat b => exact (decide_eq_true (by have : (Int.ofNat b) = (b : Int) := rfl; omega)).symm
    | negSucc b =>
      show Nat.blt b a = _
      rw [blt_ok]
      by_cases h : b < a
      · rw [decide_eq_true h, decide_eq_true (by omega)]
      · rw [decide_eq_false h, decide_eq_false (by omega)]
def eqC (x y : CV) : Option Bool := match x, y with
  | .non, .non => some true
  | .non, .int _ => some false
  | .int _, .non => some false
  | .non, .pl _ => some false
  | .pl _, .non => some false
  | .non, .str _ => some false
  | .str _, .non => some false
  | .non, .bl _ => some false
  | .bl _, .non => some false
  | .int i, .int j => some (eqI i j)
  | .pl i, .pl j => some (Nat.beq i j)
  | .bl i, .bl j => some (match i, j with
    | true, true => true
    | false, false => true
    | _, _ => false)
  | .str i, .str j => some (Nat.beq i j)
  | .str _, .int _ => some false
  | .int _, .str _ => some false
  | .str _, .bl _ => some false
  | .bl _, .str _ => some false
  | _, _ => none
theorem eqC_ok {β : Bt} {ρ : List Addr} {x y : CV} {v w : V} {c : Bool} (r : RelC S β ρ x v) (q : RelC S β ρ y w) (e : eqC x y = some c) : scal v w = true ∧ decide (v = w) = c ∧ flatV v = true ∧ flatV w = true ∧ eqV v w = c := by
  cases x <;> cases y <;> first
    | cases e
    | skip
  case non.non => cases r; cases q; exact ⟨rfl, rfl, rfl, rfl, rfl⟩
  case non.bl => cases r; cases q; exact ⟨rfl, rfl, rfl, rfl, rfl⟩
  case non.int => cases r; cases q; exact ⟨rfl, rfl, rfl, rfl, rfl⟩
  case non.pl => cases r; cases q; exact ⟨rfl, rfl, rfl, rfl, rfl⟩
  case non.str => cases r; obtain ⟨rfl, _⟩ := q; exact ⟨rfl, rfl, rfl, rfl, rfl⟩
  case bl.non => cases r; cases q; exact ⟨rfl, rfl, rfl, rfl, rfl⟩
  case int.non => cases r; cases q; exact ⟨rfl, rfl, rfl, rfl, rfl⟩
  case pl.non => cases r; cases q; exact ⟨rfl, rfl, rfl, rfl, rfl⟩
  case str.non => cases q; obtain ⟨rfl, _⟩ := r; exact ⟨rfl, rfl, rfl, rfl, rfl⟩
  case bl.bl i j => cases r; cases q; cases i <;> cases j <;> exact ⟨rfl, rfl, rfl, rfl, rfl⟩
  case bl.str => cases r; obtain ⟨rfl, _⟩ := q; exact ⟨rfl, rfl, rfl, rfl, rfl⟩
  case str.bl => cases q; obtain ⟨rfl, _⟩ := r; exact ⟨rfl, rfl, rfl, rfl, rfl⟩
  case str.int => cases q; obtain ⟨rfl, _⟩ := r; exact ⟨rfl, rfl, rfl, rfl, rfl⟩
  case int.str => cases r; obtain ⟨rfl, _⟩ := q; exact ⟨rfl, rfl, rfl, rfl, rfl⟩
  case int.int i j =>
    cases r
    cases q
    refine ⟨rfl, ?_, rfl, rfl, ?_⟩
    · rw [dec_int, eqI_ok, Bool.beq_eq_decide_eq]
    · rw [eqI_ok]
      show (i == j) = _
      rw [Bool.beq_eq_decide_eq]
  case pl.pl i j =>
    have r : v = .int (β.β + i) := r
    have q : w = .int (β.β + j) := q
    subst r
    subst q
    have eq : ((β.β + (i : Int)) == (β.β + (j : Int))) = Nat.beq i j := by
      by_cases h : i = j
      · subst h; simp
      · rw [beq_f h]; exact beq_eq_false_iff_ne.mpr (by omega)
    refine ⟨rfl, ?_, rfl, rfl, eq⟩
    rw [dec_int]
    exact eq
  case str.str i j =>
    obtain ⟨e1, o1⟩ := r
    obtain ⟨e2, o2⟩ := q
    have e1 : v = .str (tx i) := e1
    have e2 : w = .str (tx j) := e2
    subst e1
    subst e2
    refine ⟨rfl, ?_, rfl, rfl, ?_⟩
    · rw [dec_str, beq_tx o1 o2]
    · exact beq_tx o1 o2
def oEq : FO := fun x y h k => match eqC x y with
  | some b => k (.bl b) h
  | none => false
def oNe : FO := fun x y h k => match eqC x y with
  | some b => k (.bl (!b)) h
  | none => false
theorem so_eq : SOp S oEq rEq := fun β ρ H h x y v w k Q R r q e ok => by
  unfold oEq at e
  split at e
  · rename_i b hb
    obtain ⟨h1, h2, _⟩ := eqC_ok r q hb
    exact ⟨h1, by rw [h2]; exact ok (.bl b) h ρ H _ (.refl _ _) R rfl e⟩
  · cases e
theorem so_ne : SOp S oNe rNe := fun β ρ H h x y v w k Q R r q e ok => by
  unfold oNe at e
  split at e
  · rename_i b hb
    obtain ⟨h1, h2, _⟩ := eqC_ok r q hb
    exact ⟨h1, by rw [h2]; exact ok (.bl (!b)) h ρ H _ (.refl _ _) R rfl e⟩
  · cases e
def oCmp (p : Int → Int → Bool) : FO := fun x y h k => match x, y with
  | .int i, .int j => k (.bl (p i j)) h
  | _, _ => false
theorem so_cmp {p p' : Int → Int → Bool} (hp : ∀ i j, p i j = p' i j) : SOp S (oCmp p) (rI0 fun i j => .bl (p' i j)) := fun β ρ H h x y v w k Q R r q e ok => by
  cases x <;> first
    | (cases y <;> first
      | (cases e; done)
      | (cases r; cases q; refine ⟨_, _, rfl, rfl, ?_⟩; show Q (.bl (p' _ _)) H; rw [← hp]; exact ok (.bl _) h ρ H _ (.refl _ _) R rfl e))
    | (cases y <;> cases e)
def oLt : FO := oCmp ltI
def oGt : FO := oCmp fun i j => ltI j i
def oLe : FO := oCmp fun i j => !ltI j i
def oGe : FO := oCmp fun i j => !ltI i j
theorem so_lt : SOp S oLt (rI0 fun i j => .bl (decide (i < j))) := so_cmp ltI_ok
theorem so_gt : SOp S oGt (rI0 fun i j => .bl (decide (j < i))) := so_cmp fun i j => ltI_ok j i
theorem so_le : SOp S oLe (rI0 fun i j => .bl (decide (i ≤ j))) := so_cmp fun i j => by
  rw [ltI_ok]
  by_cases h : i ≤ j
  · rw [decide_eq_true h, decide_eq_false (by omega)]; rfl
  · rw [decide_eq_false h, decide_eq_true (by omega)]; rfl
theorem so_ge : SOp S oGe (rI0 fun i j => .bl (decide (j ≤ i))) := so_cmp fun i j => by
  rw [ltI_ok]
  by_cases h : j ≤ i
  · rw [decide_eq_true h, decide_eq_false (by omega)]; rfl
  · rw [decide_eq_false h, decide_eq_true (by omega)]; rfl
/-! is None -/
def rIsN0 : R2 := fun x y H Q => y = .non ∧ Q (.bl (decide (x = .non))) H
def rNotN0 : R2 := fun x y H Q => y = .non ∧ Q (.bl (!decide (x = .non))) H
def isNC (x : CV) : Bool := match x with
  | .non => true
  | _ => false
theorem isNC_ok {β : Bt} {ρ : List Addr} {x : CV} {v : V} (r : RelC S β ρ x v) : decide (v = .non) = isNC x := by
  cases x with
  | str i => obtain ⟨rfl, _⟩ := r; rfl
  | ref i => obtain ⟨a, _, rfl⟩ := r; rfl
  | pl n =>
    have r : v = .int (β.β + n) := r
    subst r
    rfl
  | st n =>
    have r : v = .ref (S n) := r
    subst r
    rfl
  | _ => cases r; rfl
def oIs : FO := fun x y h k => match y with
  | .non => k (.bl (isNC x)) h
  | _ => false
def oIsnt : FO := fun x y h k => match y with
  | .non => k (.bl (!isNC x)) h
  | _ => false
theorem so_is : SOp S oIs rIsN0 := fun β ρ H h x y v w k Q R r q e ok => by
  cases y with
  | non => cases q; exact ⟨rfl, by rw [isNC_ok r]; exact ok (.bl _) h ρ H _ (.refl _ _) R rfl e⟩
  | _ => cases e
theorem so_isnt : SOp S oIsnt rNotN0 := fun β ρ H h x y v w k Q R r q e ok => by
  cases y with
  | non => cases q; exact ⟨rfl, by rw [isNC_ok r]; exact ok (.bl _) h ρ H _ (.refl _ _) R rfl e⟩
  | _ => cases e
/-! + - * -/
def rAddI : R2 := rI0 fun i j => .int (i + j)
def rAddS : R2 := fun x y H Q => ∃ i j, x = .str i ∧ y = .str j ∧ i.length + j.length ≤ sizeLine ∧ Q (.str (i ++ j)) H
def oAdd : FO := fun x y h k => match x, y with
  | .int i, .int j => k (.int (i + j)) h
  | .pl n, .int (.ofNat j) => k (.pl (n + j)) h
  | .str a, .str b => match Nat.ble (lenN a + lenN b) 100000 with
    | true => k (.str (catK a b)) h
    | false => false
  | .ref i, .ref j => match h.get i, h.get j with
    | some (.lst xs), some (.lst ys) => match Nat.ble (lenL xs + lenL ys) 1000 with
      | true => newO (.lst (xs ++ ys)) h k
      | false => false
    | _, _ => false
  | _, _ => false
theorem so_add : SOp S oAdd (r2or rAddI (r2or rAddS rCat)) := fun β ρ H h x y v w k Q R r q e ok => by
  cases x with
  | int i =>
    cases y with
    | int j => cases r; cases q; exact .inl ⟨i, j, rfl, rfl, ok (.int _) h ρ H _ (.refl _ _) R rfl e⟩
    | _ => cases e
  | pl n =>
    cases y with
    | int j =>
      cases j with
      | ofNat j =>
        have r : v = .int (β.β + n) := r
        subst r
        cases q
        refine .inl ⟨_, _, rfl, rfl, ok (.pl (n + j)) h ρ H _ (.refl _ _) R ?_ e⟩
        show V.int ((β.β + (n : Int)) + (j : Int)) = V.int (β.β + ((n + j : Nat) : Int))
        congr 1
        omega
      | negSucc j => cases e
    | _ => cases e
  | str a =>
    cases y with
    | str b =>
      have e : (match Nat.ble (lenN a + lenN b) 100000 with
        | true => k (.str (catK a b)) h
        | false => false) = true := e
      split at e
      · rename_i hl
        obtain ⟨e1, o1⟩ := r
        obtain ⟨e2, o2⟩ := q
        have e1 : v = .str (tx a) := e1
        have e2 : w = .str (tx b) := e2
        subst e1
        subst e2
        obtain ⟨t1, t2⟩ := tx_cat o1 o2
        refine .inr (.inl ⟨_, _, rfl, rfl, ?_, ok (.str _) h ρ H _ (.refl _ _) R ⟨by rw [t1], t2⟩ e⟩)
        rw [tx_len, tx_len]
        exact line10 (Nat.le_trans (Nat.le_of_ble_eq_true hl) (by decide))
      · cases e
    | _ => cases e
  | ref i =>
    cases y with
    | ref j =>
      have e : (match h.get i, h.get j with
        | some (.lst xs), some (.lst ys) => match Nat.ble (lenL xs + lenL ys) 1000 with
          | true => newO (.lst (xs ++ ys)) h k
          | false => false
        | _, _ => false) = true := e
      split at e
      · rename_i xs ys h1 h2
        split at e
        · rename_i hl
          obtain ⟨a1, ho1, rfl, _, eh1, vs, rfl, p1⟩ := R.at r h1
          obtain ⟨a2, ho2, rfl, _, eh2, ws, rfl, p2⟩ := R.at q h2
          refine .inr (.inr ⟨a1, a2, vs, ws, rfl, rfl, eh1, eh2, ?_, new_ok R e ok fun l => ⟨_, rfl, L2.Paired.mapP (relL_app p1 p2) fun _ _ z => z.mono l⟩⟩)
          rw [← paired_len p1, ← paired_len p2, ← lenL_eq, ← lenL_eq]
          exact line10 (Nat.le_trans (Nat.le_of_ble_eq_true hl) (by decide))
        · cases e
      · cases e
    | _ => cases e
  | _ => cases e
def oSub : FO := fun x y h k => match x, y with
  | .int i, .int j => k (.int (i - j)) h
  | _, _ => false
theorem so_sub : SOp S oSub (rI0 fun i j => .int (i - j)) := fun β ρ H h x y v w k Q R r q e ok => by
  cases x <;> first
    | (cases y <;> first
      | (cases e; done)
      | (cases r; cases q; exact ⟨_, _, rfl, rfl, ok (.int _) h ρ H _ (.refl _ _) R rfl e⟩))
    | (cases y <;> cases e)
def uNeg : CV → Hc → KV → Bool := fun x h k => match x with
  | .int i => k (.int (-i)) h
  | _ => false
theorem su_neg : SUn S uNeg (rU fun i => .int (-i)) := fun β ρ H h x v k Q R r e ok => by
  cases x with
  | int i => cases r; exact ⟨i, rfl, ok (.int _) h ρ H _ (.refl _ _) R rfl e⟩
  | _ => cases e
theorem si_addN : SOp S (fun x y h k => match x, y with
  | .int i, .int j => k (.int (i + j)) h
  | .pl n, .int (.ofNat j) => k (.pl (n + j)) h
  | _, _ => false) (ipI fun i j => i + j) := fun β ρ H h x y v w k Q R r q e ok => by
  cases x with
  | int i =>
    cases y with
    | int j => cases r; cases q; exact ⟨i, j, rfl, rfl, ok (.int _) h ρ H _ (.refl _ _) R rfl e⟩
    | _ => cases e
  | pl n =>
    cases y with
    | int j =>
      cases j with
      | ofNat j =>
        have r : v = .int (β.β + n) := r
        subst r
        cases q
        refine ⟨_, _, rfl, rfl, ok (.pl (n + j)) h ρ H _ (.refl _ _) R ?_ e⟩
        show V.int ((β.β + (n : Int)) + (j : Int)) = V.int (β.β + ((n + j : Nat) : Int))
        congr 1
        omega
      | negSucc j => cases e
    | _ => cases e
  | _ => cases e
def oAddN : FO := fun x y h k => match x, y with
  | .int i, .int j => k (.int (i + j)) h
  | .pl n, .int (.ofNat j) => k (.pl (n + j)) h
  | _, _ => false
theorem so_addN : SOp S oAddN (ipI fun i j => i + j) := si_addN
theorem so_addF : SOp S oAddN rAdd := si_addN
theorem so_subF : SOp S oSub rSub := fun β ρ H h x y v w k Q R r q e ok => so_sub β ρ H h x y v w k Q R r q e ok
end
end
end Rn
namespace Rn
open PySem PySem.Spec PyProof.Rows L2 TL
set_option autoImplicit false
noncomputable section
section
variable {S : Nat → Addr} {X : Cx} {E : XK} {a b e o i value iter tg elt : Expr} {ea eb ei ee eo ev : Ev} {pos apos cpos pos' tpos : Pos} {et : EvT} {SQ : Nat → Option (List CV)} {eg : EvG} {g : TG} {gs : List Nat} {er : EvA} {es : List Expr}
/-! ### subscripts -/
def seqA (SQ : Nat → Option (List CV)) (c : CV) (h : Hc) : Option (List CV) := match kindK c h with
  | some b => seqK SQ b c h
  | none => none
theorem seqA_ok {K : PySem.W.Frag} (T : StaOk K S SQ) {β : Bt} {ρ : List Addr} {H : Hp} {h : Hc} (R : Rep S β ρ h H) {c : CV} {v : V} {cs : List CV} (r : RelC S β ρ c v) (e : seqA SQ c h = some cs) : ∃ a vs, v = .ref a ∧ RelL S β ρ cs vs ∧ (SqL K H a vs ∨ SqT K H a vs) := by
  unfold seqA at e
  split at e
  · rename_i bb _
    obtain ⟨a, vs, e1, e2, h1, h2⟩ := seqK_ok T R r e
    refine ⟨a, vs, e1, e2, ?_⟩
    cases bb with
    | false => exact .inl (h1 rfl)
    | true => exact .inr (h2 rfl)
  · cases e
def oIx (SQ : Nat → Option (List CV)) : FO := fun x y h k => match y with
  | .int (.ofNat i) => match x with
    | .str s => match Nat.blt i (lenN s) with
      | true => match Nat.ble (lenN s) 100000 with
        | true => k (.str (subK s i (i + 1))) h
        | false => false
      | false => false
    | c => match seqA SQ c h with
      | some cs => match nth cs i with
        | some v => k v h
        | none => false
      | none => false
  | _ => false
theorem ix_any {K : PySem.W.Frag} (T : StaOk K S SQ) {β : Bt} {ρ : List Addr} {H : Hp} {h : Hc} {c : CV} {v : V} {j : Nat} {k : KV} {Q : VK} (R : Rep S β ρ h H) (r : RelC S β ρ c v) (e : (match seqA SQ c h with
      | some cs => match nth cs j with
        | some v => k v h
        | none => false
      | none => false) = true) (ok : KOk S (RelC S β) β ρ H k Q) : rIx K v (.int (j : Int)) H Q := by
  split at e
  · rename_i cs hcs
    split at e
    · rename_i u hu
      rw [nth_eq] at hu
      obtain ⟨a', vs, rfl, rl, hs⟩ := seqA_ok T R r hcs
      obtain ⟨w, hw, rw'⟩ := paired_get rl hu
      have fin := ok u h ρ H w (.refl _ _) R rw' e
      rcases hs with hs | hs
      · exact .inl ⟨a', vs, (j : Int), w, rfl, rfl, hs, atI_nat hw, fin⟩
      · exact .inr (.inl ⟨a', vs, (j : Int), w, rfl, rfl, hs, atI_nat hw, fin⟩)
    · cases e
  · cases e
theorem so_ix {K : PySem.W.Frag} (T : StaOk K S SQ) : SOp S (oIx SQ) (rIx K) := fun β ρ H h x y v w k Q R r q e ok => by
  cases y with
  | int z =>
    cases z with
    | ofNat j =>
      cases q
      cases x with
      | str s =>
        have e : (match Nat.blt j (lenN s) with
          | true => match Nat.ble (lenN s) 100000 with
            | true => k (.str (subK s j (j + 1))) h
            | false => false
          | false => false) = true := e
        split at e
        · rename_i hj
          split at e
          · rename_i hl
            obtain ⟨e1, o1⟩ := r
            have e1 : v = .str (tx s) := e1
            subst e1
            have hj := Nat.lt_of_succ_le (Nat.le_of_ble_eq_true hj)
            obtain ⟨t1, t2⟩ := tx_sub (a := j) (b := j + 1) o1 (Nat.le_succ _) hj
            have hd : j < (dec s).length := by rw [dec_len]; exact hj
            have ed : ((dec s).drop j).take (j + 1 - j) = [(dec s)[j]] := by
              rw [List.drop_eq_getElem_cons hd, Nat.add_sub_cancel_left]
              rfl
            refine .inr (.inr ⟨tx s, (j : Int), (dec s)[j], rfl, rfl, ?_, atI_nat (List.getElem?_eq_getElem hd), ?_⟩)
            · rw [tx_len]; exact line10 (Nat.le_trans (Nat.le_of_ble_eq_true hl) (by decide))
            · refine ok (.str _) h ρ H _ (.refl _ _) R ⟨?_, t2⟩ e
              rw [t1, ed]
          · cases e
        · cases e
      | _ => exact ix_any T R r e ok
    | negSucc j => cases e
  | _ => cases e
/-! a dict of the module -/
def SdOk (K : PySem.W.Frag) (w : World) (S : Nat → Addr) (SD : Nat → Nat → Option CV) : Prop := ∀ k key cv, SD k key = some cv → ∃ v, KDct K w (S k) (tx key) v ∧ ∀ β ρ, RelC S β ρ cv v
def oIxD (SD : Nat → Nat → Option CV) : FO := fun x y h k => match x, y with
  | .st n, .str key => match SD n key with
    | some v => k v h
    | none => false
  | _, _ => false
theorem so_ixD {K : PySem.W.Frag} {w : World} {SD : Nat → Nat → Option CV} (T : SdOk K w S SD) : SOp S (oIxD SD) (rIxD K w) := fun β ρ H h x y v u k Q R r q e ok => by
  cases x with
  | st n =>
    cases y with
    | str key =>
      have e : (match SD n key with
        | some v => k v h
        | none => false) = true := e
      split at e
      · rename_i cv hcv
        obtain ⟨v', kd, rv⟩ := T n key cv hcv
        obtain ⟨e1, o1⟩ := q
        have e1 : u = .str (tx key) := e1
        subst e1
        exact ⟨S n, tx key, v', r, rfl, kd, ok cv h ρ H v' (.refl _ _) R (rv _ _) e⟩
      · cases e
    | _ => cases e
  | _ => cases e
/-! ### in -/
def flatC (x : CV) : Bool := match x with
  | .non => true
  | .bl _ => true
  | .int _ => true
  | .pl _ => true
  | .str _ => true
  | _ => false
theorem flatC_ok {β : Bt} {ρ : List Addr} {x : CV} {v : V} (r : RelC S β ρ x v) (h : flatC x = true) : flatV v = true := by
  cases x with
  | str i => obtain ⟨rfl, _⟩ := r; rfl
  | pl n =>
    have r : v = .int (β.β + n) := r
    subst r
    rfl
  | ref i => cases h
  | st n => cases h
  | _ => cases r; rfl
def anyEq (x : CV) (l : List CV) : Option Bool := List.rec (motive := fun _ => Option Bool) (some false) (fun y _ go => match eqC y x with
  | some true => match go with
    | some _ => some true
    | none => none
  | some false => go
  | none => none) l
theorem anyEq_ok {β : Bt} {ρ : List Addr} {x : CV} {v : V} (r : RelC S β ρ x v) : ∀ {l : List CV} {vs : List V} {c : Bool}, RelL S β ρ l vs → anyEq x l = some c → vs.all flatV = true ∧ inV v vs = c
  | _, _, _, .nil, e => by
    cases e
    exact ⟨rfl, rfl⟩
  | y :: l, w :: vs, c, .cons q t, e => by
    have e : (match eqC y x with
      | some true => match anyEq x l with
        | some _ => some true
        | none => none
      | some false => anyEq x l
      | none => none) = some c := e
    split at e
    · rename_i h1
      split at e
      · rename_i c' h2
        cases e
        obtain ⟨_, _, f1, _, f2⟩ := eqC_ok q r h1
        obtain ⟨i1, i2⟩ := anyEq_ok r t h2
        exact ⟨by rw [List.all_cons, f1, i1]; rfl, by show (eqV w v || inV v vs) = true; rw [f2]; rfl⟩
      · cases e
    · rename_i h1
      obtain ⟨_, _, f1, _, f2⟩ := eqC_ok q r h1
      obtain ⟨i1, i2⟩ := anyEq_ok r t e
      exact ⟨by rw [List.all_cons, f1, i1]; rfl, by show (eqV w v || inV v vs) = c; rw [f2, i2]; rfl⟩
    · cases e
def negB (neg b : Bool) : Bool := match neg with
  | true => !b
  | false => b
def oIn (SQ : Nat → Option (List CV)) (neg : Bool) : FO := fun x y h k => match flatC x with
  | true => match seqA SQ y h with
    | some cs => match anyEq x cs with
      | some b => k (.bl (negB neg b)) h
      | none => false
    | none => false
  | false => false
theorem so_in {K : PySem.W.Frag} (T : StaOk K S SQ) (neg : Bool) : SOp S (oIn SQ neg) (rIn K neg) := fun β ρ H h x y v w k Q R r q e ok => by
  unfold oIn at e
  split at e
  · rename_i hf
    split at e
    · rename_i cs hcs
      split at e
      · rename_i bb hb
        obtain ⟨a', vs, rfl, rl, hs⟩ := seqA_ok T R q hcs
        obtain ⟨f1, f2⟩ := anyEq_ok r rl hb
        refine ⟨a', vs, rfl, hs, flatC_ok r hf, f1, ?_⟩
        rw [f2]
        cases neg with
        | true => exact ok (.bl _) h ρ H _ (.refl _ _) R rfl e
        | false => exact ok (.bl _) h ρ H _ (.refl _ _) R rfl e
      · cases e
    · cases e
  · cases e
/-- a sign in a text -/
def rInSg (neg : Bool) : R2 := fun x y H Q => ∃ (c : Nat) (z : Str), x = .str ⟨#[c]⟩ ∧ y = .str z ∧ Q (.bl (if neg then !decide (c ∈ z.cps.toList) else decide (c ∈ z.cps.toList))) H
def oInS (neg : Bool) : FO := fun x y h k => match x, y with
  | .str c, .str s => match Nat.beq (lenN c) 1 with
    | true => k (.bl (negB neg (chIn (lenN s) (c % 256) s))) h
    | false => false
  | _, _ => false
theorem tx_one {c : Nat} (h : lenN c = 1) : tx c = ⟨#[c % 256]⟩ := by
  unfold tx dec
  rw [h]
  rfl
theorem so_inS (neg : Bool) : SOp S (oInS neg) (rInSg neg) := fun β ρ H h x y v w k Q R r q e ok => by
  cases x with
  | str c =>
    cases y with
    | str s =>
      have e : (match Nat.beq (lenN c) 1 with
        | true => k (.bl (negB neg (chIn (lenN s) (c % 256) s))) h
        | false => false) = true := e
      split at e
      · rename_i hl
        obtain ⟨e1, o1⟩ := r
        obtain ⟨e2, o2⟩ := q
        have e1 : v = .str (tx c) := e1
        have e2 : w = .str (tx s) := e2
        subst e1
        subst e2
        rw [chIn_dec] at e
        refine ⟨c % 256, tx s, by rw [tx_one (Nat.eq_of_beq_eq_true hl)], rfl, ?_⟩
        cases neg with
        | true => exact ok (.bl _) h ρ H _ (.refl _ _) R rfl e
        | false => exact ok (.bl _) h ρ H _ (.refl _ _) R rfl e
      · cases e
    | _ => cases e
  | _ => cases e
/-- None in a list of Nones and instances -/
def NeOk (K : PySem.W.Frag) (S : Nat → Addr) (ne : List Nat) : Prop := AllC ne fun C => PySem.W.mroIn K (S C) (.type "object") = some true ∧ PySem.W.findIn K (.ref (S C)) "__eq__" = some (some (.builtin "object.__eq__"))
def anyNon (ne : List Nat) (h : Hc) (l : List CV) : Option Bool := List.rec (motive := fun _ => Option Bool) (some false) (fun y _ go => match y with
  | .non => match go with
    | some _ => some true
    | none => none
  | .ref i => match h.get i with
    | some (.ins C _) => match memN C ne with
      | true => go
      | false => none
    | _ => none
  | _ => none) l
theorem anyNon_ok {K : PySem.W.Frag} {ne : List Nat} (N : NeOk K S ne) {β : Bt} {ρ : List Addr} {H : Hp} {h : Hc} (R : Rep S β ρ h H) : ∀ {l : List CV} {vs : List V} {c : Bool}, RelL S β ρ l vs → anyNon ne h l = some c → (∀ z ∈ vs, NoneOr K H z) ∧ vs.any isNon = c
  | _, _, _, .nil, e => by
    cases e
    exact ⟨fun z hz => (by cases hz), rfl⟩
  | y :: l, w :: vs, c, .cons q t, e => by
    cases y with
    | non =>
      have e : (match anyNon ne h l with
        | some _ => some true
        | none => none) = some c := e
      split at e
      · rename_i c' h2
        cases e
        cases q
        obtain ⟨i1, i2⟩ := anyNon_ok N R t h2
        exact ⟨fun z hz => (List.mem_cons.mp hz).elim (fun e => .inl e) (i1 z), rfl⟩
      · cases e
    | ref i =>
      have e : (match h.get i with
        | some (.ins C _) => match memN C ne with
          | true => anyNon ne h l
          | false => none
        | _ => none) = some c := e
      split at e
      · rename_i C fs hg
        split at e
        · rename_i hm
          obtain ⟨a', ho, rfl, ea', eh, dx, ws, rfl, pf⟩ := R.at q hg
          obtain ⟨i1, i2⟩ := anyNon_ok N R t e
          obtain ⟨n1, n2⟩ := N.at hm
          refine ⟨fun z hz => (List.mem_cons.mp hz).elim (fun e => .inr ⟨a', S C, dx, ws, e, eh, n1, n2⟩) (i1 z), ?_⟩
          rw [List.any_cons, i2]
          rfl
        · cases e
      · cases e
    | _ => cases e
def oInN (ne : List Nat) (neg : Bool) : FO := fun x y h k => match x, y with
  | .non, .ref i => match h.get i with
    | some (.lst cs) => match anyNon ne h cs with
      | some b => k (.bl (negB neg b)) h
      | none => false
    | _ => false
  | _, _ => false
theorem so_inN {K : PySem.W.Frag} {ne : List Nat} (N : NeOk K S ne) (neg : Bool) : SOp S (oInN ne neg) (rNoneIn K neg) := fun β ρ H h x y v w k Q R r q e ok => by
  cases x with
  | non =>
    cases y with
    | ref i =>
      have e : (match h.get i with
        | some (.lst cs) => match anyNon ne h cs with
          | some b => k (.bl (negB neg b)) h
          | none => false
        | _ => false) = true := e
      split at e
      · rename_i cs hg
        split at e
        · rename_i bb hb
          obtain ⟨a', ho, rfl, ea', eh, vs, rfl, pf⟩ := R.at q hg
          obtain ⟨i1, i2⟩ := anyNon_ok N R pf hb
          refine ⟨a', vs, r, rfl, SqL.of eh, i1, ?_⟩
          rw [i2]
          cases neg with
          | true => exact ok (.bl _) h ρ H _ (.refl _ _) R rfl e
          | false => exact ok (.bl _) h ρ H _ (.refl _ _) R rfl e
        · cases e
      · cases e
    | _ => cases e
  | _ => cases e
/-! ### calls of built-ins -/
def c1or (a b : List V → Hp → VK → Prop) : List V → Hp → VK → Prop := fun xs H Q => a xs H Q ∨ b xs H Q
theorem clOr {f : Value} {r r' : List V → Hp → VK → Prop} (p : CallR X f r) (q : CallR X f r') : CallR X f (c1or r r') := fun pins s σ H xs us Q I rs h => h.elim (p pins s σ H xs us Q I rs) (q pins s σ H xs us Q I rs)
theorem one_of {β : Bt} {ρ : List Addr} {c : CV} {vs : List V} (r : RelL S β ρ [c] vs) : ∃ v, vs = [v] ∧ RelC S β ρ c v := by
  cases r with
  | cons q t => cases t; exact ⟨_, rfl, q⟩
theorem two_of {β : Bt} {ρ : List Addr} {c d : CV} {vs : List V} (r : RelL S β ρ [c, d] vs) : ∃ v w, vs = [v, w] ∧ RelC S β ρ c v ∧ RelC S β ρ d w := by
  cases r with
  | cons q t =>
    cases t with
    | cons q2 t2 => cases t2; exact ⟨_, _, rfl, q, q2⟩
abbrev FC := List CV → Hc → KV → Bool
def rLen (K : PySem.W.Frag) : List V → Hp → VK → Prop := fun xs H Q => ∃ x n, xs = [x] ∧ LenV K x H n ∧ Q (.int n) H
def fLen (SQ : Nat → Option (List CV)) : FC := fun xs h k => match xs with
  | [.str s] => match Nat.ble (lenN s) 100000 with
    | true => k (.int (.ofNat (lenN s))) h
    | false => false
  | [c] => match seqA SQ c h with
    | some cs => k (.int (.ofNat (lenL cs))) h
    | none => false
  | _ => false
theorem len_any {K : PySem.W.Frag} (T : StaOk K S SQ) {β : Bt} {ρ : List Addr} {H : Hp} {h : Hc} {c : CV} {v : V} {k : KV} {Q : VK} (R : Rep S β ρ h H) (r : RelC S β ρ c v) (e : (match seqA SQ c h with
    | some cs => k (.int (.ofNat (lenL cs))) h
    | none => false) = true) (ok : KOk S (RelC S β) β ρ H k Q) : rLen K [v] H Q := by
  split at e
  · rename_i cs hcs
    obtain ⟨a', vs, rfl, rl, hs⟩ := seqA_ok T R r hcs
    have hl := paired_len rl
    refine ⟨.ref a', vs.length, rfl, ?_, ?_⟩
    · rcases hs with hs | hs
      · exact .inl ⟨vs, hs, rfl⟩
      · exact .inr ⟨vs, hs, rfl⟩
    · rw [lenL_eq, hl] at e
      exact ok (.int _) h ρ H _ (.refl _ _) R rfl e
  · cases e
theorem sc_len {K : PySem.W.Frag} (T : StaOk K S SQ) : SCl S (fLen SQ) (rLen K) := fun β ρ H h xs vs k Q R r e ok => by
  match xs, r, e with
  | [], r, e => cases e
  | x :: y :: t, r, e => cases x <;> cases e
  | [x], r, e =>
    obtain ⟨v, rfl, rx⟩ := one_of r
    cases x with
    | str s =>
      have e : (match Nat.ble (lenN s) 100000 with
        | true => k (.int (.ofNat (lenN s))) h
        | false => false) = true := e
      split at e
      · rename_i hl
        obtain ⟨e1, o1⟩ := rx
        have e1 : v = .str (tx s) := e1
        subst e1
        refine ⟨_, lenN s, rfl, ⟨?_, (tx_len s).symm⟩, ok (.int _) h ρ H _ (.refl _ _) R rfl e⟩
        rw [tx_len]
        exact line10 (Nat.le_trans (Nat.le_of_ble_eq_true hl) (by decide))
      · cases e
    | _ => exact len_any T R rx e ok
def rListOf (K : PySem.W.Frag) : List V → Hp → VK → Prop := fun xs H Q => ∃ p ys, xs = [.ref p] ∧ (SqL K H p ys ∨ SqT K H p ys) ∧ ∀ l, H l = none → Q (.ref l) (upd H l (.lst ys))
def fList (SQ : Nat → Option (List CV)) : FC := fun xs h k => match xs with
  | [c] => match seqA SQ c h with
    | some cs => newO (.lst cs) h k
    | none => false
  | _ => false
theorem sc_list {K : PySem.W.Frag} (T : StaOk K S SQ) : SCl S (fList SQ) (rListOf K) := fun β ρ H h xs vs k Q R r e ok => by
  match xs, r, e with
  | [], r, e => cases e
  | x :: y :: t, r, e => cases e
  | [x], r, e =>
    obtain ⟨v, rfl, rx⟩ := one_of r
    have e : (match seqA SQ x h with
      | some cs => newO (.lst cs) h k
      | none => false) = true := e
    split at e
    · rename_i cs hcs
      obtain ⟨a', ws, rfl, rl, hs⟩ := seqA_ok T R rx hcs
      exact ⟨a', ws, rfl, hs, new_ok R e ok fun l => ⟨ws, rfl, L2.Paired.mapP rl fun _ _ z => z.mono l⟩⟩
    · cases e
def bls (l : List CV) : Option (List Bool) := List.rec (motive := fun _ => Option (List Bool)) (some []) (fun y _ go => match y with
  | .bl b => match go with
    | some r => some (b :: r)
    | none => none
  | _ => none) l
theorem bls_ok {β : Bt} {ρ : List Addr} : ∀ {l : List CV} {vs : List V} {c : List Bool}, RelL S β ρ l vs → bls l = some c → vs = c.map V.bl
  | _, _, _, .nil, e => by cases e; rfl
  | y :: l, w :: vs, c, .cons q t, e => by
    cases y with
    | bl b =>
      have e : (match bls l with
        | some r => some (b :: r)
        | none => none) = some c := e
      split at e
      · rename_i r hr
        cases e
        cases q
        rw [bls_ok t hr]
        rfl
      · cases e
    | _ => cases e
def orL (l : List Bool) : Bool := List.rec (motive := fun _ => Bool) false (fun b _ go => match b with
  | true => true
  | false => go) l
def andL (l : List Bool) : Bool := List.rec (motive := fun _ => Bool) true (fun b _ go => match b with
  | true => go
  | false => false) l
theorem orL_eq : ∀ l : List Bool, orL l = l.any id
  | [] => rfl
  | b :: r => by
    have e : orL (b :: r) = match b with
      | true => true
      | false => orL r := rfl
    rw [e, List.any_cons, orL_eq r]
    cases b <;> rfl
theorem andL_eq : ∀ l : List Bool, andL l = l.all id
  | [] => rfl
  | b :: r => by
    have e : andL (b :: r) = match b with
      | true => andL r
      | false => false := rfl
    rw [e, List.all_cons, andL_eq r]
    cases b <;> rfl
def fBls (f : List Bool → Bool) : FC := fun xs h k => match xs with
  | [.ref i] => match h.get i with
    | some (.lst cs) => match bls cs with
      | some l => k (.bl (f l)) h
      | none => false
    | _ => false
  | _ => false
theorem sc_bls {K : PySem.W.Frag} {f f' : List Bool → Bool} (hf : ∀ l, f l = f' l) : SCl S (fBls f) (fun vs H Q => ∃ (a : Addr) (bs : List Bool), vs = [V.ref a] ∧ SqL K H a (bs.map V.bl) ∧ Q (.bl (f' bs)) H) := fun β ρ H h xs vs k Q R r e ok => by
  match xs, r, e with
  | [], r, e => cases e
  | x :: y :: t, r, e => cases x <;> cases e
  | [x], r, e =>
    obtain ⟨v, rfl, rx⟩ := one_of r
    cases x with
    | ref i =>
      have e : (match h.get i with
        | some (.lst cs) => match bls cs with
          | some l => k (.bl (f l)) h
          | none => false
        | _ => false) = true := e
      split at e
      · rename_i cs hg
        split at e
        · rename_i l hl
          obtain ⟨a', ho, rfl, ea', eh, ws, rfl, pf⟩ := R.at rx hg
          refine ⟨a', l, rfl, SqL.of (by rw [← bls_ok pf hl]; exact eh), ?_⟩
          rw [← hf]
          exact ok (.bl _) h ρ H _ (.refl _ _) R rfl e
        · cases e
      · cases e
    | _ => cases e
theorem sc_any {K : PySem.W.Frag} : SCl S (fBls orL) (rAny K) := sc_bls orL_eq
theorem sc_all {K : PySem.W.Frag} : SCl S (fBls andL) (rAll K) := sc_bls andL_eq
/-- isinstance: tb c d: of an instance of c, or of None (c = 1000000) -/
def IsOk (K : PySem.W.Frag) (S : Nat → Addr) (tb : Nat → Nat → Option Bool) : Prop := (∀ c d b, tb (c + 1) d = some b → (∀ (H : Hp) (a dx : Addr) (fs : List (Str × V)), H a = some (.ins (S c) dx fs) → TyX K H (.ref a) (.ref (S c))) ∧ PySem.W.kitOne K (.ref (S c)) (.ref (S d)) = some b) ∧ ∀ d b, tb 0 d = some b → PySem.W.kitOne K (.type "NoneType") (.ref (S d)) = some b
def fIs (tb : Nat → Nat → Option Bool) : FC := fun xs h k => match xs with
  | [.ref i, .st d] => match h.get i with
    | some (.ins C _) => match tb (C + 1) d with
      | some b => k (.bl b) h
      | none => false
    | _ => false
  | [.non, .st d] => match tb 0 d with
    | some b => k (.bl b) h
    | none => false
  | _ => false
theorem sc_is {K : PySem.W.Frag} {tb : Nat → Nat → Option Bool} (T : IsOk K S tb) : SCl S (fIs tb) (rIsi K) := fun β ρ H h xs vs k Q R r e ok => by
  match xs, r, e with
  | [], r, e => cases e
  | [x], r, e => cases x <;> cases e
  | x :: y :: z :: t, r, e => cases x <;> cases y <;> cases e
  | [x, y], r, e =>
    obtain ⟨v, w, rfl, rx, ry⟩ := two_of r
    cases x with
    | ref i =>
      cases y with
      | st d =>
        have e : (match h.get i with
          | some (.ins C _) => match tb (C + 1) d with
            | some b => k (.bl b) h
            | none => false
          | _ => false) = true := e
        have ry : w = .ref (S d) := ry
        subst ry
        split at e
        · rename_i C fs hg
          split at e
          · rename_i bb hb
            obtain ⟨a', ho, rfl, ea', eh, dx, ws, rfl, pf⟩ := R.at rx hg
            obtain ⟨t1, t2⟩ := T.1 C d bb hb
            exact ⟨_, _, _, _, bb, rfl, .own _, t1 H a' dx ws eh, t2, ok (.bl bb) h ρ H _ (.refl _ _) R rfl e⟩
          · cases e
        · cases e
      | _ => cases e
    | non =>
      cases y with
      | st d =>
        have e : (match tb 0 d with
          | some b => k (.bl b) h
          | none => false) = true := e
        have ry : w = .ref (S d) := ry
        subst ry
        cases rx
        split at e
        · rename_i bb hb
          exact ⟨_, _, _, _, bb, rfl, .own _, .base .non, T.2 d bb hb, ok (.bl bb) h ρ H _ (.refl _ _) R rfl e⟩
        · cases e
      | _ => cases e
    | _ => cases y <;> cases e
/-- int(a text), int(an int) -/
def rIntI : List V → Hp → VK → Prop := fun xs H Q => (∃ i, xs = [.int i] ∧ Q (.int i) H) ∨ ∃ k, xs = [.bl k] ∧ Q (.int (if k then 1 else 0)) H
def rIntS : List V → Hp → VK → Prop := fun xs H Q => ∃ a n, xs = [.str a] ∧ PySem.intText? a = some n ∧ a.length ≤ 640 ∧ Q (.int n) H
def fInt : FC := fun xs h k => match xs with
  | [.int i] => k (.int i) h
  | [.str s] => match PySem.intText? (tx s) with
    | some n => match Nat.ble (lenN s) 640 with
      | true => k (.int n) h
      | false => false
    | none => false
  | _ => false
theorem sc_int : SCl S fInt (c1or rIntI rIntS) := fun β ρ H h xs vs k Q R r e ok => by
  match xs, r, e with
  | [], r, e => cases e
  | x :: y :: t, r, e => cases x <;> cases e
  | [x], r, e =>
    obtain ⟨v, rfl, rx⟩ := one_of r
    cases x with
    | int i => cases rx; exact .inl (.inl ⟨i, rfl, ok (.int _) h ρ H _ (.refl _ _) R rfl e⟩)
    | str s =>
      have e : (match PySem.intText? (tx s) with
        | some n => match Nat.ble (lenN s) 640 with
          | true => k (.int n) h
          | false => false
        | none => false) = true := e
      split at e
      · rename_i n hn
        split at e
        · rename_i hl
          obtain ⟨e1, o1⟩ := rx
          have e1 : v = .str (tx s) := e1
          subst e1
          exact .inr ⟨tx s, n, rfl, hn, by rw [tx_len]; exact Nat.le_of_ble_eq_true hl, ok (.int _) h ρ H _ (.refl _ _) R rfl e⟩
        · cases e
      · cases e
    | _ => cases e
def rOrd : List V → Hp → VK → Prop := fun xs H Q => ∃ x, xs = [.str x] ∧ x.length = 1 ∧ Q (.int (x.cps.getD 0 0 : Nat)) H
def fOrd : FC := fun xs h k => match xs with
  | [.str s] => match Nat.beq (lenN s) 1 with
    | true => k (.int (.ofNat (s % 256))) h
    | false => false
  | _ => false
theorem sc_ord : SCl S fOrd rOrd := fun β ρ H h xs vs k Q R r e ok => by
  match xs, r, e with
  | [], r, e => cases e
  | x :: y :: t, r, e => cases x <;> cases e
  | [x], r, e =>
    obtain ⟨v, rfl, rx⟩ := one_of r
    cases x with
    | str s =>
      have e : (match Nat.beq (lenN s) 1 with
        | true => k (.int (.ofNat (s % 256))) h
        | false => false) = true := e
      split at e
      · rename_i hl
        have hl := Nat.eq_of_beq_eq_true hl
        obtain ⟨e1, o1⟩ := rx
        have e1 : v = .str (tx s) := e1
        subst e1
        refine ⟨tx s, rfl, by rw [tx_len, hl], ?_⟩
        rw [tx_one hl]
        exact ok (.int _) h ρ H _ (.refl _ _) R rfl e
      · cases e
    | _ => cases e
/-! ### methods of lists -/
def xBM (f : CV → List CV → Hc → KV → Bool) (o : Ev) (r : EvA) : Ev := fun σ h k kx => o σ h (fun x h1 => match x with
  | .ref i => match h1.get i with
    | some (.lst _) => r σ h1 (fun xs h2 => f x xs h2 k) kx
    | _ => false
  | _ => false) kx
theorem q_bm {name : Str} {id : String} {f : CV → List CV → Hc → KV → Bool} {r : V → List V → Hp → VK → Prop} (pa : PlainAttrs "list") (slot : Slot "list" name id) (hty : typeOf (.builtin id) = pure (.type "method_descriptor")) (hm : MtR X id r) (sm : SMt S f r) (ho : QE S X E o eo) (ha : QA S X E (e :: es) er)
    (hbase : attributeBase o name X.env (eval o X.env) = eval o X.env := by rfl)
    (hfew : ((backTo cpos (starEach (e :: es) X.env)).all (fun x => !x.1) && (backToKw cpos (keywordEach [] X.env)).all (fun x => x.1.isSome)
      && decide ((e :: es).length + ([] : List Keyword).length + (if ([] : List Keyword).isEmpty then 0 else 1) < 30)) = true := by rfl)
    (hline : (apos.endLine == cpos.line) = true := by rfl) (hs : starEach (e :: es) X.env = (false, eval e X.env) :: starEach es X.env := by rfl) (hplain : (backTo cpos (starEach es X.env)).any (·.1) = false := by rfl) :
    QE S X E (.Call (.Attribute o name apos) (e :: es) [] cpos) (xBM f eo er) :=
  qe_of (pe_bm pa slot hty hm ho ha hbase hfew hline hs hplain) fun β ρ H h σc σ k kx Q R rs e ok ox => snd_tev β ρ H h σc σ _ kx _ R rs e (fun x h1 ρ1 H1 v m1 R1 r1 e1 => by
    cases x with
    | ref i =>
      dsimp only at e1
      split at e1
      · rename_i cs hg
        obtain ⟨a', ho', rfl, ea', eh, vs, rfl, pf⟩ := R1.at r1 hg
        exact ⟨.inl ⟨rfl, vs, SqL.of eh⟩, snd_tev β ρ1 H1 h1 σc σ _ kx _ R1 (rs.mv m1) e1 (fun xs h2 ρ2 H2 ws m2 R2 r2 e2 => sm β ρ2 H2 h2 _ xs _ ws k _ R2 (r1.mv m2) r2 e2 (ok.mv (m1.trans m2))) (ox.mv m1)⟩
      · cases e1
    | _ => cases e1) ox
def mApp : CV → List CV → Hc → KV → Bool := fun x xs h k => match x, xs with
  | .ref i, [y] => match h.get i with
    | some (.lst cs) => match Nat.blt i 16000 with
      | true => match Nat.ble (lenL cs) 1000 with
        | true => k .non (h.set i (.lst (cs ++ [y])))
        | false => false
      | false => false
    | _ => false
  | _, _ => false
theorem sm_app : SMt S mApp rAppend := fun β ρ H h x xs v vs k Q R r rl e ok => by
  cases x with
  | ref i =>
    match xs, rl, e with
    | [], rl, e => cases e
    | y :: z :: t, rl, e => cases e
    | [y], rl, e =>
      obtain ⟨w, rfl, rw'⟩ := one_of rl
      have e : (match h.get i with
        | some (.lst cs) => match Nat.blt i 16000 with
          | true => match Nat.ble (lenL cs) 1000 with
            | true => k .non (h.set i (.lst (cs ++ [y])))
            | false => false
          | false => false
        | _ => false) = true := e
      split at e
      · rename_i cs hg
        split at e
        · rename_i hi
          split at e
          · rename_i hl
            obtain ⟨a', ho, rfl, ea', eh, ws, rfl, pf⟩ := R.at r hg
            obtain ⟨R2, m2⟩ := R.set (co := .lst (cs ++ [y])) (o := .lst (ws ++ [w])) (Nat.lt_of_succ_le (Nat.le_of_ble_eq_true hi)) hg lst_ne ea' ⟨_, rfl, relL_app pf (.cons rw' .nil)⟩
            refine ⟨a', ws, w, rfl, rfl, eh, ?_, ok .non _ ρ _ _ m2 R2 rfl e⟩
            rw [← paired_len pf, ← lenL_eq]
            have := Nat.le_of_ble_eq_true hl
            have : sizeLine = 16777216 := sizeLine_eq
            omega
          · cases e
        · cases e
      · cases e
  | _ => cases e
def mExt : CV → List CV → Hc → KV → Bool := fun x xs h k => match x, xs with
  | .ref i, [.ref j] => match h.get i, h.get j with
    | some (.lst cs), some (.lst ds) => match Nat.blt i 16000 with
      | true => match Nat.ble (lenL cs + lenL ds) 1000 with
        | true => k .non (h.set i (.lst (cs ++ ds)))
        | false => false
      | false => false
    | _, _ => false
  | _, _ => false
theorem sm_ext : SMt S mExt rExtend := fun β ρ H h x xs v vs k Q R r rl e ok => by
  cases x with
  | ref i =>
    match xs, rl, e with
    | [], rl, e => cases e
    | y :: z :: t, rl, e => cases y <;> cases e
    | [y], rl, e =>
      obtain ⟨w, rfl, rw'⟩ := one_of rl
      cases y with
      | ref j =>
        have e : (match h.get i, h.get j with
          | some (.lst cs), some (.lst ds) => match Nat.blt i 16000 with
            | true => match Nat.ble (lenL cs + lenL ds) 1000 with
              | true => k .non (h.set i (.lst (cs ++ ds)))
              | false => false
            | false => false
          | _, _ => false) = true := e
        split at e
        · rename_i cs ds hg hg2
          split at e
          · rename_i hi
            split at e
            · rename_i hl
              obtain ⟨a', ho, rfl, ea', eh, ws, rfl, pf⟩ := R.at r hg
              obtain ⟨a2, ho2, rfl, ea2, eh2, ws2, rfl, pf2⟩ := R.at rw' hg2
              obtain ⟨R2, m2⟩ := R.set (co := .lst (cs ++ ds)) (o := .lst (ws ++ ws2)) (Nat.lt_of_succ_le (Nat.le_of_ble_eq_true hi)) hg lst_ne ea' ⟨_, rfl, relL_app pf pf2⟩
              refine ⟨a', a2, ws, ws2, rfl, rfl, eh, eh2, ?_, ok .non _ ρ _ _ m2 R2 rfl e⟩
              rw [← paired_len pf, ← paired_len pf2, ← lenL_eq, ← lenL_eq]
              exact line10 (Nat.le_trans (Nat.le_of_ble_eq_true hl) (by decide))
            · cases e
          · cases e
        · cases e
      | _ => cases e
  | _ => cases e
/-! ### a list with what others hold -/
def xStar (SQ : Nat → Option (List CV)) (a : Ev) (r : EvA) : EvA := fun σ h k kx => a σ h (fun x h1 => match seqA SQ x h1 with
  | some cs => r σ h1 (fun ys h2 => k (cs ++ ys) h2) kx
  | none => false) kx
theorem q_star {p : Pos} (T : StaOk X.K S SQ) (he : QE S X E e ee) (hr : QA S X E es er) (hs : starEach (.Starred e p :: es) X.env = (true, eval e X.env) :: starEach es X.env := by rfl) : QA S X E (.Starred e p :: es) (xStar SQ ee er) :=
  qa_of (StX.pa_star he hr hs) fun β ρ H h σc σ k kx Q R rs e ok ox => snd_tev β ρ H h σc σ _ kx _ R rs e (fun x h1 ρ1 H1 v m1 R1 r1 e1 => by
    split at e1
    · rename_i cs hcs
      obtain ⟨a', vs, rfl, rl, hsq⟩ := seqA_ok T R1 r1 hcs
      exact ⟨a', vs, rfl, hsq.symm, snd_tev β ρ1 H1 h1 σc σ _ kx _ R1 (rs.mv m1) e1 (fun ys h2 ρ2 H2 ws m2 R2 r2 e2 => ok _ h2 ρ2 H2 _ (m1.trans m2) R2 (relL_app (RelL.mv rl m2) r2) e2) (ox.mv m1)⟩
    · cases e1) ox
/-! ### f-strings -/
abbrev EvJ := Sg → Hc → Nat → (Nat → Hc → Bool) → KX → Bool
def jNil : EvJ := fun _ h acc k _ => k acc h
def jCons (a : Ev) (r : EvJ) : EvJ := fun σ h acc k kx => a σ h (fun x h1 => match x with
  | .str s => match Nat.ble (lenN acc + lenN s) 100000 with
    | true => r σ h1 (catK acc s) k kx
    | false => false
  | _ => false) kx
def SndJ (S : Nat → Addr) (E : XK) (ej : EvJ) (ts : List TE) : Prop := ∀ (β : Bt) (ρ : List Addr) (H : Hp) (h : Hc) (σc : Sg) (σ : L2.St) (acc : Nat) (k : Nat → Hc → Bool) (kx : KX) (Q : Str → Hp → Prop), Rep S β ρ h H → RelS S β ρ σc σ → okT acc = true → ej σc h acc k kx = true →
  (∀ (n : Nat) (h' : Hc) (ρ' : List Addr) (H' : Hp), Mv β ρ H ρ' H' → Rep S β ρ' h' H' → okT n = true → k n h' = true → Q (tx n) H') → XOk S β ρ H kx E → tJs ts (tx acc) σ H Q
def QJ (S : Nat → Addr) (X : Cx) (E : XK) (es : List Expr) (ej : EvJ) : Prop := ∃ ts, PJ X es ts ∧ SndJ S E ej ts
variable {ej : EvJ}
theorem j_nil : QJ S X E [] jNil := ⟨[], .nil, fun β ρ H h σc σ acc k kx Q R rs oa e ok ox => ok acc h ρ H (.refl _ _) R oa e⟩
theorem j_cons (he : QE S X E e ee) (hr : QJ S X E es ej) : QJ S X E (e :: es) (jCons ee ej) := by
  obtain ⟨ts, pj, sj⟩ := hr
  refine ⟨_ :: ts, .cons he pj, fun β ρ H h σc σ acc k kx Q R rs oa e ok ox => snd_tev β ρ H h σc σ _ kx _ R rs e (fun x h1 ρ1 H1 v m1 R1 r1 e1 => ?_) ox⟩
  cases x with
  | str s =>
    dsimp only at e1
    split at e1
    · rename_i hl
      obtain ⟨e2, o2⟩ := r1
      have e2 : v = .str (tx s) := e2
      subst e2
      obtain ⟨t1, t2⟩ := tx_cat oa o2
      refine ⟨tx s, rfl, ?_, ?_⟩
      · rw [← t1, tx_len]
        have := Nat.le_of_ble_eq_true hl
        have h3 : lenN (catK acc s) = lenN acc + lenN s := by
          rw [← tx_len, t1, ← tx_len acc, ← tx_len s, len_tl, tl_append, List.length_append, ← len_tl, ← len_tl]
        rw [h3]
        exact line10 (Nat.le_trans this (by decide))
      · rw [← t1]
        exact sj β ρ1 H1 h1 σc σ _ k kx _ R1 (rs.mv m1) t2 e1 (fun n h' ρ' H' mv => ok n h' ρ' H' (m1.trans mv)) (ox.mv m1)
    · cases e1
  | _ => cases e1
def xJ (j : EvJ) : Ev := fun σ h k kx => j σ h 1 (fun n h1 => k (.str n) h1) kx
theorem tx_empty : tx 1 = Str.empty := rfl
theorem q_joined {v1 v2 : Expr} {rest : List Expr} (h : QJ S X E (v1 :: v2 :: rest) ej) : QE S X E (.JoinedStr (v1 :: v2 :: rest) pos) (xJ ej) := by
  obtain ⟨ts, pj, sj⟩ := h
  exact qe_of (pe_joined pj) fun β ρ H h σc σ k kx Q R rs e ok ox => by
    rw [← tx_empty]
    exact sj β ρ H h σc σ 1 _ kx _ R rs (by decide) e (fun n h' ρ' H' mv R' on e' => ok (.str n) h' ρ' H' _ mv R' ⟨rfl, on⟩ e') ox
/-- {e}, e a text -/
def xFmt (a : Ev) : Ev := fun σ h k kx => a σ h (fun x h1 => match x with
  | .str s => match Nat.ble (lenN s) 100000 with
    | true => k (.str s) h1
    | false => false
  | _ => false) kx
theorem q_fmt (he : QE S X E e ee) : QE S X E (.FormattedValue e (-1) none pos) (xFmt ee) := qe_of (pe_fmt he) fun β ρ H h σc σ k kx Q R rs e ok ox => snd_tev β ρ H h σc σ _ kx _ R rs e (fun x h1 ρ1 H1 v m1 R1 r1 e1 => by
    cases x with
    | str s =>
      dsimp only at e1
      split at e1
      · rename_i hl
        obtain ⟨e2, o2⟩ := r1
        have e2 : v = .str (tx s) := e2
        subst e2
        refine .inl ⟨tx s, rfl, by rw [tx_len]; exact line10 (Nat.le_trans (Nat.le_of_ble_eq_true hl) (by decide)), ok (.str s) h1 ρ1 H1 _ m1 R1 ⟨rfl, o2⟩ e1⟩
      · cases e1
    | _ => cases e1) ox
theorem q_joined1 {ev : Ev} (he : QE S X E e ev) : QE S X E (.JoinedStr [e] pos) ev := pe_joined1 he
end
end
end Rn
namespace Rn
open PySem PySem.Spec PyProof.Rows L2 TL
set_option autoImplicit false
noncomputable section
section
variable {S : Nat → Addr} {X : Cx} {E E' : XK} {a b c e f o i value iter tg elt : Expr} {ea eb ec ei ee ef eo ev : Ev} {pos apos cpos pos' tpos : Pos} {et : EvT} {SQ : Nat → Option (List CV)} {eg : EvG} {g : TG} {gs : List Nat} {er : EvA} {es : List Expr}
/-! ### C.m(x, ..), m a def of the class C -/
theorem pe_clsfn {CX : CXT} {k : Nat} {C fa : Addr} {mc : Value} {fd : FuncData} {ps : List Str} {sp : Sp} {m : Str} {t : TA} {pl : Sem Bool} (he : PE X o (tC (.ref C))) (r : ClX.CRead X.K C mc) (cv : ClX.CVal X.K C mc m (.ref fa) (.ref fa)) (hk : PySem.W.keepIn X.K (.ref fa) = true) (F : FnOk X.prog X.w X.K X.mg X.base CX k fa fd ps sp) (hr : Room k X.A) (hb : Binds X.K fd ps []) (hx : Passes CX X E') (ha : PA X (e :: es) t)
    (hst : starEach (e :: es) X.env = (false, eval e X.env) :: starEach es X.env := by rfl) (hpl : (backTo pos (starEach es X.env)).any (·.1) = false := by rfl)
    (ht : eval (.Call (.Attribute o m apos) (e :: es) [] pos) X.env = (do
      let ov ← eval o X.env
      standAt apos.atName
      let (f, first) ← holding [ov] (getMethod ov m pl)
      callWith pos f first (backTo pos (starEach (e :: es) X.env)) (backToKw pos (keywordEach [] X.env))) := by rfl) :
    PE X (.Call (.Attribute o m apos) (e :: es) [] pos) (tCall sp [] E' t) := by
  refine ⟨fun pins s σ H Q I h => ?_⟩
  refine PySem.W.methodCall_KW (pl := pl) (thn (he.run pins s σ H (fun v H1 => v = .ref C ∧ H1 = H) I ⟨rfl, rfl⟩) fun u s1 ⟨x, H1, I1, rx, ex, eH⟩ => ?_) ht
  subst ex eH
  obtain rfl : u = Value.ref C := rx
  refine PySem.W.method_cls I1.kIn r.ga (ClX.getcval_ok I1 r cv fun s2 I2 => ?_)
  exact PySem.W.callWith_K (first := []) (h₀ := X.base) I.ok.mod.kin hk (thn (ha.run pos pins s2 σ _ _ I2 h) fun us s3 ⟨vs, H3, I3, rv, q⟩ => ⟨I3.kIn, run_fn F hr hb .nil hx I3 rv q⟩) hst hpl
theorem q_clsfn {CX : CXT} {k : Nat} {C fa : Addr} {mc : Value} {fd : FuncData} {ps : List Str} {sp : Sp} {m : Str} {g : Fg} {pl : Sem Bool} (P : Prm S E g sp E') (he : PE X o (tC (.ref C))) (r : ClX.CRead X.K C mc) (cv : ClX.CVal X.K C mc m (.ref fa) (.ref fa)) (hk : PySem.W.keepIn X.K (.ref fa) = true) (F : FnOk X.prog X.w X.K X.mg X.base CX k fa fd ps sp) (hr : Room k X.A) (hb : Binds X.K fd ps []) (hx : Passes CX X E') (ha : QA S X E (e :: es) er)
    (hst : starEach (e :: es) X.env = (false, eval e X.env) :: starEach es X.env := by rfl) (hpl : (backTo pos (starEach es X.env)).any (·.1) = false := by rfl)
    (ht : eval (.Call (.Attribute o m apos) (e :: es) [] pos) X.env = (do
      let ov ← eval o X.env
      standAt apos.atName
      let (f, first) ← holding [ov] (getMethod ov m pl)
      callWith pos f first (backTo pos (starEach (e :: es) X.env)) (backToKw pos (keywordEach [] X.env))) := by rfl) :
    QE S X E (.Call (.Attribute o m apos) (e :: es) [] pos) (xCall g er) := qe_of (pe_clsfn (pl := pl) he r cv hk F hr hb hx ha hst hpl ht) (snd_call P snd_tev)
/-! ### dicts with text keys -/
def xDNew : Ev := fun _ h k _ => newO (.dct []) h k
theorem q_dnew : QE S X E (.Dict [] [] pos) xDNew := qe_of pe_dnewK fun β ρ H h σc σ k kx Q R rs e ok ox => new_ok R e ok fun l => ⟨[], rfl, .nil⟩
theorem keyVal {β : Bt} {ρ : List Addr} {k : Nat} (hk : okT k = true) : ∀ {fs : List (Nat × CV)} {ws : List (Key × V)}, Paired (RelK S β ρ) fs ws → (∀ c, lookN k fs = some c → ∃ v, valV ws (.inr (tx k)) = some v ∧ RelC S β ρ c v) ∧ (lookN k fs = none → valV ws (.inr (tx k)) = none)
  | _, _, .nil => ⟨fun _ e => (by cases e), fun _ => rfl⟩
  | (a, x) :: r, (s, v) :: t, .cons q p => by
    obtain ⟨e1, e2, e3⟩ := q
    have e1 : s = .inr (tx a) := e1
    have e2 : okT a = true := e2
    subst e1
    have ih := keyVal hk p
    have el : lookN k ((a, x) :: r) = match Nat.beq a k with
      | true => some x
      | false => lookN k r := rfl
    rw [el]
    cases hb : Nat.beq a k with
    | true =>
      have := Nat.eq_of_beq_eq_true hb
      subst this
      exact ⟨fun c e => by cases e; exact ⟨v, valV_pos rfl, e3⟩, fun e => (by cases e)⟩
    | false =>
      have hn : ¬ (Sum.inr (tx a) : Key) = Sum.inr (tx k) := fun e => by
        rw [tx_inj e2 hk (Sum.inr.inj e), Nat.beq_refl] at hb
        cases hb
      refine ⟨fun c e => ?_, fun e => ?_⟩
      · rw [valV_neg hn]; exact ih.1 c e
      · rw [valV_neg hn]; exact ih.2 e
def dputN (k : Nat) (c : CV) (l : List (Nat × CV)) : List (Nat × CV) := match lookN k l with
  | some _ => List.rec (motive := fun _ => List (Nat × CV)) [] (fun a _ go => match Nat.beq a.1 k with
    | true => (a.1, c) :: go
    | false => a :: go) l
  | none => l ++ [(k, c)]
theorem keyPut {β : Bt} {ρ : List Addr} {k : Nat} {c : CV} {v : V} (hk : okT k = true) (rc : RelC S β ρ c v) {fs : List (Nat × CV)} {ws : List (Key × V)} (p : Paired (RelK S β ρ) fs ws) : Paired (RelK S β ρ) (dputN k c fs) (putK ws (.inr (tx k)) v) := by
  have hv := keyVal hk p
  unfold dputN putK
  rw [valV_any]
  cases hl : lookN k fs with
  | none =>
    rw [hv.2 hl, if_neg (by simp)]
    have app : ∀ {fs : List (Nat × CV)} {ws : List (Key × V)}, Paired (RelK S β ρ) fs ws → Paired (RelK S β ρ) (fs ++ [(k, c)]) (ws ++ [(.inr (tx k), v)]) := by
      intro fs ws p
      induction p with
      | nil => exact .cons ⟨rfl, hk, rc⟩ .nil
      | cons q _ ih => exact .cons q ih
    exact app p
  | some c0 =>
    obtain ⟨v0, hv0, _⟩ := hv.1 c0 hl
    rw [hv0, if_pos (by simp)]
    clear hv hl hv0
    show Paired _ (List.rec (motive := fun _ => List (Nat × CV)) [] (fun a _ go => match Nat.beq a.1 k with
      | true => (a.1, c) :: go
      | false => a :: go) fs) _
    induction p with
    | nil => exact .nil
    | @cons x y xs ys q t ih =>
      obtain ⟨a, x⟩ := x
      obtain ⟨s, w⟩ := y
      obtain ⟨e1, e2, e3⟩ := q
      have e1 : s = .inr (tx a) := e1
      have e2 : okT a = true := e2
      subst e1
      rw [List.map_cons]
      show Paired _ (match Nat.beq a k with
        | true => (a, c) :: _
        | false => (a, x) :: _) _
      cases hb : Nat.beq a k with
      | true =>
        have := Nat.eq_of_beq_eq_true hb
        subst this
        rw [if_pos rfl]
        exact .cons ⟨rfl, hk, rc⟩ ih
      | false =>
        have hn : ¬ (Sum.inr (tx a) : Key) = Sum.inr (tx k) := fun e => by
          rw [tx_inj e2 hk (Sum.inr.inj e), Nat.beq_refl] at hb
          cases hb
        rw [if_neg hn]
        exact .cons ⟨rfl, e2, e3⟩ ih
def ddelN (k : Nat) (l : List (Nat × CV)) : List (Nat × CV) := List.rec (motive := fun _ => List (Nat × CV)) [] (fun a _ go => match Nat.beq a.1 k with
  | true => go
  | false => a :: go) l
theorem keyDel {β : Bt} {ρ : List Addr} {k : Nat} (hk : okT k = true) : ∀ {fs : List (Nat × CV)} {ws : List (Key × V)}, Paired (RelK S β ρ) fs ws → Paired (RelK S β ρ) (ddelN k fs) (dropK ws (.inr (tx k)))
  | _, _, .nil => .nil
  | (a, x) :: r, (s, v) :: t, .cons q p => by
    obtain ⟨e1, e2, e3⟩ := q
    have e1 : s = .inr (tx a) := e1
    have e2 : okT a = true := e2
    subst e1
    have ih := keyDel hk p
    have el : ddelN k ((a, x) :: r) = match Nat.beq a k with
      | true => ddelN k r
      | false => (a, x) :: ddelN k r := rfl
    rw [el]
    unfold dropK at ih ⊢
    cases hb : Nat.beq a k with
    | true =>
      have := Nat.eq_of_beq_eq_true hb
      subst this
      rw [List.filter_cons_of_neg (by simp)]
      exact ih
    | false =>
      have hn : ¬ (Sum.inr (tx a) : Key) = Sum.inr (tx k) := fun e => by
        rw [tx_inj e2 hk (Sum.inr.inj e), Nat.beq_refl] at hb
        cases hb
      rw [List.filter_cons_of_pos (by simpa using hn)]
      exact .cons ⟨rfl, e2, e3⟩ ih
/-- d[y] -/
def oDGet : FO := fun x y h k => match x, y with
  | .ref i, .str s => match h.get i with
    | some (.dct kvs) => match lookN s kvs with
      | some v => k v h
      | none => false
    | _ => false
  | _, _ => false
def rDGet : R2 := fun x y H Q => ∃ a v, x = .ref a ∧ DGet H a y (some v) ∧ Q v H
theorem so_dget : SOp S oDGet rDGet := fun β ρ H h x y v w k Q R r q e ok => by
  cases x with
  | ref i =>
    cases y with
    | str s =>
      have e : (match h.get i with
        | some (.dct kvs) => match lookN s kvs with
          | some v => k v h
          | none => false
        | _ => false) = true := e
      split at e
      · rename_i kvs hg
        split at e
        · rename_i cv hl
          obtain ⟨e2, o2⟩ := q
          have e2 : w = .str (tx s) := e2
          subst e2
          obtain ⟨a', ho, rfl, ea', eh, ws, rfl, pf⟩ := R.at r hg
          obtain ⟨u, hu, ru⟩ := (keyVal o2 pf).1 cv hl
          refine ⟨a', u, rfl, ?_, ok cv h ρ H u (.refl _ _) R ru e⟩
          have := DGet.k (k := .inr (tx s)) eh
          rw [hu] at this
          exact this
        · cases e
      · cases e
    | _ => cases e
  | _ => cases e
theorem q_dget (hu : X.A.units + 1 < cLine) (ho : QE S X E o eo) (hi : QE S X E i ei) (hs : NoSl i) : QE S X E (.Subscript o i pos) (xOp oDGet eo ei) := qe_of (pe_dget hu ho hi hs) fun β ρ H h σc σ k kx Q R rs e ok ox =>
  snd_op (r := rDGet) so_dget snd_tev snd_tev β ρ H h σc σ k kx Q R rs e ok ox
/-- y in d -/
def oDIn (neg : Bool) : FO := fun y x h k => match x, y with
  | .ref i, .str s => match h.get i with
    | some (.dct kvs) => match lookN s kvs with
      | some _ => k (.bl (negB neg true)) h
      | none => k (.bl (negB neg false)) h
    | _ => false
  | _, _ => false
def rDIn (neg : Bool) : R2 := fun y x H Q => ∃ a o, x = .ref a ∧ DGet H a y o ∧ Q (.bl (negB neg o.isSome)) H
theorem so_din (neg : Bool) : SOp S (oDIn neg) (rDIn neg) := fun β ρ H h y x w v k Q R q r e ok => by
  cases x with
  | ref i =>
    cases y with
    | str s =>
      have e : (match h.get i with
        | some (.dct kvs) => match lookN s kvs with
          | some _ => k (.bl (negB neg true)) h
          | none => k (.bl (negB neg false)) h
        | _ => false) = true := e
      split at e
      · rename_i kvs hg
        obtain ⟨e2, o2⟩ := q
        have e2 : w = .str (tx s) := e2
        subst e2
        obtain ⟨a', ho, rfl, ea', eh, ws, rfl, pf⟩ := R.at r hg
        have hd := DGet.k (k := .inr (tx s)) eh
        split at e
        · rename_i cv hl
          obtain ⟨u, hu, ru⟩ := (keyVal o2 pf).1 cv hl
          rw [hu] at hd
          exact ⟨a', _, rfl, hd, ok (.bl _) h ρ H _ (.refl _ _) R rfl e⟩
        · rename_i hl
          rw [(keyVal o2 pf).2 hl] at hd
          exact ⟨a', _, rfl, hd, ok (.bl _) h ρ H _ (.refl _ _) R rfl e⟩
      · cases e
    | _ => cases e
  | _ => cases y <;> cases e
theorem q_din (hu : X.A.units + 1 < cLine) (hi : QE S X E i ei) (ho : QE S X E o eo) (h1 : behindInMarks .In o = false) : QE S X E (.Compare i [.In] [o] pos) (xOp (oDIn false) ei eo) := qe_of (pe_cmp (pc_din hu hi ho) h1) fun β ρ H h σc σ k kx Q R rs e ok ox =>
  snd_op (r := rDIn false) (so_din false) snd_tev snd_tev β ρ H h σc σ k kx Q R rs e ok ox
theorem q_dnotin (hu : X.A.units + 1 < cLine) (hi : QE S X E i ei) (ho : QE S X E o eo) (h1 : behindInMarks .NotIn o = false) : QE S X E (.Compare i [.NotIn] [o] pos) (xOp (oDIn true) ei eo) := qe_of (pe_cmp (pc_dnotin hu hi ho) h1) fun β ρ H h σc σ k kx Q R rs e ok ox =>
  snd_op (r := rDIn true) (so_din true) snd_tev snd_tev β ρ H h σc σ k kx Q R rs e ok ox
theorem tB_of {t : TE} {σ : L2.St} {H : Hp} {Q : Bool → Hp → Prop} (h : tB t σ H Q) : tB t σ H Q := h
theorem t_din (hu : X.A.units + 1 < cLine) (hi : QE S X E i ei) (ho : QE S X E o eo) (h1 : behindInMarks .In o = false) : QT S X E (.Compare i [.In] [o] pos) (xTest (xOp (oDIn false) ei eo)) := qt_of (pt_cmp (pc_din hu hi ho) h1) fun β ρ H h σc σ k kx Q R rs e ok ox =>
  snd_test (ta := tOp (rDIn false) (Tev S (RV S) E ei) (Tev S (RV S) E eo)) (snd_op (so_din false) snd_tev snd_tev) β ρ H h σc σ k kx Q R rs e ok ox
theorem t_dnotin (hu : X.A.units + 1 < cLine) (hi : QE S X E i ei) (ho : QE S X E o eo) (h1 : behindInMarks .NotIn o = false) : QT S X E (.Compare i [.NotIn] [o] pos) (xTest (xOp (oDIn true) ei eo)) := qt_of (pt_cmp (pc_dnotin hu hi ho) h1) fun β ρ H h σc σ k kx Q R rs e ok ox =>
  snd_test (ta := tOp (rDIn true) (Tev S (RV S) E ei) (Tev S (RV S) E eo)) (snd_op (so_din true) snd_tev snd_tev) β ρ H h σc σ k kx Q R rs e ok ox
/-- d[y] = v -/
def xDPut (o i v : Ev) : EvS := fun σ h nx _ _ _ kx => v σ h (fun z h1 => o σ h1 (fun x h2 => i σ h2 (fun y h3 => match x, y with
  | .ref n, .str s => match h3.get n with
    | some (.dct kvs) => match Nat.blt n 16000 with
      | true => match Nat.ble (lenL kvs) 1000 with
        | true => nx σ (h3.set n (.dct (dputN s z kvs)))
        | false => false
      | false => false
    | _ => false
  | _, _ => false) kx) kx) kx
theorem s_dput (hu : X.A.units + 1 < cLine) (ho : QE S X E o eo) (hi : QE S X E i ei) (hv : QE S X E value ev) (hs : swapsWith value (some (.Subscript o i pos')) pos.line X.env = pure false) : QS S X E (.Assign [.Subscript o i pos'] value pos) (xDPut eo ei ev) :=
  qs_of (ps_dput hu ho hi hv hs) fun β ρ H h σc σ nx rt bk ct kx D R rs e a b c d g => snd_tev β ρ H h σc σ _ kx _ R rs e (fun z h1 ρ1 H1 zv m1 R1 r1 e1 => snd_tev β ρ1 H1 h1 σc σ _ kx _ R1 (rs.mv m1) e1 (fun x h2 ρ2 H2 xv m2 R2 r2 e2 => snd_tev β ρ2 H2 h2 σc σ _ kx _ R2 (rs.mv (m1.trans m2)) e2 (fun y h3 ρ3 H3 yv m3 R3 r3 e3 => by
    have m13 := (m1.trans m2).trans m3
    cases x with
    | ref n =>
      cases y with
      | str s =>
        dsimp only at e3
        split at e3
        · rename_i kvs hg
          split at e3
          · rename_i hn
            split at e3
            · rename_i hl
              obtain ⟨ey, o3⟩ := r3
              have ey : yv = .str (tx s) := ey
              subst ey
              obtain ⟨a', ho', rfl, ea', eh, ws, rfl, pf⟩ := R3.at (r2.mv m3) hg
              have hlen : ws.length < sizeLine := by
                rw [← paired_len pf, ← lenL_eq]
                have := Nat.le_of_ble_eq_true hl
                have : sizeLine = 16777216 := sizeLine_eq
                omega
              obtain ⟨R4, m4⟩ := R3.set (co := .dct (dputN s z kvs)) (o := .dK (putK ws (.inr (tx s)) zv)) (Nat.lt_of_succ_le (Nat.le_of_ble_eq_true hn)) hg dct_ne ea' ⟨_, rfl, keyPut o3 ((r1.mv m2).mv m3) pf⟩
              exact ⟨a', _, rfl, DPut.k (k := .inr (tx s)) eh hlen, a _ _ ρ3 _ σ (m13.trans m4) R4 (rs.mv (m13.trans m4)) e3⟩
            · cases e3
          · cases e3
        · cases e3
      | _ => cases e3
    | _ => cases y <;> cases e3) (g.mv (m1.trans m2))) (g.mv m1)) g
/-- del d[y] -/
def xDDel (o i : Ev) : EvS := fun σ h nx _ _ _ kx => o σ h (fun x h2 => i σ h2 (fun y h3 => match x, y with
  | .ref n, .str s => match h3.get n with
    | some (.dct kvs) => match Nat.blt n 16000 with
      | true => match lookN s kvs with
        | some _ => nx σ (h3.set n (.dct (ddelN s kvs)))
        | none => false
      | false => false
    | _ => false
  | _, _ => false) kx) kx
theorem s_ddel (ho : QE S X E o eo) (hi : QE S X E i ei) : QS S X E (.Delete [.Subscript o i tpos] pos) (xDDel eo ei) :=
  qs_of (ps_ddel ho hi) fun β ρ H h σc σ nx rt bk ct kx D R rs e a b c d g => snd_tev β ρ H h σc σ _ kx _ R rs e (fun x h2 ρ2 H2 xv m2 R2 r2 e2 => snd_tev β ρ2 H2 h2 σc σ _ kx _ R2 (rs.mv m2) e2 (fun y h3 ρ3 H3 yv m3 R3 r3 e3 => by
    have m13 := m2.trans m3
    cases x with
    | ref n =>
      cases y with
      | str s =>
        dsimp only at e3
        split at e3
        · rename_i kvs hg
          split at e3
          · rename_i hn
            split at e3
            · rename_i cv hl
              obtain ⟨ey, o3⟩ := r3
              have ey : yv = .str (tx s) := ey
              subst ey
              obtain ⟨a', ho', rfl, ea', eh, ws, rfl, pf⟩ := R3.at (r2.mv m3) hg
              obtain ⟨u, hu, _⟩ := (keyVal o3 pf).1 cv hl
              obtain ⟨R4, m4⟩ := R3.set (co := .dct (ddelN s kvs)) (o := .dK (dropK ws (.inr (tx s)))) (Nat.lt_of_succ_le (Nat.le_of_ble_eq_true hn)) hg dct_ne ea' ⟨_, rfl, keyDel o3 pf⟩
              exact ⟨a', ws, .inr (tx s), rfl, eh, rfl, by rw [hu]; rfl, a _ _ ρ3 _ σ (m13.trans m4) R4 (rs.mv (m13.trans m4)) e3⟩
            · cases e3
          · cases e3
        · cases e3
      | _ => cases e3
    | _ => cases y <;> cases e3) (g.mv m2)) g
/-- d.setdefault(y, z) -/
def xDSetd (o i v : Ev) : Ev := fun σ h k kx => o σ h (fun x h1 => match x with
  | .ref n => match h1.get n with
    | some (.dct _) => i σ h1 (fun y h2 => v σ h2 (fun z h3 => match y with
      | .str s => match h3.get n with
        | some (.dct kvs) => match Nat.blt n 16000 with
          | true => match Nat.ble (lenL kvs) 1000 with
            | true => match lookN s kvs with
              | some u => k u h3
              | none => k z (h3.set n (.dct (dputN s z kvs)))
            | false => false
          | false => false
        | _ => false
      | _ => false) kx) kx
    | _ => false
  | _ => false) kx
theorem q_setd (ho : QE S X E o eo) (he : QE S X E e ee) (hf : QE S X E f ef) (m : M2 X o "setdefault" apos e f cpos) : QE S X E (.Call (.Attribute o "setdefault" apos) [e, f] [] cpos) (xDSetd eo ee ef) :=
  qe_of (pe_dsetd ho he hf m) fun β ρ H h σc σ k kx Q R rs e ok ox => snd_tev β ρ H h σc σ _ kx _ R rs e (fun x h1 ρ1 H1 xv m1 R1 r1 e1 => by
    cases x with
    | ref n =>
      dsimp only at e1
      split at e1
      · rename_i kvs0 hg0
        obtain ⟨a', ho', rfl, ea', eh, ws0, rfl, pf0⟩ := R1.at r1 hg0
        refine ⟨a', rfl, .inl ⟨ws0, Rd.of eh⟩, snd_tev β ρ1 H1 h1 σc σ _ kx _ R1 (rs.mv m1) e1 (fun y h2 ρ2 H2 yv m2 R2 r2 e2 => snd_tev β ρ2 H2 h2 σc σ _ kx _ R2 (rs.mv (m1.trans m2)) e2 (fun z h3 ρ3 H3 zv m3 R3 r3 e3 => ?_) (ox.mv (m1.trans m2))) (ox.mv m1)⟩
        have m13 := (m1.trans m2).trans m3
        cases y with
        | str s =>
          dsimp only at e3
          split at e3
          · rename_i kvs hg
            split at e3
            · rename_i hn
              split at e3
              · rename_i hl
                obtain ⟨ey, o3⟩ := r2
                have ey : yv = .str (tx s) := ey
                subst ey
                obtain ⟨a2, ho2, q2, ea2, eh2, ws, rfl, pf⟩ := R3.at ((r1.mv m2).mv m3) hg
                cases q2
                have hlen : ws.length < sizeLine := by
                  rw [← paired_len pf, ← lenL_eq]
                  have := Nat.le_of_ble_eq_true hl
                  have : sizeLine = 16777216 := sizeLine_eq
                  omega
                have kv := keyVal o3 pf
                refine ⟨ws, .inr (tx s), eh2, rfl, hlen, fun v hv => ?_, fun hv => ?_⟩
                · split at e3
                  · rename_i u hu
                    obtain ⟨v', hv', rv⟩ := kv.1 u hu
                    rw [hv] at hv'
                    cases hv'
                    exact ok u h3 ρ3 H3 _ m13 R3 rv e3
                  · rename_i hu
                    rw [kv.2 hu] at hv
                    cases hv
                · split at e3
                  · rename_i u hu
                    obtain ⟨v', hv', rv⟩ := kv.1 u hu
                    rw [hv] at hv'
                    cases hv'
                  · obtain ⟨R4, m4⟩ := R3.set (co := .dct (dputN s z kvs)) (o := .dK (putK ws (.inr (tx s)) zv)) (Nat.lt_of_succ_le (Nat.le_of_ble_eq_true hn)) hg dct_ne ea2 ⟨_, rfl, keyPut o3 r3 pf⟩
                    exact ok z _ ρ3 _ _ (m13.trans m4) R4 (r3.mv m4) e3
              · cases e3
            · cases e3
          · cases e3
        | _ => cases e3
      · cases e1
    | _ => cases e1) ox
/-- {y: v} -/
def xDOne (i v : Ev) : Ev := fun σ h k kx => match Nat.blt h.n 16000 with
  | true => i σ (h.push (.dct [])) (fun y h1 => v σ h1 (fun z h2 => match y with
    | .str s => match h2.get h.n with
      | some (.dct []) => k (.ref h.n) (h2.set h.n (.dct [(s, z)]))
      | _ => false
    | _ => false) kx) kx
  | false => false
theorem q_done {kx vx : Expr} {ek evx : Ev} (hk : QE S X E kx ek) (hv : QE S X E vx evx) : QE S X E (.Dict [some kx] [vx] pos) (xDOne ek evx) :=
  qe_of (pe_disp (pps_cons hk hv pps_nil) rfl rfl (fun e => by cases e) (by show 1 ≤ 15; decide)) fun β ρ H h σc σ k kx' Q R rs e ok ox => by
    intro p hp
    have e : (match Nat.blt h.n 16000 with
      | true => ek σc (h.push (.dct [])) (fun y h1 => evx σc h1 (fun z h2 => match y with
        | .str s => match h2.get h.n with
          | some (.dct []) => k (.ref h.n) (h2.set h.n (.dct [(s, z)]))
          | _ => false
        | _ => false) kx') kx'
      | false => false) = true := e
    split at e
    · rename_i hn
      have hn := Nat.lt_of_succ_le (Nat.le_of_ble_eq_true hn)
      obtain ⟨R1, m1, r1⟩ := R.push (p := p) (co := .dct []) (o := .dK []) hp ⟨[], rfl, .nil⟩ hn
      refine snd_tev β _ _ _ σc σ _ kx' _ R1 (rs.mv m1) e (fun y h2 ρ2 H2 yv m2 R2 r2 e2 => snd_tev β ρ2 H2 h2 σc σ _ kx' _ R2 (rs.mv (m1.trans m2)) e2 (fun z h3 ρ3 H3 zv m3 R3 r3 e3 => ?_) (ox.mv (m1.trans m2))) (ox.mv m1)
      cases y with
      | str s =>
        dsimp only at e3
        split at e3
        · rename_i hg
          obtain ⟨ey, o3⟩ := r2
          have ey : yv = .str (tx s) := ey
          subst ey
          obtain ⟨a2, ho2, q2, ea2, eh2, ws, rfl, pf⟩ := R3.at ((r1.mv m2).mv m3) hg
          cases q2
          cases pf
          obtain ⟨R4, m4⟩ := R3.set (co := .dct [(s, z)]) (o := .dK [(.inr (tx s), zv)]) hn hg dct_ne ea2 ⟨_, rfl, .cons ⟨rfl, o3, r3⟩ .nil⟩
          exact ⟨eh2, [(.inr (tx s), zv)], rfl, (by show 1 ≤ 15; decide), ok _ _ ρ3 _ _ (((m1.trans m2).trans m3).trans m4) R4 (((r1.mv m2).mv m3).mv m4) e3⟩
        · cases e3
      | _ => cases e3
    · cases e
/-! ### texts -/
def oLeS : FO := fun x y h k => match x, y with
  | .str a, .str b => match Nat.beq (lenN a) 1, Nat.beq (lenN b) 1 with
    | true, true => k (.bl (Nat.ble (a % 256) (b % 256))) h
    | _, _ => false
  | _, _ => false
def rLeS : R2 := fun x y H Q => ∃ i j, x = .str i ∧ y = .str j ∧ Q (.bl (!decide (j.cps.toList < i.cps.toList))) H
theorem so_leS : SOp S oLeS rLeS := fun β ρ H h x y v w k Q R r q e ok => by
  cases x with
  | str a =>
    cases y with
    | str b =>
      have e : (match Nat.beq (lenN a) 1, Nat.beq (lenN b) 1 with
        | true, true => k (.bl (Nat.ble (a % 256) (b % 256))) h
        | _, _ => false) = true := e
      split at e
      · rename_i h1 h2
        obtain ⟨e1, o1⟩ := r
        obtain ⟨e2, o2⟩ := q
        have e1 : v = .str (tx a) := e1
        have e2 : w = .str (tx b) := e2
        subst e1
        subst e2
        refine ⟨_, _, rfl, rfl, ?_⟩
        have hd : (!decide ((tx b).cps.toList < (tx a).cps.toList)) = Nat.ble (a % 256) (b % 256) := by
          rw [tx_one (Nat.eq_of_beq_eq_true h1), tx_one (Nat.eq_of_beq_eq_true h2)]
          show (!decide ([b % 256] < [a % 256])) = _
          by_cases hh : b % 256 < a % 256
          · rw [decide_eq_true (List.cons_lt_cons_iff.mpr (.inl hh))]
            cases hb : Nat.ble (a % 256) (b % 256) with
            | false => rfl
            | true =>
              have := Nat.le_of_ble_eq_true hb
              omega
          · rw [decide_eq_false (fun q => (List.cons_lt_cons_iff.mp q).elim hh fun z => absurd z.2 (List.not_lt_nil _))]
            exact (Nat.ble_eq_true_of_le (by omega)).symm
        rw [hd]
        exact ok (.bl _) h ρ H _ (.refl _ _) R rfl e
      · cases e
    | _ => cases e
  | _ => cases e
def xChain (f g : FO) (a b c : Ev) : Ev := fun σ h k kx => a σ h (fun x h1 => b σ h1 (fun y h2 => f x y h2 (fun z h3 => match z with
  | .bl true => c σ h3 (fun w h4 => g y w h4 k) kx
  | .bl false => k (.bl false) h3
  | _ => false)) kx) kx
theorem q_chain {op op' : CmpOp} {r r' : R2} {f1 g1 : FO} (ho : OpR X (compareOp op) r) (ho' : OpR X (compareOp op') r') (sf : SOp S f1 r) (sg : SOp S g1 r') (ha : QE S X E a ea) (hb : QE S X E b eb) (hc : QE S X E c ec)
    (hm : lastMarks [op, op'] [b, c] = false := by with_unfolding_all rfl) : QE S X E (.Compare a [op, op'] [b, c] pos) (xChain f1 g1 ea eb ec) := qe_of (pe_chain ho ho' ha hb hc hm) fun β ρ H h σc σ k kx Q R rs e ok ox =>
  snd_tev β ρ H h σc σ _ kx _ R rs e (fun x h1 ρ1 H1 xv m1 R1 r1 e1 => snd_tev β ρ1 H1 h1 σc σ _ kx _ R1 (rs.mv m1) e1 (fun y h2 ρ2 H2 yv m2 R2 r2 e2 => sf β ρ2 H2 h2 x y xv yv _ _ R2 (r1.mv m2) r2 e2 (fun z h3 ρ3 H3 zv m3 R3 r3 e3 => by
    have m13 := (m1.trans m2).trans m3
    cases z with
    | bl bb =>
      cases bb with
      | true =>
        refine ⟨true, r3, ?_⟩
        rw [if_pos rfl]
        exact snd_tev β ρ3 H3 h3 σc σ _ kx _ R3 (rs.mv m13) e3 (fun w h4 ρ4 H4 wv m4 R4 r4 e4 => sg β ρ4 H4 h4 y w yv wv _ _ R4 ((r2.mv m3).mv m4) r4 e4 (ok.mv (m13.trans m4))) (ox.mv m13)
      | false =>
        refine ⟨false, r3, ?_⟩
        rw [if_neg Bool.false_ne_true]
        exact ok (.bl false) h3 ρ3 H3 _ m13 R3 rfl e3
    | _ => cases e3)) (ox.mv m1)) ox
/-- z[i:j] -/
def xSl (a l u : Ev) : Ev := fun σ h k kx => a σ h (fun x h1 => match x with
  | .str s => l σ h1 (fun y h2 => match y with
    | .int (.ofNat i) => u σ h2 (fun z h3 => match z with
      | .int (.ofNat j) => match Nat.ble (lenN s) 100000, Nat.ble i (lenN s) with
        | true, true => match Nat.ble i j with
          | true => match Nat.ble j (lenN s) with
            | true => k (.str (subK s i j)) h3
            | false => k (.str (subK s i (lenN s))) h3
          | false => false
        | _, _ => false
      | _ => false) kx
    | _ => false) kx
  | _ => false) kx
theorem tx_cut {s i j : Nat} (o : okT s = true) (hi : i ≤ lenN s) (hij : i ≤ j) : (∃ t, t = (if j ≤ lenN s then subK s i j else subK s i (lenN s)) ∧ tx t = cutS (tx s) (some (i : Int)) (some (j : Int)) ∧ okT t = true) := by
  have key : cutS (tx s) (some (i : Int)) (some (j : Int)) = ⟨(((dec s).drop i).take (min j (lenN s) - i)).toArray⟩ := by
    unfold cutS
    rw [HT.sIx_nat, HT.sIx_nat, tx_len, Nat.min_eq_left hi]
    rfl
  by_cases hj : j ≤ lenN s
  · refine ⟨_, rfl, ?_⟩
    rw [if_pos hj, key, Nat.min_eq_left hj]
    exact tx_sub o hij hj
  · refine ⟨_, rfl, ?_⟩
    rw [if_neg hj, key, Nat.min_eq_right (by omega)]
    exact tx_sub o hi (Nat.le_refl _)
theorem q_sl {p2 : Pos} {lo hi : Expr} {el eu : Ev} (ha : QE S X E a ea) (hl : QE S X E lo el) (hu : QE S X E hi eu) : QE S X E (.Subscript a (.Slice (some lo) (some hi) none p2) pos) (xSl ea el eu) := qe_of (pe_slice sl_str ha (po_some hl) (po_some hu)) fun β ρ H h σc σ k kx Q R rs e ok ox =>
  snd_tev β ρ H h σc σ _ kx _ R rs e (fun x h1 ρ1 H1 xv m1 R1 r1 e1 => by
    cases x with
    | str s =>
      refine snd_tev β ρ1 H1 h1 σc σ _ kx _ R1 (rs.mv m1) e1 (fun y h2 ρ2 H2 yv m2 R2 r2 e2 => ?_) (ox.mv m1)
      cases y with
      | int z2 =>
        cases z2 with
        | ofNat i =>
          cases r2
          refine ⟨_, rfl, snd_tev β ρ2 H2 h2 σc σ _ kx _ R2 (rs.mv (m1.trans m2)) e2 (fun z h3 ρ3 H3 zv m3 R3 r3 e3 => ?_) (ox.mv (m1.trans m2))⟩
          have m13 := (m1.trans m2).trans m3
          cases z with
          | int z3 =>
            cases z3 with
            | ofNat j =>
              cases r3
              obtain ⟨ex, o1⟩ := r1
              have ex : xv = .str (tx s) := ex
              subst ex
              dsimp only at e3
              split at e3
              · rename_i hl1 hl2
                split at e3
                · rename_i hij
                  obtain ⟨t, et, t1, t2⟩ := tx_cut (s := s) (i := i) (j := j) o1 (Nat.le_of_ble_eq_true hl2) (Nat.le_of_ble_eq_true hij)
                  refine ⟨_, rfl, tx s, rfl, by rw [tx_len]; exact line10 (Nat.le_trans (Nat.le_of_ble_eq_true hl1) (by decide)), ?_⟩
                  show Q (.str (cutS (tx s) (some (i : Int)) (some (j : Int)))) H3
                  rw [← t1]
                  refine ok (.str t) h3 ρ3 H3 _ m13 R3 ⟨rfl, t2⟩ ?_
                  split at e3
                  · rename_i hj
                    rw [et, if_pos (Nat.le_of_ble_eq_true hj)]
                    exact e3
                  · rename_i hj
                    rw [et, if_neg fun q => by rw [Nat.ble_eq_true_of_le q] at hj; cases hj]
                    exact e3
                · cases e3
              · cases e3
            | negSucc j => cases e3
          | _ => cases e3
        | negSucc i => cases e2
      | _ => cases e2
    | _ => cases e1) ox
/-- sep.join(texts) -/
def strL (l : List CV) : Option (List Nat) := List.rec (motive := fun _ => Option (List Nat)) (some []) (fun y _ go => match y with
  | .str s => match go with
    | some r => some (s :: r)
    | none => none
  | _ => none) l
theorem strL_ok {β : Bt} {ρ : List Addr} : ∀ {l : List CV} {vs : List V} {c : List Nat}, RelL S β ρ l vs → strL l = some c → vs = (c.map tx).map V.str ∧ ∀ x ∈ c, okT x = true
  | _, _, _, .nil, e => by cases e; exact ⟨rfl, fun x hx => (by cases hx)⟩
  | y :: l, w :: vs, c, .cons q t, e => by
    cases y with
    | str s =>
      have e : (match strL l with
        | some r => some (s :: r)
        | none => none) = some c := e
      split at e
      · rename_i r hr
        cases e
        obtain ⟨e1, o1⟩ := q
        have e1 : w = .str (tx s) := e1
        subst e1
        obtain ⟨i1, i2⟩ := strL_ok t hr
        rw [i1]
        exact ⟨rfl, fun x hx => (List.mem_cons.mp hx).elim (fun e => by rw [e]; exact o1) (i2 x)⟩
      · cases e
    | _ => cases e
def joinN (sep : Nat) (l : List Nat) : Nat := List.rec (motive := fun _ => Nat) 1 (fun a r go => List.rec (motive := fun _ => Nat) a (fun _ _ _ => catK a (catK sep go)) r) l
theorem joinN_ok {sep : Nat} (hs : okT sep = true) : ∀ {l : List Nat}, (∀ x ∈ l, okT x = true) → tl (tx (joinN sep l)) = TL.joinL (tl (tx sep)) (l.map fun x => tl (tx x)) ∧ okT (joinN sep l) = true
  | [], _ => ⟨(by show tl (tx 1) = _; rw [show tx 1 = Str.empty from rfl]; rfl), (by show okT 1 = true; decide)⟩
  | [a], h => by
    refine ⟨?_, h a (List.mem_singleton.mpr rfl)⟩
    show tl (tx a) = _
    simp [TL.joinL]
  | a :: b :: r, h => by
    obtain ⟨i1, i2⟩ := joinN_ok hs (l := b :: r) fun x hx => h x (List.mem_cons_of_mem _ hx)
    have e : joinN sep (a :: b :: r) = catK a (catK sep (joinN sep (b :: r))) := rfl
    obtain ⟨c1, c2⟩ := tx_cat hs i2
    obtain ⟨d1, d2⟩ := tx_cat (h a (List.mem_cons_self ..)) c2
    rw [e]
    refine ⟨?_, d2⟩
    rw [d1, tl_append, c1, tl_append, i1]
    simp [TL.joinL]
end
end
end Rn
namespace Rn
open PySem PySem.Spec PyProof.Rows L2 TL
set_option autoImplicit false
noncomputable section
section
variable {S : Nat → Addr} {X : Cx} {E E' : XK} {a b c e f o i value iter tg elt : Expr} {ea eb ec ei ee ef eo ev : Ev} {pos apos cpos pos' tpos : Pos} {et : EvT} {SQ : Nat → Option (List CV)} {eg : EvG} {g : TG} {gs : List Nat} {er : EvA} {es : List Expr} {bs : EvS} {body : List Stmt}
/-! ### join -/
def sumN (l : List Nat) : Nat := List.rec (motive := fun _ => Nat) 0 (fun a _ go => lenN a + go) l
theorem sumN_eq : ∀ l : List Nat, sumN l = ((l.map tx).map (·.length)).sum
  | [] => rfl
  | a :: r => by
    show lenN a + sumN r = _
    rw [sumN_eq r, List.map_cons, List.map_cons, List.sum_cons, tx_len]
def xJoin (SQ : Nat → Option (List CV)) (s a : Ev) : Ev := fun σ h k kx => s σ h (fun x h1 => match x with
  | .str sep => a σ h1 (fun y h2 => match seqA SQ y h2 with
    | some cs => match strL cs with
      | some l => match Nat.ble (sumN l + lenL l * lenN sep) 100000 with
        | true => k (.str (joinN sep l)) h2
        | false => false
      | none => false
    | none => false) kx
  | _ => false) kx
theorem q_join (T : StaOk X.K S SQ) (ho : QE S X E o eo) (he : QE S X E e ee) (hs : starEach [e] X.env = [(false, eval e X.env)] := by rfl) (hbase : attributeBase o "join" X.env (eval o X.env) = eval o X.env := by rfl) (hline : (apos.endLine == pos.line) = true := by rfl) :
    QE S X E (.Call (.Attribute o "join" apos) [e] [] pos) (xJoin SQ eo ee) := qe_of (pe_join ho he hs hbase hline) fun β ρ H h σc σ k kx Q R rs e ok ox =>
  snd_tev β ρ H h σc σ _ kx _ R rs e (fun x h1 ρ1 H1 xv m1 R1 r1 e1 => by
    cases x with
    | str sep =>
      obtain ⟨ex, o1⟩ := r1
      have ex : xv = .str (tx sep) := ex
      subst ex
      refine ⟨⟨tx sep, rfl⟩, snd_tev β ρ1 H1 h1 σc σ _ kx _ R1 (rs.mv m1) e1 (fun y h2 ρ2 H2 yv m2 R2 r2 e2 => ?_) (ox.mv m1)⟩
      split at e2
      · rename_i cs hcs
        split at e2
        · rename_i l hl
          split at e2
          · rename_i hz
            obtain ⟨p, vs, rfl, rl, hsq⟩ := seqA_ok T R2 r2 hcs
            obtain ⟨i1, i2⟩ := strL_ok rl hl
            subst i1
            refine ⟨tx sep, p, l.map tx, rfl, rfl, hsq, ?_, ?_⟩
            · rw [← sumN_eq, List.length_map, tx_len, ← lenL_eq]
              exact Nat.le_trans (Nat.le_of_ble_eq_true hz) (by decide)
            · obtain ⟨j1, j2⟩ := joinN_ok o1 i2
              have e3 : Txt.join (tx sep) (l.map tx) = tx (joinN sep l) := ext_tl (by
                rw [join_eq, tl_join, j1, List.map_map]
                rfl)
              rw [e3]
              exact ok (.str _) h2 ρ2 H2 _ (m1.trans m2) R2 ⟨rfl, j2⟩ e2
          · cases e2
        · cases e2
      · cases e2
    | _ => cases e1) ox
/-! ### for k, v in d.items(), d a local name: the dict is locked meanwhile -/
def iLoop (kvs : List (Nat × CV)) (eg : EvG) (eb : EvS) (f : Nat) : Nat → Sg → Hc → KS → KV → KX → Bool := Nat.rec (motive := fun _ => Nat → Sg → Hc → KS → KV → KX → Bool) (fun _ _ _ _ _ _ => false)
  (fun _ go i σ h nx rt kx => match nth kvs i with
    | none => nx σ h
    | some p => match Nat.blt h.n 16000 with
      | true => eg (.ref h.n) σ (h.push (.tup [.str p.1, p.2])) (fun σ1 h1 => eb σ1 h1 (fun σ2 h2 => go (i + 1) σ2 h2 nx rt kx) rt nx (fun σ2 h2 => go (i + 1) σ2 h2 nx rt kx) kx)
      | false => false) f
def xForI (f : Nat) (s : Nat) (eg : EvG) (eb : EvS) : EvS := fun σ h nx rt _ _ kx => match nth σ s with
  | some (some (.ref j)) => match h.get j with
    | some (.dct kvs) => match Nat.blt j 16000 with
      | true => iLoop kvs eg eb f 0 σ (h.set j .gone) (fun σ1 h1 => nx σ1 (h1.set j (.dct kvs))) (fun v h1 => rt v (h1.set j (.dct kvs))) kx
      | false => false
    | _ => false
  | _ => false
theorem relC_L {β β' : Bt} {ρ : List Addr} {c : CV} {v : V} (hb : β'.β = β.β) (r : RelC S β ρ c v) : RelC S β' ρ c v := by
  cases c with
  | pl n =>
    show v = .int (β'.β + n)
    rw [hb]
    exact r
  | _ => exact r
theorem relO_L {β β' : Bt} {ρ : List Addr} {c : CO} {o : HO} (hb : β'.β = β.β) (r : RelO S β ρ c o) : RelO S β' ρ c o := by
  cases c with
  | lst cs => obtain ⟨vs, e, q⟩ := r; exact ⟨vs, e, L2.Paired.mapP q fun _ _ z => relC_L hb z⟩
  | tup cs => obtain ⟨vs, e, q⟩ := r; exact ⟨vs, e, L2.Paired.mapP q fun _ _ z => relC_L hb z⟩
  | ins C fs => obtain ⟨dx, vs, e, q⟩ := r; exact ⟨dx, vs, e, L2.Paired.mapP q fun _ _ z => ⟨z.1, z.2.1, relC_L hb z.2.2⟩⟩
  | dct kvs => obtain ⟨vs, e, q⟩ := r; exact ⟨vs, e, L2.Paired.mapP q fun _ _ z => ⟨z.1, z.2.1, relC_L hb z.2.2⟩⟩
  | gone => trivial
def lockB (β : Bt) (j : Nat) : Bt := ⟨β.β, j :: β.L⟩
theorem lockS {β : Bt} {j : Nat} {ρ : List Addr} {σc : Sg} {σ : L2.St} (r : RelS S β ρ σc σ) : RelS S (lockB β j) ρ σc σ := L2.Paired.mapP r fun _ _ q x e => by
  obtain ⟨y, e2, q⟩ := q x e
  exact ⟨y, e2, relC_L (β' := lockB β j) rfl q⟩
theorem unlockS {β : Bt} {j : Nat} {ρ : List Addr} {σc : Sg} {σ : L2.St} (r : RelS S (lockB β j) ρ σc σ) : RelS S β ρ σc σ := L2.Paired.mapP r fun _ _ q x e => by
  obtain ⟨y, e2, q⟩ := q x e
  exact ⟨y, e2, relC_L (β := lockB β j) rfl q⟩
theorem Rep.lock {β : Bt} {ρ : List Addr} {h : Hc} {H : Hp} (R : Rep S β ρ h H) {j : Nat} {a : Addr} {co : CO} (hj : j < 16000) (h0 : h.get j = some co) (hg : co ≠ .gone) (ha : ρ[j]? = some a) (o : HO) : Rep S (lockB β j) ρ (h.set j .gone) (upd H a o) := by
  obtain ⟨R1, _⟩ := R.set (co := .gone) (o := o) hj h0 hg ha trivial
  refine ⟨R1.nd, R1.sz, fun i hi => ?_, fun i b e => ?_, R1.up⟩
  · rcases List.mem_cons.mp hi with rfl | hi
    · rw [set_get hj, if_pos rfl]
    · exact R1.lk i hi
  · obtain ⟨co', ho, e1, e2, e3⟩ := R1.ob i b e
    exact ⟨co', ho, e1, e2, relO_L (β' := lockB β j) rfl e3⟩
/-- back: the dict's record is laid again -/
theorem Rep.unlock {β : Bt} {ρ0 ρ : List Addr} {h0 h : Hc} {H0 H : Hp} {j : Nat} {a : Addr} {co co0 : CO} {o o2 : HO} (R0 : Rep S β ρ0 h0 H0) (g0 : h0.get j = some co0) (hg : co0 ≠ .gone) (hj : j < 16000) (ha : ρ0[j]? = some a) (hj0 : H0 a = some o) (mv : Mv (lockB β j) ρ0 (upd H0 a o2) ρ H) (R : Rep S (lockB β j) ρ h H) (ro : RelO S β ρ co o) :
    H a = some o2 ∧ Rep S β ρ (h.set j co) (upd H a o) ∧ Mv β ρ0 H0 ρ (upd H a o) := by
  obtain ⟨⟨l, rfl⟩, f, fl⟩ := mv
  have ha' : (ρ0 ++ l)[j]? = some a := at_app ha
  have hjL : j ∈ (lockB β j).L := List.mem_cons_self ..
  have hjn : j ∉ β.L := fun m => by
    have := R0.lk j m
    rw [g0] at this
    exact hg (Option.some.inj this)
  have inj : ∀ i b, (ρ0 ++ l)[i]? = some b → i ≠ j → b ≠ a := fun i b e hi q => by
    subst q
    obtain ⟨h1, e4⟩ := List.getElem?_eq_some_iff.mp ha'
    obtain ⟨h2, e5⟩ := List.getElem?_eq_some_iff.mp e
    exact hi ((List.getElem_inj R.nd).mp (e5.trans e4.symm))
  refine ⟨fl j hjL a o2 ha upd_same, ⟨R.nd, R.sz, fun i hi => ?_, fun i b e => ?_, fun i co' e => ?_⟩, ⟨l, rfl⟩, fun b u n e => ?_, fun i hi b u e1 e2 => ?_⟩
  · rw [set_get hj, if_neg (fun (e : i = j) => hjn (by rw [← e]; exact hi))]
    exact R.lk i (List.mem_cons_of_mem _ hi)
  · by_cases hi : i = j
    · subst hi
      rw [ha'] at e
      cases e
      exact ⟨co, o, by rw [set_get hj, if_pos rfl], upd_same, ro⟩
    · obtain ⟨co', ho, e1, e2, e3⟩ := R.ob i b e
      exact ⟨co', ho, by rw [set_get hj, if_neg hi]; exact e1, by rw [upd_ne (inj i b e hi)]; exact e2, relO_L (β := lockB β j) rfl e3⟩
  · rw [set_get hj] at e
    by_cases hi : i = j
    · subst hi
      exact R.up _ _ (R.lk _ hjL)
    · rw [if_neg hi] at e
      exact R.up _ _ e
  · have hba : b ≠ a := fun q => n (by rw [q]; exact List.mem_of_getElem? ha)
    obtain ⟨e1, n1⟩ := f b u n (by rw [upd_ne hba]; exact e)
    exact ⟨by rw [upd_ne hba]; exact e1, n1⟩
  · have hij : i ≠ j := fun q => hjn (by rw [← q]; exact hi)
    have hba : b ≠ a := inj i b (at_app e1) hij
    have := fl i (List.mem_cons_of_mem _ hi) b u e1 (by rw [upd_ne hba]; exact e2)
    rw [upd_ne hba]
    exact this
theorem s_forI {s : Nat} {e0 : Expr} {elts : List Expr} {kk : Nat} {tp : Pos} (f : Nat) (hp : PassesOwn (model X.prog X.w) X.A X.env X.xe) (hc : X.calm = true) (he : PE X e0 (tVar s)) (hg : PG X (.Tuple elts kk tp) g) (sg : SndG S gs eg g) (hb : QSs S X E body bs)
    (hbase : attributeBase e0 "items" X.env (eval e0 X.env) = eval e0 X.env := by rfl) (hline : (apos.endLine == cpos.line) = true := by rfl) (hs : ∀ x, foldedSetIterable (.Call (.Attribute e0 "items" apos) [] [] cpos) X.env x = pure x := by intro _; rfl) :
    QS S X E (.For (.Tuple elts kk tp) (.Call (.Attribute e0 "items" apos) [] [] cpos) body [] pos) (xForI f s eg bs) := by
  refine qs_of (ps_lock (ps_for hp hc (pi_items he hbase hline) hg hb hs)) fun β ρ H h σc σ nx rt bk ct kx D R rs e na nb nc nd nk => ?_
  unfold xForI at e
  rw [nth_eq] at e
  split at e
  · rename_i j hj
    split at e
    · rename_i kvs hgd
      split at e
      · rename_i hjn
        have hjn := Nat.lt_of_succ_le (Nat.le_of_ble_eq_true hjn)
        obtain ⟨b0, hb0, q0⟩ := paired_get rs hj
        obtain ⟨y0, rfl, r0⟩ := q0 _ rfl
        obtain ⟨a0, ho0, rfl, ea0, eh0, ws, rfl, pf⟩ := R.at r0 hgd
        refine ⟨a0, .dK ws, eh0, trivial, fun od => ?_⟩
        have R1 := R.lock hjn hgd dct_ne ea0 (.frz od (.dK ws))
        -- what the ends want
        have back : ∀ {ρ' : List Addr} {h' : Hc} {H' : Hp}, Mv (lockB β j) ρ (upd H a0 (.frz od (.dK ws))) ρ' H' → Rep S (lockB β j) ρ' h' H' → H' a0 = some (.frz od (.dK ws)) ∧ Rep S β ρ' (h'.set j (.dct kvs)) (upd H' a0 (.dK ws)) ∧ Mv β ρ H ρ' (upd H' a0 (.dK ws)) := fun {ρ' h' H'} mv R' => by
          refine Rep.unlock R hgd dct_ne hjn ea0 eh0 mv R' ?_
          obtain ⟨⟨l, rfl⟩, _, _⟩ := mv
          exact RelO.mono l (show RelO S β ρ (.dct kvs) (.dK ws) from ⟨ws, rfl, pf⟩)
        refine ⟨.ref a0, hb0, a0, od, ws, rfl, upd_same, ?_⟩
        refine ⟨fun i m σ' H' => ∃ (ρ' : List Addr) (h' : Hc) (σc' : Sg), Mv (lockB β j) ρ (upd H a0 (.frz od (.dK ws))) ρ' H' ∧ Rep S (lockB β j) ρ' h' H' ∧ RelS S (lockB β j) ρ' σc' σ' ∧ iLoop kvs eg bs m i σc' h' (fun σ1 h1 => nx σ1 (h1.set j (.dct kvs))) (fun v h1 => rt v (h1.set j (.dct kvs))) kx = true, ⟨f, ρ, _, σc, .refl _ _, R1, lockS rs, e⟩, ?_⟩
        rintro i m σ' H' ⟨ρ', h', σc', mv, R', rs', e'⟩
        have rt' : KOk S (RelC S (lockB β j)) (lockB β j) ρ' H' (fun v h1 => rt v (h1.set j (.dct kvs))) (fun v H' => H' a0 = some (.frz od (.dK ws)) ∧ D.rt v (upd H' a0 (.dK ws))) := fun v h2 ρ2 H2 x m2 R2 r2 e2 => by
          obtain ⟨b1, b2, b3⟩ := back (mv.trans m2) R2
          exact ⟨b1, nb v _ ρ2 _ x b3 b2 (relC_L (β := lockB β j) rfl r2) e2⟩
        have nx' : KSk S (lockB β j) ρ' H' (fun σ1 h1 => nx σ1 (h1.set j (.dct kvs))) (fun σ' H' => H' a0 = some (.frz od (.dK ws)) ∧ D.nx σ' (upd H' a0 (.dK ws))) := fun σ2 h2 ρ2 H2 σ'' m2 R2 r2 e2 => by
          obtain ⟨b1, b2, b3⟩ := back (mv.trans m2) R2
          exact ⟨b1, na σ2 _ ρ2 _ σ'' b3 b2 (unlockS r2) e2⟩
        have kx' : XOk S (lockB β j) ρ' H' kx E := fun p s h2 ρ2 H2 dd x m2 R2 r2 os hd e2 => by
          have mm := mv.trans m2
          refine nk p s h2 ρ2 H2 dd x ⟨mm.1, fun b u n e => ?_, fun i hi b u e1 e2 => ?_⟩ ⟨R2.nd, R2.sz, fun i hi => R2.lk i (List.mem_cons_of_mem _ hi), fun i b e => ?_, R2.up⟩ (relC_L (β := lockB β j) rfl r2) os hd e2
          · have hba : b ≠ a0 := fun q => n (by rw [q]; exact List.mem_of_getElem? ea0)
            exact mm.2.1 b u n (by rw [upd_ne hba]; exact e)
          · have hij : i ≠ j := fun q => by
              have := R.lk i hi
              rw [q, hgd] at this
              cases this
            have hba : b ≠ a0 := fun q => by
              subst q
              obtain ⟨h1, e4⟩ := List.getElem?_eq_some_iff.mp ea0
              obtain ⟨h2, e5⟩ := List.getElem?_eq_some_iff.mp e1
              exact hij ((List.getElem_inj R.nd).mp (e5.trans e4.symm))
            exact mm.2.2 i (List.mem_cons_of_mem _ hi) b u e1 (by rw [upd_ne hba]; exact e2)
          · obtain ⟨co', ho, e1, e2, e3⟩ := R2.ob i b e
            exact ⟨co', ho, e1, e2, relO_L (β := lockB β j) rfl e3⟩
        have hfz : H' a0 = some (.frz od (.dK ws)) := (back mv R').1
        cases m with
        | zero => cases e'
        | succ m =>
          have e' : (match nth kvs i with
            | none => nx σc' (h'.set j (.dct kvs))
            | some p => match Nat.blt h'.n 16000 with
              | true => eg (.ref h'.n) σc' (h'.push (.tup [.str p.1, p.2])) (fun σ1 h1 => bs σ1 h1 (fun σ2 h2 => iLoop kvs eg bs m (i + 1) σ2 h2 (fun σ1 h1 => nx σ1 (h1.set j (.dct kvs))) (fun v h1 => rt v (h1.set j (.dct kvs))) kx) (fun v h1 => rt v (h1.set j (.dct kvs))) (fun σ1 h1 => nx σ1 (h1.set j (.dct kvs))) (fun σ2 h2 => iLoop kvs eg bs m (i + 1) σ2 h2 (fun σ1 h1 => nx σ1 (h1.set j (.dct kvs))) (fun v h1 => rt v (h1.set j (.dct kvs))) kx) kx)
              | false => false) = true := e'
          have hlen := paired_len pf
          split at e'
          · rename_i hn
            rw [nth_eq] at hn
            have := List.getElem?_eq_none_iff.mp hn
            exact .inl ⟨⟨hfz, by omega⟩, nx' σc' h' ρ' H' σ' (.refl _ _) R' rs' e'⟩
          · rename_i p hn
            rw [nth_eq] at hn
            split at e'
            · rename_i hnn
              have hnn := Nat.lt_of_succ_le (Nat.le_of_ble_eq_true hnn)
              obtain ⟨q, hq, z1, z2, z3⟩ := paired_get pf hn
              have hi : i < ws.length := (List.getElem?_eq_some_iff.mp hq).1
              refine .inr ⟨⟨hfz, hi⟩, fun σ2 H2 => ∃ m', m' < m + 1 ∧ ∃ (ρ' : List Addr) (h' : Hc) (σc' : Sg), Mv (lockB β j) ρ (upd H a0 (.frz od (.dK ws))) ρ' H2 ∧ Rep S (lockB β j) ρ' h' H2 ∧ RelS S (lockB β j) ρ' σc' σ2 ∧ iLoop kvs eg bs m' (i + 1) σc' h' (fun σ1 h1 => nx σ1 (h1.set j (.dct kvs))) (fun v h1 => rt v (h1.set j (.dct kvs))) kx = true, fun _ _ z => z, ?_⟩
              rintro y H'' ⟨T, kk', vv, hkv, rfl, hT, rfl⟩
              rw [hq] at hkv
              have hkv : q = (kk', vv) := Option.some.inj hkv
              subst hkv
              have z1 : kk' = .inr (tx p.1) := z1
              subst z1
              have rv : RelC S (lockB β j) ρ' p.2 vv := relC_L (β' := lockB β j) rfl (by
                obtain ⟨⟨l, rfl⟩, _, _⟩ := mv
                exact z3.mono l)
              obtain ⟨R2, m2, r2⟩ := R'.push (p := T) (co := .tup [.str p.1, p.2]) (o := .tup [kV (.inr (tx p.1)), vv]) hT ⟨_, rfl, .cons ⟨rfl, z2⟩ (.cons (rv.mono _) .nil)⟩ hnn
              refine sg (lockB β j) _ _ _ σc' σ' _ _ _ _ R2 (rs'.mv m2) r2 e' fun σ1 h2 ρ2 H2 σ2 m3 R3 r3 _ e2 => ?_
              have m23 := m2.trans m3
              have again : KSk S (lockB β j) ρ2 H2 (fun σ2 h2 => iLoop kvs eg bs m (i + 1) σ2 h2 (fun σ1 h1 => nx σ1 (h1.set j (.dct kvs))) (fun v h1 => rt v (h1.set j (.dct kvs))) kx) (fun σ2 H2 => ∃ m', m' < m + 1 ∧ ∃ (ρ' : List Addr) (h' : Hc) (σc' : Sg), Mv (lockB β j) ρ (upd H a0 (.frz od (.dK ws))) ρ' H2 ∧ Rep S (lockB β j) ρ' h' H2 ∧ RelS S (lockB β j) ρ' σc' σ2 ∧ iLoop kvs eg bs m' (i + 1) σc' h' (fun σ1 h1 => nx σ1 (h1.set j (.dct kvs))) (fun v h1 => rt v (h1.set j (.dct kvs))) kx = true) :=
                fun σc3 h3 ρ3 H3 σ3 m4 R4 r4 e3 => ⟨m, Nat.lt_succ_self _, ρ3, h3, σc3, (mv.trans m23).trans m4, R4, r4, e3⟩
              exact snd_tevS (lockB β j) ρ2 H2 h2 σ1 σ2 _ _ _ _ _ _ R3 r3 e2 again (rt'.mv m23) (nx'.mv m23) again (kx'.mv m23)
            · cases e'
      · cases e
    · cases e
  · cases e
/-! ### a list of texts among lists of texts -/
def toD (f : Nat) (h : Hc) : CV → Option PyData := Nat.rec (motive := fun _ => CV → Option PyData) (fun _ => none) (fun _ go c => match c with
  | .non => some .none
  | .bl b => some (.bool b)
  | .int i => some (.int i)
  | .str s => some (.str (tx s))
  | .ref i => match h.get i with
    | some (.lst cs) => match (List.rec (motive := fun _ => Option (List PyData)) (some []) (fun y _ r => match go y with
        | some d => match r with
          | some ds => some (d :: ds)
          | none => none
        | none => none) cs : Option (List PyData)) with
      | some ds => some (.list ds)
      | none => none
    | _ => none
  | _ => none) f
def toDs (f : Nat) (h : Hc) (cs : List CV) : Option (List PyData) := List.rec (motive := fun _ => Option (List PyData)) (some []) (fun y _ r => match toD f h y with
  | some d => match r with
    | some ds => some (d :: ds)
    | none => none
  | none => none) cs
theorem toDs_ok {K : PySem.W.Frag} {β : Bt} {ρ : List Addr} {h : Hc} {H : Hp} {f : Nat} (hf : ∀ {c : CV} {v : V} {d : PyData}, RelC S β ρ c v → toD f h c = some d → Dp K H v d) : ∀ {cs : List CV} {vs : List V} {ds : List PyData}, RelL S β ρ cs vs → toDs f h cs = some ds → DpAll K H vs ds
  | _, _, _, .nil, e => by cases e; exact .nil
  | y :: ys, w :: ws, ds, .cons q t, e => by
    have hds : (match toD f h y with
      | some d => match toDs f h ys with
        | some ds => some (d :: ds)
        | none => none
      | none => none) = some ds := e
    split at hds
    · rename_i d1 h1
      split at hds
      · rename_i ds1 h2
        cases hds
        exact .cons (hf q h1) (toDs_ok hf t h2)
      · cases hds
    · cases hds
theorem toD_ok {K : PySem.W.Frag} {β : Bt} {ρ : List Addr} {h : Hc} {H : Hp} (R : Rep S β ρ h H) : ∀ (f : Nat) {c : CV} {v : V} {d : PyData}, RelC S β ρ c v → toD f h c = some d → Dp K H v d
  | 0, _, _, _, _, e => by cases e
  | f + 1, c, v, d, r, e => by
    cases c with
    | non => cases e; cases r; exact .non
    | bl b => cases e; cases r; exact .bl b
    | int i => cases e; cases r; exact .int i
    | str s =>
      cases e
      obtain ⟨e1, _⟩ := r
      have e1 : v = .str (tx s) := e1
      subst e1
      exact .str _
    | ref i =>
      have e : (match h.get i with
        | some (.lst cs) => match toDs f h cs with
          | some ds => some (PyData.list ds)
          | none => none
        | _ => none) = some d := e
      split at e
      · rename_i cs hg
        split at e
        · rename_i ds hds
          cases e
          obtain ⟨a', ho, rfl, ea', eh, vs, rfl, pf⟩ := R.at r hg
          exact .lst (SqL.of eh) (toDs_ok (toD_ok R f) pf hds)
        · cases e
      · cases e
    | _ => cases e
def oInD (neg : Bool) : FO := fun x y h k => match toD 3 h x, toD 3 h y with
  | some d, some (.list ds) => match SeqAt.shaped d && SeqAt.shaped (.list ds) with
    | true => k (.bl (negB neg (ds.any fun z => PyData.eqv z d))) h
    | false => false
  | _, _ => false
def rInD2 (K : PySem.W.Frag) (neg : Bool) : R2 := fun x y H Q => ∃ d ds, Dp K H x d ∧ Dp K H y (.list ds) ∧ SeqAt.shaped d = true ∧ SeqAt.shaped (.list ds) = true ∧ Q (.bl (negB neg (ds.any fun z => PyData.eqv z d))) H
theorem so_inD {K : PySem.W.Frag} (neg : Bool) : SOp S (oInD neg) (rInD2 K neg) := fun β ρ H h x y v w k Q R r q e ok => by
  unfold oInD at e
  split at e
  · rename_i d ds h1 h2
    split at e
    · rename_i hs
      rw [Bool.and_eq_true] at hs
      exact ⟨d, ds, toD_ok R 3 r h1, toD_ok R 3 q h2, hs.1, hs.2, ok (.bl _) h ρ H _ (.refl _ _) R rfl e⟩
    · cases e
  · cases e
end
end
end Rn
namespace Rn
open PySem PySem.Spec PyProof.Rows L2 TL
set_option autoImplicit false
noncomputable section
/-! ### tables -/
def nthT {α : Type} (l : List (Nat × α)) (k : Nat) : Option α := List.rec (motive := fun _ => Option α) none (fun a _ go => match Nat.beq a.1 k with
  | true => some a.2
  | false => go) l
def AllT {α : Type} : List (Nat × α) → (Nat → α → Prop) → Prop
  | [], _ => True
  | a :: r, P => P a.1 a.2 ∧ AllT r P
theorem AllT.at {α : Type} {P : Nat → α → Prop} {c : Nat} {i : α} : ∀ {l : List (Nat × α)}, AllT l P → nthT l c = some i → P c i
  | [], _, e => by cases e
  | a :: r, h, e => by
    have e' : (match Nat.beq a.1 c with
      | true => some a.2
      | false => nthT r c) = some i := e
    split at e'
    · rename_i q
      cases e'
      rw [← Nat.eq_of_beq_eq_true q]
      exact h.1
    · exact AllT.at h.2 e'
section
variable {S : Nat → Addr} {K : PySem.W.Frag} {w : World}
theorem staT {l : List (Nat × List CV)} (h : AllT l fun k cs => ∃ vs, (∀ H, SqT K H (S k) vs) ∧ ∀ β ρ, RelL S β ρ cs vs) : StaOk K S (nthT l) := fun k cs e => h.at e
def nthD (l : List (Nat × List (Nat × CV))) (k key : Nat) : Option CV := match nthT l k with
  | some r => nthT r key
  | none => none
theorem sdT {l : List (Nat × List (Nat × CV))} (h : AllT l fun k r => AllT r fun key cv => ∃ v, KDct K w (S k) (tx key) v ∧ ∀ β ρ, RelC S β ρ cv v) : SdOk K w S (nthD l) := fun k key cv e => by
  unfold nthD at e
  split at e
  · rename_i r hr
    exact (h.at hr).at e
  · cases e
def isT (l : List (Nat × List (Nat × Bool))) (c d : Nat) : Option Bool := match nthT l c with
  | some r => nthT r d
  | none => none
theorem isTok {l : List (Nat × List (Nat × Bool))} {n : List (Nat × Bool)} (h : AllT l fun c r => (∀ (H : Hp) (a dx : Addr) (fs : List (Str × V)), H a = some (.ins (S c) dx fs) → TyX K H (.ref a) (.ref (S c))) ∧ AllT r fun d b => PySem.W.kitOne K (.ref (S c)) (.ref (S d)) = some b) (hn : AllT n fun d b => PySem.W.kitOne K (.type "NoneType") (.ref (S d)) = some b) :
    IsOk K S (fun c d => match c with
      | 0 => nthT n d
      | c + 1 => isT l c d) := by
  refine ⟨fun c d b e => ?_, fun d b e => hn.at e⟩
  have e : isT l c d = some b := e
  unfold isT at e
  split at e
  · rename_i r hr
    obtain ⟨a1, a2⟩ := h.at hr
    exact ⟨a1, a2.at e⟩
  · cases e
theorem relStr {k : Nat} {s : Str} {β : Bt} {ρ : List Addr} (h : tx k = s) (o : okT k = true) : RelC S β ρ (.str k) (.str s) := ⟨by rw [h], o⟩
theorem kdT {a : Addr} {k : Nat} {s : Str} {v : V} (h : tx k = s) (d : KDct K w a s v) : KDct K w a (tx k) v := by
  rw [h]
  exact d
theorem fldT {f : Nat} {s : Str} {cs : List Nat} (h : tx f = s) (c : AllC cs fun C => Cls K (S C) ∧ NoAttr K (S C) s) : FldOk K S f cs := by
  unfold FldOk
  rw [h]
  exact c
theorem kit_ty {C : Addr} {T : String} {r : Bool} (h1 : PySem.W.isClsIn K C = true) (h2 : PySem.W.typeIn K (.ref C) = some (.type "type")) (h3 : PySem.W.subIn K (.type T) (.ref C) = some r) :
    PySem.W.kitOne K (.type T) (.ref C) = some r := by
  have a1 : ((PySem.W.clsIn K C).isSome && PySem.W.typeIn K (.ref C) == some (.type "type")) = true := by
    rw [h2, show (PySem.W.clsIn K C).isSome = true from h1] <;> rfl
  have a2 : PySem.W.kitCls K (.type T) (.ref C) = some r := Eq.trans (if_pos a1) h3
  exact Eq.trans (if_neg (by simp)) a2
end
/-! ### a def's run -/
def rep (n : Nat) : Sg := Nat.rec (motive := fun _ => Sg) [] (fun _ r => none :: r) n
def startC (n : Nat) (cs : List CV) : Sg := List.rec (motive := fun _ => Nat → Sg) (fun n => rep n) (fun c _ go n => some c :: go (n - 1)) cs n
theorem rel_rep {S : Nat → Addr} {β : Bt} {ρ : List Addr} : ∀ {l : List (Option V)}, (∀ x ∈ l, x = none) → RelS S β ρ (rep l.length) l
  | [], _ => .nil
  | x :: r, h => .cons (fun y e => by cases e) (rel_rep fun y hy => h y (List.mem_cons_of_mem _ hy))
theorem rel_start {S : Nat → Addr} {β : Bt} {ρ : List Addr} : ∀ {N : List Str} {cs : List CV} {vs : List V}, RelL S β ρ cs vs → vs.length ≤ N.length → RelS S β ρ (startC N.length cs) (L2.start N vs)
  | N, [], [], _, _ => by
    have e : L2.start N [] = List.replicate N.length none := by
      unfold L2.start
      simp
    rw [e]
    have := rel_rep (S := S) (β := β) (ρ := ρ) (l := List.replicate N.length (none : Option V)) fun x hx => (List.mem_replicate.mp hx).2
    rw [List.length_replicate] at this
    exact this
  | n :: N, c :: cs, v :: vs, .cons q t, hl => by
    have e : L2.start (n :: N) (v :: vs) = some v :: L2.start N vs := by
      unfold L2.start
      simp
    rw [e]
    exact .cons (fun x ex => by cases ex; exact ⟨v, rfl, q⟩) (rel_start t (by simpa using hl))
  | [], c :: cs, v :: vs, .cons q t, hl => by simp at hl
def runB (n : Nat) (b : EvS) : Fg := fun cs h k kx => b (startC n cs) h (fun _ h1 => k .non h1) k (fun _ _ => false) (fun _ _ => false) kx
theorem body_E {S : Nat → Addr} {X : Cx} {E : XK} {sts : List Stmt} {ev : EvS} {N : List Str} {n : Nat} {vs : List V} {H : Hp} {Q : VK} {g : Fg} (b : QSs S X E sts ev) (hg : g = runB N.length ev) (hn : n ≤ N.length) (h : spE S n g vs H Q E) :
    ∃ t, PSs X sts t ∧ t { nx := fun x H' => Q V.non H', rt := Q } (L2.start N vs) H := by
  subst hg
  obtain ⟨β, ρ, h, cs, k, kx, R, r, hl, e, ok, ox⟩ := h
  refine ⟨_, b, ?_⟩
  exact snd_tevS β ρ H h _ _ _ _ _ _ kx _ R (rel_start r (by rw [← paired_len r, hl]; exact hn)) e (fun σc h' ρ' H' σ m R' _ e' => ok .non h' ρ' H' _ m R' rfl e') ok (fun _ _ _ _ _ _ _ _ e => by cases e) (fun _ _ _ _ _ _ _ _ e => by cases e) ox
theorem body_N {S : Nat → Addr} {X : Cx} {sts : List Stmt} {ev : EvS} {N : List Str} {n : Nat} {vs : List V} {H : Hp} {Q : VK} {g : Fg} {E' : XK} (b : QSs S X E0 sts ev) (hg : g = runB N.length ev) (hn : n ≤ N.length) (h : spN S n g vs H Q E') :
    ∃ t, PSs X sts t ∧ t { nx := fun x H' => Q V.non H', rt := Q } (L2.start N vs) H := by
  subst hg
  obtain ⟨β, ρ, h, cs, k, R, r, hl, e, ok⟩ := h
  refine ⟨_, b, ?_⟩
  exact snd_tevS β ρ H h _ _ _ _ _ _ kx0 _ R (rel_start r (by rw [← paired_len r, hl]; exact hn)) e (fun σc h' ρ' H' σ m R' _ e' => ok .non h' ρ' H' _ m R' rfl e') ok (fun _ _ _ _ _ _ _ _ e => by cases e) (fun _ _ _ _ _ _ _ _ e => by cases e) xok0
theorem spE_len {S : Nat → Addr} {n : Nat} {g : Fg} {vs : List V} {H : Hp} {Q : VK} {E : XK} (h : spE S n g vs H Q E) : vs.length = n := by
  obtain ⟨β, ρ, h, cs, k, kx, R, r, hl, _⟩ := h
  rw [← paired_len r, hl]
theorem spN_len {S : Nat → Addr} {n : Nat} {g : Fg} {vs : List V} {H : Hp} {Q : VK} {E : XK} (h : spN S n g vs H Q E) : vs.length = n := by
  obtain ⟨β, ρ, h, cs, k, R, r, hl, _⟩ := h
  rw [← paired_len r, hl]
theorem spE_no {S : Nat → Addr} {n : Nat} {g : Fg} {vs : List V} {H : Hp} {Q : VK} {E : XK} (hg : ∀ cs h k kx, g cs h k kx = false) (h : spE S n g vs H Q E) : False := by
  obtain ⟨β, ρ, h, cs, k, kx, R, r, hl, e, _⟩ := h
  rw [hg] at e
  cases e
theorem spN_no {S : Nat → Addr} {n : Nat} {g : Fg} {vs : List V} {H : Hp} {Q : VK} {E : XK} (hg : ∀ cs h k kx, g cs h k kx = false) (h : spN S n g vs H Q E) : False := by
  obtain ⟨β, ρ, h, cs, k, R, r, hl, e, _⟩ := h
  rw [hg] at e
  cases e
/-! ### the bodies -/
def fgNo : Fg := fun _ _ _ _ => false
inductive BT (α : Type) where
  | lf
  | nd (l : BT α) (v : α) (r : BT α)
def BT.get {α : Type} (d : α) (t : BT α) : Nat → α := BT.rec (motive := fun _ => Nat → α) (fun _ => d) (fun _ v _ gl gr n => match Nat.beq n 0 with
  | true => v
  | false => match Nat.beq (n % 2) 1 with
    | true => gl (n / 2)
    | false => gr (n / 2 - 1)) t
def evOf (B : Orc → Nat → Fg) (n : Nat) : Orc := Nat.rec (motive := fun _ => Orc) (fun _ => fgNo) (fun _ C i => B C i) n
theorem u1 {k : Nat} {A : Around} (h : Room k A) : A.units + 1 < cLine := by
  have := h.un
  omega
theorem u64 {k : Nat} {A : Around} (h : Room k A) : A.units + 64 < cLine := by
  have := h.un
  omega
theorem u65 {k : Nat} {A : Around} (h : Room k A) : A.units + 65 < cLine := by
  have := h.un
  omega
end
end Rn
namespace K68
open PySem PySem.Spec PyProof.Rows L2 TL
set_option autoImplicit false
open Rn
noncomputable section
def SL (A : Ad) : List Addr := [A.C_Fault, A.C_Token, A.C_IntSort, A.C_TextSort, A.C_ChoiceSort, A.C_RefSort, A.C_ListSort, A.C_SingleTerm, A.C_NumberTerm, A.C_TextTerm, A.C_ParameterTerm, A.C_PathTerm, A.C_SomeTerm, A.C_CountTerm, A.C_GroupTotal, A.C_ListTotal, A.C_ChainTerm, A.C_CompareTerm, A.C_NullTerm, A.C_AmongTerm, A.C_NotTerm, A.C_MinusTerm, A.C_QueryState, A.C_DrawnPath, A.C_TokenReader, A.C_Drawn, A.C_OrderTerm, A.C_QueryParts, A.C_Query, A.C_Field, A.C_Kind, A.C_Schema, A.f_Token___init__, A.f_tokens, A.f_behind_blanks, A.f_token_at, A.f_behind_run, A.f_word_at, A.f_number_at, A.f_quoted_at, A.f_may_stand, A.f_sign_at, A.f_IntSort___init__, A.f_TextSort___init__, A.f_RefSort___init__, A.f_ListSort___init__, A.f_is_reference, A.f_sort_of_shape, A.f_kinds_of_shapes, A.f_common_sort, A.f_SingleTerm___init__, A.f_NumberTerm___init__, A.f_TextTerm___init__, A.f_ParameterTerm___init__, A.f_PathTerm___init__, A.f_SomeTerm___init__, A.f_CountTerm___init__, A.f_GroupTotal___init__, A.f_ListTotal___init__, A.f_ChainTerm___init__, A.f_CompareTerm___init__, A.f_NullTerm___init__, A.f_AmongTerm___init__, A.f_NotTerm___init__, A.f_MinusTerm___init__, A.f_QueryState___init__, A.f_QueryState_enter, A.f_QueryState_leave, A.f_QueryState_small_name, A.f_QueryState_new_name, A.f_DrawnPath___init__, A.f_read_path, A.f_behind_point, A.f_read_plain_path, A.f_read_list_path, A.f_read_total_path, A.f_refuse_list, A.f_check_group, A.f_TokenReader___init__, A.f_TokenReader_here, A.f_TokenReader_following, A.f_TokenReader_take, A.f_TokenReader_at_end, A.f_TokenReader_stands, A.f_TokenReader_stands_one, A.f_TokenReader_passes, A.f_TokenReader_must, A.f_TokenReader_must_end, A.f_TokenReader_must_role, A.f_TokenReader_number_token, A.f_TokenReader_is_name, A.f_TokenReader_small_name_stands, A.f_TokenReader_kind_name, A.f_TokenReader_small_name, A.f_TokenReader_field_name, A.f_is_certain, A.f_Drawn___init__, A.f_parameters_as, A.f_merged, A.f_joined_parameters, A.f_read_either, A.f_read_both, A.f_read_sum, A.f_read_product, A.f_read_chain, A.f_longer_chain, A.f_pass_all, A.f_read_turned, A.f_read_test, A.f_read_comparison, A.f_read_null, A.f_read_among, A.f_read_signed, A.f_read_single, A.f_read_number, A.f_read_parameter, A.f_read_enclosed, A.f_read_over, A.f_read_some, A.f_read_count, A.f_refuse_without_group, A.f_read_total, A.f_read_list_total, A.f_read_group_total, A.f_check_total, A.f_OrderTerm___init__, A.f_QueryParts___init__, A.f_Query___init__, A.f_read_query, A.f_read_from, A.f_read_where, A.f_read_group, A.f_read_group_path, A.f_read_several, A.f_read_told, A.f_read_order_term, A.f_read_order, A.f_read_give, A.f_read_counts, A.f_read_bound, A.f_Field___init__, A.f_Kind___init__, A.f_Kind_field_of, A.f_Schema___init__, A.f_Schema_kind_of, A.f_Schema_field_of, A.f__law_schema, A.f__law_texts, A.t_COMPARISONS, A.t_TOTALS, A.t_QUERY_SIGNS, A.t_QUERY_WORDS, A.t_ASKED, A.t_ASKED_0, A.t_ASKED_1, A.t_ASKED_2, A.t_ASKED_3, A.t_ASKED_4, A.t_ASKED_5, A.t_ASKED_6, A.t_ASKED_7, A.t_ASKED_8, A.t_ASKED_9, A.t_ASKED_10, A.t_ASKED_11, A.t_ASKED_12, A.t_ASKED_13, A.t_ASKED_14, A.t_ASKED_15, A.t_ASKED_16]
def S (A : Ad) (n : Nat) : Addr := match nth (SL A) n with
  | some a => a
  | none => A.C_Fault
def SQ : Nat → Option (List CV) := nthT [(148, [.str 317, .str 74045, .str 316, .str 80957, .str 318, .str 81469, .str 408418665002099, .str 1548057601139]), (149, [.str 24343917, .str 1565068981108, .str 25900875876200182644]), (150, [.str 302, .str 300, .str 296, .str 297, .str 314, .str 317, .str 74045, .str 316, .str 80957, .str 318, .str 81469, .str 299, .str 301, .str 298]), (151, [.str 6013742957, .str 1612364214885, .str 1543813166448, .str 23161964, .str 90745, .str 1578172179826, .str 5979993966, .str 6029932133, .str 6231386480, .str 1539367400308, .str 94066, .str 23162468, .str 24014708, .str 6231649637, .str 1535289684601, .str 92526, .str 408418665002099, .str 1548057601139, .str 92531, .str 6148156524, .str 1526583357044, .str 24343917, .str 1565068981108, .str 25900875876200182644]), (153, [.str 1599648134248]), (154, [.str 1599648134248]), (155, [.str 101733912789083506, .str 6247774324, .str 403943459218292]), (156, [.str 101733912789083506, .str 6247774324, .str 403943459218292]), (157, [.str 101733912789083506, .str 6247774324]), (158, [.str 101733912789083506, .str 6247774324]), (159, [.str 101733912789083506, .str 6247774324]), (160, [.str 101733912789083506, .str 6247774324]), (161, [.str 6247774324]), (162, [.str 6247774324]), (163, [.str 101733912789083506, .str 6247774324, .str 403943459218292]), (164, [.str 101733912789083506]), (165, [.str 101733912789083506]), (166, [.str 101733912789083506]), (167, [.str 101733912789083506]), (168, [.str 101733912789083506, .str 6247774324]), (169, [.str 101733912789083506, .str 6247774324])]
def SD : Nat → Nat → Option CV := nthD [(152, [(94066, .st 153), (23162468, .st 154), (317, .st 155), (74045, .st 156), (316, .st 157), (80957, .st 158), (318, .st 159), (81469, .st 160), (408418665002099, .st 161), (1548057601139, .st 162), (92526, .st 163), (299, .st 164), (301, .st 165), (298, .st 166), (24343917, .st 167), (1565068981108, .st 168), (25900875876200182644, .st 169)])]
def IS : Nat → Nat → Option Bool := fun c d => match c with
  | 0 => nthT [(10, false)] d
  | c + 1 => isT [(2, [(2, true), (3, false), (4, false), (5, false)]), (3, [(2, false), (3, true), (4, false), (5, false)]), (4, [(2, false), (3, false), (4, true), (5, false)]), (5, [(2, false), (3, false), (4, false), (5, true)]), (6, [(2, false), (3, false), (4, false), (5, false)]), (8, [(16, false), (10, false)]), (9, [(16, false)]), (10, [(16, false), (10, true)]), (11, [(16, false)]), (12, [(16, false)]), (13, [(16, false)]), (14, [(16, false)]), (15, [(16, false)]), (16, [(16, true)]), (17, [(16, false)]), (18, [(16, false)]), (19, [(16, false)]), (20, [(16, false)]), (21, [(16, false)])] c d
def NE : List Nat := [29]
def fc_role : List Nat := [1]
def fc_text : List Nat := [1, 9, 28]
def fc_place : List Nat := [1, 23]
def fc_low : List Nat := [2]
def fc_high : List Nat := [2]
def fc_longest : List Nat := [3]
def fc_without : List Nat := [3]
def fc_choices : List Nat := [4]
def fc_kinds : List Nat := [5, 6, 23, 31]
def fc_rule : List Nat := [5]
def fc_level : List Nat := [7, 8, 9, 10, 11, 12, 13, 14, 15, 16, 17, 18, 19, 20, 21]
def fc_amount : List Nat := [8]
def fc_name : List Nat := [10, 11, 12, 15, 27, 28, 29, 30]
def fc_fields : List Nat := [11, 30]
def fc_word : List Nat := [12, 14, 15, 23, 25]
def fc_path : List Nat := [12, 13, 14, 15]
def fc_inner : List Nat := [12, 15, 18, 19, 20, 21]
def fc_first : List Nat := [16]
def fc_rest : List Nat := [16]
def fc_sign : List Nat := [17]
def fc_left : List Nat := [17]
def fc_right : List Nat := [17]
def fc_turned : List Nat := [18]
def fc_others : List Nat := [19]
def fc_many : List Nat := [20, 21]
def fc_schema : List Nat := [22]
def fc_reader : List Nat := [22]
def fc_origin : List Nat := [22]
def fc_names : List Nat := [22]
def fc_groups : List Nat := [22, 27]
def fc_depth : List Nat := [22]
def fc_term : List Nat := [23, 25, 26]
def fc_row : List Nat := [24]
def fc_reserved : List Nat := [24]
def fc_at : List Nat := [24]
def fc_parameters : List Nat := [25, 27]
def fc_down : List Nat := [26]
def fc_kind : List Nat := [27, 28]
def fc_where : List Nat := [27]
def fc_order : List Nat := [27]
def fc_given : List Nat := [27]
def fc_skipped : List Nat := [27]
def fc_kept : List Nat := [27]
def fc_parts : List Nat := [28]
def fc_shape : List Nat := [29]
def fc_needed : List Nat := [29]
def fc_key_rows : List Nat := [30]
def b_Token___init__ (C : Orc) : EvS := (xSeq (xFldS fc_role 6214872165 (xVar 0) (xVar 1))
 (xSeq (xFldS fc_text 6247774324 (xVar 0) (xVar 2))
 (xFldS fc_place 1582366286693 (xVar 0) (xVar 3))))
def b_tokens (C : Orc) : EvS := (xSeq (xIfS (xTest (xOp oGt (xCB (fLen SQ) (xCons (xVar 0) xNil)) (xVar 2))) (xRaise (xCons (xC (.int 0)) (xCons (xC (.str 29504280060789841062293930995303)) xNil))) xNx)
 (xSeq (xSet 3 (xLst xNil))
 (xSeq (xSet 4 (xCall (gN C 34 2) (xCons (xVar 0) (xCons (xC (.int 0)) xNil))))
 (xSeq (xWhile 200 (xTest (xOp oLt (xVar 4) (xCB (fLen SQ) (xCons (xVar 0) xNil)))) (xSeq (xAsg (xCall (gE C 35 3) (xCons (xVar 0) (xCons (xVar 4) (xCons (xVar 1) xNil)))) (yTup 2 (yCons (yName 5) (yCons (yName 4) yNil))))
 (xSeq (xDrop (xBM mApp (xVar 3) (xCons (xVar 5) xNil)))
 (xSet 4 (xCall (gN C 34 2) (xCons (xVar 0) (xCons (xVar 4) xNil)))))))
 (xSeq (xDrop (xBM mApp (xVar 3) (xCons (xMake 1 (gD [] (gN C 32 4)) (xCons (xC (.str 23424612)) (xCons (xC (.str 1)) (xCons (xCB (fLen SQ) (xCons (xVar 0) xNil)) xNil)))) xNil)))
 (xRet (xVar 3)))))))
def b_behind_blanks (C : Orc) : EvS := (xSeq (xWhile 200 (xAndT (xTest (xOp oLt (xVar 1) (xCB (fLen SQ) (xCons (xVar 0) xNil)))) (xTest (xOp oEq (xOp (oIx SQ) (xVar 0) (xVar 1)) (xC (.str 288))))) (xAug 1 oAddN (xC (.int 1))))
 (xRet (xVar 1)))
def b_token_at (C : Orc) : EvS := (xSeq (xSet 3 (xOp (oIx SQ) (xVar 0) (xVar 1)))
 (xSeq (xIfS (xTest (xOp (oInS false) (xVar 3) (xC (.str 233606820031262824291793228925311306333649869794303002079163341563213949795593257878683467579756910891606622701420032317479258)))) (xRet (xCall (gE C 37 2) (xCons (xVar 0) (xCons (xVar 1) xNil)))) xNx)
 (xSeq (xIfS (xTest (xOp (oInS false) (xVar 3) (xC (.str 1436506918544312769132601)))) (xRet (xCall (gE C 38 2) (xCons (xVar 0) (xCons (xVar 1) xNil)))) xNx)
 (xSeq (xIfS (xTest (xOp oEq (xVar 3) (xC (.str 290)))) (xRet (xCall (gE C 39 2) (xCons (xVar 0) (xCons (xVar 1) xNil)))) xNx)
 (xRet (xCall (gE C 41 3) (xCons (xVar 0) (xCons (xVar 1) (xCons (xVar 2) xNil)))))))))
def b_behind_run (C : Orc) : EvS := (xSeq (xWhile 200 (xAndT (xTest (xOp oLt (xVar 1) (xCB (fLen SQ) (xCons (xVar 0) xNil)))) (xTest (xOp (oInS false) (xOp (oIx SQ) (xVar 0) (xVar 1)) (xVar 2)))) (xAug 1 oAddN (xC (.int 1))))
 (xRet (xVar 1)))
def b_word_at (C : Orc) : EvS := (xSeq (xSet 2 (xCall (gN C 36 3) (xCons (xVar 0) (xCons (xVar 1) (xCons (xC (.str 72297808991708565110466170334964614225819117372056049474832071695253332111666117763008701651562149806664832573143143265820088756195065799215288044501343)) xNil)))))
 (xSeq (xIfS (xTest (xOp oGt (xOp oSub (xVar 2) (xVar 1)) (xC (.int 12)))) (xRaise (xCons (xVar 1) (xCons (xC (.str 29745052069318066112072439000679)) xNil))) xNx)
 (xRet (xTup (xCons (xMake 1 (gD [] (gN C 32 4)) (xCons (xC (.str 6298759780)) (xCons (xSl (xVar 0) (xVar 1) (xVar 2)) (xCons (xVar 1) xNil)))) (xCons (xVar 2) xNil))))))
def b_number_at (C : Orc) : EvS := (xSeq (xSet 2 (xCall (gN C 36 3) (xCons (xVar 0) (xCons (xVar 1) (xCons (xC (.str 1436506918544312769132601)) xNil)))))
 (xSeq (xIfS (xAndT (xTest (xOp oEq (xOp (oIx SQ) (xVar 0) (xVar 1)) (xC (.str 304)))) (xTest (xOp oGt (xOp oSub (xVar 2) (xVar 1)) (xC (.int 1))))) (xRaise (xCons (xVar 1) (xCons (xC (.str 29028888041956691448853569041007)) xNil))) xNx)
 (xSeq (xIfS (xTest (xOp oGt (xOp oSub (xVar 2) (xVar 1)) (xC (.int 18)))) (xRaise (xCons (xVar 1) (xCons (xC (.str 1902762358469259631032359776982888039)) xNil))) xNx)
 (xSeq (xIfS (xTest (xOp oGt (xCall (gN C 36 3) (xCons (xVar 0) (xCons (xVar 2) (xCons (xC (.str 72297808991708565110466170334964614225819117372056049474832071695253332111666117763008701651562149806664832573143143265820088756195065799215288044501343)) xNil)))) (xVar 2))) (xRaise (xCons (xVar 2) (xCons (xC (.str 1938965832608385993874506093917988718)) xNil))) xNx)
 (xRet (xTup (xCons (xMake 1 (gD [] (gN C 32 4)) (xCons (xC (.str 402925602104690)) (xCons (xSl (xVar 0) (xVar 1) (xVar 2)) (xCons (xVar 1) xNil)))) (xCons (xVar 2) xNil))))))))
def b_quoted_at (C : Orc) : EvS := (xSeq (xSet 2 (xLst xNil))
 (xSeq (xSet 3 (xOp oAdd (xVar 1) (xC (.int 1))))
 (xSeq (xWhile 200 (xAndT (xTest (xOp oLt (xVar 3) (xCB (fLen SQ) (xCons (xVar 0) xNil)))) (xTest (xOp oNe (xOp (oIx SQ) (xVar 0) (xVar 3)) (xC (.str 290))))) (xSeq (xSet 4 (xOp oEq (xOp (oIx SQ) (xVar 0) (xVar 3)) (xC (.str 348))))
 (xSeq (xIfS (xTest (xVar 4)) (xAug 3 oAddN (xC (.int 1))) xNx)
 (xIfS (xTest (xOp oLt (xVar 3) (xCB (fLen SQ) (xCons (xVar 0) xNil)))) (xSeq (xIfS (xNotT (xTest (xCall (gN C 40 2) (xCons (xOp (oIx SQ) (xVar 0) (xVar 3)) (xCons (xVar 4) xNil))))) (xRaise (xCons (xVar 3) (xCons (xC (.str 1938965832608385993874506093917988718)) xNil))) xNx)
 (xSeq (xDrop (xBM mApp (xVar 2) (xCons (xOp (oIx SQ) (xVar 0) (xVar 3)) xNil)))
 (xAug 3 oAddN (xC (.int 1))))) xNx))))
 (xSeq (xIfS (xTest (xOp oEq (xVar 3) (xCB (fLen SQ) (xCons (xVar 0) xNil)))) (xRaise (xCons (xVar 1) (xCons (xC (.str 32440298995997148011662767977547505595540836)) xNil))) xNx)
 (xRet (xTup (xCons (xMake 1 (gD [] (gN C 32 4)) (xCons (xC (.str 6247774324)) (xCons (xJoin SQ (xC (.str 1)) (xVar 2)) (xCons (xVar 1) xNil)))) (xCons (xOp oAdd (xVar 3) (xC (.int 1))) xNil))))))))
def b_may_stand (C : Orc) : EvS := (xSeq (xIfS (xTest (xVar 1)) (xRet (xOrV (xOp oEq (xVar 0) (xC (.str 290))) (xOp oEq (xVar 0) (xC (.str 348))))) xNx)
 (xRet (xAndV (xChain oLe oLe (xC (.str 288)) (xVar 0) (xC (.str 382))) (xOp oNe (xCB fOrd (xCons (xVar 0) xNil)) (xC (.int 37))))))
def b_sign_at (C : Orc) : EvS := (xSeq (xSet 3 (xC (.str 1)))
 (xSeq (xFor 200 SQ (xVar 2) (yName 4) (xIfS (xAndT (xTest (xOp oGt (xCB (fLen SQ) (xCons (xVar 4) xNil)) (xCB (fLen SQ) (xCons (xVar 3) xNil)))) (xTest (xOp oEq (xSl (xVar 0) (xVar 1) (xOp oAdd (xVar 1) (xCB (fLen SQ) (xCons (xVar 4) xNil)))) (xVar 4)))) (xSet 3 (xVar 4)) xNx))
 (xSeq (xIfS (xTest (xOp oEq (xVar 3) (xC (.str 1)))) (xRaise (xCons (xVar 1) (xCons (xC (.str 1938965832608385993874506093917988718)) xNil))) xNx)
 (xRet (xTup (xCons (xMake 1 (gD [] (gN C 32 4)) (xCons (xC (.str 6231254894)) (xCons (xVar 3) (xCons (xVar 1) xNil)))) (xCons (xOp oAdd (xVar 1) (xCB (fLen SQ) (xCons (xVar 3) xNil))) xNil)))))))
def b_IntSort___init__ (C : Orc) : EvS := (xSeq (xFldS fc_low 23883639 (xVar 0) (xVar 1))
 (xFldS fc_high 6046705512 (xVar 0) (xVar 2)))
def b_TextSort___init__ (C : Orc) : EvS := (xSeq (xFldS fc_longest 102579411494466420 (xVar 0) (xVar 1))
 (xFldS fc_without 105669064955753844 (xVar 0) (xVar 2)))
def b_RefSort___init__ (C : Orc) : EvS := (xSeq (xFldS fc_kinds 1560841970803 (xVar 0) (xCB (fList SQ) (xCons (xVar 1) xNil)))
 (xFldS fc_rule 6215265381 (xVar 0) (xVar 2)))
def b_ListSort___init__ (C : Orc) : EvS := (xFldS fc_kinds 1560841970803 (xVar 0) (xCB (fList SQ) (xCons (xVar 1) xNil)))
def b_is_reference (C : Orc) : EvS := (xRet (xCB (fIs IS) (xCons (xVar 0) (xCons (xC (.st 5)) xNil))))
def b_sort_of_shape (C : Orc) : EvS := (xSeq (xIfS (xTest (xCB (fIs IS) (xCons (xVar 0) (xCons (xC (.st 2)) xNil)))) (xRet (xC (.str 101733912789083506))) xNx)
 (xSeq (xIfS (xOrT (xTest (xCB (fIs IS) (xCons (xVar 0) (xCons (xC (.st 3)) xNil)))) (xTest (xCB (fIs IS) (xCons (xVar 0) (xCons (xC (.st 4)) xNil))))) (xRet (xC (.str 6247774324))) xNx)
 (xRet (xIf (xTest (xCall (gN C 46 1) (xCons (xVar 0) xNil))) (xC (.str 403943459218292)) (xC (.str 6113817460))))))
def b_kinds_of_shapes (C : Orc) : EvS := (xSeq (xSet 1 (xLst xNil))
 (xSeq (xFor 200 SQ (xVar 0) (yName 2) (xFor 200 SQ (xFld fc_kinds 1560841970803 (xVar 2)) (yName 3) (xIfS (xTest (xOp (oIn SQ true) (xVar 3) (xVar 1))) (xDrop (xBM mApp (xVar 1) (xCons (xVar 3) xNil))) xNx)))
 (xRet (xVar 1))))
def b_common_sort (C : Orc) : EvS := (xSeq (xSet 2 (xOp (oIxD SD) (xC (.st 152)) (xVar 0)))
 (xSeq (xSet 4 (xLc 200 SQ (xVar 1) (yName 3) (xTest (xOp oNe (xVar 3) (xC (.str 6795423601016620475762)))) (xVar 3) [3]))
 (xSeq (xIfS (xTest (xOp oEq (xCB (fLen SQ) (xCons (xVar 4) xNil)) (xC (.int 0)))) (xSet 4 (xIf (xTest (xOp oEq (xCB (fLen SQ) (xCons (xVar 2) xNil)) (xC (.int 1)))) (xLst (xCons (xOp (oIx SQ) (xVar 2) (xC (.int 0))) xNil)) (xLst (xCons (xC (.str 6795423601016620475762)) xNil)))) xNx)
 (xSeq (xSet 3 (xOp (oIx SQ) (xVar 4) (xC (.int 0))))
 (xSeq (xIfS (xOrT (xTest (xOp (oIn SQ true) (xVar 3) (xVar 2))) (xTest (xCB (fBls orL) (xCons (xLc 200 SQ (xVar 4) (yName 5) xYes (xOp oNe (xVar 5) (xVar 3)) [5]) xNil)))) (xRet (xC .non)) xNx)
 (xRet (xIf (xAndT (xTest (xOp oEq (xVar 3) (xC (.str 1599648134248)))) (xTest (xOp (oIn SQ false) (xC (.str 6795423601016620475762)) (xVar 1)))) (xC .non) (xVar 3))))))))
def b_SingleTerm___init__ (C : Orc) : EvS := (xFldS fc_level 1565070353772 (xVar 0) (xC (.int 8)))
def b_NumberTerm___init__ (C : Orc) : EvS := (xSeq (xDrop (xCall (gN C 50 1) (xCons (xVar 0) xNil)))
 (xFldS fc_amount 388597626007156 (xVar 0) (xVar 1)))
def b_TextTerm___init__ (C : Orc) : EvS := (xSeq (xDrop (xCall (gN C 50 1) (xCons (xVar 0) xNil)))
 (xFldS fc_text 6247774324 (xVar 0) (xVar 1)))
def b_ParameterTerm___init__ (C : Orc) : EvS := (xSeq (xDrop (xCall (gN C 50 1) (xCons (xVar 0) xNil)))
 (xFldS fc_name 6146846053 (xVar 0) (xVar 1)))
def b_PathTerm___init__ (C : Orc) : EvS := (xSeq (xDrop (xCall (gN C 50 1) (xCons (xVar 0) xNil)))
 (xSeq (xFldS fc_name 6146846053 (xVar 0) (xVar 1))
 (xFldS fc_fields 394077835912307 (xVar 0) (xCB (fList SQ) (xCons (xVar 2) xNil)))))
def b_SomeTerm___init__ (C : Orc) : EvS := (xSeq (xDrop (xCall (gN C 50 1) (xCons (xVar 0) xNil)))
 (xSeq (xFldS fc_word 6298759780 (xVar 0) (xVar 1))
 (xSeq (xFldS fc_name 6146846053 (xVar 0) (xVar 2))
 (xSeq (xFldS fc_path 6180402280 (xVar 0) (xVar 3))
 (xFldS fc_inner 1552335922546 (xVar 0) (xVar 4))))))
def b_CountTerm___init__ (C : Orc) : EvS := (xSeq (xDrop (xCall (gN C 50 1) (xCons (xVar 0) xNil)))
 (xFldS fc_path 6180402280 (xVar 0) (xVar 1)))
def b_GroupTotal___init__ (C : Orc) : EvS := (xSeq (xDrop (xCall (gN C 50 1) (xCons (xVar 0) xNil)))
 (xSeq (xFldS fc_word 6298759780 (xVar 0) (xVar 1))
 (xFldS fc_path 6180402280 (xVar 0) (xVar 2))))
def b_ListTotal___init__ (C : Orc) : EvS := (xSeq (xDrop (xCall (gN C 50 1) (xCons (xVar 0) xNil)))
 (xSeq (xFldS fc_word 6298759780 (xVar 0) (xVar 1))
 (xSeq (xFldS fc_name 6146846053 (xVar 0) (xVar 2))
 (xSeq (xFldS fc_path 6180402280 (xVar 0) (xVar 3))
 (xFldS fc_inner 1552335922546 (xVar 0) (xVar 4))))))
def b_ChainTerm___init__ (C : Orc) : EvS := (xSeq (xFldS fc_level 1565070353772 (xVar 0) (xVar 1))
 (xSeq (xFldS fc_first 1539367400308 (xVar 0) (xVar 2))
 (xFldS fc_rest 6214218612 (xVar 0) (xCB (fList SQ) (xCons (xVar 3) xNil)))))
def b_CompareTerm___init__ (C : Orc) : EvS := (xSeq (xFldS fc_level 1565070353772 (xVar 0) (xC (.int 4)))
 (xSeq (xFldS fc_sign 6231254894 (xVar 0) (xVar 1))
 (xSeq (xFldS fc_left 6113551988 (xVar 0) (xVar 2))
 (xFldS fc_right 1590906284148 (xVar 0) (xVar 3)))))
def b_NullTerm___init__ (C : Orc) : EvS := (xSeq (xFldS fc_level 1565070353772 (xVar 0) (xC (.int 4)))
 (xSeq (xFldS fc_inner 1552335922546 (xVar 0) (xVar 1))
 (xFldS fc_turned 409522756543844 (xVar 0) (xVar 2))))
def b_AmongTerm___init__ (C : Orc) : EvS := (xSeq (xFldS fc_level 1565070353772 (xVar 0) (xC (.int 4)))
 (xSeq (xFldS fc_inner 1552335922546 (xVar 0) (xVar 1))
 (xFldS fc_others 404020735079027 (xVar 0) (xCB (fList SQ) (xCons (xVar 2) xNil)))))
def b_NotTerm___init__ (C : Orc) : EvS := (xSeq (xFldS fc_level 1565070353772 (xVar 0) (xC (.int 3)))
 (xSeq (xFldS fc_many 6130069113 (xVar 0) (xVar 1))
 (xFldS fc_inner 1552335922546 (xVar 0) (xVar 2))))
def b_MinusTerm___init__ (C : Orc) : EvS := (xSeq (xFldS fc_level 1565070353772 (xVar 0) (xC (.int 7)))
 (xSeq (xFldS fc_many 6130069113 (xVar 0) (xVar 1))
 (xFldS fc_inner 1552335922546 (xVar 0) (xVar 2))))
def b_QueryState___init__ (C : Orc) : EvS := (xSeq (xFldS fc_schema 408345767144801 (xVar 0) (xVar 1))
 (xSeq (xFldS fc_reader 407254727943538 (xVar 0) (xVar 2))
 (xSeq (xFldS fc_origin 404012162050414 (xVar 0) (xC .non))
 (xSeq (xFldS fc_names 1573592589683 (xVar 0) xDNew)
 (xSeq (xFldS fc_groups 395216170610803 (xVar 0) (xC .non))
 (xFldS fc_depth 1530710226024 (xVar 0) (xC (.int 0))))))))
def b_QueryState_enter (C : Orc) : EvS := (xSeq (xIfS (xTest (xOp oEq (xFld fc_depth 1530710226024 (xVar 0)) (xC (.int 6)))) (xRaise (xCons (xFld fc_place 1582366286693 (xVar 1)) (xCons (xC (.str 26836790889438078320)) xNil))) xNx)
 (xFldA fc_depth 1530710226024 oAddN (xVar 0) (xC (.int 1))))
def b_QueryState_leave (C : Orc) : EvS := (xFldA fc_depth 1530710226024 oSub (xVar 0) (xC (.int 1)))
def b_QueryState_small_name (C : Orc) : EvS := (xRet (xMeth 1754015680353749008739685 [(24, 93)] (fun j => gE C j 2) (xFld fc_reader 407254727943538 (xVar 0)) (xCons (xC (.str 1856092772581792574387809284582894949)) xNil)))
def b_QueryState_new_name (C : Orc) : EvS := (xSeq (xSet 1 (xMeth 1754015680353749008739685 [(22, 68)] (fun j => gE C j 1) (xVar 0) xNil))
 (xSeq (xIfS (xTest (xOp (oDIn false) (xFld fc_text 6247774324 (xVar 1)) (xFld fc_names 1573592589683 (xVar 0)))) (xRaise (xCons (xFld fc_place 1582366286693 (xVar 1)) (xCons (xC (.str 1730183349647847348331365)) xNil))) xNx)
 (xRet (xFld fc_text 6247774324 (xVar 1)))))
def b_DrawnPath___init__ (C : Orc) : EvS := (xSeq (xFldS fc_term 6247772781 (xVar 0) (xVar 1))
 (xSeq (xFldS fc_place 1582366286693 (xVar 0) (xVar 2))
 (xSeq (xFldS fc_word 6298759780 (xVar 0) (xVar 3))
 (xFldS fc_kinds 1560841970803 (xVar 0) (xVar 4)))))
def b_read_path (C : Orc) : EvS := (xSeq (xSet 1 (xMeth 1754015680353749008739685 [(22, 68)] (fun j => gE C j 1) (xVar 0) xNil))
 (xSeq (xIfS (xTest (xOp (oDIn true) (xFld fc_text 6247774324 (xVar 1)) (xFld fc_names 1573592589683 (xVar 0)))) (xRaise (xCons (xFld fc_place 1582366286693 (xVar 1)) (xCons (xC (.str 113405857606151258310539570533)) xNil))) xNx)
 (xSeq (xSet 2 (xC (.str 403943459218292)))
 (xSeq (xSet 3 (xOp oDGet (xFld fc_names 1573592589683 (xVar 0)) (xFld fc_text 6247774324 (xVar 1))))
 (xSeq (xSet 4 (xLst xNil))
 (xSeq (xWhile 200 (xTest (xMeth 405038827791731 [(24, 85)] (fun j => gN C j 2) (xFld fc_reader 407254727943538 (xVar 0)) (xCons (xC (.str 302)) xNil))) (xSeq (xSet 5 (xMeth 1692551417321728841444709 [(24, 94)] (fun j => gE C j 1) (xFld fc_reader 407254727943538 (xVar 0)) xNil))
 (xSeq (xAsg (xCall (gE C 72 4) (xCons (xFld fc_schema 408345767144801 (xVar 0)) (xCons (xVar 2) (xCons (xVar 3) (xCons (xVar 5) xNil))))) (yTup 2 (yCons (yName 2) (yCons (yName 3) yNil))))
 (xDrop (xBM mApp (xVar 4) (xCons (xFld fc_text 6247774324 (xVar 5)) xNil))))))
 (xRet (xMake 23 (gD [] (gN C 70 5)) (xCons (xMake 11 (gD [] (gN C 54 3)) (xCons (xFld fc_text 6247774324 (xVar 1)) (xCons (xVar 4) xNil))) (xCons (xFld fc_place 1582366286693 (xVar 1)) (xCons (xVar 2) (xCons (xVar 3) xNil))))))))))))
def b_behind_point (C : Orc) : EvS := (xSeq (xIfS (xTest (xOp oEq (xVar 1) (xC (.str 6113817460)))) (xRaise (xCons (xFld fc_place 1582366286693 (xVar 3)) (xCons (xC (.str 388266862408564)) xNil))) xNx)
 (xSeq (xIfS (xTest (xOp oNe (xVar 1) (xC (.str 403943459218292)))) (xRaise (xCons (xFld fc_place 1582366286693 (xVar 3)) (xCons (xC (.str 1902641198177543246870957100618376037)) xNil))) xNx)
 (xSeq (xSet 4 (xLc 200 SQ (xVar 2) (yName 7) xYes (xMeth 25826285054347669350 [(31, 145)] (fun j => gN C j 3) (xVar 0) (xCons (xVar 7) (xCons (xFld fc_text 6247774324 (xVar 3)) xNil))) [7]))
 (xSeq (xIfS (xTest (xOp (oInN NE false) (xC .non) (xVar 4))) (xRaise (xCons (xFld fc_place 1582366286693 (xVar 3)) (xCons (xC (.str 29031899547174722127463904013412)) xNil))) xNx)
 (xSeq (xSet 5 (xLc 200 SQ (xVar 4) (yName 8) xYes (xFld fc_shape 1595184083045 (xVar 8)) [8]))
 (xSeq (xSet 6 (xLc 200 SQ (xVar 5) (yName 9) xYes (xCall (gN C 47 1) (xCons (xVar 9) xNil)) [9]))
 (xSeq (xIfS (xTest (xCB (fBls orL) (xCons (xLc 200 SQ (xVar 6) (yName 10) xYes (xOp oNe (xVar 10) (xOp (oIx SQ) (xVar 6) (xC (.int 0)))) [10]) xNil))) (xRaise (xCons (xFld fc_place 1582366286693 (xVar 3)) (xCons (xC (.str 114953669907593344942617290098)) xNil))) xNx)
 (xSeq (xIfS (xOrT (xTest (xOp oEq (xOp (oIx SQ) (xVar 6) (xC (.int 0))) (xC (.str 403943459218292)))) (xTest (xOp oEq (xOp (oIx SQ) (xVar 6) (xC (.int 0))) (xC (.str 6113817460))))) (xRet (xTup (xCons (xOp (oIx SQ) (xVar 6) (xC (.int 0))) (xCons (xCall (gN C 48 1) (xCons (xVar 5) xNil)) xNil)))) xNx)
 (xRet (xTup (xCons (xOp (oIx SQ) (xVar 6) (xC (.int 0))) (xCons (xLst xNil) xNil))))))))))))
def b_read_plain_path (C : Orc) : EvS := (xSeq (xSet 1 (xCall (gE C 71 1) (xCons (xVar 0) xNil)))
 (xSeq (xDrop (xCall (gE C 77 2) (xCons (xVar 0) (xCons (xVar 1) xNil))))
 (xRet (xCall (gE C 76 1) (xCons (xVar 1) xNil)))))
def b_read_list_path (C : Orc) : EvS := (xSeq (xSet 1 (xCall (gE C 71 1) (xCons (xVar 0) xNil)))
 (xSeq (xDrop (xCall (gE C 77 2) (xCons (xVar 0) (xCons (xVar 1) xNil))))
 (xSeq (xIfS (xTest (xOp oNe (xFld fc_word 6298759780 (xVar 1)) (xC (.str 6113817460)))) (xRaise (xCons (xFld fc_place 1582366286693 (xVar 1)) (xCons (xC (.str 1730442089117371448521588)) xNil))) xNx)
 (xRet (xVar 1)))))
def b_read_total_path (C : Orc) : EvS := (xRet (xCall (gE C 76 1) (xCons (xCall (gE C 71 1) (xCons (xVar 0) xNil)) xNil)))
def b_refuse_list (C : Orc) : EvS := (xSeq (xIfS (xTest (xOp oEq (xFld fc_word 6298759780 (xVar 0)) (xC (.str 6113817460)))) (xRaise (xCons (xFld fc_place 1582366286693 (xVar 0)) (xCons (xC (.str 388266862408564)) xNil))) xNx)
 (xRet (xVar 0)))
def b_check_group (C : Orc) : EvS := (xSeq (xIfS (xOrT (xTest (xOp oIs (xFld fc_groups 395216170610803 (xVar 0)) (xC .non))) (xTest (xOp oNe (xFld fc_name 6146846053 (xFld fc_term 6247772781 (xVar 1))) (xFld fc_origin 404012162050414 (xVar 0))))) xRetN xNx)
 (xIfS (xTest (xOp (oInD true) (xFld fc_fields 394077835912307 (xFld fc_term 6247772781 (xVar 1))) (xFld fc_groups 395216170610803 (xVar 0)))) (xRaise (xCons (xFld fc_place 1582366286693 (xVar 1)) (xCons (xC (.str 124691493564421340296770383415102863143027)) xNil))) xNx))
def b_TokenReader___init__ (C : Orc) : EvS := (xSeq (xFldS fc_row 24276855 (xVar 0) (xCB (fList SQ) (xCons (xVar 1) xNil)))
 (xSeq (xFldS fc_reserved 26689865646230365540 (xVar 0) (xVar 2))
 (xFldS fc_at 90484 (xVar 0) (xC (.int 0)))))
def b_TokenReader_here (C : Orc) : EvS := (xRet (xOp (oIx SQ) (xFld fc_row 24276855 (xVar 0)) (xFld fc_at 90484 (xVar 0))))
def b_TokenReader_following (C : Orc) : EvS := (xRet (xIf (xTest (xMeth 388627421294180 [(24, 82)] (fun j => gN C j 1) (xVar 0) xNil)) (xMeth 6046446181 [(24, 79)] (fun j => gN C j 1) (xVar 0) xNil) (xOp (oIx SQ) (xFld fc_row 24276855 (xVar 0)) (xOp oAdd (xFld fc_at 90484 (xVar 0)) (xC (.int 1))))))
def b_TokenReader_take (C : Orc) : EvS := (xSeq (xSet 1 (xMeth 6046446181 [(24, 79)] (fun j => gN C j 1) (xVar 0) xNil))
 (xSeq (xIfS (xNotT (xTest (xMeth 388627421294180 [(24, 82)] (fun j => gN C j 1) (xVar 0) xNil))) (xFldA fc_at 90484 oAddN (xVar 0) (xC (.int 1))) xNx)
 (xRet (xVar 1))))
def b_TokenReader_at_end (C : Orc) : EvS := (xRet (xOp oEq (xFld fc_role 6214872165 (xMeth 6046446181 [(24, 79)] (fun j => gN C j 1) (xVar 0) xNil)) (xC (.str 23424612))))
def b_TokenReader_stands (C : Orc) : EvS := (xRet (xCall (gN C 95 2) (xCons (xMeth 6046446181 [(24, 79)] (fun j => gN C j 1) (xVar 0) xNil) (xCons (xVar 1) xNil))))
def b_TokenReader_stands_one (C : Orc) : EvS := (xRet (xCB (fBls orL) (xCons (xLc 200 SQ (xVar 1) (yName 2) xYes (xMeth 408418664735859 [(24, 83)] (fun j => gN C j 2) (xVar 0) (xCons (xVar 2) xNil)) [2]) xNil)))
def b_TokenReader_passes (C : Orc) : EvS := (xSeq (xIfS (xNotT (xTest (xMeth 408418664735859 [(24, 83)] (fun j => gN C j 2) (xVar 0) (xCons (xVar 1) xNil)))) (xRet (xC (.bl false))) xNx)
 (xSeq (xDrop (xMeth 6247508837 [(24, 81)] (fun j => gN C j 1) (xVar 0) xNil))
 (xRet (xC (.bl true)))))
def b_TokenReader_must (C : Orc) : EvS := (xSeq (xIfS (xNotT (xTest (xMeth 408418664735859 [(24, 83)] (fun j => gN C j 2) (xVar 0) (xCons (xVar 1) xNil)))) (xRaise (xCons (xFld fc_place 1582366286693 (xMeth 6046446181 [(24, 79)] (fun j => gN C j 1) (xVar 0) xNil)) (xCons (xJ (jCons (xC (.str 6594166182274081842208)) (jCons (xFmt (xVar 1)) jNil))) xNil))) xNx)
 (xRet (xMeth 6247508837 [(24, 81)] (fun j => gN C j 1) (xVar 0) xNil)))
def b_TokenReader_must_end (C : Orc) : EvS := (xIfS (xNotT (xTest (xMeth 388627421294180 [(24, 82)] (fun j => gN C j 1) (xVar 0) xNil))) (xRaise (xCons (xFld fc_place 1582366286693 (xMeth 6046446181 [(24, 79)] (fun j => gN C j 1) (xVar 0) xNil)) (xCons (xC (.str 475159749780938899043284604002870062692)) xNil))) xNx)
def b_TokenReader_must_role (C : Orc) : EvS := (xSeq (xIfS (xTest (xOp oNe (xFld fc_role 6214872165 (xMeth 6046446181 [(24, 79)] (fun j => gN C j 1) (xVar 0) xNil)) (xVar 1))) (xRaise (xCons (xFld fc_place 1582366286693 (xMeth 6046446181 [(24, 79)] (fun j => gN C j 1) (xVar 0) xNil)) (xCons (xVar 2) xNil))) xNx)
 (xRet (xMeth 6247508837 [(24, 81)] (fun j => gN C j 1) (xVar 0) xNil)))
def b_TokenReader_number_token (C : Orc) : EvS := (xRet (xMeth 6741524822982036253797 [(24, 88)] (fun j => gE C j 3) (xVar 0) (xCons (xC (.str 402925602104690)) (xCons (xC (.str 121640895943920358155079469274510502552946)) xNil))))
def b_TokenReader_is_name (C : Orc) : EvS := (xSeq (xIfS (xOrT (xTest (xOp oNe (xFld fc_role 6214872165 (xVar 1)) (xC (.str 6298759780)))) (xTest (xOp (oIn SQ false) (xFld fc_text 6247774324 (xVar 1)) (xFld fc_reserved 26689865646230365540 (xVar 0))))) (xRet (xC (.bl false))) xNx)
 (xRet (xOp oEq (xOp (oInS false) (xOp (oIx SQ) (xFld fc_text 6247774324 (xVar 1)) (xC (.int 0))) (xC (.str 516243050295915933279075894909120947931934753447004038558669146))) (xVar 2))))
def b_TokenReader_small_name_stands (C : Orc) : EvS := (xRet (xMeth 101739320303512933 [(24, 90)] (fun j => gN C j 3) (xVar 0) (xCons (xMeth 6046446181 [(24, 79)] (fun j => gN C j 1) (xVar 0) xNil) (xCons (xC (.bl false)) xNil))))
def b_TokenReader_kind_name (C : Orc) : EvS := (xSeq (xIfS (xNotT (xTest (xMeth 101739320303512933 [(24, 90)] (fun j => gN C j 3) (xVar 0) (xCons (xMeth 6046446181 [(24, 79)] (fun j => gN C j 1) (xVar 0) xNil) (xCons (xC (.bl true)) xNil))))) (xRaise (xCons (xFld fc_place 1582366286693 (xMeth 6046446181 [(24, 79)] (fun j => gN C j 1) (xVar 0) xNil)) (xCons (xC (.str 1856092772581792574387809284533087844)) xNil))) xNx)
 (xRet (xMeth 6247508837 [(24, 81)] (fun j => gN C j 1) (xVar 0) xNil)))
def b_TokenReader_small_name (C : Orc) : EvS := (xSeq (xIfS (xNotT (xTest (xMeth 126390149831090416917120150048498688877683 [(24, 91)] (fun j => gN C j 1) (xVar 0) xNil))) (xRaise (xCons (xFld fc_place 1582366286693 (xMeth 6046446181 [(24, 79)] (fun j => gN C j 1) (xVar 0) xNil)) (xCons (xVar 1) xNil))) xNx)
 (xRet (xMeth 6247508837 [(24, 81)] (fun j => gN C j 1) (xVar 0) xNil)))
def b_TokenReader_field_name (C : Orc) : EvS := (xRet (xMeth 1754015680353749008739685 [(24, 93)] (fun j => gE C j 2) (xVar 0) (xCons (xC (.str 475159749780938899043279176818995063908)) xNil)))
def b_is_certain (C : Orc) : EvS := (xRet (xAndV (xOrV (xOp oEq (xFld fc_role 6214872165 (xVar 0)) (xC (.str 6298759780))) (xOp oEq (xFld fc_role 6214872165 (xVar 0)) (xC (.str 6231254894)))) (xOp oEq (xFld fc_text 6247774324 (xVar 0)) (xVar 1))))
def b_Drawn___init__ (C : Orc) : EvS := (xSeq (xFldS fc_term 6247772781 (xVar 0) (xVar 1))
 (xSeq (xFldS fc_word 6298759780 (xVar 0) (xVar 2))
 (xFldS fc_parameters 1739628441860254841795187 (xVar 0) (xVar 3))))
def b_parameters_as (C : Orc) : EvS := (xRet (xIf (xTest (xOp oEq (xFld fc_word 6298759780 (xVar 0)) (xC (.str 6795423601016620475762)))) (xDOne (xFld fc_name 6146846053 (xFld fc_term 6247772781 (xVar 0))) (xVar 1)) (xFld fc_parameters 1739628441860254841795187 (xVar 0))))
def b_merged (C : Orc) : EvS := (xSeq (xSet 2 xDNew)
 (xSeq (xFor 200 SQ (xVar 0) (yName 3) (xForI 200 3 (yTup 2 (yCons (yName 4) (yCons (yName 5) yNil))) (xIfS (xTest (xOp oNe (xDSetd (xVar 2) (xVar 4) (xVar 5)) (xVar 5))) (xRaise (xCons (xVar 1) (xCons (xC (.str 114953669907593344942617290098)) xNil))) xNx)))
 (xRet (xVar 2))))
def b_joined_parameters (C : Orc) : EvS := (xSeq (xSet 2 (xCall (gN C 49 2) (xCons (xFld fc_text 6247774324 (xVar 0)) (xCons (xLc 200 SQ (xVar 1) (yName 3) xYes (xFld fc_word 6298759780 (xVar 3)) [3]) xNil))))
 (xSeq (xIfS (xTest (xOp oIs (xVar 2) (xC .non))) (xRaise (xCons (xFld fc_place 1582366286693 (xVar 0)) (xCons (xC (.str 114953669907593344942617290098)) xNil))) xNx)
 (xRet (xCall (gE C 98 2) (xCons (xLc 200 SQ (xVar 1) (yName 3) xYes (xCall (gN C 97 2) (xCons (xVar 3) (xCons (xVar 2) xNil))) [3]) (xCons (xFld fc_place 1582366286693 (xVar 0)) xNil))))))
def b_read_either (C : Orc) : EvS := (xRet (xCall (gE C 104 4) (xCons (xVar 0) (xCons (xC (.int 1)) (xCons (xTup (xCons (xC (.str 94066)) xNil)) (xCons (xC (.st 101)) xNil))))))
def b_read_both (C : Orc) : EvS := (xRet (xCall (gE C 104 4) (xCons (xVar 0) (xCons (xC (.int 2)) (xCons (xTup (xCons (xC (.str 23162468)) xNil)) (xCons (xC (.st 107)) xNil))))))
def b_read_sum (C : Orc) : EvS := (xRet (xCall (gE C 104 4) (xCons (xVar 0) (xCons (xC (.int 5)) (xCons (xTup (xCons (xC (.str 299)) (xCons (xC (.str 301)) xNil))) (xCons (xC (.st 103)) xNil))))))
def b_read_product (C : Orc) : EvS := (xRet (xCall (gE C 104 4) (xCons (xVar 0) (xCons (xC (.int 6)) (xCons (xTup (xCons (xC (.str 298)) xNil)) (xCons (xC (.st 112)) xNil))))))
def b_read_chain (C : Orc) : EvS := (xSeq (xSet 4 (xCallL 3 [101, 103, 107, 112, 132, 134, 135] (fun j => gE C j 1) (xCons (xVar 0) xNil)))
 (xSeq (xWhile 200 (xTest (xMeth 1754144808116504484605541 [(24, 84)] (fun j => gN C j 2) (xFld fc_reader 407254727943538 (xVar 0)) (xCons (xVar 2) xNil))) (xSeq (xSet 5 (xMeth 6247508837 [(24, 81)] (fun j => gN C j 1) (xFld fc_reader 407254727943538 (xVar 0)) xNil))
 (xSeq (xSet 6 (xCallL 3 [101, 103, 107, 112, 132, 134, 135] (fun j => gE C j 1) (xCons (xVar 0) xNil)))
 (xSeq (xSet 7 (xCall (gE C 99 2) (xCons (xVar 5) (xCons (xLst (xCons (xVar 4) (xCons (xVar 6) xNil))) xNil))))
 (xSet 4 (xMake 25 (gD [] (gN C 96 4)) (xCons (xCall (gN C 105 4) (xCons (xVar 1) (xCons (xFld fc_text 6247774324 (xVar 5)) (xCons (xFld fc_term 6247772781 (xVar 4)) (xCons (xFld fc_term 6247772781 (xVar 6)) xNil))))) (xCons (xOp (oIx SQ) (xOp (oIxD SD) (xC (.st 152)) (xFld fc_text 6247774324 (xVar 5))) (xC (.int 0))) (xCons (xVar 7) xNil)))))))))
 (xRet (xVar 4))))
def b_longer_chain (C : Orc) : EvS := (xSeq (xIfS (xAndT (xTest (xCB (fIs IS) (xCons (xVar 2) (xCons (xC (.st 16)) xNil)))) (xTest (xOp oEq (xFld fc_level 1565070353772 (xVar 2)) (xVar 0)))) (xRet (xMake 16 (gD [] (gN C 59 4)) (xCons (xVar 0) (xCons (xFld fc_first 1539367400308 (xVar 2)) (xCons (xOp oAdd (xFld fc_rest 6214218612 (xVar 2)) (xLst (xCons (xTup (xCons (xVar 1) (xCons (xVar 3) xNil))) xNil))) xNil))))) xNx)
 (xRet (xMake 16 (gD [] (gN C 59 4)) (xCons (xVar 0) (xCons (xVar 2) (xCons (xLst (xCons (xTup (xCons (xVar 1) (xCons (xVar 3) xNil))) xNil)) xNil))))))
def b_pass_all (C : Orc) : EvS := (xSeq (xSet 2 (xMeth 6046446181 [(24, 79)] (fun j => gN C j 1) (xFld fc_reader 407254727943538 (xVar 0)) xNil))
 (xSeq (xSet 3 (xC (.int 0)))
 (xSeq (xWhile 200 (xTest (xMeth 408418664735859 [(24, 83)] (fun j => gN C j 2) (xFld fc_reader 407254727943538 (xVar 0)) (xCons (xVar 1) xNil))) (xSeq (xSet 2 (xMeth 6247508837 [(24, 81)] (fun j => gN C j 1) (xFld fc_reader 407254727943538 (xVar 0)) xNil))
 (xAug 3 oAddN (xC (.int 1)))))
 (xRet (xTup (xCons (xVar 2) (xCons (xVar 3) xNil)))))))
def b_read_turned (C : Orc) : EvS := (xSeq (xAsg (xCall (gN C 106 2) (xCons (xVar 0) (xCons (xC (.str 24014708)) xNil))) (yTup 2 (yCons (yName 1) (yCons (yName 2) yNil))))
 (xSeq (xSet 3 (xCall (gE C 108 1) (xCons (xVar 0) xNil)))
 (xSeq (xIfS (xTest (xOp oEq (xVar 2) (xC (.int 0)))) (xRet (xVar 3)) xNx)
 (xSeq (xIfS (xTest (xOp oNe (xFld fc_word 6298759780 (xVar 3)) (xC (.str 1599648134248)))) (xRaise (xCons (xFld fc_place 1582366286693 (xVar 1)) (xCons (xC (.str 114953669907593344942617290098)) xNil))) xNx)
 (xRet (xMake 25 (gD [] (gN C 96 4)) (xCons (xMake 20 (gD [] (gN C 63 3)) (xCons (xVar 2) (xCons (xFld fc_term 6247772781 (xVar 3)) xNil))) (xCons (xC (.str 1599648134248)) (xCons (xFld fc_parameters 1739628441860254841795187 (xVar 3)) xNil)))))))))
def b_read_test (C : Orc) : EvS := (xSeq (xSet 1 (xCall (gE C 102 1) (xCons (xVar 0) xNil)))
 (xSeq (xIfS (xTest (xMeth 1754144808116504484605541 [(24, 84)] (fun j => gN C j 2) (xFld fc_reader 407254727943538 (xVar 0)) (xCons (xC (.st 148)) xNil))) (xRet (xCall (gE C 109 2) (xCons (xVar 0) (xCons (xVar 1) xNil)))) xNx)
 (xSeq (xIfS (xTest (xMeth 408418664735859 [(24, 83)] (fun j => gN C j 2) (xFld fc_reader 407254727943538 (xVar 0)) (xCons (xC (.str 92531)) xNil))) (xRet (xCall (gE C 110 2) (xCons (xVar 0) (xCons (xVar 1) xNil)))) xNx)
 (xSeq (xIfS (xTest (xMeth 408418664735859 [(24, 83)] (fun j => gN C j 2) (xFld fc_reader 407254727943538 (xVar 0)) (xCons (xC (.str 92526)) xNil))) (xRet (xCall (gE C 111 2) (xCons (xVar 0) (xCons (xVar 1) xNil)))) xNx)
 (xRet (xVar 1))))))
def b_read_comparison (C : Orc) : EvS := (xSeq (xSet 2 (xMeth 6247508837 [(24, 81)] (fun j => gN C j 1) (xFld fc_reader 407254727943538 (xVar 0)) xNil))
 (xSeq (xSet 3 (xCall (gE C 102 1) (xCons (xVar 0) xNil)))
 (xSeq (xSet 4 (xCall (gE C 99 2) (xCons (xVar 2) (xCons (xLst (xCons (xVar 1) (xCons (xVar 3) xNil))) xNil))))
 (xRet (xMake 25 (gD [] (gN C 96 4)) (xCons (xMake 17 (gD [] (gN C 60 4)) (xCons (xFld fc_text 6247774324 (xVar 2)) (xCons (xFld fc_term 6247772781 (xVar 1)) (xCons (xFld fc_term 6247772781 (xVar 3)) xNil)))) (xCons (xC (.str 1599648134248)) (xCons (xVar 4) xNil))))))))
def b_read_null (C : Orc) : EvS := (xSeq (xSet 2 (xMeth 6247508837 [(24, 81)] (fun j => gN C j 1) (xFld fc_reader 407254727943538 (xVar 0)) xNil))
 (xSeq (xSet 3 (xMeth 405038827791731 [(24, 85)] (fun j => gN C j 2) (xFld fc_reader 407254727943538 (xVar 0)) (xCons (xC (.str 24014708)) xNil)))
 (xSeq (xDrop (xMeth 6131381108 [(24, 86)] (fun j => gE C j 2) (xFld fc_reader 407254727943538 (xVar 0)) (xCons (xC (.str 6148156524)) xNil)))
 (xSeq (xIfS (xOrT (xTest (xOp oEq (xFld fc_word 6298759780 (xVar 1)) (xC (.str 1599648134248)))) (xTest (xOp oEq (xFld fc_word 6298759780 (xVar 1)) (xC (.str 6795423601016620475762))))) (xRaise (xCons (xFld fc_place 1582366286693 (xVar 2)) (xCons (xC (.str 114953669907593344942617290098)) xNil))) xNx)
 (xRet (xMake 25 (gD [] (gN C 96 4)) (xCons (xMake 18 (gD [] (gN C 61 3)) (xCons (xFld fc_term 6247772781 (xVar 1)) (xCons (xVar 3) xNil))) (xCons (xC (.str 1599648134248)) (xCons (xFld fc_parameters 1739628441860254841795187 (xVar 1)) xNil)))))))))
def b_read_among (C : Orc) : EvS := (xSeq (xSet 2 (xMeth 6247508837 [(24, 81)] (fun j => gN C j 1) (xFld fc_reader 407254727943538 (xVar 0)) xNil))
 (xSeq (xDrop (xMeth 6131381108 [(24, 86)] (fun j => gE C j 2) (xFld fc_reader 407254727943538 (xVar 0)) (xCons (xC (.str 296)) xNil)))
 (xSeq (xSet 3 (xLst (xCons (xCall (gE C 102 1) (xCons (xVar 0) xNil)) xNil)))
 (xSeq (xWhile 200 (xTest (xMeth 405038827791731 [(24, 85)] (fun j => gN C j 2) (xFld fc_reader 407254727943538 (xVar 0)) (xCons (xC (.str 300)) xNil))) (xDrop (xBM mApp (xVar 3) (xCons (xCall (gE C 102 1) (xCons (xVar 0) xNil)) xNil))))
 (xSeq (xDrop (xMeth 6131381108 [(24, 86)] (fun j => gE C j 2) (xFld fc_reader 407254727943538 (xVar 0)) (xCons (xC (.str 297)) xNil)))
 (xSeq (xSet 4 (xCall (gE C 99 2) (xCons (xVar 2) (xCons (xLst (xCons (xVar 1) (xStar SQ (xVar 3) xNil))) xNil))))
 (xRet (xMake 25 (gD [] (gN C 96 4)) (xCons (xMake 19 (gD [] (gN C 62 3)) (xCons (xFld fc_term 6247772781 (xVar 1)) (xCons (xLc 200 SQ (xVar 3) (yName 5) xYes (xFld fc_term 6247772781 (xVar 5)) [5]) xNil))) (xCons (xC (.str 1599648134248)) (xCons (xVar 4) xNil)))))))))))
def b_read_signed (C : Orc) : EvS := (xSeq (xAsg (xCall (gN C 106 2) (xCons (xVar 0) (xCons (xC (.str 301)) xNil))) (yTup 2 (yCons (yName 1) (yCons (yName 2) yNil))))
 (xSeq (xSet 3 (xCall (gE C 113 1) (xCons (xVar 0) xNil)))
 (xSeq (xIfS (xTest (xOp oEq (xVar 2) (xC (.int 0)))) (xRet (xVar 3)) xNx)
 (xSeq (xIfS (xAndT (xTest (xOp oNe (xFld fc_word 6298759780 (xVar 3)) (xC (.str 101733912789083506)))) (xTest (xOp oNe (xFld fc_word 6298759780 (xVar 3)) (xC (.str 6795423601016620475762))))) (xRaise (xCons (xFld fc_place 1582366286693 (xVar 1)) (xCons (xC (.str 114953669907593344942617290098)) xNil))) xNx)
 (xRet (xMake 25 (gD [] (gN C 96 4)) (xCons (xMake 21 (gD [] (gN C 64 3)) (xCons (xVar 2) (xCons (xFld fc_term 6247772781 (xVar 3)) xNil))) (xCons (xC (.str 101733912789083506)) (xCons (xCall (gN C 97 2) (xCons (xVar 3) (xCons (xC (.str 101733912789083506)) xNil))) xNil)))))))))
def b_read_single (C : Orc) : EvS := (xSeq (xSet 1 (xMeth 6046446181 [(24, 79)] (fun j => gN C j 1) (xFld fc_reader 407254727943538 (xVar 0)) xNil))
 (xSeq (xIfS (xTest (xOp oEq (xFld fc_role 6214872165 (xVar 1)) (xC (.str 402925602104690)))) (xRet (xMake 25 (gD [] (gN C 96 4)) (xCons (xCall (gE C 114 1) (xCons (xVar 0) xNil)) (xCons (xC (.str 101733912789083506)) (xCons xDNew xNil))))) xNx)
 (xSeq (xIfS (xTest (xOp oEq (xFld fc_role 6214872165 (xVar 1)) (xC (.str 6247774324)))) (xRet (xMake 25 (gD [] (gN C 96 4)) (xCons (xMake 9 (gD [] (gN C 52 2)) (xCons (xFld fc_text 6247774324 (xMeth 6247508837 [(24, 81)] (fun j => gN C j 1) (xFld fc_reader 407254727943538 (xVar 0)) xNil)) xNil)) (xCons (xC (.str 6247774324)) (xCons xDNew xNil))))) xNx)
 (xSeq (xIfS (xTest (xMeth 408418664735859 [(24, 83)] (fun j => gN C j 2) (xFld fc_reader 407254727943538 (xVar 0)) (xCons (xC (.str 314)) xNil))) (xRet (xMake 25 (gD [] (gN C 96 4)) (xCons (xCall (gE C 115 1) (xCons (xVar 0) xNil)) (xCons (xC (.str 6795423601016620475762)) (xCons xDNew xNil))))) xNx)
 (xSeq (xIfS (xTest (xMeth 126390149831090416917120150048498688877683 [(24, 91)] (fun j => gN C j 1) (xFld fc_reader 407254727943538 (xVar 0)) xNil)) (xSeq (xSet 2 (xCall (gE C 73 1) (xCons (xVar 0) xNil)))
 (xRet (xMake 25 (gD [] (gN C 96 4)) (xCons (xFld fc_term 6247772781 (xVar 2)) (xCons (xFld fc_word 6298759780 (xVar 2)) (xCons xDNew xNil)))))) xNx)
 (xSeq (xIfS (xTest (xMeth 408418664735859 [(24, 83)] (fun j => gN C j 2) (xFld fc_reader 407254727943538 (xVar 0)) (xCons (xC (.str 296)) xNil))) (xRet (xCall (gE C 116 1) (xCons (xVar 0) xNil))) xNx)
 (xSeq (xIfS (xTest (xMeth 1754144808116504484605541 [(24, 84)] (fun j => gN C j 2) (xFld fc_reader 407254727943538 (xVar 0)) (xCons (xTup (xCons (xC (.str 6231649637)) (xCons (xC (.str 1535289684601)) xNil))) xNil))) (xRet (xCall (gE C 118 1) (xCons (xVar 0) xNil))) xNx)
 (xSeq (xIfS (xTest (xMeth 408418664735859 [(24, 83)] (fun j => gN C j 2) (xFld fc_reader 407254727943538 (xVar 0)) (xCons (xC (.str 1526583357044)) xNil))) (xRet (xCall (gE C 119 1) (xCons (xVar 0) xNil))) xNx)
 (xSeq (xIfS (xTest (xMeth 1754144808116504484605541 [(24, 84)] (fun j => gN C j 2) (xFld fc_reader 407254727943538 (xVar 0)) (xCons (xC (.st 149)) xNil))) (xRet (xCall (gE C 121 1) (xCons (xVar 0) xNil))) xNx)
 (xRaise (xCons (xFld fc_place 1582366286693 (xVar 1)) (xCons (xC (.str 1856092772581792574387809284683821677)) xNil))))))))))))
def b_read_number (C : Orc) : EvS := (xSeq (xSet 1 (xMeth 113413474468544768880440730990 [(24, 89)] (fun j => gE C j 1) (xFld fc_reader 407254727943538 (xVar 0)) xNil))
 (xSeq (xIfS (xTest (xOp oGt (xCB fInt (xCons (xFld fc_text 6247774324 (xVar 1)) xNil)) (xC (.int 1000000000000)))) (xRaise (xCons (xFld fc_place 1582366286693 (xVar 1)) (xCons (xC (.str 487107163768130465544284102907384719205)) xNil))) xNx)
 (xRet (xMake 8 (gD [] (gN C 51 2)) (xCons (xCB fInt (xCons (xFld fc_text 6247774324 (xVar 1)) xNil)) xNil)))))
def b_read_parameter (C : Orc) : EvS := (xSeq (xDrop (xMeth 6131381108 [(24, 86)] (fun j => gE C j 2) (xFld fc_reader 407254727943538 (xVar 0)) (xCons (xC (.str 314)) xNil)))
 (xRet (xMake 10 (gD [] (gN C 53 2)) (xCons (xFld fc_text 6247774324 (xMeth 1754015680353749008739685 [(22, 68)] (fun j => gE C j 1) (xVar 0) xNil)) xNil))))
def b_read_enclosed (C : Orc) : EvS := (xSeq (xDrop (xMeth 1535156446578 [(22, 66)] (fun j => gE C j 2) (xVar 0) (xCons (xMeth 6247508837 [(24, 81)] (fun j => gN C j 1) (xFld fc_reader 407254727943538 (xVar 0)) xNil) xNil)))
 (xSeq (xSet 1 (xCall (gE C 100 1) (xCons (xVar 0) xNil)))
 (xSeq (xDrop (xMeth 6131381108 [(24, 86)] (fun j => gE C j 2) (xFld fc_reader 407254727943538 (xVar 0)) (xCons (xC (.str 297)) xNil)))
 (xSeq (xDrop (xMeth 1565068981861 [(22, 67)] (fun j => gN C j 1) (xVar 0) xNil))
 (xRet (xVar 1))))))
def b_read_over (C : Orc) : EvS := (xSeq (xDPut (xFld fc_names 1573592589683 (xVar 0)) (xVar 1) (xFld fc_kinds 1560841970803 (xVar 2)))
 (xSeq (xSet 3 (xCall (gE C 100 1) (xCons (xVar 0) xNil)))
 (xSeq (xDDel (xFld fc_names 1573592589683 (xVar 0)) (xVar 1))
 (xSeq (xDrop (xMeth 6131381108 [(24, 86)] (fun j => gE C j 2) (xFld fc_reader 407254727943538 (xVar 0)) (xCons (xC (.str 297)) xNil)))
 (xRet (xVar 3))))))
def b_read_some (C : Orc) : EvS := (xSeq (xSet 1 (xMeth 6247508837 [(24, 81)] (fun j => gN C j 1) (xFld fc_reader 407254727943538 (xVar 0)) xNil))
 (xSeq (xDrop (xMeth 1535156446578 [(22, 66)] (fun j => gE C j 2) (xVar 0) (xCons (xVar 1) xNil)))
 (xSeq (xSet 2 (xMeth 26401639642286878053 [(22, 69)] (fun j => gE C j 1) (xVar 0) xNil))
 (xSeq (xDrop (xMeth 6131381108 [(24, 86)] (fun j => gE C j 2) (xFld fc_reader 407254727943538 (xVar 0)) (xCons (xC (.str 92526)) xNil)))
 (xSeq (xSet 3 (xCall (gE C 74 1) (xCons (xVar 0) xNil)))
 (xSeq (xDrop (xMeth 6131381108 [(24, 86)] (fun j => gE C j 2) (xFld fc_reader 407254727943538 (xVar 0)) (xCons (xC (.str 296)) xNil)))
 (xSeq (xSet 4 (xCall (gE C 117 3) (xCons (xVar 0) (xCons (xVar 2) (xCons (xVar 3) xNil)))))
 (xSeq (xDrop (xMeth 1565068981861 [(22, 67)] (fun j => gN C j 1) (xVar 0) xNil))
 (xSeq (xIfS (xTest (xOp oNe (xFld fc_word 6298759780 (xVar 4)) (xC (.str 1599648134248)))) (xRaise (xCons (xFld fc_place 1582366286693 (xVar 3)) (xCons (xC (.str 114953669907593344942617290098)) xNil))) xNx)
 (xRet (xMake 25 (gD [] (gN C 96 4)) (xCons (xMake 12 (gD [] (gN C 55 5)) (xCons (xFld fc_text 6247774324 (xVar 1)) (xCons (xVar 2) (xCons (xFld fc_term 6247772781 (xVar 3)) (xCons (xFld fc_term 6247772781 (xVar 4)) xNil))))) (xCons (xC (.str 1599648134248)) (xCons (xFld fc_parameters 1739628441860254841795187 (xVar 4)) xNil))))))))))))))
def b_read_count (C : Orc) : EvS := (xSeq (xSet 1 (xMeth 6247508837 [(24, 81)] (fun j => gN C j 1) (xFld fc_reader 407254727943538 (xVar 0)) xNil))
 (xSeq (xDrop (xMeth 6131381108 [(24, 86)] (fun j => gE C j 2) (xFld fc_reader 407254727943538 (xVar 0)) (xCons (xC (.str 296)) xNil)))
 (xSeq (xIfS (xTest (xMeth 405038827791731 [(24, 85)] (fun j => gN C j 2) (xFld fc_reader 407254727943538 (xVar 0)) (xCons (xC (.str 297)) xNil))) (xSeq (xDrop (xCall (gE C 120 2) (xCons (xVar 0) (xCons (xVar 1) xNil))))
 (xRet (xMake 25 (gD [] (gN C 96 4)) (xCons (xMake 13 (gD [] (gN C 56 2)) (xCons (xC .non) xNil)) (xCons (xC (.str 101733912789083506)) (xCons xDNew xNil)))))) xNx)
 (xSeq (xSet 2 (xCall (gE C 74 1) (xCons (xVar 0) xNil)))
 (xSeq (xDrop (xMeth 6131381108 [(24, 86)] (fun j => gE C j 2) (xFld fc_reader 407254727943538 (xVar 0)) (xCons (xC (.str 297)) xNil)))
 (xRet (xMake 25 (gD [] (gN C 96 4)) (xCons (xMake 13 (gD [] (gN C 56 2)) (xCons (xFld fc_term 6247772781 (xVar 2)) xNil)) (xCons (xC (.str 101733912789083506)) (xCons xDNew xNil))))))))))
def b_refuse_without_group (C : Orc) : EvS := (xIfS (xTest (xOp oIs (xFld fc_groups 395216170610803 (xVar 0)) (xC .non))) (xRaise (xCons (xFld fc_place 1582366286693 (xVar 1)) (xCons (xC (.str 26404358768970134896)) xNil))) xNx)
def b_read_total (C : Orc) : EvS := (xSeq (xSet 1 (xMeth 6247508837 [(24, 81)] (fun j => gN C j 1) (xFld fc_reader 407254727943538 (xVar 0)) xNil))
 (xSeq (xDrop (xMeth 1535156446578 [(22, 66)] (fun j => gE C j 2) (xVar 0) (xCons (xVar 1) xNil)))
 (xSeq (xDrop (xMeth 6131381108 [(24, 86)] (fun j => gE C j 2) (xFld fc_reader 407254727943538 (xVar 0)) (xCons (xC (.str 296)) xNil)))
 (xSeq (xIfS (xAndT (xTest (xMeth 126390149831090416917120150048498688877683 [(24, 91)] (fun j => gN C j 1) (xFld fc_reader 407254727943538 (xVar 0)) xNil)) (xTest (xCall (gN C 95 2) (xCons (xMeth 6611963289849714798183 [(24, 80)] (fun j => gN C j 1) (xFld fc_reader 407254727943538 (xVar 0)) xNil) (xCons (xC (.str 92526)) xNil))))) (xSet 2 (xCall (gE C 122 2) (xCons (xVar 0) (xCons (xVar 1) xNil)))) (xSet 2 (xCall (gE C 123 2) (xCons (xVar 0) (xCons (xVar 1) xNil)))))
 (xSeq (xDrop (xMeth 1565068981861 [(22, 67)] (fun j => gN C j 1) (xVar 0) xNil))
 (xRet (xVar 2)))))))
def b_read_list_total (C : Orc) : EvS := (xSeq (xSet 2 (xMeth 26401639642286878053 [(22, 69)] (fun j => gE C j 1) (xVar 0) xNil))
 (xSeq (xDrop (xMeth 6131381108 [(24, 86)] (fun j => gE C j 2) (xFld fc_reader 407254727943538 (xVar 0)) (xCons (xC (.str 92526)) xNil)))
 (xSeq (xSet 3 (xCall (gE C 74 1) (xCons (xVar 0) xNil)))
 (xSeq (xDrop (xMeth 6131381108 [(24, 86)] (fun j => gE C j 2) (xFld fc_reader 407254727943538 (xVar 0)) (xCons (xC (.str 314)) xNil)))
 (xSeq (xSet 4 (xCall (gE C 117 3) (xCons (xVar 0) (xCons (xVar 2) (xCons (xVar 3) xNil)))))
 (xSeq (xDrop (xCall (gE C 124 2) (xCons (xVar 1) (xCons (xFld fc_word 6298759780 (xVar 4)) xNil))))
 (xRet (xMake 25 (gD [] (gN C 96 4)) (xCons (xMake 15 (gD [] (gN C 58 5)) (xCons (xFld fc_text 6247774324 (xVar 1)) (xCons (xVar 2) (xCons (xFld fc_term 6247772781 (xVar 3)) (xCons (xFld fc_term 6247772781 (xVar 4)) xNil))))) (xCons (xFld fc_word 6298759780 (xVar 4)) (xCons (xFld fc_parameters 1739628441860254841795187 (xVar 4)) xNil)))))))))))
def b_read_group_total (C : Orc) : EvS := (xSeq (xIfS (xTest (xMeth 126390149831090416917120150048498688877683 [(24, 91)] (fun j => gN C j 1) (xFld fc_reader 407254727943538 (xVar 0)) xNil)) (xDrop (xCall (gE C 120 2) (xCons (xVar 0) (xCons (xVar 1) xNil)))) xNx)
 (xSeq (xSet 2 (xCall (gE C 75 1) (xCons (xVar 0) xNil)))
 (xSeq (xDrop (xMeth 6131381108 [(24, 86)] (fun j => gE C j 2) (xFld fc_reader 407254727943538 (xVar 0)) (xCons (xC (.str 297)) xNil)))
 (xSeq (xDrop (xCall (gE C 124 2) (xCons (xVar 1) (xCons (xFld fc_word 6298759780 (xVar 2)) xNil))))
 (xRet (xMake 25 (gD [] (gN C 96 4)) (xCons (xMake 14 (gD [] (gN C 57 3)) (xCons (xFld fc_text 6247774324 (xVar 1)) (xCons (xFld fc_term 6247772781 (xVar 2)) xNil))) (xCons (xFld fc_word 6298759780 (xVar 2)) (xCons xDNew xNil)))))))))
def b_check_total (C : Orc) : EvS := (xIfS (xTest (xOp (oIn SQ true) (xVar 1) (xOp (oIxD SD) (xC (.st 152)) (xFld fc_text 6247774324 (xVar 0))))) (xRaise (xCons (xFld fc_place 1582366286693 (xVar 0)) (xCons (xC (.str 114953669907593344942617290098)) xNil))) xNx)
def b_OrderTerm___init__ (C : Orc) : EvS := (xSeq (xFldS fc_term 6247772781 (xVar 0) (xVar 1))
 (xFldS fc_down 5979993966 (xVar 0) (xVar 2)))
def b_QueryParts___init__ (C : Orc) : EvS := (xSeq (xFldS fc_kind 6097038948 (xVar 0) (xVar 1))
 (xSeq (xFldS fc_name 6146846053 (xVar 0) (xVar 2))
 (xSeq (xFldS fc_where 1612364214885 (xVar 0) (xC .non))
 (xSeq (xFldS fc_groups 395216170610803 (xVar 0) (xC .non))
 (xSeq (xFldS fc_order 1578172179826 (xVar 0) (xLst xNil))
 (xSeq (xFldS fc_given 1543662626158 (xVar 0) (xLst xNil))
 (xSeq (xFldS fc_skipped 104545316961805668 (xVar 0) (xC .non))
 (xSeq (xFldS fc_kept 6096777332 (xVar 0) (xC .non))
 (xFldS fc_parameters 1739628441860254841795187 (xVar 0) xDNew)))))))))
def b_Query___init__ (C : Orc) : EvS := (xSeq (xFldS fc_parts 1582182855795 (xVar 0) (xVar 1))
 (xSeq (xFldS fc_kind 6097038948 (xVar 0) (xFld fc_kind 6097038948 (xVar 1)))
 (xSeq (xFldS fc_name 6146846053 (xVar 0) (xFld fc_name 6146846053 (xVar 1)))
 (xFldS fc_text 6247774324 (xVar 0) (xVar 2)))))
def b_read_query (C : Orc) : EvS := (xSeq (xSet 2 (xMake 24 (gD [] (gN C 78 3)) (xCons (xCall (gE C 33 3) (xCons (xVar 1) (xCons (xC (.st 150)) (xCons (xC (.int 400)) xNil)))) (xCons (xC (.st 151)) xNil))))
 (xSeq (xSet 3 (xMake 22 (gD [] (gN C 65 3)) (xCons (xVar 0) (xCons (xVar 2) xNil))))
 (xSeq (xSet 4 (xCall (gE C 129 1) (xCons (xVar 3) xNil)))
 (xSeq (xSet 5 (xLst (xCons (xCall (gE C 130 2) (xCons (xVar 3) (xCons (xVar 4) xNil))) xNil)))
 (xSeq (xDrop (xCall (gE C 131 2) (xCons (xVar 3) (xCons (xVar 4) xNil))))
 (xSeq (xDrop (xBM mExt (xVar 5) (xCons (xCall (gE C 136 2) (xCons (xVar 3) (xCons (xVar 4) xNil))) xNil)))
 (xSeq (xDrop (xMeth 6131381108 [(24, 86)] (fun j => gE C j 2) (xVar 2) (xCons (xC (.str 6029932133)) xNil)))
 (xSeq (xSet 6 (xFld fc_place 1582366286693 (xMeth 6046446181 [(24, 79)] (fun j => gN C j 1) (xVar 2) xNil)))
 (xSeq (xDrop (xBM mExt (xVar 5) (xCons (xCall (gE C 137 2) (xCons (xVar 3) (xCons (xVar 4) xNil))) xNil)))
 (xSeq (xDrop (xBM mExt (xVar 5) (xCons (xCall (gE C 138 2) (xCons (xVar 3) (xCons (xVar 4) xNil))) xNil)))
 (xSeq (xDrop (xMeth 26334081339772726884 [(24, 87)] (fun j => gE C j 1) (xVar 2) xNil))
 (xSeq (xFldS fc_parameters 1739628441860254841795187 (xVar 4) (xCall (gE C 98 2) (xCons (xVar 5) (xCons (xVar 6) xNil))))
 (xRet (xMake 28 (gD [] (gN C 127 3)) (xCons (xVar 4) (xCons xeNo xNil))))))))))))))))
def b_read_from (C : Orc) : EvS := (xSeq (xDrop (xMeth 6131381108 [(24, 86)] (fun j => gE C j 2) (xFld fc_reader 407254727943538 (xVar 0)) (xCons (xC (.str 6013742957)) xNil)))
 (xSeq (xSet 1 (xMeth 6703765218739024391525 [(24, 92)] (fun j => gE C j 1) (xFld fc_reader 407254727943538 (xVar 0)) xNil))
 (xSeq (xIfS (xTest (xOp oIs (xMeth 102291339397263206 [(31, 144)] (fun j => gN C j 2) (xFld fc_schema 408345767144801 (xVar 0)) (xCons (xFld fc_text 6247774324 (xVar 1)) xNil)) (xC .non))) (xRaise (xCons (xFld fc_place 1582366286693 (xVar 1)) (xCons (xC (.str 113405857606151258310489763428)) xNil))) xNx)
 (xSeq (xFldS fc_origin 404012162050414 (xVar 0) (xMeth 26401639642286878053 [(22, 69)] (fun j => gE C j 1) (xVar 0) xNil))
 (xSeq (xDPut (xFld fc_names 1573592589683 (xVar 0)) (xFld fc_origin 404012162050414 (xVar 0)) (xLst (xCons (xFld fc_text 6247774324 (xVar 1)) xNil)))
 (xRet (xMake 27 (gD [] (gN C 126 3)) (xCons (xFld fc_text 6247774324 (xVar 1)) (xCons (xFld fc_origin 404012162050414 (xVar 0)) xNil)))))))))
def b_read_where (C : Orc) : EvS := (xSeq (xIfS (xNotT (xTest (xMeth 405038827791731 [(24, 85)] (fun j => gN C j 2) (xFld fc_reader 407254727943538 (xVar 0)) (xCons (xC (.str 1612364214885)) xNil)))) (xRet xDNew) xNx)
 (xSeq (xSet 2 (xFld fc_place 1582366286693 (xMeth 6046446181 [(24, 79)] (fun j => gN C j 1) (xFld fc_reader 407254727943538 (xVar 0)) xNil)))
 (xSeq (xSet 3 (xCall (gE C 100 1) (xCons (xVar 0) xNil)))
 (xSeq (xIfS (xTest (xOp oNe (xFld fc_word 6298759780 (xVar 3)) (xC (.str 1599648134248)))) (xRaise (xCons (xVar 2) (xCons (xC (.str 114953669907593344942617290098)) xNil))) xNx)
 (xSeq (xFldS fc_where 1612364214885 (xVar 1) (xFld fc_term 6247772781 (xVar 3)))
 (xRet (xFld fc_parameters 1739628441860254841795187 (xVar 3))))))))
def b_read_group (C : Orc) : EvS := (xSeq (xIfS (xNotT (xTest (xMeth 405038827791731 [(24, 85)] (fun j => gN C j 2) (xFld fc_reader 407254727943538 (xVar 0)) (xCons (xC (.str 1543813166448)) xNil)))) xRetN xNx)
 (xSeq (xFldS fc_groups 395216170610803 (xVar 1) (xLst xNil))
 (xSeq (xIfS (xNotT (xTest (xMeth 405038827791731 [(24, 85)] (fun j => gN C j 2) (xFld fc_reader 407254727943538 (xVar 0)) (xCons (xC (.str 23161964)) xNil)))) (xSeq (xDrop (xMeth 6131381108 [(24, 86)] (fun j => gE C j 2) (xFld fc_reader 407254727943538 (xVar 0)) (xCons (xC (.str 90745)) xNil)))
 (xFldS fc_groups 395216170610803 (xVar 1) (xCall (gE C 133 3) (xCons (xVar 0) (xCons (xC (.int 4)) (xCons (xC (.st 132)) xNil)))))) xNx)
 (xFldS fc_groups 395216170610803 (xVar 0) (xLc 200 SQ (xFld fc_groups 395216170610803 (xVar 1)) (yName 2) xYes (xFld fc_fields 394077835912307 (xVar 2)) [2])))))
def b_read_group_path (C : Orc) : EvS := (xRet (xFld fc_term 6247772781 (xCall (gE C 73 1) (xCons (xVar 0) xNil))))
def b_read_several (C : Orc) : EvS := (xSeq (xSet 3 (xLst (xCons (xCallL 2 [101, 103, 107, 112, 132, 134, 135] (fun j => gE C j 1) (xCons (xVar 0) xNil)) xNil)))
 (xSeq (xWhile 200 (xTest (xMeth 405038827791731 [(24, 85)] (fun j => gN C j 2) (xFld fc_reader 407254727943538 (xVar 0)) (xCons (xC (.str 300)) xNil))) (xSeq (xIfS (xTest (xOp oEq (xCB (fLen SQ) (xCons (xVar 3) xNil)) (xVar 1))) (xRaise (xCons (xFld fc_place 1582366286693 (xMeth 6046446181 [(24, 79)] (fun j => gN C j 1) (xFld fc_reader 407254727943538 (xVar 0)) xNil)) (xCons (xC (.str 7553885090635756377389464697335155)) xNil))) xNx)
 (xDrop (xBM mApp (xVar 3) (xCons (xCallL 2 [101, 103, 107, 112, 132, 134, 135] (fun j => gE C j 1) (xCons (xVar 0) xNil)) xNil)))))
 (xRet (xVar 3))))
def b_read_told (C : Orc) : EvS := (xSeq (xSet 1 (xFld fc_place 1582366286693 (xMeth 6046446181 [(24, 79)] (fun j => gN C j 1) (xFld fc_reader 407254727943538 (xVar 0)) xNil)))
 (xSeq (xSet 2 (xCall (gE C 100 1) (xCons (xVar 0) xNil)))
 (xSeq (xIfS (xOrT (xTest (xOp oEq (xFld fc_word 6298759780 (xVar 2)) (xC (.str 1599648134248)))) (xTest (xOp oEq (xFld fc_word 6298759780 (xVar 2)) (xC (.str 6795423601016620475762))))) (xRaise (xCons (xVar 1) (xCons (xC (.str 114953669907593344942617290098)) xNil))) xNx)
 (xRet (xVar 2)))))
def b_read_order_term (C : Orc) : EvS := (xSeq (xSet 1 (xCall (gE C 134 1) (xCons (xVar 0) xNil)))
 (xRet (xTup (xCons (xMake 26 (gD [] (gN C 125 3)) (xCons (xFld fc_term 6247772781 (xVar 1)) (xCons (xMeth 405038827791731 [(24, 85)] (fun j => gN C j 2) (xFld fc_reader 407254727943538 (xVar 0)) (xCons (xC (.str 5979993966)) xNil)) xNil))) (xCons (xFld fc_parameters 1739628441860254841795187 (xVar 1)) xNil)))))
def b_read_order (C : Orc) : EvS := (xSeq (xIfS (xNotT (xTest (xMeth 405038827791731 [(24, 85)] (fun j => gN C j 2) (xFld fc_reader 407254727943538 (xVar 0)) (xCons (xC (.str 1578172179826)) xNil)))) (xRet (xLst xNil)) xNx)
 (xSeq (xDrop (xMeth 6131381108 [(24, 86)] (fun j => gE C j 2) (xFld fc_reader 407254727943538 (xVar 0)) (xCons (xC (.str 90745)) xNil)))
 (xSeq (xSet 2 (xCall (gE C 133 3) (xCons (xVar 0) (xCons (xC (.int 4)) (xCons (xC (.st 135)) xNil)))))
 (xSeq (xFldS fc_order 1578172179826 (xVar 1) (xLc 200 SQ (xVar 2) (yTup 2 (yCons (yName 3) (yCons (yName 4) yNil))) xYes (xVar 3) [3, 4]))
 (xRet (xLc 200 SQ (xVar 2) (yTup 2 (yCons (yName 4) (yCons (yName 5) yNil))) xYes (xVar 5) [4, 5]))))))
def b_read_give (C : Orc) : EvS := (xSeq (xSet 2 (xCall (gE C 133 3) (xCons (xVar 0) (xCons (xC (.int 6)) (xCons (xC (.st 134)) xNil)))))
 (xSeq (xFldS fc_given 1543662626158 (xVar 1) (xLc 200 SQ (xVar 2) (yName 3) xYes (xFld fc_term 6247772781 (xVar 3)) [3]))
 (xRet (xLc 200 SQ (xVar 2) (yName 3) xYes (xFld fc_parameters 1739628441860254841795187 (xVar 3)) [3]))))
def b_read_counts (C : Orc) : EvS := (xSeq (xIfS (xTest (xMeth 405038827791731 [(24, 85)] (fun j => gN C j 2) (xFld fc_reader 407254727943538 (xVar 0)) (xCons (xC (.str 6231386480)) xNil))) (xFldS fc_skipped 104545316961805668 (xVar 1) (xCall (gE C 139 1) (xCons (xVar 0) xNil))) xNx)
 (xSeq (xIfS (xTest (xMeth 405038827791731 [(24, 85)] (fun j => gN C j 2) (xFld fc_reader 407254727943538 (xVar 0)) (xCons (xC (.str 1539367400308)) xNil))) (xFldS fc_kept 6096777332 (xVar 1) (xCall (gE C 139 1) (xCons (xVar 0) xNil))) xNx)
 (xSeq (xSet 2 (xLst (xCons (xFld fc_skipped 104545316961805668 (xVar 1)) (xCons (xFld fc_kept 6096777332 (xVar 1)) xNil))))
 (xRet (xLc 200 SQ (xVar 2) (yName 3) (xTest (xCB (fIs IS) (xCons (xVar 3) (xCons (xC (.st 10)) xNil)))) (xDOne (xFld fc_name 6146846053 (xVar 3)) (xC (.str 101733912789083506))) [3])))))
def b_read_bound (C : Orc) : EvS := (xSeq (xIfS (xTest (xOp oEq (xFld fc_role 6214872165 (xMeth 6046446181 [(24, 79)] (fun j => gN C j 1) (xFld fc_reader 407254727943538 (xVar 0)) xNil)) (xC (.str 402925602104690)))) (xRet (xCall (gE C 114 1) (xCons (xVar 0) xNil))) xNx)
 (xSeq (xIfS (xTest (xMeth 408418664735859 [(24, 83)] (fun j => gN C j 2) (xFld fc_reader 407254727943538 (xVar 0)) (xCons (xC (.str 314)) xNil))) (xRet (xCall (gE C 115 1) (xCons (xVar 0) xNil))) xNx)
 (xRaise (xCons (xFld fc_place 1582366286693 (xMeth 6046446181 [(24, 79)] (fun j => gN C j 1) (xFld fc_reader 407254727943538 (xVar 0)) xNil)) (xCons (xC (.str 475159749780938899043279176806211874420)) xNil)))))
def b_Field___init__ (C : Orc) : EvS := (xSeq (xFldS fc_name 6146846053 (xVar 0) (xVar 1))
 (xSeq (xFldS fc_shape 1595184083045 (xVar 0) (xVar 2))
 (xFldS fc_needed 402856748541284 (xVar 0) (xVar 3))))
def b_Kind___init__ (C : Orc) : EvS := (xSeq (xFldS fc_name 6146846053 (xVar 0) (xVar 1))
 (xSeq (xFldS fc_fields 394077835912307 (xVar 0) (xCB (fList SQ) (xCons (xVar 2) xNil)))
 (xFldS fc_key_rows 26185469059264378739 (xVar 0) (xLc 200 SQ (xVar 3) (yName 4) xYes (xCB (fList SQ) (xCons (xVar 4) xNil)) [4]))))
def b_Kind_field_of (C : Orc) : EvS := (xSeq (xFor 200 SQ (xFld fc_fields 394077835912307 (xVar 0)) (yName 2) (xIfS (xTest (xOp oEq (xFld fc_name 6146846053 (xVar 2)) (xVar 1))) (xRet (xVar 2)) xNx))
 (xRet (xC .non)))
def b_Schema___init__ (C : Orc) : EvS := (xFldS fc_kinds 1560841970803 (xVar 0) (xCB (fList SQ) (xCons (xVar 1) xNil)))
def b_Schema_kind_of (C : Orc) : EvS := (xSeq (xFor 200 SQ (xFld fc_kinds 1560841970803 (xVar 0)) (yName 2) (xIfS (xTest (xOp oEq (xFld fc_name 6146846053 (xVar 2)) (xVar 1))) (xRet (xVar 2)) xNx))
 (xRet (xC .non)))
def b_Schema_field_of (C : Orc) : EvS := (xSeq (xSet 3 (xMeth 102291339397263206 [(31, 144)] (fun j => gN C j 2) (xVar 0) (xCons (xVar 1) xNil)))
 (xRet (xIf (xTest (xOp oIs (xVar 3) (xC .non))) (xC .non) (xMeth 25826285054347669350 [(30, 142)] (fun j => gN C j 2) (xVar 3) (xCons (xVar 2) xNil)))))
def b__law_schema (C : Orc) : EvS := (xSeq (xSet 2 (xMake 30 (gD [] (gN C 141 4)) (xCons (xC (.str 321)) (xCons (xLst (xCons (xMake 29 (gD [] (gN C 140 4)) (xCons (xC (.str 353)) (xCons (xMake 2 (gD [] (gN C 42 3)) (xCons (xC (.int 0)) (xCons (xC (.int 9)) xNil))) (xCons (xVar 1) xNil)))) (xCons (xMake 29 (gD [.bl false] (gN C 140 4)) (xCons (xC (.str 372)) (xCons (xMake 3 (gD [.non] (gN C 43 3)) (xCons (xC (.int 4)) xNil)) xNil))) (xCons (xMake 29 (gD [.bl false] (gN C 140 4)) (xCons (xC (.str 370)) (xCons (xMake 5 (gD [] (gN C 44 3)) (xCons (xLst (xCons (xC (.str 321)) (xCons (xC (.str 322)) xNil))) (xCons (xOp (oIx SQ) (xVar 0) (xC (.int 0))) xNil))) xNil))) (xCons (xMake 29 (gD [.bl false] (gN C 140 4)) (xCons (xC (.str 364)) (xCons (xMake 6 (gD [] (gN C 45 2)) (xCons (xLst (xCons (xC (.str 321)) xNil)) xNil)) xNil))) xNil))))) (xCons (xLst (xCons (xLst (xCons (xC (.str 353)) (xCons (xC (.str 372)) xNil))) xNil)) xNil)))))
 (xSeq (xSet 3 (xMake 30 (gD [] (gN C 141 4)) (xCons (xC (.str 322)) (xCons (xLst (xCons (xMake 29 (gD [] (gN C 140 4)) (xCons (xC (.str 368)) (xCons (xMake 5 (gD [] (gN C 44 3)) (xCons (xLst (xCons (xC (.str 321)) xNil)) (xCons (xOp (oIx SQ) (xVar 0) (xC (.int 1))) xNil))) (xCons (xVar 1) xNil)))) (xCons (xMake 29 (gD [.bl false] (gN C 140 4)) (xCons (xC (.str 369)) (xCons (xMake 5 (gD [] (gN C 44 3)) (xCons (xLst (xCons (xC (.str 322)) xNil)) (xCons (xOp (oIx SQ) (xVar 0) (xC (.int 2))) xNil))) xNil))) (xCons (xMake 29 (gD [.bl false] (gN C 140 4)) (xCons (xC (.str 365)) (xCons (xMake 6 (gD [] (gN C 45 2)) (xCons (xLst (xCons (xC (.str 321)) (xCons (xC (.str 322)) xNil))) xNil)) xNil))) xNil)))) (xCons (xLst (xCons (xLst (xCons (xC (.str 369)) xNil)) xNil)) xNil)))))
 (xRet (xMake 31 (gD [] (gN C 143 2)) (xCons (xLst (xCons (xVar 2) (xCons (xVar 3) xNil))) xNil)))))
def b__law_texts (C : Orc) : EvS := (xRet (xLst (xCons (xTup (xCons (xC (.str 1861102688604859502092971191461814392)) (xCons (xC (.int 0)) (xCons (xC (.str 28321728097256356420712511205229)) xNil)))) (xCons (xTup (xCons (xC (.str 1861163298149334030038682081230659704)) (xCons (xC (.int 5)) (xCons (xC (.str 1856092772581792574387809284533087844)) xNil)))) (xCons (xTup (xCons (xC (.str 1861163298149192359044195991874248824)) (xCons (xC (.int 5)) (xCons (xC (.str 113405857606151258310489763428)) xNil)))) (xCons (xTup (xCons (xC (.str 28399098177325178727826161213560)) (xCons (xC (.int 7)) (xCons (xC (.str 1856092772581792574387809284582894949)) xNil)))) (xCons (xTup (xCons (xC (.str 523870896001268970034874275500462568629231834964088)) (xCons (xC (.int 15)) (xCons (xC (.str 1856092772581792574387809284683821677)) xNil)))) (xCons (xTup (xCons (xC (.str 121973197907504851472301990248284613320824)) (xCons (xC (.int 9)) (xCons (xC (.str 28321728097256356420712527394405)) xNil)))) (xCons (xTup (xCons (xC (.str 28399098177325178746204074899045)) (xCons (xC (.int 13)) (xCons (xC (.str 1856092772581792574387809284683821677)) xNil)))) (xCons (xTup (xCons (xC (.str 121973197907504851472300785833333321375864)) (xCons (xC (.int 16)) (xCons (xC (.str 475159749780938899043284604002870062692)) xNil)))) (xCons (xTup (xCons (xC (.str 1861163298149182914311230252583821433)) (xCons (xC (.int 14)) (xCons (xC (.str 113405857606151258310539570533)) xNil)))) (xCons (xTup (xCons (xC (.str 121973197907504851472300785833333321379450)) (xCons (xC (.int 16)) (xCons (xC (.str 29031899547174722127463904013412)) xNil)))) (xCons (xTup (xCons (xC (.str 7993635498066237946088704300373332549922008673)) (xCons (xC (.int 18)) (xCons (xC (.str 1902641198177543246870957100618376037)) xNil)))) (xCons (xTup (xCons (xC (.str 7993635498066237946088704300373332549922729569)) (xCons (xC (.int 18)) (xCons (xC (.str 388266862408564)) xNil)))) (xCons (xTup (xCons (xC (.str 121973197907504851472300785833333321379436)) (xCons (xC (.int 14)) (xCons (xC (.str 388266862408564)) xNil)))) (xCons (xTup (xCons (xC (.str 8789095178326825784372530197790214018497313949770195034409)) (xCons (xC (.int 20)) (xCons (xC (.str 1730442089117371448521588)) xNil)))) (xCons (xTup (xCons (xC (.str 7993635498066237946088704300373332549923122785)) (xCons (xC (.int 18)) (xCons (xC (.str 29031899547174722127463904013412)) xNil)))) (xCons (xTup (xCons (xC (.str 523870896001268970034869325029266716152269479618601)) (xCons (xC (.int 14)) (xCons (xC (.str 26404358768970134896)) xNil)))) (xCons (xTup (xCons (xC (.str 134110949376324856328926547207492280489582244576256297)) (xCons (xC (.int 14)) (xCons (xC (.str 26404358768970134896)) xNil)))) (xCons (xTup (xCons (xC (.str 476457804326190826063674944661458286638)) (xCons (xC (.int 16)) (xCons (xC (.str 475159749780938899043279176818995063908)) xNil)))) (xCons (xTup (xCons (xC (.str 34332403040339163220205196085118023892447298976617082484)) (xCons (xC (.int 18)) (xCons (xC (.str 114953669907593344942617290098)) xNil)))) (xCons (xTup (xCons (xC (.str 7993635498066237946088704300373332227566087796)) (xCons (xC (.int 14)) (xCons (xC (.str 114953669907593344942617290098)) xNil)))) (xCons (xTup (xCons (xC (.str 2250008365651667400799388992746180765213896620528017097433208)) (xCons (xC (.int 15)) (xCons (xC (.str 114953669907593344942617290098)) xNil)))) (xCons (xTup (xCons (xC (.str 9663712346200321214302699980627227615300272044714043108220077322084472)) (xCons (xC (.int 15)) (xCons (xC (.str 114953669907593344942617290098)) xNil)))) (xCons (xTup (xCons (xC (.str 633321052320584251100541745930385989009273024000365023024422264469463572600)) (xCons (xC (.int 19)) (xCons (xC (.str 114953669907593344942617290098)) xNil)))) (xCons (xTup (xCons (xC (.str 147456548251347674778788757028613702629040829235094072463355879544)) (xCons (xC (.int 17)) (xCons (xC (.str 114953669907593344942617290098)) xNil)))) (xCons (xTup (xCons (xC (.str 10625364092129743226912026588491206700982199526909394021690926520881093499884478584)) (xCons (xC (.int 19)) (xCons (xC (.str 114953669907593344942617290098)) xNil)))) (xCons (xTup (xCons (xC (.str 7993635498066237946088704300373332549684764792)) (xCons (xC (.int 14)) (xCons (xC (.str 114953669907593344942617290098)) xNil)))) (xCons (xTup (xCons (xC (.str 9663712346200321214302699980627227614245640011389348549708747326693496)) (xCons (xC (.int 18)) (xCons (xC (.str 114953669907593344942617290098)) xNil)))) (xCons (xTup (xCons (xC (.str 476457804326190826063674944661458270832)) (xCons (xC (.int 14)) (xCons (xC (.str 114953669907593344942617290098)) xNil)))) (xCons (xTup (xCons (xC (.str 162130189394069568281738686958178813165363780428315470931568592580363220754552)) (xCons (xC (.int 18)) (xCons (xC (.str 114953669907593344942617290098)) xNil)))) (xCons (xTup (xCons (xC (.str 2473910360627282230861491195040570269567472750055008940549399806585675896)) (xCons (xC (.int 22)) (xCons (xC (.str 28321728097256356420712645618796)) xNil)))) (xCons (xTup (xCons (xC (.str 2473910360627282230861491195040570269567472750054985328716985458359607416)) (xCons (xC (.int 22)) (xCons (xC (.str 1688106542662164951605288)) xNil)))) (xCons (xTup (xCons (xC (.str 178264028452304602142440083072860088923025773617183464592083991275511520271180151744962680)) (xCons (xC (.int 19)) (xCons (xC (.str 114953669907593344942617290098)) xNil)))) (xCons (xTup (xCons (xC (.str 50176863256960156436533850304509199457193004828873615115702668329582499760750879812284557871679132737656)) (xCons (xC (.int 24)) (xCons (xC (.str 114953669907593344942617290098)) xNil)))) (xCons (xTup (xCons (xC (.str 3288390910408140812224682413556314895593845721350877392858894084064304661625755293613040763946990389726355576)) (xCons (xC (.int 20)) (xCons (xC (.str 1730183349647847348331365)) xNil)))) (xCons (xTup (xCons (xC (.str 3288390910408140812224682413556314895593845721350883669960629470744110262275121435424878831036437490806628472)) (xCons (xC (.int 25)) (xCons (xC (.str 1730442089117371448521588)) xNil)))) (xCons (xTup (xCons (xC (.str 765638172255861762032071690437457267100421181263142188536149792080993879917164053974820827171201144)) (xCons (xC (.int 25)) (xCons (xC (.str 114953669907593344942617290098)) xNil)))) (xCons (xTup (xCons (xC (.str 50176863256960156436533850304509199456693202535261286467905112773820016551200034398275368380479507341432)) (xCons (xC (.int 29)) (xCons (xC (.str 1688106542662164951605288)) xNil)))) (xCons (xTup (xCons (xC (.str 633321052320584251100535761177938069870292798362777522806088428421458583849)) (xCons (xC (.int 27)) (xCons (xC (.str 1688106542662164951605306)) xNil)))) (xCons (xTup (xCons (xC (.str 162130189394069568281737154861552145886794956380871045838358637704099702666281)) (xCons (xC (.int 14)) (xCons (xC (.str 114953669907593344942617290098)) xNil)))) (xCons (xTup (xCons (xC (.str 37748876352345004743369565861931659167413328599133069428804662141048)) (xCons (xC (.int 18)) (xCons (xC (.str 388266862408564)) xNil)))) (xCons (xTup (xCons (xC (.str 2473910360627282230861467868327553215195599903072732892054830771978382964)) (xCons (xC (.int 27)) (xCons (xC (.str 124691493564421340296770383415102863143027)) xNil)))) (xCons (xTup (xCons (xC (.str 147456548251347674778787366648170543629426620954576487804025974369)) (xCons (xC (.int 15)) (xCons (xC (.str 432155274921514227610968697)) xNil)))) (xCons (xTup (xCons (xC (.str 2250008365651667400799378410823874718823980246049728246390904)) (xCons (xC (.int 15)) (xCons (xC (.str 432155274921514227610968697)) xNil)))) (xCons (xTup (xCons (xC (.str 134110949376324856328926547207492280825951726330716280)) (xCons (xC (.int 21)) (xCons (xC (.str 475159749780938899043279176806211874420)) xNil)))) (xCons (xTup (xCons (xC (.str 2473910360627282230861467817101320591635489160451052862708359707642306609)) (xCons (xC (.int 24)) (xCons (xC (.str 475159749780938899043284604002870062692)) xNil)))) (xCons (xTup (xCons (xC (.str 147456548251347674778787363594849139293568040301048345646911729713)) (xCons (xC (.int 14)) (xCons (xC (.str 487107163768130465544284102907384719205)) xNil)))) (xCons (xTup (xCons (xC (.str 633321052320584251100535761177938044246406448718631143720162405170973059369)) (xCons (xC (.int 20)) (xCons (xC (.str 26836790889438078320)) xNil)))) (xCons (xTup (xCons (xC (.str 41505328484881809480124711644557347868784938678451096879986532082066582907134001)) (xCons (xC (.int 32)) (xCons (xC (.str 7553885090635756377389464697335155)) xNil)))) (xCons (xTup (xCons (xC (.str 9663712346200321214302699980627227615497940429560838427768458819477624)) (xCons (xC (.int 19)) (xCons (xC (.str 1938965832608385993874506093917988718)) xNil)))) (xCons (xTup (xCons (xC (.str 925599754922664316152570706015729715183216473605802358301896943640936685901522402860076842295973310283648858399520729345633)) (xCons (xC (.int 49)) (xCons (xC (.str 475159749780938899043284604002870062692)) xNil)))) xNil))))))))))))))))))))))))))))))))))))))))))))))))))))
def bodies (C : Orc) (i : Nat) : Fg := BT.get fgNo (.nd (.nd (.nd (.nd (.nd (.nd (.nd (.nd .lf (runB 3 (b_Query___init__ C)) .lf) (runB 3 (b_NotTerm___init__ C)) .lf) fgNo (.nd .lf (runB 2 (b_is_certain C)) .lf)) fgNo (.nd (.nd (.nd .lf (runB 2 (b_Schema___init__ C)) .lf) (runB 1 (b_TokenReader_here C)) .lf) (runB 1 (b_sort_of_shape C)) (.nd .lf (runB 6 (b_read_among C)) .lf))) fgNo (.nd (.nd (.nd (.nd .lf (runB 2 (b_read_order_term C)) .lf) (runB 6 (b_read_path C)) .lf) (runB 5 (b_quoted_at C)) (.nd .lf (runB 1 (b_read_product C)) .lf)) fgNo (.nd (.nd .lf (runB 1 (b_TokenReader_must_end C)) .lf) (runB 5 (b_SomeTerm___init__ C)) (.nd .lf (runB 3 (b_read_count C)) .lf)))) fgNo (.nd (.nd (.nd (.nd (.nd .lf (runB 3 (b_read_group C)) .lf) (runB 1 (b_QueryState_leave C)) .lf) (runB 4 (b_token_at C)) (.nd .lf (runB 4 (b_joined_parameters C)) .lf)) fgNo (.nd (.nd (.nd .lf (runB 0 (b__law_texts C)) .lf) (runB 2 (b_TokenReader_stands C)) .lf) (runB 2 (b_NumberTerm___init__ C)) (.nd .lf (runB 1 (b_read_parameter C)) .lf))) fgNo (.nd (.nd (.nd (.nd .lf (runB 1 (b_read_bound C)) .lf) (runB 1 (b_read_total_path C)) .lf) (runB 3 (b_TextSort___init__ C)) (.nd .lf (runB 4 (b_read_turned C)) .lf)) fgNo (.nd (.nd .lf (runB 1 (b_TokenReader_small_name_stands C)) .lf) (runB 4 (b_ChainTerm___init__ C)) (.nd .lf (runB 3 (b_read_group_total C)) .lf))))) fgNo (.nd (.nd (.nd (.nd (.nd (.nd .lf (runB 2 (b_read_from C)) .lf) (runB 3 (b_QueryState___init__ C)) .lf) (runB 6 (b_tokens C)) (.nd .lf (runB 2 (b_parameters_as C)) .lf)) fgNo (.nd (.nd (.nd .lf (runB 4 (b_Schema_field_of C)) .lf) (runB 2 (b_TokenReader_take C)) .lf) (runB 6 (b_common_sort C)) (.nd .lf (runB 3 (b_read_single C)) .lf))) fgNo (.nd (.nd (.nd (.nd .lf (runB 4 (b_read_give C)) .lf) (runB 2 (b_read_plain_path C)) .lf) (runB 5 (b_sign_at C)) (.nd .lf (runB 4 (b_longer_chain C)) .lf)) fgNo (.nd (.nd .lf (runB 1 (b_TokenReader_number_token C)) .lf) (runB 3 (b_GroupTotal___init__ C)) (.nd .lf (runB 3 (b_read_total C)) .lf)))) fgNo (.nd (.nd (.nd (.nd (.nd .lf (runB 4 (b_read_several C)) .lf) (runB 2 (b_QueryState_new_name C)) .lf) (runB 3 (b_word_at C)) (.nd .lf (runB 1 (b_read_both C)) .lf)) fgNo (.nd (.nd .lf (runB 2 (b_TokenReader_passes C)) .lf) (runB 2 (b_ParameterTerm___init__ C)) (.nd .lf (runB 4 (b_read_over C)) .lf))) fgNo (.nd (.nd (.nd (.nd .lf (runB 5 (b_Kind___init__ C)) .lf) (runB 2 (b_check_group C)) .lf) (runB 2 (b_ListSort___init__ C)) (.nd .lf (runB 5 (b_read_comparison C)) .lf)) fgNo (.nd (.nd .lf (runB 2 (b_TokenReader_small_name C)) .lf) (runB 3 (b_NullTerm___init__ C)) (.nd .lf (runB 3 (b_OrderTerm___init__ C)) .lf)))))) fgNo (.nd (.nd (.nd (.nd (.nd (.nd (.nd .lf (runB 7 (b_read_query C)) .lf) (runB 3 (b_MinusTerm___init__ C)) .lf) (runB 4 (b_Token___init__ C)) (.nd .lf (runB 4 (b_Drawn___init__ C)) .lf)) fgNo (.nd (.nd (.nd .lf (runB 3 (b_Schema_kind_of C)) .lf) (runB 1 (b_TokenReader_following C)) .lf) (runB 4 (b_kinds_of_shapes C)) (.nd .lf (runB 4 (b_read_signed C)) .lf))) fgNo (.nd (.nd (.nd (.nd .lf (runB 6 (b_read_order C)) .lf) (runB 11 (b_behind_point C)) .lf) (runB 2 (b_may_stand C)) (.nd .lf (runB 8 (b_read_chain C)) .lf)) fgNo (.nd (.nd .lf (runB 3 (b_TokenReader_must_role C)) .lf) (runB 2 (b_CountTerm___init__ C)) (.nd .lf (runB 2 (b_refuse_without_group C)) .lf)))) fgNo (.nd (.nd (.nd (.nd (.nd .lf (runB 1 (b_read_group_path C)) .lf) (runB 1 (b_QueryState_small_name C)) .lf) (runB 3 (b_behind_run C)) (.nd .lf (runB 1 (b_read_either C)) .lf)) fgNo (.nd (.nd .lf (runB 3 (b_TokenReader_stands_one C)) .lf) (runB 2 (b_TextTerm___init__ C)) (.nd .lf (runB 2 (b_read_enclosed C)) .lf))) fgNo (.nd (.nd (.nd (.nd .lf (runB 4 (b_Field___init__ C)) .lf) (runB 1 (b_refuse_list C)) .lf) (runB 3 (b_RefSort___init__ C)) (.nd .lf (runB 2 (b_read_test C)) .lf)) fgNo (.nd (.nd .lf (runB 1 (b_TokenReader_kind_name C)) .lf) (runB 4 (b_CompareTerm___init__ C)) (.nd .lf (runB 2 (b_check_total C)) .lf))))) fgNo (.nd (.nd (.nd (.nd (.nd (.nd .lf (runB 4 (b_read_where C)) .lf) (runB 2 (b_QueryState_enter C)) .lf) (runB 2 (b_behind_blanks C)) (.nd .lf (runB 6 (b_merged C)) .lf)) fgNo (.nd (.nd (.nd .lf (runB 4 (b__law_schema C)) .lf) (runB 1 (b_TokenReader_at_end C)) .lf) (runB 1 (b_SingleTerm___init__ C)) (.nd .lf (runB 2 (b_read_number C)) .lf))) fgNo (.nd (.nd (.nd (.nd .lf (runB 4 (b_read_counts C)) .lf) (runB 2 (b_read_list_path C)) .lf) (runB 3 (b_IntSort___init__ C)) (.nd .lf (runB 4 (b_pass_all C)) .lf)) fgNo (.nd (.nd .lf (runB 3 (b_TokenReader_is_name C)) .lf) (runB 5 (b_ListTotal___init__ C)) (.nd .lf (runB 5 (b_read_list_total C)) .lf)))) fgNo (.nd (.nd (.nd (.nd (.nd .lf (runB 3 (b_read_told C)) .lf) (runB 5 (b_DrawnPath___init__ C)) .lf) (runB 3 (b_number_at C)) (.nd .lf (runB 1 (b_read_sum C)) .lf)) fgNo (.nd (.nd .lf (runB 2 (b_TokenReader_must C)) .lf) (runB 3 (b_PathTerm___init__ C)) (.nd .lf (runB 5 (b_read_some C)) .lf))) fgNo (.nd (.nd (.nd (.nd .lf (runB 3 (b_Kind_field_of C)) .lf) (runB 3 (b_TokenReader___init__ C)) .lf) (runB 1 (b_is_reference C)) (.nd .lf (runB 4 (b_read_null C)) .lf)) fgNo (.nd (.nd .lf (runB 1 (b_TokenReader_field_name C)) .lf) (runB 3 (b_AmongTerm___init__ C)) (.nd .lf (runB 3 (b_QueryParts___init__ C)) .lf))))))) i
def ev (n : Nat) : Orc := evOf bodies n
end
end K68
namespace K68
open PySem PySem.Spec PyProof.Rows L2 TL
set_option autoImplicit false
open Rn
noncomputable section
theorem tx343453ca7e : tx 1548057601139 = "holds" := by decide +kernel
theorem ox343453ca7e : okT 1548057601139 = true := by decide +kernel
theorem tx4218f97170 : tx 408418665002099 = "starts" := by decide +kernel
theorem ox4218f97170 : okT 408418665002099 = true := by decide +kernel
theorem tx3a1e9b87c9 : tx 81469 = ">=" := by decide +kernel
theorem ox3a1e9b87c9 : okT 81469 = true := by decide +kernel
theorem txcedf8da054 : tx 318 = ">" := by decide +kernel
theorem oxcedf8da054 : okT 318 = true := by decide +kernel
theorem txa7eeaea90b : tx 80957 = "<=" := by decide +kernel
theorem oxa7eeaea90b : okT 80957 = true := by decide +kernel
theorem tx524a507821 : tx 316 = "<" := by decide +kernel
theorem ox524a507821 : okT 316 = true := by decide +kernel
theorem txde0219f933 : tx 74045 = "!=" := by decide +kernel
theorem oxde0219f933 : okT 74045 = true := by decide +kernel
theorem tx43ec3e5dee : tx 317 = "=" := by decide +kernel
theorem ox43ec3e5dee : okT 317 = true := by decide +kernel
theorem tx1130a355aa : tx 25900875876200182644 = "greatest" := by decide +kernel
theorem ox1130a355aa : okT 25900875876200182644 = true := by decide +kernel
theorem tx8451fc653e : tx 1565068981108 = "least" := by decide +kernel
theorem ox8451fc653e : okT 1565068981108 = true := by decide +kernel
theorem tx1d623b8968 : tx 24343917 = "sum" := by decide +kernel
theorem ox1d623b8968 : okT 24343917 = true := by decide +kernel
theorem tx3389dae361 : tx 298 = "*" := by decide +kernel
theorem ox3389dae361 : okT 298 = true := by decide +kernel
theorem tx336d5ebc54 : tx 301 = "-" := by decide +kernel
theorem ox336d5ebc54 : okT 301 = true := by decide +kernel
theorem tx26b17225b6 : tx 299 = "+" := by decide +kernel
theorem ox26b17225b6 : okT 299 = true := by decide +kernel
theorem tx853ae90f03 : tx 314 = ":" := by decide +kernel
theorem ox853ae90f03 : okT 314 = true := by decide +kernel
theorem tx9371d7a2e3 : tx 297 = ")" := by decide +kernel
theorem ox9371d7a2e3 : okT 297 = true := by decide +kernel
theorem tx84c4047341 : tx 296 = "(" := by decide +kernel
theorem ox84c4047341 : okT 296 = true := by decide +kernel
theorem txc0cb5f0fcf : tx 300 = "," := by decide +kernel
theorem oxc0cb5f0fcf : okT 300 = true := by decide +kernel
theorem tx5058f1af83 : tx 302 = "." := by decide +kernel
theorem ox5058f1af83 : okT 302 = true := by decide +kernel
theorem txe2942a0478 : tx 1526583357044 = "count" := by decide +kernel
theorem oxe2942a0478 : okT 1526583357044 = true := by decide +kernel
theorem tx37a6259cc0 : tx 6148156524 = "null" := by decide +kernel
theorem ox37a6259cc0 : okT 6148156524 = true := by decide +kernel
theorem txa2a551a645 : tx 92531 = "is" := by decide +kernel
theorem oxa2a551a645 : okT 92531 = true := by decide +kernel
theorem tx13b5bfe96f : tx 92526 = "in" := by decide +kernel
theorem ox13b5bfe96f : okT 92526 = true := by decide +kernel
theorem tx83ab982dd0 : tx 1535289684601 = "every" := by decide +kernel
theorem ox83ab982dd0 : okT 1535289684601 = true := by decide +kernel
theorem tx03d59e663c : tx 6231649637 = "some" := by decide +kernel
theorem ox03d59e663c : okT 6231649637 = true := by decide +kernel
theorem txd529e94150 : tx 24014708 = "not" := by decide +kernel
theorem oxd529e94150 : okT 24014708 = true := by decide +kernel
theorem txbe5d5d3754 : tx 23162468 = "and" := by decide +kernel
theorem oxbe5d5d3754 : okT 23162468 = true := by decide +kernel
theorem txe81c4e4f2b : tx 94066 = "or" := by decide +kernel
theorem oxe81c4e4f2b : okT 94066 = true := by decide +kernel
theorem tx8b04d5e377 : tx 1539367400308 = "first" := by decide +kernel
theorem ox8b04d5e377 : okT 1539367400308 = true := by decide +kernel
theorem tx08b43519a7 : tx 6231386480 = "skip" := by decide +kernel
theorem ox08b43519a7 : okT 6231386480 = true := by decide +kernel
theorem txa1ec23e9b9 : tx 6029932133 = "give" := by decide +kernel
theorem oxa1ec23e9b9 : okT 6029932133 = true := by decide +kernel
theorem tx74e8333ad1 : tx 5979993966 = "down" := by decide +kernel
theorem ox74e8333ad1 : okT 5979993966 = true := by decide +kernel
theorem tx70a17ffa72 : tx 1578172179826 = "order" := by decide +kernel
theorem ox70a17ffa72 : okT 1578172179826 = true := by decide +kernel
theorem txdf3f079de6 : tx 90745 = "by" := by decide +kernel
theorem oxdf3f079de6 : okT 90745 = true := by decide +kernel
theorem txa181a60376 : tx 23161964 = "all" := by decide +kernel
theorem oxa181a60376 : okT 23161964 = true := by decide +kernel
theorem txdb0f6f37eb : tx 1543813166448 = "group" := by decide +kernel
theorem oxdb0f6f37eb : okT 1543813166448 = true := by decide +kernel
theorem tx567904efe9 : tx 1612364214885 = "where" := by decide +kernel
theorem ox567904efe9 : okT 1612364214885 = true := by decide +kernel
theorem txd98a07f849 : tx 6013742957 = "from" := by decide +kernel
theorem oxd98a07f849 : okT 6013742957 = true := by decide +kernel
theorem tx59d42c504c : tx 1599648134248 = "truth" := by decide +kernel
theorem ox59d42c504c : okT 1599648134248 = true := by decide +kernel
theorem txa8cfde6331 : tx 403943459218292 = "object" := by decide +kernel
theorem oxa8cfde6331 : okT 403943459218292 = true := by decide +kernel
theorem tx1cb251ec0d : tx 6247774324 = "text" := by decide +kernel
theorem ox1cb251ec0d : okT 6247774324 = true := by decide +kernel
theorem tx157db7df53 : tx 101733912789083506 = "integer" := by decide +kernel
theorem ox157db7df53 : okT 101733912789083506 = true := by decide +kernel
theorem tx29a7e96467 : tx 6214872165 = "role" := by decide +kernel
theorem ox29a7e96467 : okT 6214872165 = true := by decide +kernel
theorem txebed715e82 : tx 1582366286693 = "place" := by decide +kernel
theorem oxebed715e82 : okT 1582366286693 = true := by decide +kernel
theorem tx53cced8d28 : tx 23883639 = "low" := by decide +kernel
theorem ox53cced8d28 : okT 23883639 = true := by decide +kernel
theorem tx8d966b2253 : tx 6046705512 = "high" := by decide +kernel
theorem ox8d966b2253 : okT 6046705512 = true := by decide +kernel
theorem tx56bc4f911e : tx 102579411494466420 = "longest" := by decide +kernel
theorem ox56bc4f911e : okT 102579411494466420 = true := by decide +kernel
theorem txfc0cb42fe6 : tx 105669064955753844 = "without" := by decide +kernel
theorem oxfc0cb42fe6 : okT 105669064955753844 = true := by decide +kernel
theorem tx0bc693aeef : tx 100038444451063155 = "choices" := by decide +kernel
theorem ox0bc693aeef : okT 100038444451063155 = true := by decide +kernel
theorem tx3aecd46c86 : tx 1560841970803 = "kinds" := by decide +kernel
theorem ox3aecd46c86 : okT 1560841970803 = true := by decide +kernel
theorem tx981c1e7b37 : tx 6215265381 = "rule" := by decide +kernel
theorem ox981c1e7b37 : okT 6215265381 = true := by decide +kernel
theorem txc9e9a84892 : tx 1565070353772 = "level" := by decide +kernel
theorem oxc9e9a84892 : okT 1565070353772 = true := by decide +kernel
theorem txe9f40e1f1d : tx 388597626007156 = "amount" := by decide +kernel
theorem oxe9f40e1f1d : okT 388597626007156 = true := by decide +kernel
theorem txb068931cc4 : tx 6146846053 = "name" := by decide +kernel
theorem oxb068931cc4 : okT 6146846053 = true := by decide +kernel
theorem txd05b6ed7d2 : tx 394077835912307 = "fields" := by decide +kernel
theorem oxd05b6ed7d2 : okT 394077835912307 = true := by decide +kernel
theorem txc47d187067 : tx 6298759780 = "word" := by decide +kernel
theorem oxc47d187067 : okT 6298759780 = true := by decide +kernel
theorem txd6fe1d0be6 : tx 6180402280 = "path" := by decide +kernel
theorem oxd6fe1d0be6 : okT 6180402280 = true := by decide +kernel
theorem txea97586b4a : tx 1552335922546 = "inner" := by decide +kernel
theorem oxea97586b4a : okT 1552335922546 = true := by decide +kernel
theorem tx65e8800b5c : tx 6214218612 = "rest" := by decide +kernel
theorem ox65e8800b5c : okT 6214218612 = true := by decide +kernel
theorem tx04b2948023 : tx 6231254894 = "sign" := by decide +kernel
theorem ox04b2948023 : okT 6231254894 = true := by decide +kernel
theorem tx811882fecd : tx 6113551988 = "left" := by decide +kernel
theorem ox811882fecd : okT 6113551988 = true := by decide +kernel
theorem tx7c4f294078 : tx 1590906284148 = "right" := by decide +kernel
theorem ox7c4f294078 : okT 1590906284148 = true := by decide +kernel
theorem txe5412b8b87 : tx 409522756543844 = "turned" := by decide +kernel
theorem oxe5412b8b87 : okT 409522756543844 = true := by decide +kernel
theorem tx5e2bab0ecb : tx 404020735079027 = "others" := by decide +kernel
theorem ox5e2bab0ecb : okT 404020735079027 = true := by decide +kernel
theorem tx8cd283d8b7 : tx 6130069113 = "many" := by decide +kernel
theorem ox8cd283d8b7 : okT 6130069113 = true := by decide +kernel
theorem txc9550d5fad : tx 408345767144801 = "schema" := by decide +kernel
theorem oxc9550d5fad : okT 408345767144801 = true := by decide +kernel
theorem tx1de9b0a300 : tx 407254727943538 = "reader" := by decide +kernel
theorem ox1de9b0a300 : okT 407254727943538 = true := by decide +kernel
theorem tx7c49b153d4 : tx 404012162050414 = "origin" := by decide +kernel
theorem ox7c49b153d4 : okT 404012162050414 = true := by decide +kernel
theorem txa8998c31a1 : tx 1573592589683 = "names" := by decide +kernel
theorem oxa8998c31a1 : okT 1573592589683 = true := by decide +kernel
theorem tx1471e4e05a : tx 395216170610803 = "groups" := by decide +kernel
theorem ox1471e4e05a : okT 395216170610803 = true := by decide +kernel
theorem tx12a055bf01 : tx 1530710226024 = "depth" := by decide +kernel
theorem ox12a055bf01 : okT 1530710226024 = true := by decide +kernel
theorem txb4dad0fe5f : tx 6247772781 = "term" := by decide +kernel
theorem oxb4dad0fe5f : okT 6247772781 = true := by decide +kernel
theorem txf1965a857b : tx 24276855 = "row" := by decide +kernel
theorem oxf1965a857b : okT 24276855 = true := by decide +kernel
theorem tx7f005c3fa6 : tx 26689865646230365540 = "reserved" := by decide +kernel
theorem ox7f005c3fa6 : okT 26689865646230365540 = true := by decide +kernel
theorem tx7d0db380a5 : tx 90484 = "at" := by decide +kernel
theorem ox7d0db380a5 : okT 90484 = true := by decide +kernel
theorem tx166e64f6c3 : tx 1739628441860254841795187 = "parameters" := by decide +kernel
theorem ox166e64f6c3 : okT 1739628441860254841795187 = true := by decide +kernel
theorem txd939aaf7d2 : tx 6097038948 = "kind" := by decide +kernel
theorem oxd939aaf7d2 : okT 6097038948 = true := by decide +kernel
theorem txb9f4c1cc74 : tx 1543662626158 = "given" := by decide +kernel
theorem oxb9f4c1cc74 : okT 1543662626158 = true := by decide +kernel
theorem txe52e279299 : tx 104545316961805668 = "skipped" := by decide +kernel
theorem oxe52e279299 : okT 104545316961805668 = true := by decide +kernel
theorem tx4d8b6084f3 : tx 6096777332 = "kept" := by decide +kernel
theorem ox4d8b6084f3 : okT 6096777332 = true := by decide +kernel
theorem tx78f0805fa8 : tx 1582182855795 = "parts" := by decide +kernel
theorem ox78f0805fa8 : okT 1582182855795 = true := by decide +kernel
theorem tx8c73a98a30 : tx 1595184083045 = "shape" := by decide +kernel
theorem ox8c73a98a30 : okT 1595184083045 = true := by decide +kernel
theorem txc0ca5324e0 : tx 402856748541284 = "needed" := by decide +kernel
theorem oxc0ca5324e0 : okT 402856748541284 = true := by decide +kernel
theorem txa3735dcf1b : tx 26185469059264378739 = "key_rows" := by decide +kernel
theorem oxa3735dcf1b : okT 26185469059264378739 = true := by decide +kernel
theorem txd41d8cd98f : tx 1 = "" := by decide +kernel
theorem oxd41d8cd98f : okT 1 = true := by decide +kernel
theorem tx7f021a1415 : tx 23424612 = "end" := by decide +kernel
theorem ox7f021a1415 : okT 23424612 = true := by decide +kernel
theorem txe1075a9baf : tx 29504280060789841062293930995303 = "text too long" := by decide +kernel
theorem oxe1075a9baf : okT 29504280060789841062293930995303 = true := by decide +kernel
theorem tx7215ee9c7d : tx 288 = " " := by decide +kernel
theorem ox7215ee9c7d : okT 288 = true := by decide +kernel
theorem txb15835f133 : tx 290 = "\"" := by decide +kernel
theorem oxb15835f133 : okT 290 = true := by decide +kernel
theorem tx781e5e245d : tx 1436506918544312769132601 = "0123456789" := by decide +kernel
theorem ox781e5e245d : okT 1436506918544312769132601 = true := by decide +kernel
theorem tx2ad372c377 : tx 233606820031262824291793228925311306333649869794303002079163341563213949795593257878683467579756910891606622701420032317479258 = "abcdefghijklmnopqrstuvwxyzABCDEFGHIJKLMNOPQRSTUVWXYZ" := by decide +kernel
theorem ox2ad372c377 : okT 233606820031262824291793228925311306333649869794303002079163341563213949795593257878683467579756910891606622701420032317479258 = true := by decide +kernel
theorem tx552837e7eb : tx 29745052069318066112072439000679 = "word too long" := by decide +kernel
theorem ox552837e7eb : okT 29745052069318066112072439000679 = true := by decide +kernel
theorem txcf72e0a1cf : tx 72297808991708565110466170334964614225819117372056049474832071695253332111666117763008701651562149806664832573143143265820088756195065799215288044501343 = "abcdefghijklmnopqrstuvwxyzABCDEFGHIJKLMNOPQRSTUVWXYZ0123456789_" := by decide +kernel
theorem oxcf72e0a1cf : okT 72297808991708565110466170334964614225819117372056049474832071695253332111666117763008701651562149806664832573143143265820088756195065799215288044501343 = true := by decide +kernel
theorem txb1bc248a7f : tx 402925602104690 = "number" := by decide +kernel
theorem oxb1bc248a7f : okT 402925602104690 = true := by decide +kernel
theorem txf24faeac0e : tx 1938965832608385993874506093917988718 = "unexpected sign" := by decide +kernel
theorem oxf24faeac0e : okT 1938965832608385993874506093917988718 = true := by decide +kernel
theorem tx2107478474 : tx 1902762358469259631032359776982888039 = "number too long" := by decide +kernel
theorem ox2107478474 : okT 1902762358469259631032359776982888039 = true := by decide +kernel
theorem txcfcd208495 : tx 304 = "0" := by decide +kernel
theorem oxcfcd208495 : okT 304 = true := by decide +kernel
theorem tx36fd4ab044 : tx 29028888041956691448853569041007 = "needless zero" := by decide +kernel
theorem ox36fd4ab044 : okT 29028888041956691448853569041007 = true := by decide +kernel
theorem txd3a037c25c : tx 32440298995997148011662767977547505595540836 = "text is not closed" := by decide +kernel
theorem oxd3a037c25c : okT 32440298995997148011662767977547505595540836 = true := by decide +kernel
theorem tx28d397e873 : tx 348 = "\\" := by decide +kernel
theorem ox28d397e873 : okT 348 = true := by decide +kernel
theorem tx4c761f170e : tx 382 = "~" := by decide +kernel
theorem ox4c761f170e : okT 382 = true := by decide +kernel
theorem tx10ae9fc7d4 : tx 6113817460 = "list" := by decide +kernel
theorem ox10ae9fc7d4 : okT 6113817460 = true := by decide +kernel
theorem tx03144cce1f : tx 6795423601016620475762 = "parameter" := by decide +kernel
theorem ox03144cce1f : okT 6795423601016620475762 = true := by decide +kernel
theorem tx8b5376a2ac : tx 26836790889438078320 = "too deep" := by decide +kernel
theorem ox8b5376a2ac : okT 26836790889438078320 = true := by decide +kernel
theorem tx9b258b75cb : tx 1754015680353749008739685 = "small_name" := by decide +kernel
theorem ox9b258b75cb : okT 1754015680353749008739685 = true := by decide +kernel
theorem tx044d126c54 : tx 1856092772581792574387809284582894949 = "expected a name" := by decide +kernel
theorem ox044d126c54 : okT 1856092772581792574387809284582894949 = true := by decide +kernel
theorem tx8c63ca1c0f : tx 1730183349647847348331365 = "name twice" := by decide +kernel
theorem ox8c63ca1c0f : okT 1730183349647847348331365 = true := by decide +kernel
theorem tx9560f74c21 : tx 405038827791731 = "passes" := by decide +kernel
theorem ox9560f74c21 : okT 405038827791731 = true := by decide +kernel
theorem tx73f329f154 : tx 1692551417321728841444709 = "field_name" := by decide +kernel
theorem ox73f329f154 : okT 1692551417321728841444709 = true := by decide +kernel
theorem txeb0694337e : tx 113405857606151258310539570533 = "no such name" := by decide +kernel
theorem oxeb0694337e : okT 113405857606151258310539570533 = true := by decide +kernel
theorem txe363007e3a : tx 114953669907593344942617290098 = "sorts differ" := by decide +kernel
theorem oxe363007e3a : okT 114953669907593344942617290098 = true := by decide +kernel
theorem txef99bdb132 : tx 29031899547174722127463904013412 = "no such field" := by decide +kernel
theorem oxef99bdb132 : okT 29031899547174722127463904013412 = true := by decide +kernel
theorem tx9b271d894e : tx 25826285054347669350 = "field_of" := by decide +kernel
theorem ox9b271d894e : okT 25826285054347669350 = true := by decide +kernel
theorem txbf5a04e375 : tx 1902641198177543246870957100618376037 = "not a reference" := by decide +kernel
theorem oxbf5a04e375 : okT 1902641198177543246870957100618376037 = true := by decide +kernel
theorem tx1bd9c49214 : tx 388266862408564 = "a list" := by decide +kernel
theorem ox1bd9c49214 : okT 388266862408564 = true := by decide +kernel
theorem txee1674d734 : tx 1730442089117371448521588 = "not a list" := by decide +kernel
theorem oxee1674d734 : okT 1730442089117371448521588 = true := by decide +kernel
theorem tx9b5eeb1b2a : tx 124691493564421340296770383415102863143027 = "not in the groups" := by decide +kernel
theorem ox9b5eeb1b2a : okT 124691493564421340296770383415102863143027 = true := by decide +kernel
theorem txc4c63c1d55 : tx 388627421294180 = "at_end" := by decide +kernel
theorem oxc4c63c1d55 : okT 388627421294180 = true := by decide +kernel
theorem tx6c92285fa6 : tx 6046446181 = "here" := by decide +kernel
theorem ox6c92285fa6 : okT 6046446181 = true := by decide +kernel
theorem tx41157b1dde : tx 408418664735859 = "stands" := by decide +kernel
theorem ox41157b1dde : okT 408418664735859 = true := by decide +kernel
theorem tx600d6af0f3 : tx 6247508837 = "take" := by decide +kernel
theorem ox600d6af0f3 : okT 6247508837 = true := by decide +kernel
theorem tx84cd139cc4 : tx 6594166182274081842208 = "expected " := by decide +kernel
theorem ox84cd139cc4 : okT 6594166182274081842208 = true := by decide +kernel
theorem tx9bd5eeb301 : tx 475159749780938899043284604002870062692 = "expected the end" := by decide +kernel
theorem ox9bd5eeb301 : okT 475159749780938899043284604002870062692 = true := by decide +kernel
theorem tx1675e5c45a : tx 6741524822982036253797 = "must_role" := by decide +kernel
theorem ox1675e5c45a : okT 6741524822982036253797 = true := by decide +kernel
theorem txa89646b603 : tx 121640895943920358155079469274510502552946 = "expected a number" := by decide +kernel
theorem oxa89646b603 : okT 121640895943920358155079469274510502552946 = true := by decide +kernel
theorem tx437bba8e0b : tx 516243050295915933279075894909120947931934753447004038558669146 = "ABCDEFGHIJKLMNOPQRSTUVWXYZ" := by decide +kernel
theorem ox437bba8e0b : okT 516243050295915933279075894909120947931934753447004038558669146 = true := by decide +kernel
theorem tx0cb263803c : tx 101739320303512933 = "is_name" := by decide +kernel
theorem ox0cb263803c : okT 101739320303512933 = true := by decide +kernel
theorem tx52fe0679ef : tx 1856092772581792574387809284533087844 = "expected a kind" := by decide +kernel
theorem ox52fe0679ef : okT 1856092772581792574387809284533087844 = true := by decide +kernel
theorem txdfdb8de5b7 : tx 126390149831090416917120150048498688877683 = "small_name_stands" := by decide +kernel
theorem oxdfdb8de5b7 : okT 126390149831090416917120150048498688877683 = true := by decide +kernel
theorem tx365a055b54 : tx 475159749780938899043279176818995063908 = "expected a field" := by decide +kernel
theorem ox365a055b54 : okT 475159749780938899043279176818995063908 = true := by decide +kernel
theorem txb39822a656 : tx 1754144808116504484605541 = "stands_one" := by decide +kernel
theorem oxb39822a656 : okT 1754144808116504484605541 = true := by decide +kernel
theorem txd0e6ef34e7 : tx 6131381108 = "must" := by decide +kernel
theorem oxd0e6ef34e7 : okT 6131381108 = true := by decide +kernel
theorem tx3b1d9a27b0 : tx 1856092772581792574387809284683821677 = "expected a term" := by decide +kernel
theorem ox3b1d9a27b0 : okT 1856092772581792574387809284683821677 = true := by decide +kernel
theorem tx3c568504b9 : tx 487107163768130465544284102907384719205 = "number too large" := by decide +kernel
theorem ox3c568504b9 : okT 487107163768130465544284102907384719205 = true := by decide +kernel
theorem tx1f841f405d : tx 113413474468544768880440730990 = "number_token" := by decide +kernel
theorem ox1f841f405d : okT 113413474468544768880440730990 = true := by decide +kernel
theorem tx6c374e7033 : tx 1565068981861 = "leave" := by decide +kernel
theorem ox6c374e7033 : okT 1565068981861 = true := by decide +kernel
theorem txe2a7106f1c : tx 1535156446578 = "enter" := by decide +kernel
theorem oxe2a7106f1c : okT 1535156446578 = true := by decide +kernel
theorem tx10b0406938 : tx 26401639642286878053 = "new_name" := by decide +kernel
theorem ox10b0406938 : okT 26401639642286878053 = true := by decide +kernel
theorem tx242cfc70ba : tx 26404358768970134896 = "no group" := by decide +kernel
theorem ox242cfc70ba : okT 26404358768970134896 = true := by decide +kernel
theorem tx2511fc6cb0 : tx 6611963289849714798183 = "following" := by decide +kernel
theorem ox2511fc6cb0 : okT 6611963289849714798183 = true := by decide +kernel
theorem tx65f15ca514 : tx 26334081339772726884 = "must_end" := by decide +kernel
theorem ox65f15ca514 : okT 26334081339772726884 = true := by decide +kernel
theorem tx4b74f772ae : tx 102291339397263206 = "kind_of" := by decide +kernel
theorem ox4b74f772ae : okT 102291339397263206 = true := by decide +kernel
theorem tx9dba85b03f : tx 113405857606151258310489763428 = "no such kind" := by decide +kernel
theorem ox9dba85b03f : okT 113405857606151258310489763428 = true := by decide +kernel
theorem tx998278fe89 : tx 6703765218739024391525 = "kind_name" := by decide +kernel
theorem ox998278fe89 : okT 6703765218739024391525 = true := by decide +kernel
theorem tx9226cafed9 : tx 7553885090635756377389464697335155 = "too many terms" := by decide +kernel
theorem ox9226cafed9 : okT 7553885090635756377389464697335155 = true := by decide +kernel
theorem txfa93e2a328 : tx 475159749780938899043279176806211874420 = "expected a count" := by decide +kernel
theorem oxfa93e2a328 : okT 475159749780938899043279176806211874420 = true := by decide +kernel
theorem tx7694f4a663 : tx 369 = "q" := by decide +kernel
theorem ox7694f4a663 : okT 369 = true := by decide +kernel
theorem tx9d5ed678fe : tx 322 = "B" := by decide +kernel
theorem ox9d5ed678fe : okT 322 = true := by decide +kernel
theorem tx7fc56270e7 : tx 321 = "A" := by decide +kernel
theorem ox7fc56270e7 : okT 321 = true := by decide +kernel
theorem tx6f8f577150 : tx 365 = "m" := by decide +kernel
theorem ox6f8f577150 : okT 365 = true := by decide +kernel
theorem tx83878c9117 : tx 368 = "p" := by decide +kernel
theorem ox83878c9117 : okT 368 = true := by decide +kernel
theorem txe358efa489 : tx 372 = "t" := by decide +kernel
theorem oxe358efa489 : okT 372 = true := by decide +kernel
theorem tx0cc175b9c0 : tx 353 = "a" := by decide +kernel
theorem ox0cc175b9c0 : okT 353 = true := by decide +kernel
theorem tx2db95e8e1a : tx 364 = "l" := by decide +kernel
theorem ox2db95e8e1a : okT 364 = true := by decide +kernel
theorem tx4b43b0aee3 : tx 370 = "r" := by decide +kernel
theorem ox4b43b0aee3 : okT 370 = true := by decide +kernel
theorem tx47e665a472 : tx 925599754922664316152570706015729715183216473605802358301896943640936685901522402860076842295973310283648858399520729345633 = "from A x where x.a = :p give :p + x.a, x first :p.a" := by decide +kernel
theorem ox47e665a472 : okT 925599754922664316152570706015729715183216473605802358301896943640936685901522402860076842295973310283648858399520729345633 = true := by decide +kernel
theorem tx1423ea664e : tx 9663712346200321214302699980627227615497940429560838427768458819477624 = "from A x where x.a ! 1 give x" := by decide +kernel
theorem ox1423ea664e : okT 9663712346200321214302699980627227615497940429560838427768458819477624 = true := by decide +kernel
theorem tx21b991ae1a : tx 41505328484881809480124711644557347868784938678451096879986532082066582907134001 = "from A x give 1, 1, 1, 1, 1, 1, 1" := by decide +kernel
theorem ox21b991ae1a : okT 41505328484881809480124711644557347868784938678451096879986532082066582907134001 = true := by decide +kernel
theorem tx77361cc4f4 : tx 633321052320584251100535761177938044246406448718631143720162405170973059369 = "from A x give ((((((((1))))))))" := by decide +kernel
theorem ox77361cc4f4 : okT 633321052320584251100535761177938044246406448718631143720162405170973059369 = true := by decide +kernel
theorem tx2aa34f190f : tx 147456548251347674778787363594849139293568040301048345646911729713 = "from A x give 1000000000001" := by decide +kernel
theorem ox2aa34f190f : okT 147456548251347674778787363594849139293568040301048345646911729713 = true := by decide +kernel
theorem tx6b02b1247b : tx 2473910360627282230861467817101320591635489160451052862708359707642306609 = "from A x give x first 1 skip 1" := by decide +kernel
theorem ox6b02b1247b : okT 2473910360627282230861467817101320591635489160451052862708359707642306609 = true := by decide +kernel
theorem txef7fb8005c : tx 134110949376324856328926547207492280825951726330716280 = "from A x give x skip x" := by decide +kernel
theorem oxef7fb8005c : okT 134110949376324856328926547207492280825951726330716280 = true := by decide +kernel
theorem txba479d58a4 : tx 432155274921514227610968697 = "expected by" := by decide +kernel
theorem oxba479d58a4 : okT 432155274921514227610968697 = true := by decide +kernel
theorem txca42875fb5 : tx 2250008365651667400799378410823874718823980246049728246390904 = "from A x order x.a give x" := by decide +kernel
theorem oxca42875fb5 : okT 2250008365651667400799378410823874718823980246049728246390904 = true := by decide +kernel
theorem tx173c7d2440 : tx 147456548251347674778787366648170543629426620954576487804025974369 = "from A x group x.a give x.a" := by decide +kernel
theorem ox173c7d2440 : okT 147456548251347674778787366648170543629426620954576487804025974369 = true := by decide +kernel
theorem tx890b60dc53 : tx 2473910360627282230861467868327553215195599903072732892054830771978382964 = "from A x group by x.a give x.t" := by decide +kernel
theorem ox890b60dc53 : okT 2473910360627282230861467868327553215195599903072732892054830771978382964 = true := by decide +kernel
theorem txc3b58a46f7 : tx 37748876352345004743369565861931659167413328599133069428804662141048 = "from A x group by x.l give x" := by decide +kernel
theorem oxc3b58a46f7 : okT 37748876352345004743369565861931659167413328599133069428804662141048 = true := by decide +kernel
theorem txd0b8266d00 : tx 162130189394069568281737154861552145886794956380871045838358637704099702666281 = "from A x give sum(y in x.l: y.t)" := by decide +kernel
theorem oxd0b8266d00 : okT 162130189394069568281737154861552145886794956380871045838358637704099702666281 = true := by decide +kernel
theorem tx68340130d1 : tx 1688106542662164951605306 = "expected :" := by decide +kernel
theorem ox68340130d1 : okT 1688106542662164951605306 = true := by decide +kernel
theorem tx98888de591 : tx 633321052320584251100535761177938069870292798362777522806088428421458583849 = "from A x give sum(y in x.l y.a)" := by decide +kernel
theorem ox98888de591 : okT 633321052320584251100535761177938069870292798362777522806088428421458583849 = true := by decide +kernel
theorem txd6094e2179 : tx 1688106542662164951605288 = "expected (" := by decide +kernel
theorem oxd6094e2179 : okT 1688106542662164951605288 = true := by decide +kernel
theorem txc78d0b50d1 : tx 50176863256960156436533850304509199456693202535261286467905112773820016551200034398275368380479507341432 = "from A x where some y in x.l y.a = 1 give x" := by decide +kernel
theorem oxc78d0b50d1 : okT 50176863256960156436533850304509199456693202535261286467905112773820016551200034398275368380479507341432 = true := by decide +kernel
theorem tx537cb23d04 : tx 765638172255861762032071690437457267100421181263142188536149792080993879917164053974820827171201144 = "from A x where some y in x.l (y.a) give x" := by decide +kernel
theorem ox537cb23d04 : okT 765638172255861762032071690437457267100421181263142188536149792080993879917164053974820827171201144 = true := by decide +kernel
theorem tx0c3a5bc551 : tx 3288390910408140812224682413556314895593845721350883669960629470744110262275121435424878831036437490806628472 = "from A x where some y in x.a (y.a = 1) give x" := by decide +kernel
theorem ox0c3a5bc551 : okT 3288390910408140812224682413556314895593845721350883669960629470744110262275121435424878831036437490806628472 = true := by decide +kernel
theorem txd3c8db272a : tx 3288390910408140812224682413556314895593845721350877392858894084064304661625755293613040763946990389726355576 = "from A x where some x in x.l (x.a = 1) give x" := by decide +kernel
theorem oxd3c8db272a : okT 3288390910408140812224682413556314895593845721350877392858894084064304661625755293613040763946990389726355576 = true := by decide +kernel
theorem txbdbac4df2a : tx 50176863256960156436533850304509199457193004828873615115702668329582499760750879812284557871679132737656 = "from A x where x.a = :p and x.t = :p give x" := by decide +kernel
theorem oxbdbac4df2a : okT 50176863256960156436533850304509199457193004828873615115702668329582499760750879812284557871679132737656 = true := by decide +kernel
theorem txba5cfbf670 : tx 178264028452304602142440083072860088923025773617183464592083991275511520271180151744962680 = "from A x where x.a in (1, x.t) give x" := by decide +kernel
theorem oxba5cfbf670 : okT 178264028452304602142440083072860088923025773617183464592083991275511520271180151744962680 = true := by decide +kernel
theorem txe28d93f243 : tx 2473910360627282230861491195040570269567472750054985328716985458359607416 = "from A x where x.a in 1 give x" := by decide +kernel
theorem oxe28d93f243 : okT 2473910360627282230861491195040570269567472750054985328716985458359607416 = true := by decide +kernel
theorem tx3b80aadebf : tx 28321728097256356420712645618796 = "expected null" := by decide +kernel
theorem ox3b80aadebf : okT 28321728097256356420712645618796 = true := by decide +kernel
theorem txa830fc62fe : tx 2473910360627282230861491195040570269567472750055008940549399806585675896 = "from A x where x.a is 1 give x" := by decide +kernel
theorem oxa830fc62fe : okT 2473910360627282230861491195040570269567472750055008940549399806585675896 = true := by decide +kernel
theorem tx037714f822 : tx 162130189394069568281738686958178813165363780428315470931568592580363220754552 = "from A x where :p is null give x" := by decide +kernel
theorem ox037714f822 : okT 162130189394069568281738686958178813165363780428315470931568592580363220754552 = true := by decide +kernel
theorem tx915e23dcaa : tx 476457804326190826063674944661458270832 = "from A x give :p" := by decide +kernel
theorem ox915e23dcaa : okT 476457804326190826063674944661458270832 = true := by decide +kernel
theorem txacce3d3a3a : tx 9663712346200321214302699980627227614245640011389348549708747326693496 = "from A x where :p = :q give x" := by decide +kernel
theorem oxacce3d3a3a : okT 9663712346200321214302699980627227614245640011389348549708747326693496 = true := by decide +kernel
theorem tx1bba8ab3d0 : tx 7993635498066237946088704300373332549684764792 = "from A x give x = x" := by decide +kernel
theorem ox1bba8ab3d0 : okT 7993635498066237946088704300373332549684764792 = true := by decide +kernel
theorem tx7f1069f1bf : tx 10625364092129743226912026588491206700982199526909394021690926520881093499884478584 = "from A x where x.a starts 1 give x" := by decide +kernel
theorem ox7f1069f1bf : okT 10625364092129743226912026588491206700982199526909394021690926520881093499884478584 = true := by decide +kernel
theorem tx88396418d3 : tx 147456548251347674778788757028613702629040829235094072463355879544 = "from A x where x < x give x" := by decide +kernel
theorem ox88396418d3 : okT 147456548251347674778788757028613702629040829235094072463355879544 = true := by decide +kernel
theorem tx930ce982e0 : tx 633321052320584251100541745930385989009273024000365023024422264469463572600 = "from A x where x.a = x.t give x" := by decide +kernel
theorem ox930ce982e0 : okT 633321052320584251100541745930385989009273024000365023024422264469463572600 = true := by decide +kernel
theorem tx24469a6756 : tx 9663712346200321214302699980627227615300272044714043108220077322084472 = "from A x where not x.a give x" := by decide +kernel
theorem ox24469a6756 : okT 9663712346200321214302699980627227615300272044714043108220077322084472 = true := by decide +kernel
theorem tx98a28e75a2 : tx 2250008365651667400799388992746180765213896620528017097433208 = "from A x where x.a give x" := by decide +kernel
theorem ox98a28e75a2 : okT 2250008365651667400799388992746180765213896620528017097433208 = true := by decide +kernel
theorem tx066535d7f9 : tx 7993635498066237946088704300373332227566087796 = "from A x give - x.t" := by decide +kernel
theorem ox066535d7f9 : okT 7993635498066237946088704300373332227566087796 = true := by decide +kernel
theorem tx176a1bbd49 : tx 34332403040339163220205196085118023892447298976617082484 = "from A x give x.a + x.t" := by decide +kernel
theorem ox176a1bbd49 : okT 34332403040339163220205196085118023892447298976617082484 = true := by decide +kernel
theorem txd7165fe267 : tx 476457804326190826063674944661458286638 = "from A x give x." := by decide +kernel
theorem oxd7165fe267 : okT 476457804326190826063674944661458286638 = true := by decide +kernel
theorem tx82b5a4b573 : tx 134110949376324856328926547207492280489582244576256297 = "from A x give sum(x.a)" := by decide +kernel
theorem ox82b5a4b573 : okT 134110949376324856328926547207492280489582244576256297 = true := by decide +kernel
theorem tx3d4c34c047 : tx 523870896001268970034869325029266716152269479618601 = "from A x give count()" := by decide +kernel
theorem ox3d4c34c047 : okT 523870896001268970034869325029266716152269479618601 = true := by decide +kernel
theorem tx28d8690bdd : tx 7993635498066237946088704300373332549923122785 = "from A x give x.r.a" := by decide +kernel
theorem ox28d8690bdd : okT 7993635498066237946088704300373332549923122785 = true := by decide +kernel
theorem tx3e6cdd040b : tx 8789095178326825784372530197790214018497313949770195034409 = "from A x give count(x.a)" := by decide +kernel
theorem ox3e6cdd040b : okT 8789095178326825784372530197790214018497313949770195034409 = true := by decide +kernel
theorem tx4c87b8a99a : tx 121973197907504851472300785833333321379436 = "from A x give x.l" := by decide +kernel
theorem ox4c87b8a99a : okT 121973197907504851472300785833333321379436 = true := by decide +kernel
theorem tx7a2e716877 : tx 7993635498066237946088704300373332549922729569 = "from A x give x.l.a" := by decide +kernel
theorem ox7a2e716877 : okT 7993635498066237946088704300373332549922729569 = true := by decide +kernel
theorem tx041575604e : tx 7993635498066237946088704300373332549922008673 = "from A x give x.a.a" := by decide +kernel
theorem ox041575604e : okT 7993635498066237946088704300373332549922008673 = true := by decide +kernel
theorem tx2282cd9ee8 : tx 121973197907504851472300785833333321379450 = "from A x give x.z" := by decide +kernel
theorem ox2282cd9ee8 : okT 121973197907504851472300785833333321379450 = true := by decide +kernel
theorem tx548b4f48d5 : tx 1861163298149182914311230252583821433 = "from A x give y" := by decide +kernel
theorem ox548b4f48d5 : okT 1861163298149182914311230252583821433 = true := by decide +kernel
theorem tx3a288f5e16 : tx 121973197907504851472300785833333321375864 = "from A x give x x" := by decide +kernel
theorem ox3a288f5e16 : okT 121973197907504851472300785833333321375864 = true := by decide +kernel
theorem txb4375fb2cc : tx 28399098177325178746204074899045 = "from A x give" := by decide +kernel
theorem oxb4375fb2cc : okT 28399098177325178746204074899045 = true := by decide +kernel
theorem txd016fcd120 : tx 28321728097256356420712527394405 = "expected give" := by decide +kernel
theorem oxd016fcd120 : okT 28321728097256356420712527394405 = true := by decide +kernel
theorem tx039d7557a5 : tx 121973197907504851472301990248284613320824 = "from A x x give x" := by decide +kernel
theorem ox039d7557a5 : okT 121973197907504851472301990248284613320824 = true := by decide +kernel
theorem tx157b866c14 : tx 523870896001268970034874275500462568629231834964088 = "from A x where give x" := by decide +kernel
theorem ox157b866c14 : okT 523870896001268970034874275500462568629231834964088 = true := by decide +kernel
theorem txa2972281db : tx 28399098177325178727826161213560 = "from A give x" := by decide +kernel
theorem oxa2972281db : okT 28399098177325178727826161213560 = true := by decide +kernel
theorem txd1991a07c7 : tx 1861163298149192359044195991874248824 = "from C x give x" := by decide +kernel
theorem oxd1991a07c7 : okT 1861163298149192359044195991874248824 = true := by decide +kernel
theorem txd350812867 : tx 1861163298149334030038682081230659704 = "from a x give x" := by decide +kernel
theorem oxd350812867 : okT 1861163298149334030038682081230659704 = true := by decide +kernel
theorem tx1233ba08a3 : tx 28321728097256356420712511205229 = "expected from" := by decide +kernel
theorem ox1233ba08a3 : okT 28321728097256356420712511205229 = true := by decide +kernel
theorem tx806b3a87e4 : tx 1861102688604859502092971191461814392 = "form A x give x" := by decide +kernel
theorem ox806b3a87e4 : okT 1861102688604859502092971191461814392 = true := by decide +kernel
section
variable {P : Program} {w : World} {K : PySem.W.Frag} {mg : Str → Option Value} {base : Heap} {A : Ad}
theorem sta (T : Txt w K mg A) : StaOk K (S A) SQ := staT ⟨⟨_, T.q_COMPARISONS, fun _ _ => .cons (relStr tx43ec3e5dee ox43ec3e5dee) (.cons (relStr txde0219f933 oxde0219f933) (.cons (relStr tx524a507821 ox524a507821) (.cons (relStr txa7eeaea90b oxa7eeaea90b) (.cons (relStr txcedf8da054 oxcedf8da054) (.cons (relStr tx3a1e9b87c9 ox3a1e9b87c9) (.cons (relStr tx4218f97170 ox4218f97170) (.cons (relStr tx343453ca7e ox343453ca7e) .nil)))))))⟩, ⟨⟨_, T.q_TOTALS, fun _ _ => .cons (relStr tx1d623b8968 ox1d623b8968) (.cons (relStr tx8451fc653e ox8451fc653e) (.cons (relStr tx1130a355aa ox1130a355aa) .nil))⟩, ⟨⟨_, T.q_QUERY_SIGNS, fun _ _ => .cons (relStr tx5058f1af83 ox5058f1af83) (.cons (relStr txc0cb5f0fcf oxc0cb5f0fcf) (.cons (relStr tx84c4047341 ox84c4047341) (.cons (relStr tx9371d7a2e3 ox9371d7a2e3) (.cons (relStr tx853ae90f03 ox853ae90f03) (.cons (relStr tx43ec3e5dee ox43ec3e5dee) (.cons (relStr txde0219f933 oxde0219f933) (.cons (relStr tx524a507821 ox524a507821) (.cons (relStr txa7eeaea90b oxa7eeaea90b) (.cons (relStr txcedf8da054 oxcedf8da054) (.cons (relStr tx3a1e9b87c9 ox3a1e9b87c9) (.cons (relStr tx26b17225b6 ox26b17225b6) (.cons (relStr tx336d5ebc54 ox336d5ebc54) (.cons (relStr tx3389dae361 ox3389dae361) .nil)))))))))))))⟩, ⟨⟨_, T.q_QUERY_WORDS, fun _ _ => .cons (relStr txd98a07f849 oxd98a07f849) (.cons (relStr tx567904efe9 ox567904efe9) (.cons (relStr txdb0f6f37eb oxdb0f6f37eb) (.cons (relStr txa181a60376 oxa181a60376) (.cons (relStr txdf3f079de6 oxdf3f079de6) (.cons (relStr tx70a17ffa72 ox70a17ffa72) (.cons (relStr tx74e8333ad1 ox74e8333ad1) (.cons (relStr txa1ec23e9b9 oxa1ec23e9b9) (.cons (relStr tx08b43519a7 ox08b43519a7) (.cons (relStr tx8b04d5e377 ox8b04d5e377) (.cons (relStr txe81c4e4f2b oxe81c4e4f2b) (.cons (relStr txbe5d5d3754 oxbe5d5d3754) (.cons (relStr txd529e94150 oxd529e94150) (.cons (relStr tx03d59e663c ox03d59e663c) (.cons (relStr tx83ab982dd0 ox83ab982dd0) (.cons (relStr tx13b5bfe96f ox13b5bfe96f) (.cons (relStr tx4218f97170 ox4218f97170) (.cons (relStr tx343453ca7e ox343453ca7e) (.cons (relStr txa2a551a645 oxa2a551a645) (.cons (relStr tx37a6259cc0 ox37a6259cc0) (.cons (relStr txe2942a0478 oxe2942a0478) (.cons (relStr tx1d623b8968 ox1d623b8968) (.cons (relStr tx8451fc653e ox8451fc653e) (.cons (relStr tx1130a355aa ox1130a355aa) .nil)))))))))))))))))))))))⟩, ⟨⟨_, T.q_ASKED_0, fun _ _ => .cons (relStr tx59d42c504c ox59d42c504c) .nil⟩, ⟨⟨_, T.q_ASKED_1, fun _ _ => .cons (relStr tx59d42c504c ox59d42c504c) .nil⟩, ⟨⟨_, T.q_ASKED_2, fun _ _ => .cons (relStr tx157db7df53 ox157db7df53) (.cons (relStr tx1cb251ec0d ox1cb251ec0d) (.cons (relStr txa8cfde6331 oxa8cfde6331) .nil))⟩, ⟨⟨_, T.q_ASKED_3, fun _ _ => .cons (relStr tx157db7df53 ox157db7df53) (.cons (relStr tx1cb251ec0d ox1cb251ec0d) (.cons (relStr txa8cfde6331 oxa8cfde6331) .nil))⟩, ⟨⟨_, T.q_ASKED_4, fun _ _ => .cons (relStr tx157db7df53 ox157db7df53) (.cons (relStr tx1cb251ec0d ox1cb251ec0d) .nil)⟩, ⟨⟨_, T.q_ASKED_5, fun _ _ => .cons (relStr tx157db7df53 ox157db7df53) (.cons (relStr tx1cb251ec0d ox1cb251ec0d) .nil)⟩, ⟨⟨_, T.q_ASKED_6, fun _ _ => .cons (relStr tx157db7df53 ox157db7df53) (.cons (relStr tx1cb251ec0d ox1cb251ec0d) .nil)⟩, ⟨⟨_, T.q_ASKED_7, fun _ _ => .cons (relStr tx157db7df53 ox157db7df53) (.cons (relStr tx1cb251ec0d ox1cb251ec0d) .nil)⟩, ⟨⟨_, T.q_ASKED_8, fun _ _ => .cons (relStr tx1cb251ec0d ox1cb251ec0d) .nil⟩, ⟨⟨_, T.q_ASKED_9, fun _ _ => .cons (relStr tx1cb251ec0d ox1cb251ec0d) .nil⟩, ⟨⟨_, T.q_ASKED_10, fun _ _ => .cons (relStr tx157db7df53 ox157db7df53) (.cons (relStr tx1cb251ec0d ox1cb251ec0d) (.cons (relStr txa8cfde6331 oxa8cfde6331) .nil))⟩, ⟨⟨_, T.q_ASKED_11, fun _ _ => .cons (relStr tx157db7df53 ox157db7df53) .nil⟩, ⟨⟨_, T.q_ASKED_12, fun _ _ => .cons (relStr tx157db7df53 ox157db7df53) .nil⟩, ⟨⟨_, T.q_ASKED_13, fun _ _ => .cons (relStr tx157db7df53 ox157db7df53) .nil⟩, ⟨⟨_, T.q_ASKED_14, fun _ _ => .cons (relStr tx157db7df53 ox157db7df53) .nil⟩, ⟨⟨_, T.q_ASKED_15, fun _ _ => .cons (relStr tx157db7df53 ox157db7df53) (.cons (relStr tx1cb251ec0d ox1cb251ec0d) .nil)⟩, ⟨⟨_, T.q_ASKED_16, fun _ _ => .cons (relStr tx157db7df53 ox157db7df53) (.cons (relStr tx1cb251ec0d ox1cb251ec0d) .nil)⟩, trivial⟩⟩⟩⟩⟩⟩⟩⟩⟩⟩⟩⟩⟩⟩⟩⟩⟩⟩⟩⟩⟩
theorem sdk (T : Txt w K mg A) : SdOk K w (S A) SD := sdT ⟨⟨⟨_, kdT txe81c4e4f2b T.d_ASKED_0, fun _ _ => rfl⟩, ⟨⟨_, kdT txbe5d5d3754 T.d_ASKED_1, fun _ _ => rfl⟩, ⟨⟨_, kdT tx43ec3e5dee T.d_ASKED_2, fun _ _ => rfl⟩, ⟨⟨_, kdT txde0219f933 T.d_ASKED_3, fun _ _ => rfl⟩, ⟨⟨_, kdT tx524a507821 T.d_ASKED_4, fun _ _ => rfl⟩, ⟨⟨_, kdT txa7eeaea90b T.d_ASKED_5, fun _ _ => rfl⟩, ⟨⟨_, kdT txcedf8da054 T.d_ASKED_6, fun _ _ => rfl⟩, ⟨⟨_, kdT tx3a1e9b87c9 T.d_ASKED_7, fun _ _ => rfl⟩, ⟨⟨_, kdT tx4218f97170 T.d_ASKED_8, fun _ _ => rfl⟩, ⟨⟨_, kdT tx343453ca7e T.d_ASKED_9, fun _ _ => rfl⟩, ⟨⟨_, kdT tx13b5bfe96f T.d_ASKED_10, fun _ _ => rfl⟩, ⟨⟨_, kdT tx26b17225b6 T.d_ASKED_11, fun _ _ => rfl⟩, ⟨⟨_, kdT tx336d5ebc54 T.d_ASKED_12, fun _ _ => rfl⟩, ⟨⟨_, kdT tx3389dae361 T.d_ASKED_13, fun _ _ => rfl⟩, ⟨⟨_, kdT tx1d623b8968 T.d_ASKED_14, fun _ _ => rfl⟩, ⟨⟨_, kdT tx8451fc653e T.d_ASKED_15, fun _ _ => rfl⟩, ⟨⟨_, kdT tx1130a355aa T.d_ASKED_16, fun _ _ => rfl⟩, trivial⟩⟩⟩⟩⟩⟩⟩⟩⟩⟩⟩⟩⟩⟩⟩⟩⟩, trivial⟩
theorem isk (T : Txt w K mg A) : IsOk K (S A) IS := isTok ⟨⟨T.ii_IntSort, ⟨T.is_IntSort_IntSort, ⟨T.is_IntSort_TextSort, ⟨T.is_IntSort_ChoiceSort, ⟨T.is_IntSort_RefSort, trivial⟩⟩⟩⟩⟩, ⟨⟨T.ii_TextSort, ⟨T.is_TextSort_IntSort, ⟨T.is_TextSort_TextSort, ⟨T.is_TextSort_ChoiceSort, ⟨T.is_TextSort_RefSort, trivial⟩⟩⟩⟩⟩, ⟨⟨T.ii_ChoiceSort, ⟨T.is_ChoiceSort_IntSort, ⟨T.is_ChoiceSort_TextSort, ⟨T.is_ChoiceSort_ChoiceSort, ⟨T.is_ChoiceSort_RefSort, trivial⟩⟩⟩⟩⟩, ⟨⟨T.ii_RefSort, ⟨T.is_RefSort_IntSort, ⟨T.is_RefSort_TextSort, ⟨T.is_RefSort_ChoiceSort, ⟨T.is_RefSort_RefSort, trivial⟩⟩⟩⟩⟩, ⟨⟨T.ii_ListSort, ⟨T.is_ListSort_IntSort, ⟨T.is_ListSort_TextSort, ⟨T.is_ListSort_ChoiceSort, ⟨T.is_ListSort_RefSort, trivial⟩⟩⟩⟩⟩, ⟨⟨T.ii_NumberTerm, ⟨T.is_NumberTerm_ChainTerm, ⟨T.is_NumberTerm_ParameterTerm, trivial⟩⟩⟩, ⟨⟨T.ii_TextTerm, ⟨T.is_TextTerm_ChainTerm, trivial⟩⟩, ⟨⟨T.ii_ParameterTerm, ⟨T.is_ParameterTerm_ChainTerm, ⟨T.is_ParameterTerm_ParameterTerm, trivial⟩⟩⟩, ⟨⟨T.ii_PathTerm, ⟨T.is_PathTerm_ChainTerm, trivial⟩⟩, ⟨⟨T.ii_SomeTerm, ⟨T.is_SomeTerm_ChainTerm, trivial⟩⟩, ⟨⟨T.ii_CountTerm, ⟨T.is_CountTerm_ChainTerm, trivial⟩⟩, ⟨⟨T.ii_GroupTotal, ⟨T.is_GroupTotal_ChainTerm, trivial⟩⟩, ⟨⟨T.ii_ListTotal, ⟨T.is_ListTotal_ChainTerm, trivial⟩⟩, ⟨⟨T.ii_ChainTerm, ⟨T.is_ChainTerm_ChainTerm, trivial⟩⟩, ⟨⟨T.ii_CompareTerm, ⟨T.is_CompareTerm_ChainTerm, trivial⟩⟩, ⟨⟨T.ii_NullTerm, ⟨T.is_NullTerm_ChainTerm, trivial⟩⟩, ⟨⟨T.ii_AmongTerm, ⟨T.is_AmongTerm_ChainTerm, trivial⟩⟩, ⟨⟨T.ii_NotTerm, ⟨T.is_NotTerm_ChainTerm, trivial⟩⟩, ⟨⟨T.ii_MinusTerm, ⟨T.is_MinusTerm_ChainTerm, trivial⟩⟩, trivial⟩⟩⟩⟩⟩⟩⟩⟩⟩⟩⟩⟩⟩⟩⟩⟩⟩⟩⟩ ⟨T.isn_ParameterTerm, trivial⟩
theorem nek (T : Txt w K mg A) : NeOk K (S A) NE := ⟨T.no_Field, trivial⟩
theorem fl_role (T : Txt w K mg A) : FldOk K (S A) 6214872165 fc_role := fldT tx29a7e96467 ⟨⟨T.cl_Token, T.na_Token_role⟩, trivial⟩
theorem fl_text (T : Txt w K mg A) : FldOk K (S A) 6247774324 fc_text := fldT tx1cb251ec0d ⟨⟨T.cl_Token, T.na_Token_text⟩, ⟨⟨T.cl_TextTerm, T.na_TextTerm_text⟩, ⟨⟨T.cl_Query, T.na_Query_text⟩, trivial⟩⟩⟩
theorem fl_place (T : Txt w K mg A) : FldOk K (S A) 1582366286693 fc_place := fldT txebed715e82 ⟨⟨T.cl_Token, T.na_Token_place⟩, ⟨⟨T.cl_DrawnPath, T.na_DrawnPath_place⟩, trivial⟩⟩
theorem fl_low (T : Txt w K mg A) : FldOk K (S A) 23883639 fc_low := fldT tx53cced8d28 ⟨⟨T.cl_IntSort, T.na_IntSort_low⟩, trivial⟩
theorem fl_high (T : Txt w K mg A) : FldOk K (S A) 6046705512 fc_high := fldT tx8d966b2253 ⟨⟨T.cl_IntSort, T.na_IntSort_high⟩, trivial⟩
theorem fl_longest (T : Txt w K mg A) : FldOk K (S A) 102579411494466420 fc_longest := fldT tx56bc4f911e ⟨⟨T.cl_TextSort, T.na_TextSort_longest⟩, trivial⟩
theorem fl_without (T : Txt w K mg A) : FldOk K (S A) 105669064955753844 fc_without := fldT txfc0cb42fe6 ⟨⟨T.cl_TextSort, T.na_TextSort_without⟩, trivial⟩
theorem fl_choices (T : Txt w K mg A) : FldOk K (S A) 100038444451063155 fc_choices := fldT tx0bc693aeef ⟨⟨T.cl_ChoiceSort, T.na_ChoiceSort_choices⟩, trivial⟩
theorem fl_kinds (T : Txt w K mg A) : FldOk K (S A) 1560841970803 fc_kinds := fldT tx3aecd46c86 ⟨⟨T.cl_RefSort, T.na_RefSort_kinds⟩, ⟨⟨T.cl_ListSort, T.na_ListSort_kinds⟩, ⟨⟨T.cl_DrawnPath, T.na_DrawnPath_kinds⟩, ⟨⟨T.cl_Schema, T.na_Schema_kinds⟩, trivial⟩⟩⟩⟩
theorem fl_rule (T : Txt w K mg A) : FldOk K (S A) 6215265381 fc_rule := fldT tx981c1e7b37 ⟨⟨T.cl_RefSort, T.na_RefSort_rule⟩, trivial⟩
theorem fl_level (T : Txt w K mg A) : FldOk K (S A) 1565070353772 fc_level := fldT txc9e9a84892 ⟨⟨T.cl_SingleTerm, T.na_SingleTerm_level⟩, ⟨⟨T.cl_NumberTerm, T.na_NumberTerm_level⟩, ⟨⟨T.cl_TextTerm, T.na_TextTerm_level⟩, ⟨⟨T.cl_ParameterTerm, T.na_ParameterTerm_level⟩, ⟨⟨T.cl_PathTerm, T.na_PathTerm_level⟩, ⟨⟨T.cl_SomeTerm, T.na_SomeTerm_level⟩, ⟨⟨T.cl_CountTerm, T.na_CountTerm_level⟩, ⟨⟨T.cl_GroupTotal, T.na_GroupTotal_level⟩, ⟨⟨T.cl_ListTotal, T.na_ListTotal_level⟩, ⟨⟨T.cl_ChainTerm, T.na_ChainTerm_level⟩, ⟨⟨T.cl_CompareTerm, T.na_CompareTerm_level⟩, ⟨⟨T.cl_NullTerm, T.na_NullTerm_level⟩, ⟨⟨T.cl_AmongTerm, T.na_AmongTerm_level⟩, ⟨⟨T.cl_NotTerm, T.na_NotTerm_level⟩, ⟨⟨T.cl_MinusTerm, T.na_MinusTerm_level⟩, trivial⟩⟩⟩⟩⟩⟩⟩⟩⟩⟩⟩⟩⟩⟩⟩
theorem fl_amount (T : Txt w K mg A) : FldOk K (S A) 388597626007156 fc_amount := fldT txe9f40e1f1d ⟨⟨T.cl_NumberTerm, T.na_NumberTerm_amount⟩, trivial⟩
theorem fl_name (T : Txt w K mg A) : FldOk K (S A) 6146846053 fc_name := fldT txb068931cc4 ⟨⟨T.cl_ParameterTerm, T.na_ParameterTerm_name⟩, ⟨⟨T.cl_PathTerm, T.na_PathTerm_name⟩, ⟨⟨T.cl_SomeTerm, T.na_SomeTerm_name⟩, ⟨⟨T.cl_ListTotal, T.na_ListTotal_name⟩, ⟨⟨T.cl_QueryParts, T.na_QueryParts_name⟩, ⟨⟨T.cl_Query, T.na_Query_name⟩, ⟨⟨T.cl_Field, T.na_Field_name⟩, ⟨⟨T.cl_Kind, T.na_Kind_name⟩, trivial⟩⟩⟩⟩⟩⟩⟩⟩
theorem fl_fields (T : Txt w K mg A) : FldOk K (S A) 394077835912307 fc_fields := fldT txd05b6ed7d2 ⟨⟨T.cl_PathTerm, T.na_PathTerm_fields⟩, ⟨⟨T.cl_Kind, T.na_Kind_fields⟩, trivial⟩⟩
theorem fl_word (T : Txt w K mg A) : FldOk K (S A) 6298759780 fc_word := fldT txc47d187067 ⟨⟨T.cl_SomeTerm, T.na_SomeTerm_word⟩, ⟨⟨T.cl_GroupTotal, T.na_GroupTotal_word⟩, ⟨⟨T.cl_ListTotal, T.na_ListTotal_word⟩, ⟨⟨T.cl_DrawnPath, T.na_DrawnPath_word⟩, ⟨⟨T.cl_Drawn, T.na_Drawn_word⟩, trivial⟩⟩⟩⟩⟩
theorem fl_path (T : Txt w K mg A) : FldOk K (S A) 6180402280 fc_path := fldT txd6fe1d0be6 ⟨⟨T.cl_SomeTerm, T.na_SomeTerm_path⟩, ⟨⟨T.cl_CountTerm, T.na_CountTerm_path⟩, ⟨⟨T.cl_GroupTotal, T.na_GroupTotal_path⟩, ⟨⟨T.cl_ListTotal, T.na_ListTotal_path⟩, trivial⟩⟩⟩⟩
theorem fl_inner (T : Txt w K mg A) : FldOk K (S A) 1552335922546 fc_inner := fldT txea97586b4a ⟨⟨T.cl_SomeTerm, T.na_SomeTerm_inner⟩, ⟨⟨T.cl_ListTotal, T.na_ListTotal_inner⟩, ⟨⟨T.cl_NullTerm, T.na_NullTerm_inner⟩, ⟨⟨T.cl_AmongTerm, T.na_AmongTerm_inner⟩, ⟨⟨T.cl_NotTerm, T.na_NotTerm_inner⟩, ⟨⟨T.cl_MinusTerm, T.na_MinusTerm_inner⟩, trivial⟩⟩⟩⟩⟩⟩
theorem fl_first (T : Txt w K mg A) : FldOk K (S A) 1539367400308 fc_first := fldT tx8b04d5e377 ⟨⟨T.cl_ChainTerm, T.na_ChainTerm_first⟩, trivial⟩
theorem fl_rest (T : Txt w K mg A) : FldOk K (S A) 6214218612 fc_rest := fldT tx65e8800b5c ⟨⟨T.cl_ChainTerm, T.na_ChainTerm_rest⟩, trivial⟩
theorem fl_sign (T : Txt w K mg A) : FldOk K (S A) 6231254894 fc_sign := fldT tx04b2948023 ⟨⟨T.cl_CompareTerm, T.na_CompareTerm_sign⟩, trivial⟩
theorem fl_left (T : Txt w K mg A) : FldOk K (S A) 6113551988 fc_left := fldT tx811882fecd ⟨⟨T.cl_CompareTerm, T.na_CompareTerm_left⟩, trivial⟩
theorem fl_right (T : Txt w K mg A) : FldOk K (S A) 1590906284148 fc_right := fldT tx7c4f294078 ⟨⟨T.cl_CompareTerm, T.na_CompareTerm_right⟩, trivial⟩
theorem fl_turned (T : Txt w K mg A) : FldOk K (S A) 409522756543844 fc_turned := fldT txe5412b8b87 ⟨⟨T.cl_NullTerm, T.na_NullTerm_turned⟩, trivial⟩
theorem fl_others (T : Txt w K mg A) : FldOk K (S A) 404020735079027 fc_others := fldT tx5e2bab0ecb ⟨⟨T.cl_AmongTerm, T.na_AmongTerm_others⟩, trivial⟩
theorem fl_many (T : Txt w K mg A) : FldOk K (S A) 6130069113 fc_many := fldT tx8cd283d8b7 ⟨⟨T.cl_NotTerm, T.na_NotTerm_many⟩, ⟨⟨T.cl_MinusTerm, T.na_MinusTerm_many⟩, trivial⟩⟩
theorem fl_schema (T : Txt w K mg A) : FldOk K (S A) 408345767144801 fc_schema := fldT txc9550d5fad ⟨⟨T.cl_QueryState, T.na_QueryState_schema⟩, trivial⟩
theorem fl_reader (T : Txt w K mg A) : FldOk K (S A) 407254727943538 fc_reader := fldT tx1de9b0a300 ⟨⟨T.cl_QueryState, T.na_QueryState_reader⟩, trivial⟩
theorem fl_origin (T : Txt w K mg A) : FldOk K (S A) 404012162050414 fc_origin := fldT tx7c49b153d4 ⟨⟨T.cl_QueryState, T.na_QueryState_origin⟩, trivial⟩
theorem fl_names (T : Txt w K mg A) : FldOk K (S A) 1573592589683 fc_names := fldT txa8998c31a1 ⟨⟨T.cl_QueryState, T.na_QueryState_names⟩, trivial⟩
theorem fl_groups (T : Txt w K mg A) : FldOk K (S A) 395216170610803 fc_groups := fldT tx1471e4e05a ⟨⟨T.cl_QueryState, T.na_QueryState_groups⟩, ⟨⟨T.cl_QueryParts, T.na_QueryParts_groups⟩, trivial⟩⟩
theorem fl_depth (T : Txt w K mg A) : FldOk K (S A) 1530710226024 fc_depth := fldT tx12a055bf01 ⟨⟨T.cl_QueryState, T.na_QueryState_depth⟩, trivial⟩
theorem fl_term (T : Txt w K mg A) : FldOk K (S A) 6247772781 fc_term := fldT txb4dad0fe5f ⟨⟨T.cl_DrawnPath, T.na_DrawnPath_term⟩, ⟨⟨T.cl_Drawn, T.na_Drawn_term⟩, ⟨⟨T.cl_OrderTerm, T.na_OrderTerm_term⟩, trivial⟩⟩⟩
theorem fl_row (T : Txt w K mg A) : FldOk K (S A) 24276855 fc_row := fldT txf1965a857b ⟨⟨T.cl_TokenReader, T.na_TokenReader_row⟩, trivial⟩
theorem fl_reserved (T : Txt w K mg A) : FldOk K (S A) 26689865646230365540 fc_reserved := fldT tx7f005c3fa6 ⟨⟨T.cl_TokenReader, T.na_TokenReader_reserved⟩, trivial⟩
theorem fl_at (T : Txt w K mg A) : FldOk K (S A) 90484 fc_at := fldT tx7d0db380a5 ⟨⟨T.cl_TokenReader, T.na_TokenReader_at⟩, trivial⟩
theorem fl_parameters (T : Txt w K mg A) : FldOk K (S A) 1739628441860254841795187 fc_parameters := fldT tx166e64f6c3 ⟨⟨T.cl_Drawn, T.na_Drawn_parameters⟩, ⟨⟨T.cl_QueryParts, T.na_QueryParts_parameters⟩, trivial⟩⟩
theorem fl_down (T : Txt w K mg A) : FldOk K (S A) 5979993966 fc_down := fldT tx74e8333ad1 ⟨⟨T.cl_OrderTerm, T.na_OrderTerm_down⟩, trivial⟩
theorem fl_kind (T : Txt w K mg A) : FldOk K (S A) 6097038948 fc_kind := fldT txd939aaf7d2 ⟨⟨T.cl_QueryParts, T.na_QueryParts_kind⟩, ⟨⟨T.cl_Query, T.na_Query_kind⟩, trivial⟩⟩
theorem fl_where (T : Txt w K mg A) : FldOk K (S A) 1612364214885 fc_where := fldT tx567904efe9 ⟨⟨T.cl_QueryParts, T.na_QueryParts_where⟩, trivial⟩
theorem fl_order (T : Txt w K mg A) : FldOk K (S A) 1578172179826 fc_order := fldT tx70a17ffa72 ⟨⟨T.cl_QueryParts, T.na_QueryParts_order⟩, trivial⟩
theorem fl_given (T : Txt w K mg A) : FldOk K (S A) 1543662626158 fc_given := fldT txb9f4c1cc74 ⟨⟨T.cl_QueryParts, T.na_QueryParts_given⟩, trivial⟩
theorem fl_skipped (T : Txt w K mg A) : FldOk K (S A) 104545316961805668 fc_skipped := fldT txe52e279299 ⟨⟨T.cl_QueryParts, T.na_QueryParts_skipped⟩, trivial⟩
theorem fl_kept (T : Txt w K mg A) : FldOk K (S A) 6096777332 fc_kept := fldT tx4d8b6084f3 ⟨⟨T.cl_QueryParts, T.na_QueryParts_kept⟩, trivial⟩
theorem fl_parts (T : Txt w K mg A) : FldOk K (S A) 1582182855795 fc_parts := fldT tx78f0805fa8 ⟨⟨T.cl_Query, T.na_Query_parts⟩, trivial⟩
theorem fl_shape (T : Txt w K mg A) : FldOk K (S A) 1595184083045 fc_shape := fldT tx8c73a98a30 ⟨⟨T.cl_Field, T.na_Field_shape⟩, trivial⟩
theorem fl_needed (T : Txt w K mg A) : FldOk K (S A) 402856748541284 fc_needed := fldT txc0ca5324e0 ⟨⟨T.cl_Field, T.na_Field_needed⟩, trivial⟩
theorem fl_key_rows (T : Txt w K mg A) : FldOk K (S A) 26185469059264378739 fc_key_rows := fldT txa3735dcf1b ⟨⟨T.cl_Kind, T.na_Kind_key_rows⟩, trivial⟩
end
structure IH (P : Program) (w : World) (K : PySem.W.Frag) (mg : Str → Option Value) (base : Heap) (A : Ad) (n : Nat) : Prop where
  ok_Token___init__ : FnOk P w K mg base CX0 (2 * n + 1) A.f_Token___init__ A.fd_Token___init__ ["self", "role", "text", "place"] (spN (S A) 4 (ev n 32))
  ok_tokens : FnOk P w K mg base (L2.CX P w) (2 * n + 1) A.f_tokens A.fd_tokens ["text", "signs", "longest"] (spE (S A) 3 (ev n 33))
  ok_behind_blanks : FnOk P w K mg base CX0 (2 * n + 1) A.f_behind_blanks A.fd_behind_blanks ["text", "at"] (spN (S A) 2 (ev n 34))
  ok_token_at : FnOk P w K mg base (L2.CX P w) (2 * n + 1) A.f_token_at A.fd_token_at ["text", "at", "signs"] (spE (S A) 3 (ev n 35))
  ok_behind_run : FnOk P w K mg base CX0 (2 * n + 1) A.f_behind_run A.fd_behind_run ["text", "at", "allowed"] (spN (S A) 3 (ev n 36))
  ok_word_at : FnOk P w K mg base (L2.CX P w) (2 * n + 1) A.f_word_at A.fd_word_at ["text", "at"] (spE (S A) 2 (ev n 37))
  ok_number_at : FnOk P w K mg base (L2.CX P w) (2 * n + 1) A.f_number_at A.fd_number_at ["text", "at"] (spE (S A) 2 (ev n 38))
  ok_quoted_at : FnOk P w K mg base (L2.CX P w) (2 * n + 1) A.f_quoted_at A.fd_quoted_at ["text", "start"] (spE (S A) 2 (ev n 39))
  ok_may_stand : FnOk P w K mg base CX0 (2 * n + 1) A.f_may_stand A.fd_may_stand ["character", "escaped"] (spN (S A) 2 (ev n 40))
  ok_sign_at : FnOk P w K mg base (L2.CX P w) (2 * n + 1) A.f_sign_at A.fd_sign_at ["text", "at", "signs"] (spE (S A) 3 (ev n 41))
  ok_IntSort___init__ : FnOk P w K mg base CX0 (2 * n + 1) A.f_IntSort___init__ A.fd_IntSort___init__ ["self", "low", "high"] (spN (S A) 3 (ev n 42))
  ok_TextSort___init__ : FnOk P w K mg base CX0 (2 * n + 1) A.f_TextSort___init__ A.fd_TextSort___init__ ["self", "longest", "without"] (spN (S A) 3 (ev n 43))
  ok_RefSort___init__ : FnOk P w K mg base CX0 (2 * n + 1) A.f_RefSort___init__ A.fd_RefSort___init__ ["self", "kinds", "rule"] (spN (S A) 3 (ev n 44))
  ok_ListSort___init__ : FnOk P w K mg base CX0 (2 * n + 1) A.f_ListSort___init__ A.fd_ListSort___init__ ["self", "kinds"] (spN (S A) 2 (ev n 45))
  ok_is_reference : FnOk P w K mg base CX0 (2 * n + 1) A.f_is_reference A.fd_is_reference ["shape"] (spN (S A) 1 (ev n 46))
  ok_sort_of_shape : FnOk P w K mg base CX0 (2 * n + 1) A.f_sort_of_shape A.fd_sort_of_shape ["shape"] (spN (S A) 1 (ev n 47))
  ok_kinds_of_shapes : FnOk P w K mg base CX0 (2 * n + 1) A.f_kinds_of_shapes A.fd_kinds_of_shapes ["shapes"] (spN (S A) 1 (ev n 48))
  ok_common_sort : FnOk P w K mg base CX0 (2 * n + 1) A.f_common_sort A.fd_common_sort ["sign", "sorts"] (spN (S A) 2 (ev n 49))
  ok_SingleTerm___init__ : FnOk P w K mg base CX0 (2 * n + 1) A.f_SingleTerm___init__ A.fd_SingleTerm___init__ ["self"] (spN (S A) 1 (ev n 50))
  ok_NumberTerm___init__ : FnOk P w K mg base CX0 (2 * n + 1) A.f_NumberTerm___init__ A.fd_NumberTerm___init__ ["self", "amount"] (spN (S A) 2 (ev n 51))
  ok_TextTerm___init__ : FnOk P w K mg base CX0 (2 * n + 1) A.f_TextTerm___init__ A.fd_TextTerm___init__ ["self", "text"] (spN (S A) 2 (ev n 52))
  ok_ParameterTerm___init__ : FnOk P w K mg base CX0 (2 * n + 1) A.f_ParameterTerm___init__ A.fd_ParameterTerm___init__ ["self", "name"] (spN (S A) 2 (ev n 53))
  ok_PathTerm___init__ : FnOk P w K mg base CX0 (2 * n + 1) A.f_PathTerm___init__ A.fd_PathTerm___init__ ["self", "name", "fields"] (spN (S A) 3 (ev n 54))
  ok_SomeTerm___init__ : FnOk P w K mg base CX0 (2 * n + 1) A.f_SomeTerm___init__ A.fd_SomeTerm___init__ ["self", "word", "name", "path", "inner"] (spN (S A) 5 (ev n 55))
  ok_CountTerm___init__ : FnOk P w K mg base CX0 (2 * n + 1) A.f_CountTerm___init__ A.fd_CountTerm___init__ ["self", "path"] (spN (S A) 2 (ev n 56))
  ok_GroupTotal___init__ : FnOk P w K mg base CX0 (2 * n + 1) A.f_GroupTotal___init__ A.fd_GroupTotal___init__ ["self", "word", "path"] (spN (S A) 3 (ev n 57))
  ok_ListTotal___init__ : FnOk P w K mg base CX0 (2 * n + 1) A.f_ListTotal___init__ A.fd_ListTotal___init__ ["self", "word", "name", "path", "inner"] (spN (S A) 5 (ev n 58))
  ok_ChainTerm___init__ : FnOk P w K mg base CX0 (2 * n + 1) A.f_ChainTerm___init__ A.fd_ChainTerm___init__ ["self", "level", "first", "rest"] (spN (S A) 4 (ev n 59))
  ok_CompareTerm___init__ : FnOk P w K mg base CX0 (2 * n + 1) A.f_CompareTerm___init__ A.fd_CompareTerm___init__ ["self", "sign", "left", "right"] (spN (S A) 4 (ev n 60))
  ok_NullTerm___init__ : FnOk P w K mg base CX0 (2 * n + 1) A.f_NullTerm___init__ A.fd_NullTerm___init__ ["self", "inner", "turned"] (spN (S A) 3 (ev n 61))
  ok_AmongTerm___init__ : FnOk P w K mg base CX0 (2 * n + 1) A.f_AmongTerm___init__ A.fd_AmongTerm___init__ ["self", "inner", "others"] (spN (S A) 3 (ev n 62))
  ok_NotTerm___init__ : FnOk P w K mg base CX0 (2 * n + 1) A.f_NotTerm___init__ A.fd_NotTerm___init__ ["self", "many", "inner"] (spN (S A) 3 (ev n 63))
  ok_MinusTerm___init__ : FnOk P w K mg base CX0 (2 * n + 1) A.f_MinusTerm___init__ A.fd_MinusTerm___init__ ["self", "many", "inner"] (spN (S A) 3 (ev n 64))
  ok_QueryState___init__ : FnOk P w K mg base CX0 (2 * n + 1) A.f_QueryState___init__ A.fd_QueryState___init__ ["self", "schema", "reader"] (spN (S A) 3 (ev n 65))
  ok_QueryState_enter : FnOk P w K mg base (L2.CX P w) (2 * n + 1) A.f_QueryState_enter A.fd_QueryState_enter ["self", "token"] (spE (S A) 2 (ev n 66))
  ok_QueryState_leave : FnOk P w K mg base CX0 (2 * n + 1) A.f_QueryState_leave A.fd_QueryState_leave ["self"] (spN (S A) 1 (ev n 67))
  ok_QueryState_small_name : FnOk P w K mg base (L2.CX P w) (2 * n + 1) A.f_QueryState_small_name A.fd_QueryState_small_name ["self"] (spE (S A) 1 (ev n 68))
  ok_QueryState_new_name : FnOk P w K mg base (L2.CX P w) (2 * n + 1) A.f_QueryState_new_name A.fd_QueryState_new_name ["self"] (spE (S A) 1 (ev n 69))
  ok_DrawnPath___init__ : FnOk P w K mg base CX0 (2 * n + 1) A.f_DrawnPath___init__ A.fd_DrawnPath___init__ ["self", "term", "place", "word", "kinds"] (spN (S A) 5 (ev n 70))
  ok_read_path : FnOk P w K mg base (L2.CX P w) (2 * n + 1) A.f_read_path A.fd_read_path ["state"] (spE (S A) 1 (ev n 71))
  ok_behind_point : FnOk P w K mg base (L2.CX P w) (2 * n + 1) A.f_behind_point A.fd_behind_point ["schema", "word", "kinds", "field"] (spE (S A) 4 (ev n 72))
  ok_read_plain_path : FnOk P w K mg base (L2.CX P w) (2 * n + 1) A.f_read_plain_path A.fd_read_plain_path ["state"] (spE (S A) 1 (ev n 73))
  ok_read_list_path : FnOk P w K mg base (L2.CX P w) (2 * n + 1) A.f_read_list_path A.fd_read_list_path ["state"] (spE (S A) 1 (ev n 74))
  ok_read_total_path : FnOk P w K mg base (L2.CX P w) (2 * n + 1) A.f_read_total_path A.fd_read_total_path ["state"] (spE (S A) 1 (ev n 75))
  ok_refuse_list : FnOk P w K mg base (L2.CX P w) (2 * n + 1) A.f_refuse_list A.fd_refuse_list ["path"] (spE (S A) 1 (ev n 76))
  ok_check_group : FnOk P w K mg base (L2.CX P w) (2 * n + 1) A.f_check_group A.fd_check_group ["state", "path"] (spE (S A) 2 (ev n 77))
  ok_TokenReader___init__ : FnOk P w K mg base CX0 (2 * n + 1) A.f_TokenReader___init__ A.fd_TokenReader___init__ ["self", "row", "reserved"] (spN (S A) 3 (ev n 78))
  ok_TokenReader_here : FnOk P w K mg base CX0 (2 * n + 1) A.f_TokenReader_here A.fd_TokenReader_here ["self"] (spN (S A) 1 (ev n 79))
  ok_TokenReader_following : FnOk P w K mg base CX0 (2 * n + 1) A.f_TokenReader_following A.fd_TokenReader_following ["self"] (spN (S A) 1 (ev n 80))
  ok_TokenReader_take : FnOk P w K mg base CX0 (2 * n + 1) A.f_TokenReader_take A.fd_TokenReader_take ["self"] (spN (S A) 1 (ev n 81))
  ok_TokenReader_at_end : FnOk P w K mg base CX0 (2 * n + 1) A.f_TokenReader_at_end A.fd_TokenReader_at_end ["self"] (spN (S A) 1 (ev n 82))
  ok_TokenReader_stands : FnOk P w K mg base CX0 (2 * n + 1) A.f_TokenReader_stands A.fd_TokenReader_stands ["self", "text"] (spN (S A) 2 (ev n 83))
  ok_TokenReader_stands_one : FnOk P w K mg base CX0 (2 * n + 1) A.f_TokenReader_stands_one A.fd_TokenReader_stands_one ["self", "texts"] (spN (S A) 2 (ev n 84))
  ok_TokenReader_passes : FnOk P w K mg base CX0 (2 * n + 1) A.f_TokenReader_passes A.fd_TokenReader_passes ["self", "text"] (spN (S A) 2 (ev n 85))
  ok_TokenReader_must : FnOk P w K mg base (L2.CX P w) (2 * n + 1) A.f_TokenReader_must A.fd_TokenReader_must ["self", "text"] (spE (S A) 2 (ev n 86))
  ok_TokenReader_must_end : FnOk P w K mg base (L2.CX P w) (2 * n + 1) A.f_TokenReader_must_end A.fd_TokenReader_must_end ["self"] (spE (S A) 1 (ev n 87))
  ok_TokenReader_must_role : FnOk P w K mg base (L2.CX P w) (2 * n + 1) A.f_TokenReader_must_role A.fd_TokenReader_must_role ["self", "role", "reason"] (spE (S A) 3 (ev n 88))
  ok_TokenReader_number_token : FnOk P w K mg base (L2.CX P w) (2 * n + 1) A.f_TokenReader_number_token A.fd_TokenReader_number_token ["self"] (spE (S A) 1 (ev n 89))
  ok_TokenReader_is_name : FnOk P w K mg base CX0 (2 * n + 1) A.f_TokenReader_is_name A.fd_TokenReader_is_name ["self", "token", "capital"] (spN (S A) 3 (ev n 90))
  ok_TokenReader_small_name_stands : FnOk P w K mg base CX0 (2 * n + 1) A.f_TokenReader_small_name_stands A.fd_TokenReader_small_name_stands ["self"] (spN (S A) 1 (ev n 91))
  ok_TokenReader_kind_name : FnOk P w K mg base (L2.CX P w) (2 * n + 1) A.f_TokenReader_kind_name A.fd_TokenReader_kind_name ["self"] (spE (S A) 1 (ev n 92))
  ok_TokenReader_small_name : FnOk P w K mg base (L2.CX P w) (2 * n + 1) A.f_TokenReader_small_name A.fd_TokenReader_small_name ["self", "reason"] (spE (S A) 2 (ev n 93))
  ok_TokenReader_field_name : FnOk P w K mg base (L2.CX P w) (2 * n + 1) A.f_TokenReader_field_name A.fd_TokenReader_field_name ["self"] (spE (S A) 1 (ev n 94))
  ok_is_certain : FnOk P w K mg base CX0 (2 * n + 1) A.f_is_certain A.fd_is_certain ["token", "text"] (spN (S A) 2 (ev n 95))
  ok_Drawn___init__ : FnOk P w K mg base CX0 (2 * n + 1) A.f_Drawn___init__ A.fd_Drawn___init__ ["self", "term", "word", "parameters"] (spN (S A) 4 (ev n 96))
  ok_parameters_as : FnOk P w K mg base CX0 (2 * n + 1) A.f_parameters_as A.fd_parameters_as ["drawn", "word"] (spN (S A) 2 (ev n 97))
  ok_merged : FnOk P w K mg base (L2.CX P w) (2 * n + 1) A.f_merged A.fd_merged ["rows", "place"] (spE (S A) 2 (ev n 98))
  ok_joined_parameters : FnOk P w K mg base (L2.CX P w) (2 * n + 1) A.f_joined_parameters A.fd_joined_parameters ["sign", "sides"] (spE (S A) 2 (ev n 99))
  ok_read_either : FnOk P w K mg base (L2.CX P w) (2 * n + 1) A.f_read_either A.fd_read_either ["state"] (spE (S A) 1 (ev n 100))
  ok_read_both : FnOk P w K mg base (L2.CX P w) (2 * n + 1) A.f_read_both A.fd_read_both ["state"] (spE (S A) 1 (ev n 101))
  ok_read_sum : FnOk P w K mg base (L2.CX P w) (2 * n + 1) A.f_read_sum A.fd_read_sum ["state"] (spE (S A) 1 (ev n 102))
  ok_read_product : FnOk P w K mg base (L2.CX P w) (2 * n + 1) A.f_read_product A.fd_read_product ["state"] (spE (S A) 1 (ev n 103))
  ok_read_chain : FnOk P w K mg base (L2.CX P w) (2 * n + 1) A.f_read_chain A.fd_read_chain ["state", "level", "signs", "read_side"] (spE (S A) 4 (ev n 104))
  ok_longer_chain : FnOk P w K mg base CX0 (2 * n + 1) A.f_longer_chain A.fd_longer_chain ["level", "sign", "left", "right"] (spN (S A) 4 (ev n 105))
  ok_pass_all : FnOk P w K mg base CX0 (2 * n + 1) A.f_pass_all A.fd_pass_all ["state", "text"] (spN (S A) 2 (ev n 106))
  ok_read_turned : FnOk P w K mg base (L2.CX P w) (2 * n + 1) A.f_read_turned A.fd_read_turned ["state"] (spE (S A) 1 (ev n 107))
  ok_read_test : FnOk P w K mg base (L2.CX P w) (2 * n + 1) A.f_read_test A.fd_read_test ["state"] (spE (S A) 1 (ev n 108))
  ok_read_comparison : FnOk P w K mg base (L2.CX P w) (2 * n + 1) A.f_read_comparison A.fd_read_comparison ["state", "left"] (spE (S A) 2 (ev n 109))
  ok_read_null : FnOk P w K mg base (L2.CX P w) (2 * n + 1) A.f_read_null A.fd_read_null ["state", "left"] (spE (S A) 2 (ev n 110))
  ok_read_among : FnOk P w K mg base (L2.CX P w) (2 * n + 1) A.f_read_among A.fd_read_among ["state", "left"] (spE (S A) 2 (ev n 111))
  ok_read_signed : FnOk P w K mg base (L2.CX P w) (2 * n + 1) A.f_read_signed A.fd_read_signed ["state"] (spE (S A) 1 (ev n 112))
  ok_read_single : FnOk P w K mg base (L2.CX P w) (2 * n + 1) A.f_read_single A.fd_read_single ["state"] (spE (S A) 1 (ev n 113))
  ok_read_number : FnOk P w K mg base (L2.CX P w) (2 * n + 1) A.f_read_number A.fd_read_number ["state"] (spE (S A) 1 (ev n 114))
  ok_read_parameter : FnOk P w K mg base (L2.CX P w) (2 * n + 1) A.f_read_parameter A.fd_read_parameter ["state"] (spE (S A) 1 (ev n 115))
  ok_read_enclosed : FnOk P w K mg base (L2.CX P w) (2 * n + 1) A.f_read_enclosed A.fd_read_enclosed ["state"] (spE (S A) 1 (ev n 116))
  ok_read_over : FnOk P w K mg base (L2.CX P w) (2 * n + 1) A.f_read_over A.fd_read_over ["state", "name", "path"] (spE (S A) 3 (ev n 117))
  ok_read_some : FnOk P w K mg base (L2.CX P w) (2 * n + 1) A.f_read_some A.fd_read_some ["state"] (spE (S A) 1 (ev n 118))
  ok_read_count : FnOk P w K mg base (L2.CX P w) (2 * n + 1) A.f_read_count A.fd_read_count ["state"] (spE (S A) 1 (ev n 119))
  ok_refuse_without_group : FnOk P w K mg base (L2.CX P w) (2 * n + 1) A.f_refuse_without_group A.fd_refuse_without_group ["state", "word"] (spE (S A) 2 (ev n 120))
  ok_read_total : FnOk P w K mg base (L2.CX P w) (2 * n + 1) A.f_read_total A.fd_read_total ["state"] (spE (S A) 1 (ev n 121))
  ok_read_list_total : FnOk P w K mg base (L2.CX P w) (2 * n + 1) A.f_read_list_total A.fd_read_list_total ["state", "word"] (spE (S A) 2 (ev n 122))
  ok_read_group_total : FnOk P w K mg base (L2.CX P w) (2 * n + 1) A.f_read_group_total A.fd_read_group_total ["state", "word"] (spE (S A) 2 (ev n 123))
  ok_check_total : FnOk P w K mg base (L2.CX P w) (2 * n + 1) A.f_check_total A.fd_check_total ["word", "sort"] (spE (S A) 2 (ev n 124))
  ok_OrderTerm___init__ : FnOk P w K mg base CX0 (2 * n + 1) A.f_OrderTerm___init__ A.fd_OrderTerm___init__ ["self", "term", "down"] (spN (S A) 3 (ev n 125))
  ok_QueryParts___init__ : FnOk P w K mg base CX0 (2 * n + 1) A.f_QueryParts___init__ A.fd_QueryParts___init__ ["self", "kind", "name"] (spN (S A) 3 (ev n 126))
  ok_Query___init__ : FnOk P w K mg base CX0 (2 * n + 1) A.f_Query___init__ A.fd_Query___init__ ["self", "parts", "text"] (spN (S A) 3 (ev n 127))
  ok_read_query : FnOk P w K mg base (L2.CX P w) (2 * n + 1) A.f_read_query A.fd_read_query ["schema", "text"] (spE (S A) 2 (ev n 128))
  ok_read_from : FnOk P w K mg base (L2.CX P w) (2 * n + 1) A.f_read_from A.fd_read_from ["state"] (spE (S A) 1 (ev n 129))
  ok_read_where : FnOk P w K mg base (L2.CX P w) (2 * n + 1) A.f_read_where A.fd_read_where ["state", "parts"] (spE (S A) 2 (ev n 130))
  ok_read_group : FnOk P w K mg base (L2.CX P w) (2 * n + 1) A.f_read_group A.fd_read_group ["state", "parts"] (spE (S A) 2 (ev n 131))
  ok_read_group_path : FnOk P w K mg base (L2.CX P w) (2 * n + 1) A.f_read_group_path A.fd_read_group_path ["state"] (spE (S A) 1 (ev n 132))
  ok_read_several : FnOk P w K mg base (L2.CX P w) (2 * n + 1) A.f_read_several A.fd_read_several ["state", "most", "read_one"] (spE (S A) 3 (ev n 133))
  ok_read_told : FnOk P w K mg base (L2.CX P w) (2 * n + 1) A.f_read_told A.fd_read_told ["state"] (spE (S A) 1 (ev n 134))
  ok_read_order_term : FnOk P w K mg base (L2.CX P w) (2 * n + 1) A.f_read_order_term A.fd_read_order_term ["state"] (spE (S A) 1 (ev n 135))
  ok_read_order : FnOk P w K mg base (L2.CX P w) (2 * n + 1) A.f_read_order A.fd_read_order ["state", "parts"] (spE (S A) 2 (ev n 136))
  ok_read_give : FnOk P w K mg base (L2.CX P w) (2 * n + 1) A.f_read_give A.fd_read_give ["state", "parts"] (spE (S A) 2 (ev n 137))
  ok_read_counts : FnOk P w K mg base (L2.CX P w) (2 * n + 1) A.f_read_counts A.fd_read_counts ["state", "parts"] (spE (S A) 2 (ev n 138))
  ok_read_bound : FnOk P w K mg base (L2.CX P w) (2 * n + 1) A.f_read_bound A.fd_read_bound ["state"] (spE (S A) 1 (ev n 139))
  ok_Field___init__ : FnOk P w K mg base CX0 (2 * n + 1) A.f_Field___init__ A.fd_Field___init__ ["self", "name", "shape", "needed"] (spN (S A) 4 (ev n 140))
  ok_Kind___init__ : FnOk P w K mg base CX0 (2 * n + 1) A.f_Kind___init__ A.fd_Kind___init__ ["self", "name", "fields", "key_rows"] (spN (S A) 4 (ev n 141))
  ok_Kind_field_of : FnOk P w K mg base CX0 (2 * n + 1) A.f_Kind_field_of A.fd_Kind_field_of ["self", "name"] (spN (S A) 2 (ev n 142))
  ok_Schema___init__ : FnOk P w K mg base CX0 (2 * n + 1) A.f_Schema___init__ A.fd_Schema___init__ ["self", "kinds"] (spN (S A) 2 (ev n 143))
  ok_Schema_kind_of : FnOk P w K mg base CX0 (2 * n + 1) A.f_Schema_kind_of A.fd_Schema_kind_of ["self", "name"] (spN (S A) 2 (ev n 144))
  ok_Schema_field_of : FnOk P w K mg base CX0 (2 * n + 1) A.f_Schema_field_of A.fd_Schema_field_of ["self", "kind", "name"] (spN (S A) 3 (ev n 145))
  ok__law_schema : FnOk P w K mg base CX0 (2 * n + 1) A.f__law_schema A.fd__law_schema ["rules", "needed"] (spN (S A) 2 (ev n 146))
  ok__law_texts : FnOk P w K mg base CX0 (2 * n + 1) A.f__law_texts A.fd__law_texts [] (spN (S A) 0 (ev n 147))
end
end K68
namespace K68
open PySem PySem.Spec PyProof.Rows L2 TL
set_option autoImplicit false
open Rn
noncomputable section
section
variable {P : Program} {w : World} {K : PySem.W.Frag} {mg : Str → Option Value} {base : Heap} {A : Ad}
theorem ev0 {i : Nat} : ∀ cs h k kx, ev 0 i cs h k kx = false := fun _ _ _ _ => rfl
theorem sc_Fault___init__ : FnScope ["self", "place", "reason"] ["self", "place", "reason"] (defScope (inClass (topS 3) 0)) := ⟨rfl, rfl, rfl, by decide +kernel, rfl, by decide +kernel, by decide +kernel⟩
theorem ok_Fault___init__ (T : Txt w K mg A) : FnOk P w K mg base CX0 1 A.f_Fault___init__ A.fd_Fault___init__ ["self", "place", "reason"] (Rn.spFI A.C_Fault) := by
  refine T.F_Fault___init__.ok sc_Fault___init__ (fun vs H Q E h => ?_) (fun cdv Ar outer s H vs Q E hr h => ?_)
  · obtain ⟨a, x, y, rfl, _⟩ := h
    rfl
  · obtain ⟨a, x, y, rfl, ha, q⟩ := h
    refine ⟨_, pss_cons (ps_ost (pv 0) (pv 1)) (pss_one (ps_ost (pv 0) (pv 2))), ?_⟩
    exact ⟨_, rfl, _, rfl, a, _, rfl, T.oex, T.np_Fault, .inl ⟨ha, fun d hd hda => ⟨_, rfl, _, rfl, a, _, rfl, T.oex, T.nr_Fault, .inr ⟨d, _, upd_same, (upd_ne hda).trans upd_same, (by show 1 ≤ 900; decide), q d hd hda⟩⟩⟩⟩
theorem sc_Token___init__ : FnScope ["self", "role", "text", "place"] ["self", "role", "text", "place"] (defScope (inClass (topS 14) 0)) := ⟨rfl, rfl, rfl, by decide +kernel, rfl, by decide +kernel, by decide +kernel⟩
theorem z_Token___init__ (T : Txt w K mg A) : FnOk P w K mg base CX0 1 A.f_Token___init__ A.fd_Token___init__ ["self", "role", "text", "place"] (spN (S A) 4 (ev 0 32)) :=
  T.F_Token___init__.ok sc_Token___init__ (fun vs H Q E h => (spN_no ev0 h).elim) (fun cdv Ar outer s H vs Q E hr h => (spN_no ev0 h).elim)
theorem st_Token___init__ (T : Txt w K mg A) {n : Nat} (ih : IH P w K mg base A n) : FnOk P w K mg base CX0 (2 * (n + 1) + 1) A.f_Token___init__ A.fd_Token___init__ ["self", "role", "text", "place"] (spN (S A) 4 (ev (n + 1) 32)) := by
  refine T.F_Token___init__.ok sc_Token___init__ (fun vs H Q E h => spN_len h) (fun cdv Ar outer s H vs Q E hr h => body_N (N := ["self", "role", "text", "place"]) (ev := b_Token___init__ (ev n)) ?_ rfl (by decide) h)
  exact (s_cons (s_fld ox29a7e96467 tx29a7e96467 (fl_role T) (q_var (pv 0)) (q_var (pv 1)) rfl)
 (s_cons (s_fld ox1cb251ec0d tx1cb251ec0d (fl_text T) (q_var (pv 0)) (q_var (pv 2)) rfl)
 (s_one (s_fld oxebed715e82 txebed715e82 (fl_place T) (q_var (pv 0)) (q_var (pv 3)) rfl))))
theorem sc_tokens : FnScope ["text", "signs", "longest", "found", "at", "token"] ["text", "signs", "longest"] (defScope (topS 15)) := ⟨rfl, rfl, rfl, by decide +kernel, rfl, by decide +kernel, by decide +kernel⟩
theorem z_tokens (T : Txt w K mg A) : FnOk P w K mg base (L2.CX P w) 1 A.f_tokens A.fd_tokens ["text", "signs", "longest"] (spE (S A) 3 (ev 0 33)) :=
  T.F_tokens.okX sc_tokens (fun vs H Q E h => (spE_no ev0 h).elim) (fun cdv Ar outer s H vs Q E hr h => (spE_no ev0 h).elim)
theorem st_tokens (T : Txt w K mg A) {n : Nat} (ih : IH P w K mg base A n) : FnOk P w K mg base (L2.CX P w) (2 * (n + 1) + 1) A.f_tokens A.fd_tokens ["text", "signs", "longest"] (spE (S A) 3 (ev (n + 1) 33)) := by
  refine T.F_tokens.okX sc_tokens (fun vs H Q E h => spE_len h) (fun cdv Ar outer s H vs Q E hr h => body_E (N := ["text", "signs", "longest", "found", "at", "token"]) (ev := b_tokens (ev n)) ?_ rfl (by decide) h)
  exact (s_cons (s_if (q_cmpT op_gt so_gt (q_callB call_len (sc_len (sta T)) rfl T.b_len PySem.boot_len (q_cons (q_var (pv 0)) q_nil)) (q_var (pv 2)) (nomark _))
 (s_one (s_raise (S := S A) (ps_raise rfl (takes_of rfl rfl rfl rfl) (pmk_oex T.oex T.ic_Fault T.ti_Fault (ok_Fault___init__ T) (hr.mono (by omega)) T.b_Fault___init__ .nil pass0 (by rfl) T.g_Fault (q_cons (q_c pe_int fun _ _ => rfl) (q_cons (q_str txe1075a9baf oxe1075a9baf) q_nil))))))
 s_nil)
 (s_cons (s_set (i := 3) sc_tokens.nd rfl (.inl rfl) (q_lst q_nil))
 (s_cons (s_set (i := 4) sc_tokens.nd rfl (.inl rfl) (q_call (prm_N (C := ev n) (i := 34) (n := 2)) ih.ok_behind_blanks (hr.mono (by omega)) (by rfl) T.g_behind_blanks T.F_behind_blanks.kp T.b_behind_blanks pass0 (q_cons (q_var (pv 0)) (q_cons (q_c pe_int fun _ _ => rfl) q_nil))))
 (s_cons (s_while 200 (passes_of rfl) (q_cmpT op_lt so_lt (q_var (pv 4)) (q_callB call_len (sc_len (sta T)) rfl T.b_len PySem.boot_len (q_cons (q_var (pv 0)) q_nil)) (nomark _))
 (s_cons (s_asg (q_call (prm_E (C := ev n) (i := 35) (n := 3)) ih.ok_token_at (hr.mono (by omega)) (by rfl) T.g_token_at T.F_token_at.kp T.b_token_at (passes_call (takes_of rfl rfl rfl rfl) (fun _ _ _ _ h => h)) (q_cons (q_var (pv 0)) (q_cons (q_var (pv 4)) (q_cons (q_var (pv 1)) q_nil)))) (pg_tup rfl (pgs_cons (pg_name (i := 5) sc_tokens.nd rfl (.inl rfl)) (pgs_cons (pg_name (i := 4) sc_tokens.nd rfl (.inl rfl)) pgs_nil))) (g_tup (g_cons (g_name 5) (g_cons (g_name 4) g_nil))))
 (s_cons (s_expr (q_bm PySem.F.plainAttrs_list PySem.F.slot_list_append PySem.F.type_list_append mt_append sm_app (q_var (pv 3)) (q_cons (q_var (pv 5)) q_nil)))
 (s_one (s_set (i := 4) sc_tokens.nd rfl (.inl rfl) (q_call (prm_N (C := ev n) (i := 34) (n := 2)) ih.ok_behind_blanks (hr.mono (by omega)) (by rfl) T.g_behind_blanks T.F_behind_blanks.kp T.b_behind_blanks pass0 (q_cons (q_var (pv 0)) (q_cons (q_var (pv 4)) q_nil))))))))
 (s_cons (s_expr (q_bm PySem.F.plainAttrs_list PySem.F.slot_list_append PySem.F.type_list_append mt_append sm_app (q_var (pv 3)) (q_cons (q_make (ci := 1) (dcs := []) (fun _ _ => .nil) (prm_N (C := ev n) (i := 32) (n := 4)) T.mk_Token ih.ok_Token___init__ (hr.mono (by omega)) (by rfl) T.g_Token T.b_Token___init__ .nil pass0 (q_cons (q_str tx7f021a1415 ox7f021a1415) (q_cons (q_str txd41d8cd98f oxd41d8cd98f) (q_cons (q_callB call_len (sc_len (sta T)) rfl T.b_len PySem.boot_len (q_cons (q_var (pv 0)) q_nil)) q_nil)))) q_nil)))
 (s_one (s_ret (q_var (pv 3)))))))))
theorem sc_behind_blanks : FnScope ["text", "at"] ["text", "at"] (defScope (topS 17)) := ⟨rfl, rfl, rfl, by decide +kernel, rfl, by decide +kernel, by decide +kernel⟩
theorem z_behind_blanks (T : Txt w K mg A) : FnOk P w K mg base CX0 1 A.f_behind_blanks A.fd_behind_blanks ["text", "at"] (spN (S A) 2 (ev 0 34)) :=
  T.F_behind_blanks.ok sc_behind_blanks (fun vs H Q E h => (spN_no ev0 h).elim) (fun cdv Ar outer s H vs Q E hr h => (spN_no ev0 h).elim)
theorem st_behind_blanks (T : Txt w K mg A) {n : Nat} (ih : IH P w K mg base A n) : FnOk P w K mg base CX0 (2 * (n + 1) + 1) A.f_behind_blanks A.fd_behind_blanks ["text", "at"] (spN (S A) 2 (ev (n + 1) 34)) := by
  refine T.F_behind_blanks.ok sc_behind_blanks (fun vs H Q E h => spN_len h) (fun cdv Ar outer s H vs Q E hr h => body_N (N := ["text", "at"]) (ev := b_behind_blanks (ev n)) ?_ rfl (by decide) h)
  exact (s_cons (s_while 200 PassesOwn.never (q_pt (q_wand (q_cmpT op_lt so_lt (q_var (pv 1)) (q_callB call_len (sc_len (sta T)) rfl T.b_len PySem.boot_len (q_cons (q_var (pv 0)) q_nil)) (nomark _)) (q_wand1 (q_cmpT op_eq so_eq (q_ix ix_seq (so_ix (sta T)) (q_var (pv 0)) (q_var (pv 1)) (fun _ _ => rfl)) (q_str tx7215ee9c7d ox7215ee9c7d) (nomark _)))))
 (s_one (s_aug (i := 1) so_addN sc_behind_blanks.nd rfl (.inl rfl) (q_c pe_int fun _ _ => rfl) ip_add)))
 (s_one (s_ret (q_var (pv 1)))))
theorem sc_token_at : FnScope ["text", "at", "signs", "first"] ["text", "at", "signs"] (defScope (topS 18)) := ⟨rfl, rfl, rfl, by decide +kernel, rfl, by decide +kernel, by decide +kernel⟩
theorem z_token_at (T : Txt w K mg A) : FnOk P w K mg base (L2.CX P w) 1 A.f_token_at A.fd_token_at ["text", "at", "signs"] (spE (S A) 3 (ev 0 35)) :=
  T.F_token_at.okX sc_token_at (fun vs H Q E h => (spE_no ev0 h).elim) (fun cdv Ar outer s H vs Q E hr h => (spE_no ev0 h).elim)
theorem st_token_at (T : Txt w K mg A) {n : Nat} (ih : IH P w K mg base A n) : FnOk P w K mg base (L2.CX P w) (2 * (n + 1) + 1) A.f_token_at A.fd_token_at ["text", "at", "signs"] (spE (S A) 3 (ev (n + 1) 35)) := by
  refine T.F_token_at.okX sc_token_at (fun vs H Q E h => spE_len h) (fun cdv Ar outer s H vs Q E hr h => body_E (N := ["text", "at", "signs", "first"]) (ev := b_token_at (ev n)) ?_ rfl (by decide) h)
  exact (s_cons (s_set (i := 3) sc_token_at.nd rfl (.inl rfl) (q_ix ix_seq (so_ix (sta T)) (q_var (pv 0)) (q_var (pv 1)) (fun _ _ => rfl)))
 (s_cons (s_if (q_cmpT op_in_sign (so_inS false) (q_var (pv 3)) (q_c (pe_glob (v := .str "abcdefghijklmnopqrstuvwxyzABCDEFGHIJKLMNOPQRSTUVWXYZ") rfl T.g_LETTERS.choose_spec ⟨_, rfl⟩) fun _ _ => (relStr tx2ad372c377 ox2ad372c377)) (by rfl))
 (s_one (s_ret (q_call (prm_E (C := ev n) (i := 37) (n := 2)) ih.ok_word_at (hr.mono (by omega)) (by rfl) T.g_word_at T.F_word_at.kp T.b_word_at (passes_call (takes_of rfl rfl rfl rfl) (fun _ _ _ _ h => h)) (q_cons (q_var (pv 0)) (q_cons (q_var (pv 1)) q_nil)))))
 s_nil)
 (s_cons (s_if (q_cmpT op_in_sign (so_inS false) (q_var (pv 3)) (q_c (pe_glob (v := .str "0123456789") rfl T.g_DIGITS.choose_spec ⟨_, rfl⟩) fun _ _ => (relStr tx781e5e245d ox781e5e245d)) (by rfl))
 (s_one (s_ret (q_call (prm_E (C := ev n) (i := 38) (n := 2)) ih.ok_number_at (hr.mono (by omega)) (by rfl) T.g_number_at T.F_number_at.kp T.b_number_at (passes_call (takes_of rfl rfl rfl rfl) (fun _ _ _ _ h => h)) (q_cons (q_var (pv 0)) (q_cons (q_var (pv 1)) q_nil)))))
 s_nil)
 (s_cons (s_if (q_cmpT op_eq so_eq (q_var (pv 3)) (q_c (pe_glob (v := .str "\"") rfl T.g_QUOTE.choose_spec ⟨_, rfl⟩) fun _ _ => (relStr txb15835f133 oxb15835f133)) (nomark _))
 (s_one (s_ret (q_call (prm_E (C := ev n) (i := 39) (n := 2)) ih.ok_quoted_at (hr.mono (by omega)) (by rfl) T.g_quoted_at T.F_quoted_at.kp T.b_quoted_at (passes_call (takes_of rfl rfl rfl rfl) (fun _ _ _ _ h => h)) (q_cons (q_var (pv 0)) (q_cons (q_var (pv 1)) q_nil)))))
 s_nil)
 (s_one (s_ret (q_call (prm_E (C := ev n) (i := 41) (n := 3)) ih.ok_sign_at (hr.mono (by omega)) (by rfl) T.g_sign_at T.F_sign_at.kp T.b_sign_at (passes_call (takes_of rfl rfl rfl rfl) (fun _ _ _ _ h => h)) (q_cons (q_var (pv 0)) (q_cons (q_var (pv 1)) (q_cons (q_var (pv 2)) q_nil))))))))))
theorem sc_behind_run : FnScope ["text", "at", "allowed"] ["text", "at", "allowed"] (defScope (topS 19)) := ⟨rfl, rfl, rfl, by decide +kernel, rfl, by decide +kernel, by decide +kernel⟩
theorem z_behind_run (T : Txt w K mg A) : FnOk P w K mg base CX0 1 A.f_behind_run A.fd_behind_run ["text", "at", "allowed"] (spN (S A) 3 (ev 0 36)) :=
  T.F_behind_run.ok sc_behind_run (fun vs H Q E h => (spN_no ev0 h).elim) (fun cdv Ar outer s H vs Q E hr h => (spN_no ev0 h).elim)
theorem st_behind_run (T : Txt w K mg A) {n : Nat} (ih : IH P w K mg base A n) : FnOk P w K mg base CX0 (2 * (n + 1) + 1) A.f_behind_run A.fd_behind_run ["text", "at", "allowed"] (spN (S A) 3 (ev (n + 1) 36)) := by
  refine T.F_behind_run.ok sc_behind_run (fun vs H Q E h => spN_len h) (fun cdv Ar outer s H vs Q E hr h => body_N (N := ["text", "at", "allowed"]) (ev := b_behind_run (ev n)) ?_ rfl (by decide) h)
  exact (s_cons (s_while 200 PassesOwn.never (q_pt (q_wand (q_cmpT op_lt so_lt (q_var (pv 1)) (q_callB call_len (sc_len (sta T)) rfl T.b_len PySem.boot_len (q_cons (q_var (pv 0)) q_nil)) (nomark _)) (q_wand1 (q_cmpT op_in_sign (so_inS false) (q_ix ix_seq (so_ix (sta T)) (q_var (pv 0)) (q_var (pv 1)) (fun _ _ => rfl)) (q_var (pv 2)) (by rfl)))))
 (s_one (s_aug (i := 1) so_addN sc_behind_run.nd rfl (.inl rfl) (q_c pe_int fun _ _ => rfl) ip_add)))
 (s_one (s_ret (q_var (pv 1)))))
theorem sc_word_at : FnScope ["text", "at", "behind"] ["text", "at"] (defScope (topS 20)) := ⟨rfl, rfl, rfl, by decide +kernel, rfl, by decide +kernel, by decide +kernel⟩
theorem z_word_at (T : Txt w K mg A) : FnOk P w K mg base (L2.CX P w) 1 A.f_word_at A.fd_word_at ["text", "at"] (spE (S A) 2 (ev 0 37)) :=
  T.F_word_at.okX sc_word_at (fun vs H Q E h => (spE_no ev0 h).elim) (fun cdv Ar outer s H vs Q E hr h => (spE_no ev0 h).elim)
theorem st_word_at (T : Txt w K mg A) {n : Nat} (ih : IH P w K mg base A n) : FnOk P w K mg base (L2.CX P w) (2 * (n + 1) + 1) A.f_word_at A.fd_word_at ["text", "at"] (spE (S A) 2 (ev (n + 1) 37)) := by
  refine T.F_word_at.okX sc_word_at (fun vs H Q E h => spE_len h) (fun cdv Ar outer s H vs Q E hr h => body_E (N := ["text", "at", "behind"]) (ev := b_word_at (ev n)) ?_ rfl (by decide) h)
  exact (s_cons (s_set (i := 2) sc_word_at.nd rfl (.inl rfl) (q_call (prm_N (C := ev n) (i := 36) (n := 3)) ih.ok_behind_run (hr.mono (by omega)) (by rfl) T.g_behind_run T.F_behind_run.kp T.b_behind_run pass0 (q_cons (q_var (pv 0)) (q_cons (q_var (pv 1)) (q_cons (q_c (pe_glob (v := .str "abcdefghijklmnopqrstuvwxyzABCDEFGHIJKLMNOPQRSTUVWXYZ0123456789_") rfl T.g_WORD_SIGNS.choose_spec ⟨_, rfl⟩) fun _ _ => (relStr txcf72e0a1cf oxcf72e0a1cf)) q_nil)))))
 (s_cons (s_if (q_cmpT op_gt so_gt (q_op op_sub so_sub (q_var (pv 2)) (q_var (pv 1))) (q_c (pe_glob (v := .int 12) rfl T.g_LONGEST_WORD.choose_spec ⟨_, rfl⟩) fun _ _ => rfl) (nomark _))
 (s_one (s_raise (S := S A) (ps_raise rfl (takes_of rfl rfl rfl rfl) (pmk_oex T.oex T.ic_Fault T.ti_Fault (ok_Fault___init__ T) (hr.mono (by omega)) T.b_Fault___init__ .nil pass0 (by rfl) T.g_Fault (q_cons (q_var (pv 1)) (q_cons (q_str tx552837e7eb ox552837e7eb) q_nil))))))
 s_nil)
 (s_one (s_ret (q_tup (q_cons (q_make (ci := 1) (dcs := []) (fun _ _ => .nil) (prm_N (C := ev n) (i := 32) (n := 4)) T.mk_Token ih.ok_Token___init__ (hr.mono (by omega)) (by rfl) T.g_Token T.b_Token___init__ .nil pass0 (q_cons (q_str txc47d187067 oxc47d187067) (q_cons (q_sl (q_var (pv 0)) (q_var (pv 1)) (q_var (pv 2))) (q_cons (q_var (pv 1)) q_nil)))) (q_cons (q_var (pv 2)) q_nil)))))))
theorem sc_number_at : FnScope ["text", "at", "behind"] ["text", "at"] (defScope (topS 21)) := ⟨rfl, rfl, rfl, by decide +kernel, rfl, by decide +kernel, by decide +kernel⟩
theorem z_number_at (T : Txt w K mg A) : FnOk P w K mg base (L2.CX P w) 1 A.f_number_at A.fd_number_at ["text", "at"] (spE (S A) 2 (ev 0 38)) :=
  T.F_number_at.okX sc_number_at (fun vs H Q E h => (spE_no ev0 h).elim) (fun cdv Ar outer s H vs Q E hr h => (spE_no ev0 h).elim)
theorem st_number_at (T : Txt w K mg A) {n : Nat} (ih : IH P w K mg base A n) : FnOk P w K mg base (L2.CX P w) (2 * (n + 1) + 1) A.f_number_at A.fd_number_at ["text", "at"] (spE (S A) 2 (ev (n + 1) 38)) := by
  refine T.F_number_at.okX sc_number_at (fun vs H Q E h => spE_len h) (fun cdv Ar outer s H vs Q E hr h => body_E (N := ["text", "at", "behind"]) (ev := b_number_at (ev n)) ?_ rfl (by decide) h)
  exact (s_cons (s_set (i := 2) sc_number_at.nd rfl (.inl rfl) (q_call (prm_N (C := ev n) (i := 36) (n := 3)) ih.ok_behind_run (hr.mono (by omega)) (by rfl) T.g_behind_run T.F_behind_run.kp T.b_behind_run pass0 (q_cons (q_var (pv 0)) (q_cons (q_var (pv 1)) (q_cons (q_c (pe_glob (v := .str "0123456789") rfl T.g_DIGITS.choose_spec ⟨_, rfl⟩) fun _ _ => (relStr tx781e5e245d ox781e5e245d)) q_nil)))))
 (s_cons (s_if (q_pt (q_wand (q_cmpT op_eq so_eq (q_ix ix_seq (so_ix (sta T)) (q_var (pv 0)) (q_var (pv 1)) (fun _ _ => rfl)) (q_str txcfcd208495 oxcfcd208495) (nomark _)) (q_wand1 (q_cmpT op_gt so_gt (q_op op_sub so_sub (q_var (pv 2)) (q_var (pv 1))) (q_c pe_int fun _ _ => rfl) (nomark _)))))
 (s_one (s_raise (S := S A) (ps_raise rfl (takes_of rfl rfl rfl rfl) (pmk_oex T.oex T.ic_Fault T.ti_Fault (ok_Fault___init__ T) (hr.mono (by omega)) T.b_Fault___init__ .nil pass0 (by rfl) T.g_Fault (q_cons (q_var (pv 1)) (q_cons (q_str tx36fd4ab044 ox36fd4ab044) q_nil))))))
 s_nil)
 (s_cons (s_if (q_cmpT op_gt so_gt (q_op op_sub so_sub (q_var (pv 2)) (q_var (pv 1))) (q_c (pe_glob (v := .int 18) rfl T.g_LONGEST_NUMBER.choose_spec ⟨_, rfl⟩) fun _ _ => rfl) (nomark _))
 (s_one (s_raise (S := S A) (ps_raise rfl (takes_of rfl rfl rfl rfl) (pmk_oex T.oex T.ic_Fault T.ti_Fault (ok_Fault___init__ T) (hr.mono (by omega)) T.b_Fault___init__ .nil pass0 (by rfl) T.g_Fault (q_cons (q_var (pv 1)) (q_cons (q_str tx2107478474 ox2107478474) q_nil))))))
 s_nil)
 (s_cons (s_if (q_cmpT op_gt so_gt (q_call (prm_N (C := ev n) (i := 36) (n := 3)) ih.ok_behind_run (hr.mono (by omega)) (by rfl) T.g_behind_run T.F_behind_run.kp T.b_behind_run pass0 (q_cons (q_var (pv 0)) (q_cons (q_var (pv 2)) (q_cons (q_c (pe_glob (v := .str "abcdefghijklmnopqrstuvwxyzABCDEFGHIJKLMNOPQRSTUVWXYZ0123456789_") rfl T.g_WORD_SIGNS.choose_spec ⟨_, rfl⟩) fun _ _ => (relStr txcf72e0a1cf oxcf72e0a1cf)) q_nil)))) (q_var (pv 2)) (nomark _))
 (s_one (s_raise (S := S A) (ps_raise rfl (takes_of rfl rfl rfl rfl) (pmk_oex T.oex T.ic_Fault T.ti_Fault (ok_Fault___init__ T) (hr.mono (by omega)) T.b_Fault___init__ .nil pass0 (by rfl) T.g_Fault (q_cons (q_var (pv 2)) (q_cons (q_str txf24faeac0e oxf24faeac0e) q_nil))))))
 s_nil)
 (s_one (s_ret (q_tup (q_cons (q_make (ci := 1) (dcs := []) (fun _ _ => .nil) (prm_N (C := ev n) (i := 32) (n := 4)) T.mk_Token ih.ok_Token___init__ (hr.mono (by omega)) (by rfl) T.g_Token T.b_Token___init__ .nil pass0 (q_cons (q_str txb1bc248a7f oxb1bc248a7f) (q_cons (q_sl (q_var (pv 0)) (q_var (pv 1)) (q_var (pv 2))) (q_cons (q_var (pv 1)) q_nil)))) (q_cons (q_var (pv 2)) q_nil)))))))))
theorem sc_quoted_at : FnScope ["text", "start", "inner", "at", "escaped"] ["text", "start"] (defScope (topS 22)) := ⟨rfl, rfl, rfl, by decide +kernel, rfl, by decide +kernel, by decide +kernel⟩
theorem z_quoted_at (T : Txt w K mg A) : FnOk P w K mg base (L2.CX P w) 1 A.f_quoted_at A.fd_quoted_at ["text", "start"] (spE (S A) 2 (ev 0 39)) :=
  T.F_quoted_at.okX sc_quoted_at (fun vs H Q E h => (spE_no ev0 h).elim) (fun cdv Ar outer s H vs Q E hr h => (spE_no ev0 h).elim)
theorem st_quoted_at (T : Txt w K mg A) {n : Nat} (ih : IH P w K mg base A n) : FnOk P w K mg base (L2.CX P w) (2 * (n + 1) + 1) A.f_quoted_at A.fd_quoted_at ["text", "start"] (spE (S A) 2 (ev (n + 1) 39)) := by
  refine T.F_quoted_at.okX sc_quoted_at (fun vs H Q E h => spE_len h) (fun cdv Ar outer s H vs Q E hr h => body_E (N := ["text", "start", "inner", "at", "escaped"]) (ev := b_quoted_at (ev n)) ?_ rfl (by decide) h)
  exact (s_cons (s_set (i := 2) sc_quoted_at.nd rfl (.inl rfl) (q_lst q_nil))
 (s_cons (s_set (i := 3) sc_quoted_at.nd rfl (.inl rfl) (q_op (opOr op_add (opOr op_add_str op_cat)) so_add (q_var (pv 1)) (q_c pe_int fun _ _ => rfl)))
 (s_cons (s_while 200 (passes_of rfl) (q_pt (q_wand (q_cmpT op_lt so_lt (q_var (pv 3)) (q_callB call_len (sc_len (sta T)) rfl T.b_len PySem.boot_len (q_cons (q_var (pv 0)) q_nil)) (nomark _)) (q_wand1 (q_cmpT op_ne so_ne (q_ix ix_seq (so_ix (sta T)) (q_var (pv 0)) (q_var (pv 3)) (fun _ _ => rfl)) (q_c (pe_glob (v := .str "\"") rfl T.g_QUOTE.choose_spec ⟨_, rfl⟩) fun _ _ => (relStr txb15835f133 oxb15835f133)) (nomark _)))))
 (s_cons (s_set (i := 4) sc_quoted_at.nd rfl (.inl rfl) (q_cmp op_eq so_eq (q_ix ix_seq (so_ix (sta T)) (q_var (pv 0)) (q_var (pv 3)) (fun _ _ => rfl)) (q_c (pe_glob (v := .str "\\") rfl T.g_BACKSLASH.choose_spec ⟨_, rfl⟩) fun _ _ => (relStr tx28d397e873 ox28d397e873)) (nomark _)))
 (s_cons (s_if (q_val (q_var (pv 4)))
 (s_one (s_aug (i := 3) so_addN sc_quoted_at.nd rfl (.inl rfl) (q_c pe_int fun _ _ => rfl) ip_add))
 s_nil)
 (s_one (s_if (q_cmpT op_lt so_lt (q_var (pv 3)) (q_callB call_len (sc_len (sta T)) rfl T.b_len PySem.boot_len (q_cons (q_var (pv 0)) q_nil)) (nomark _))
 (s_cons (s_if (q_notT (q_val (q_call (prm_N (C := ev n) (i := 40) (n := 2)) ih.ok_may_stand (hr.mono (by omega)) (by rfl) T.g_may_stand T.F_may_stand.kp T.b_may_stand pass0 (q_cons (q_ix ix_seq (so_ix (sta T)) (q_var (pv 0)) (q_var (pv 3)) (fun _ _ => rfl)) (q_cons (q_var (pv 4)) q_nil)))))
 (s_one (s_raise (S := S A) (ps_raise rfl (takes_of rfl rfl rfl rfl) (pmk_oex T.oex T.ic_Fault T.ti_Fault (ok_Fault___init__ T) (hr.mono (by omega)) T.b_Fault___init__ .nil pass0 (by rfl) T.g_Fault (q_cons (q_var (pv 3)) (q_cons (q_str txf24faeac0e oxf24faeac0e) q_nil))))))
 s_nil)
 (s_cons (s_expr (q_bm PySem.F.plainAttrs_list PySem.F.slot_list_append PySem.F.type_list_append mt_append sm_app (q_var (pv 2)) (q_cons (q_ix ix_seq (so_ix (sta T)) (q_var (pv 0)) (q_var (pv 3)) (fun _ _ => rfl)) q_nil)))
 (s_one (s_aug (i := 3) so_addN sc_quoted_at.nd rfl (.inl rfl) (q_c pe_int fun _ _ => rfl) ip_add))))
 s_nil)))))
 (s_cons (s_if (q_cmpT op_eq so_eq (q_var (pv 3)) (q_callB call_len (sc_len (sta T)) rfl T.b_len PySem.boot_len (q_cons (q_var (pv 0)) q_nil)) (nomark _))
 (s_one (s_raise (S := S A) (ps_raise rfl (takes_of rfl rfl rfl rfl) (pmk_oex T.oex T.ic_Fault T.ti_Fault (ok_Fault___init__ T) (hr.mono (by omega)) T.b_Fault___init__ .nil pass0 (by rfl) T.g_Fault (q_cons (q_var (pv 1)) (q_cons (q_str txd3a037c25c oxd3a037c25c) q_nil))))))
 s_nil)
 (s_one (s_ret (q_tup (q_cons (q_make (ci := 1) (dcs := []) (fun _ _ => .nil) (prm_N (C := ev n) (i := 32) (n := 4)) T.mk_Token ih.ok_Token___init__ (hr.mono (by omega)) (by rfl) T.g_Token T.b_Token___init__ .nil pass0 (q_cons (q_str tx1cb251ec0d ox1cb251ec0d) (q_cons (q_join (sta T) (q_str txd41d8cd98f oxd41d8cd98f) (q_var (pv 2))) (q_cons (q_var (pv 1)) q_nil)))) (q_cons (q_op (opOr op_add (opOr op_add_str op_cat)) so_add (q_var (pv 3)) (q_c pe_int fun _ _ => rfl)) q_nil)))))))))
theorem sc_may_stand : FnScope ["character", "escaped"] ["character", "escaped"] (defScope (topS 23)) := ⟨rfl, rfl, rfl, by decide +kernel, rfl, by decide +kernel, by decide +kernel⟩
theorem z_may_stand (T : Txt w K mg A) : FnOk P w K mg base CX0 1 A.f_may_stand A.fd_may_stand ["character", "escaped"] (spN (S A) 2 (ev 0 40)) :=
  T.F_may_stand.ok sc_may_stand (fun vs H Q E h => (spN_no ev0 h).elim) (fun cdv Ar outer s H vs Q E hr h => (spN_no ev0 h).elim)
theorem st_may_stand (T : Txt w K mg A) {n : Nat} (ih : IH P w K mg base A n) : FnOk P w K mg base CX0 (2 * (n + 1) + 1) A.f_may_stand A.fd_may_stand ["character", "escaped"] (spN (S A) 2 (ev (n + 1) 40)) := by
  refine T.F_may_stand.ok sc_may_stand (fun vs H Q E h => spN_len h) (fun cdv Ar outer s H vs Q E hr h => body_N (N := ["character", "escaped"]) (ev := b_may_stand (ev n)) ?_ rfl (by decide) h)
  exact (s_cons (s_if (q_val (q_var (pv 1)))
 (s_one (s_ret (q_or (q_cmp op_eq so_eq (q_var (pv 0)) (q_c (pe_glob (v := .str "\"") rfl T.g_QUOTE.choose_spec ⟨_, rfl⟩) fun _ _ => (relStr txb15835f133 oxb15835f133)) (nomark _)) (q_one (q_cmp op_eq so_eq (q_var (pv 0)) (q_c (pe_glob (v := .str "\\") rfl T.g_BACKSLASH.choose_spec ⟨_, rfl⟩) fun _ _ => (relStr tx28d397e873 ox28d397e873)) (nomark _))))))
 s_nil)
 (s_one (s_ret (q_and (q_chain op_le op_le so_le so_le (q_str tx7215ee9c7d ox7215ee9c7d) (q_var (pv 0)) (q_str tx4c761f170e ox4c761f170e)) (q_one (q_cmp op_ne so_ne (q_callB call_ord sc_ord rfl T.b_ord (by decide +kernel) (q_cons (q_var (pv 0)) q_nil)) (q_c (pe_glob (v := .int 37) rfl T.g_PERCENT_CODE.choose_spec ⟨_, rfl⟩) fun _ _ => rfl) (nomark _)))))))
theorem sc_sign_at : FnScope ["text", "at", "signs", "longest", "sign"] ["text", "at", "signs"] (defScope (topS 24)) := ⟨rfl, rfl, rfl, by decide +kernel, rfl, by decide +kernel, by decide +kernel⟩
theorem z_sign_at (T : Txt w K mg A) : FnOk P w K mg base (L2.CX P w) 1 A.f_sign_at A.fd_sign_at ["text", "at", "signs"] (spE (S A) 3 (ev 0 41)) :=
  T.F_sign_at.okX sc_sign_at (fun vs H Q E h => (spE_no ev0 h).elim) (fun cdv Ar outer s H vs Q E hr h => (spE_no ev0 h).elim)
theorem st_sign_at (T : Txt w K mg A) {n : Nat} (ih : IH P w K mg base A n) : FnOk P w K mg base (L2.CX P w) (2 * (n + 1) + 1) A.f_sign_at A.fd_sign_at ["text", "at", "signs"] (spE (S A) 3 (ev (n + 1) 41)) := by
  refine T.F_sign_at.okX sc_sign_at (fun vs H Q E h => spE_len h) (fun cdv Ar outer s H vs Q E hr h => body_E (N := ["text", "at", "signs", "longest", "sign"]) (ev := b_sign_at (ev n)) ?_ rfl (by decide) h)
  exact (s_cons (s_set (i := 3) sc_sign_at.nd rfl (.inl rfl) (q_str txd41d8cd98f oxd41d8cd98f))
 (s_cons (s_for 200 (sta T) (passes_of rfl) rfl (q_var (pv 2)) (pg_name (i := 4) sc_sign_at.nd rfl (.inl rfl)) (g_name 4)
 (s_one (s_if (q_pt (q_wand (q_cmpT op_gt so_gt (q_callB call_len (sc_len (sta T)) rfl T.b_len PySem.boot_len (q_cons (q_var (pv 4)) q_nil)) (q_callB call_len (sc_len (sta T)) rfl T.b_len PySem.boot_len (q_cons (q_var (pv 3)) q_nil)) (nomark _)) (q_wand1 (q_cmpT op_eq so_eq (q_sl (q_var (pv 0)) (q_var (pv 1)) (q_op (opOr op_add (opOr op_add_str op_cat)) so_add (q_var (pv 1)) (q_callB call_len (sc_len (sta T)) rfl T.b_len PySem.boot_len (q_cons (q_var (pv 4)) q_nil)))) (q_var (pv 4)) (nomark _)))))
 (s_one (s_set (i := 3) sc_sign_at.nd rfl (.inl rfl) (q_var (pv 4))))
 s_nil)))
 (s_cons (s_if (q_cmpT op_eq so_eq (q_var (pv 3)) (q_str txd41d8cd98f oxd41d8cd98f) (nomark _))
 (s_one (s_raise (S := S A) (ps_raise rfl (takes_of rfl rfl rfl rfl) (pmk_oex T.oex T.ic_Fault T.ti_Fault (ok_Fault___init__ T) (hr.mono (by omega)) T.b_Fault___init__ .nil pass0 (by rfl) T.g_Fault (q_cons (q_var (pv 1)) (q_cons (q_str txf24faeac0e oxf24faeac0e) q_nil))))))
 s_nil)
 (s_one (s_ret (q_tup (q_cons (q_make (ci := 1) (dcs := []) (fun _ _ => .nil) (prm_N (C := ev n) (i := 32) (n := 4)) T.mk_Token ih.ok_Token___init__ (hr.mono (by omega)) (by rfl) T.g_Token T.b_Token___init__ .nil pass0 (q_cons (q_str tx04b2948023 ox04b2948023) (q_cons (q_var (pv 3)) (q_cons (q_var (pv 1)) q_nil)))) (q_cons (q_op (opOr op_add (opOr op_add_str op_cat)) so_add (q_var (pv 1)) (q_callB call_len (sc_len (sta T)) rfl T.b_len PySem.boot_len (q_cons (q_var (pv 3)) q_nil))) q_nil))))))))
theorem sc_IntSort___init__ : FnScope ["self", "low", "high"] ["self", "low", "high"] (defScope (inClass (topS 26) 0)) := ⟨rfl, rfl, rfl, by decide +kernel, rfl, by decide +kernel, by decide +kernel⟩
theorem z_IntSort___init__ (T : Txt w K mg A) : FnOk P w K mg base CX0 1 A.f_IntSort___init__ A.fd_IntSort___init__ ["self", "low", "high"] (spN (S A) 3 (ev 0 42)) :=
  T.F_IntSort___init__.ok sc_IntSort___init__ (fun vs H Q E h => (spN_no ev0 h).elim) (fun cdv Ar outer s H vs Q E hr h => (spN_no ev0 h).elim)
theorem st_IntSort___init__ (T : Txt w K mg A) {n : Nat} (ih : IH P w K mg base A n) : FnOk P w K mg base CX0 (2 * (n + 1) + 1) A.f_IntSort___init__ A.fd_IntSort___init__ ["self", "low", "high"] (spN (S A) 3 (ev (n + 1) 42)) := by
  refine T.F_IntSort___init__.ok sc_IntSort___init__ (fun vs H Q E h => spN_len h) (fun cdv Ar outer s H vs Q E hr h => body_N (N := ["self", "low", "high"]) (ev := b_IntSort___init__ (ev n)) ?_ rfl (by decide) h)
  exact (s_cons (s_fld ox53cced8d28 tx53cced8d28 (fl_low T) (q_var (pv 0)) (q_var (pv 1)) rfl)
 (s_one (s_fld ox8d966b2253 tx8d966b2253 (fl_high T) (q_var (pv 0)) (q_var (pv 2)) rfl)))
theorem sc_TextSort___init__ : FnScope ["self", "longest", "without"] ["self", "longest", "without"] (defScope (inClass (topS 27) 0)) := ⟨rfl, rfl, rfl, by decide +kernel, rfl, by decide +kernel, by decide +kernel⟩
theorem z_TextSort___init__ (T : Txt w K mg A) : FnOk P w K mg base CX0 1 A.f_TextSort___init__ A.fd_TextSort___init__ ["self", "longest", "without"] (spN (S A) 3 (ev 0 43)) :=
  T.F_TextSort___init__.ok sc_TextSort___init__ (fun vs H Q E h => (spN_no ev0 h).elim) (fun cdv Ar outer s H vs Q E hr h => (spN_no ev0 h).elim)
theorem st_TextSort___init__ (T : Txt w K mg A) {n : Nat} (ih : IH P w K mg base A n) : FnOk P w K mg base CX0 (2 * (n + 1) + 1) A.f_TextSort___init__ A.fd_TextSort___init__ ["self", "longest", "without"] (spN (S A) 3 (ev (n + 1) 43)) := by
  refine T.F_TextSort___init__.ok sc_TextSort___init__ (fun vs H Q E h => spN_len h) (fun cdv Ar outer s H vs Q E hr h => body_N (N := ["self", "longest", "without"]) (ev := b_TextSort___init__ (ev n)) ?_ rfl (by decide) h)
  exact (s_cons (s_fld ox56bc4f911e tx56bc4f911e (fl_longest T) (q_var (pv 0)) (q_var (pv 1)) rfl)
 (s_one (s_fld oxfc0cb42fe6 txfc0cb42fe6 (fl_without T) (q_var (pv 0)) (q_var (pv 2)) rfl)))
theorem sc_RefSort___init__ : FnScope ["self", "kinds", "rule"] ["self", "kinds", "rule"] (defScope (inClass (topS 29) 0)) := ⟨rfl, rfl, rfl, by decide +kernel, rfl, by decide +kernel, by decide +kernel⟩
theorem z_RefSort___init__ (T : Txt w K mg A) : FnOk P w K mg base CX0 1 A.f_RefSort___init__ A.fd_RefSort___init__ ["self", "kinds", "rule"] (spN (S A) 3 (ev 0 44)) :=
  T.F_RefSort___init__.ok sc_RefSort___init__ (fun vs H Q E h => (spN_no ev0 h).elim) (fun cdv Ar outer s H vs Q E hr h => (spN_no ev0 h).elim)
theorem st_RefSort___init__ (T : Txt w K mg A) {n : Nat} (ih : IH P w K mg base A n) : FnOk P w K mg base CX0 (2 * (n + 1) + 1) A.f_RefSort___init__ A.fd_RefSort___init__ ["self", "kinds", "rule"] (spN (S A) 3 (ev (n + 1) 44)) := by
  refine T.F_RefSort___init__.ok sc_RefSort___init__ (fun vs H Q E h => spN_len h) (fun cdv Ar outer s H vs Q E hr h => body_N (N := ["self", "kinds", "rule"]) (ev := b_RefSort___init__ (ev n)) ?_ rfl (by decide) h)
  exact (s_cons (s_fld ox3aecd46c86 tx3aecd46c86 (fl_kinds T) (q_var (pv 0)) (q_callTy call_list_of (sc_list (sta T)) rfl T.b_list (by decide +kernel) (q_cons (q_var (pv 1)) q_nil)) rfl)
 (s_one (s_fld ox981c1e7b37 tx981c1e7b37 (fl_rule T) (q_var (pv 0)) (q_var (pv 2)) rfl)))
theorem sc_ListSort___init__ : FnScope ["self", "kinds"] ["self", "kinds"] (defScope (inClass (topS 30) 0)) := ⟨rfl, rfl, rfl, by decide +kernel, rfl, by decide +kernel, by decide +kernel⟩
theorem z_ListSort___init__ (T : Txt w K mg A) : FnOk P w K mg base CX0 1 A.f_ListSort___init__ A.fd_ListSort___init__ ["self", "kinds"] (spN (S A) 2 (ev 0 45)) :=
  T.F_ListSort___init__.ok sc_ListSort___init__ (fun vs H Q E h => (spN_no ev0 h).elim) (fun cdv Ar outer s H vs Q E hr h => (spN_no ev0 h).elim)
theorem st_ListSort___init__ (T : Txt w K mg A) {n : Nat} (ih : IH P w K mg base A n) : FnOk P w K mg base CX0 (2 * (n + 1) + 1) A.f_ListSort___init__ A.fd_ListSort___init__ ["self", "kinds"] (spN (S A) 2 (ev (n + 1) 45)) := by
  refine T.F_ListSort___init__.ok sc_ListSort___init__ (fun vs H Q E h => spN_len h) (fun cdv Ar outer s H vs Q E hr h => body_N (N := ["self", "kinds"]) (ev := b_ListSort___init__ (ev n)) ?_ rfl (by decide) h)
  exact (s_one (s_fld ox3aecd46c86 tx3aecd46c86 (fl_kinds T) (q_var (pv 0)) (q_callTy call_list_of (sc_list (sta T)) rfl T.b_list (by decide +kernel) (q_cons (q_var (pv 1)) q_nil)) rfl))
theorem sc_is_reference : FnScope ["shape"] ["shape"] (defScope (topS 31)) := ⟨rfl, rfl, rfl, by decide +kernel, rfl, by decide +kernel, by decide +kernel⟩
theorem z_is_reference (T : Txt w K mg A) : FnOk P w K mg base CX0 1 A.f_is_reference A.fd_is_reference ["shape"] (spN (S A) 1 (ev 0 46)) :=
  T.F_is_reference.ok sc_is_reference (fun vs H Q E h => (spN_no ev0 h).elim) (fun cdv Ar outer s H vs Q E hr h => (spN_no ev0 h).elim)
theorem st_is_reference (T : Txt w K mg A) {n : Nat} (ih : IH P w K mg base A n) : FnOk P w K mg base CX0 (2 * (n + 1) + 1) A.f_is_reference A.fd_is_reference ["shape"] (spN (S A) 1 (ev (n + 1) 46)) := by
  refine T.F_is_reference.ok sc_is_reference (fun vs H Q E h => spN_len h) (fun cdv Ar outer s H vs Q E hr h => body_N (N := ["shape"]) (ev := b_is_reference (ev n)) ?_ rfl (by decide) h)
  exact (s_one (s_ret (q_callB call_isi (sc_is (isk T)) rfl T.b_isinstance (by decide +kernel) (q_cons (q_var (pv 0)) (q_cons (q_c (pe_glob (v := .ref A.C_RefSort) rfl T.g_RefSort rfl) fun _ _ => rfl) q_nil)))))
theorem sc_sort_of_shape : FnScope ["shape"] ["shape"] (defScope (topS 40)) := ⟨rfl, rfl, rfl, by decide +kernel, rfl, by decide +kernel, by decide +kernel⟩
theorem z_sort_of_shape (T : Txt w K mg A) : FnOk P w K mg base CX0 1 A.f_sort_of_shape A.fd_sort_of_shape ["shape"] (spN (S A) 1 (ev 0 47)) :=
  T.F_sort_of_shape.ok sc_sort_of_shape (fun vs H Q E h => (spN_no ev0 h).elim) (fun cdv Ar outer s H vs Q E hr h => (spN_no ev0 h).elim)
theorem st_sort_of_shape (T : Txt w K mg A) {n : Nat} (ih : IH P w K mg base A n) : FnOk P w K mg base CX0 (2 * (n + 1) + 1) A.f_sort_of_shape A.fd_sort_of_shape ["shape"] (spN (S A) 1 (ev (n + 1) 47)) := by
  refine T.F_sort_of_shape.ok sc_sort_of_shape (fun vs H Q E h => spN_len h) (fun cdv Ar outer s H vs Q E hr h => body_N (N := ["shape"]) (ev := b_sort_of_shape (ev n)) ?_ rfl (by decide) h)
  exact (s_cons (s_if (q_val (q_callB call_isi (sc_is (isk T)) rfl T.b_isinstance (by decide +kernel) (q_cons (q_var (pv 0)) (q_cons (q_c (pe_glob (v := .ref A.C_IntSort) rfl T.g_IntSort rfl) fun _ _ => rfl) q_nil))))
 (s_one (s_ret (q_c (pe_glob (v := .str "integer") rfl T.g_INTEGER.choose_spec ⟨_, rfl⟩) fun _ _ => (relStr tx157db7df53 ox157db7df53))))
 s_nil)
 (s_cons (s_if (q_pt (q_wor (q_val (q_callB call_isi (sc_is (isk T)) rfl T.b_isinstance (by decide +kernel) (q_cons (q_var (pv 0)) (q_cons (q_c (pe_glob (v := .ref A.C_TextSort) rfl T.g_TextSort rfl) fun _ _ => rfl) q_nil)))) (q_wor1 (q_val (q_callB call_isi (sc_is (isk T)) rfl T.b_isinstance (by decide +kernel) (q_cons (q_var (pv 0)) (q_cons (q_c (pe_glob (v := .ref A.C_ChoiceSort) rfl T.g_ChoiceSort rfl) fun _ _ => rfl) q_nil)))))))
 (s_one (s_ret (q_c (pe_glob (v := .str "text") rfl T.g_TEXT.choose_spec ⟨_, rfl⟩) fun _ _ => (relStr tx1cb251ec0d ox1cb251ec0d))))
 s_nil)
 (s_one (s_ret (q_if (q_val (q_call (prm_N (C := ev n) (i := 46) (n := 1)) ih.ok_is_reference (hr.mono (by omega)) (by rfl) T.g_is_reference T.F_is_reference.kp T.b_is_reference pass0 (q_cons (q_var (pv 0)) q_nil))) (q_c (pe_glob (v := .str "object") rfl T.g_OBJECT.choose_spec ⟨_, rfl⟩) fun _ _ => (relStr txa8cfde6331 oxa8cfde6331)) (q_c (pe_glob (v := .str "list") rfl T.g_LIST.choose_spec ⟨_, rfl⟩) fun _ _ => (relStr tx10ae9fc7d4 ox10ae9fc7d4)))))))
theorem sc_kinds_of_shapes : FnScope ["shapes", "found", "shape", "kind"] ["shapes"] (defScope (topS 41)) := ⟨rfl, rfl, rfl, by decide +kernel, rfl, by decide +kernel, by decide +kernel⟩
theorem z_kinds_of_shapes (T : Txt w K mg A) : FnOk P w K mg base CX0 1 A.f_kinds_of_shapes A.fd_kinds_of_shapes ["shapes"] (spN (S A) 1 (ev 0 48)) :=
  T.F_kinds_of_shapes.ok sc_kinds_of_shapes (fun vs H Q E h => (spN_no ev0 h).elim) (fun cdv Ar outer s H vs Q E hr h => (spN_no ev0 h).elim)
theorem st_kinds_of_shapes (T : Txt w K mg A) {n : Nat} (ih : IH P w K mg base A n) : FnOk P w K mg base CX0 (2 * (n + 1) + 1) A.f_kinds_of_shapes A.fd_kinds_of_shapes ["shapes"] (spN (S A) 1 (ev (n + 1) 48)) := by
  refine T.F_kinds_of_shapes.ok sc_kinds_of_shapes (fun vs H Q E h => spN_len h) (fun cdv Ar outer s H vs Q E hr h => body_N (N := ["shapes", "found", "shape", "kind"]) (ev := b_kinds_of_shapes (ev n)) ?_ rfl (by decide) h)
  exact (s_cons (s_set (i := 1) sc_kinds_of_shapes.nd rfl (.inl rfl) (q_lst q_nil))
 (s_cons (s_for 200 (sta T) PassesOwn.never rfl (q_var (pv 0)) (pg_name (i := 2) sc_kinds_of_shapes.nd rfl (.inl rfl)) (g_name 2)
 (s_one (s_for 200 (sta T) PassesOwn.never rfl (q_fld ox3aecd46c86 tx3aecd46c86 (fl_kinds T) (q_var (pv 2)) rfl) (pg_name (i := 3) sc_kinds_of_shapes.nd rfl (.inl rfl)) (g_name 3)
 (s_one (s_if (q_cmpT op_notIn_seq (so_in (sta T) true) (q_var (pv 3)) (q_var (pv 1)) (by rfl))
 (s_one (s_expr (q_bm PySem.F.plainAttrs_list PySem.F.slot_list_append PySem.F.type_list_append mt_append sm_app (q_var (pv 1)) (q_cons (q_var (pv 3)) q_nil))))
 s_nil)))))
 (s_one (s_ret (q_var (pv 1))))))
theorem sc_common_sort : FnScope ["sign", "sorts", "asked", "word", "known", "other"] ["sign", "sorts"] (defScope (topS 42)) := ⟨rfl, rfl, rfl, by decide +kernel, rfl, by decide +kernel, by decide +kernel⟩
theorem z_common_sort (T : Txt w K mg A) : FnOk P w K mg base CX0 1 A.f_common_sort A.fd_common_sort ["sign", "sorts"] (spN (S A) 2 (ev 0 49)) :=
  T.F_common_sort.ok sc_common_sort (fun vs H Q E h => (spN_no ev0 h).elim) (fun cdv Ar outer s H vs Q E hr h => (spN_no ev0 h).elim)
theorem st_common_sort (T : Txt w K mg A) {n : Nat} (ih : IH P w K mg base A n) : FnOk P w K mg base CX0 (2 * (n + 1) + 1) A.f_common_sort A.fd_common_sort ["sign", "sorts"] (spN (S A) 2 (ev (n + 1) 49)) := by
  refine T.F_common_sort.ok sc_common_sort (fun vs H Q E h => spN_len h) (fun cdv Ar outer s H vs Q E hr h => body_N (N := ["sign", "sorts", "asked", "word", "known", "other"]) (ev := b_common_sort (ev n)) ?_ rfl (by decide) h)
  exact (s_cons (s_set (i := 2) sc_common_sort.nd rfl (.inl rfl) (q_ix ix_kdict (so_ixD (sdk T)) (q_c (pe_glob (v := .ref A.t_ASKED) rfl T.g_ASKED rfl) fun _ _ => rfl) (q_var (pv 0)) (fun _ _ => rfl)))
 (s_cons (s_setLc (i := 4) (own := [("word", 3)]) (vs := [3]) 200 (sta T) rfl sc_common_sort.nd rfl rfl (sw_true rfl rfl rfl (by decide +kernel)) (q_var (pv 1)) (blkOk_by (own := [("word", 3)]) (N := ["sign", "sorts", "asked", "word", "known", "other"]) (sc := defScope (topS 42)) (by decide +kernel)) rfl (fun _ _ _ _ _ => (pg_name (i := 3) sc_common_sort.nd rfl (Or.inl rfl))) (g_name 3) (by decide) (fun _ _ _ _ _ => pts_one (by exact (q_cmpT op_ne so_ne (q_var (pv 3)) (q_c (pe_glob (v := .str "parameter") rfl T.g_PARAMETER.choose_spec ⟨_, rfl⟩) fun _ _ => (relStr tx03144cce1f ox03144cce1f)) (nomark _)))) snd_tev (fun _ _ _ _ _ => by exact (q_var (pv 3))))
 (s_cons (s_if (q_cmpT op_eq so_eq (q_callB call_len (sc_len (sta T)) rfl T.b_len PySem.boot_len (q_cons (q_var (pv 4)) q_nil)) (q_c pe_int fun _ _ => rfl) (nomark _))
 (s_one (s_set (i := 4) sc_common_sort.nd rfl (.inl rfl) (q_if (q_cmpT op_eq so_eq (q_callB call_len (sc_len (sta T)) rfl T.b_len PySem.boot_len (q_cons (q_var (pv 2)) q_nil)) (q_c pe_int fun _ _ => rfl) (nomark _)) (q_lst (q_cons (q_ix ix_seq (so_ix (sta T)) (q_var (pv 2)) (q_c pe_int fun _ _ => rfl) (fun _ _ => rfl)) q_nil)) (q_lst (q_cons (q_c (pe_glob (v := .str "parameter") rfl T.g_PARAMETER.choose_spec ⟨_, rfl⟩) fun _ _ => (relStr tx03144cce1f ox03144cce1f)) q_nil)))))
 s_nil)
 (s_cons (s_set (i := 3) sc_common_sort.nd rfl (.inr rfl) (q_ix ix_seq (so_ix (sta T)) (q_var (pv 4)) (q_c pe_int fun _ _ => rfl) (fun _ _ => rfl)))
 (s_cons (s_if (q_pt (q_wor (q_cmpT op_notIn_seq (so_in (sta T) true) (q_var (pv 3)) (q_var (pv 2)) (by rfl)) (q_wor1 (q_val (q_callB (cr_any rfl) sc_any rfl T.b_any (by decide +kernel) (q_cons (q_lc (own := [("other", 5)]) (vs := [5]) 200 (sta T) rfl sc_common_sort.nd (q_var (pv 4)) (blkOk_by (own := [("other", 5)]) (N := ["sign", "sorts", "asked", "word", "known", "other"]) (sc := defScope (topS 42)) (by decide +kernel)) rfl (fun _ _ _ _ _ => (pg_name (i := 5) sc_common_sort.nd rfl (Or.inl rfl))) (g_name 5) (by decide) (fun _ _ _ _ _ => pts_nil) snd_yes (fun _ _ _ _ _ => by exact (q_cmp op_ne so_ne (q_var (pv 5)) (q_var (pv 3)) (nomark _)))) q_nil))))))
 (s_one (s_ret (q_c pe_non fun _ _ => rfl)))
 s_nil)
 (s_one (s_ret (q_if (q_pt (q_wand (q_cmpT op_eq so_eq (q_var (pv 3)) (q_c (pe_glob (v := .str "truth") rfl T.g_TRUTH.choose_spec ⟨_, rfl⟩) fun _ _ => (relStr tx59d42c504c ox59d42c504c)) (nomark _)) (q_wand1 (q_cmpT op_in_seq (so_in (sta T) false) (q_c (pe_glob (v := .str "parameter") rfl T.g_PARAMETER.choose_spec ⟨_, rfl⟩) fun _ _ => (relStr tx03144cce1f ox03144cce1f)) (q_var (pv 1)) (by rfl))))) (q_c pe_non fun _ _ => rfl) (q_var (pv 3))))))))))
theorem sc_SingleTerm___init__ : FnScope ["self"] ["self"] (defScope (inClass (topS 53) 0)) := ⟨rfl, rfl, rfl, by decide +kernel, rfl, by decide +kernel, by decide +kernel⟩
theorem z_SingleTerm___init__ (T : Txt w K mg A) : FnOk P w K mg base CX0 1 A.f_SingleTerm___init__ A.fd_SingleTerm___init__ ["self"] (spN (S A) 1 (ev 0 50)) :=
  T.F_SingleTerm___init__.ok sc_SingleTerm___init__ (fun vs H Q E h => (spN_no ev0 h).elim) (fun cdv Ar outer s H vs Q E hr h => (spN_no ev0 h).elim)
theorem st_SingleTerm___init__ (T : Txt w K mg A) {n : Nat} (ih : IH P w K mg base A n) : FnOk P w K mg base CX0 (2 * (n + 1) + 1) A.f_SingleTerm___init__ A.fd_SingleTerm___init__ ["self"] (spN (S A) 1 (ev (n + 1) 50)) := by
  refine T.F_SingleTerm___init__.ok sc_SingleTerm___init__ (fun vs H Q E h => spN_len h) (fun cdv Ar outer s H vs Q E hr h => body_N (N := ["self"]) (ev := b_SingleTerm___init__ (ev n)) ?_ rfl (by decide) h)
  exact (s_one (s_fld oxc9e9a84892 txc9e9a84892 (fl_level T) (q_var (pv 0)) (q_c (pe_glob (v := .int 8) rfl T.g_SINGLE_LEVEL.choose_spec ⟨_, rfl⟩) fun _ _ => rfl) rfl))
theorem sc_NumberTerm___init__ : FnScope ["self", "amount"] ["self", "amount"] (defScope (inClass (topS 54) 0)) := ⟨rfl, rfl, rfl, by decide +kernel, rfl, by decide +kernel, by decide +kernel⟩
theorem z_NumberTerm___init__ (T : Txt w K mg A) : FnOk P w K mg base CX0 1 A.f_NumberTerm___init__ A.fd_NumberTerm___init__ ["self", "amount"] (spN (S A) 2 (ev 0 51)) :=
  T.F_NumberTerm___init__.ok sc_NumberTerm___init__ (fun vs H Q E h => (spN_no ev0 h).elim) (fun cdv Ar outer s H vs Q E hr h => (spN_no ev0 h).elim)
theorem st_NumberTerm___init__ (T : Txt w K mg A) {n : Nat} (ih : IH P w K mg base A n) : FnOk P w K mg base CX0 (2 * (n + 1) + 1) A.f_NumberTerm___init__ A.fd_NumberTerm___init__ ["self", "amount"] (spN (S A) 2 (ev (n + 1) 51)) := by
  refine T.F_NumberTerm___init__.ok sc_NumberTerm___init__ (fun vs H Q E h => spN_len h) (fun cdv Ar outer s H vs Q E hr h => body_N (N := ["self", "amount"]) (ev := b_NumberTerm___init__ (ev n)) ?_ rfl (by decide) h)
  exact (s_cons (s_expr (q_clsfn (prm_N (C := ev n) (i := 50) (n := 1)) (pe_glob (v := .ref A.C_SingleTerm) rfl T.g_SingleTerm rfl) T.cr_SingleTerm T.cv_SingleTerm T.F_SingleTerm___init__.kp ih.ok_SingleTerm___init__ (hr.mono (by omega)) T.b_SingleTerm___init__ pass0 (q_cons (q_var (pv 0)) q_nil)))
 (s_one (s_fld oxe9f40e1f1d txe9f40e1f1d (fl_amount T) (q_var (pv 0)) (q_var (pv 1)) rfl)))
theorem sc_TextTerm___init__ : FnScope ["self", "text"] ["self", "text"] (defScope (inClass (topS 55) 0)) := ⟨rfl, rfl, rfl, by decide +kernel, rfl, by decide +kernel, by decide +kernel⟩
theorem z_TextTerm___init__ (T : Txt w K mg A) : FnOk P w K mg base CX0 1 A.f_TextTerm___init__ A.fd_TextTerm___init__ ["self", "text"] (spN (S A) 2 (ev 0 52)) :=
  T.F_TextTerm___init__.ok sc_TextTerm___init__ (fun vs H Q E h => (spN_no ev0 h).elim) (fun cdv Ar outer s H vs Q E hr h => (spN_no ev0 h).elim)
theorem st_TextTerm___init__ (T : Txt w K mg A) {n : Nat} (ih : IH P w K mg base A n) : FnOk P w K mg base CX0 (2 * (n + 1) + 1) A.f_TextTerm___init__ A.fd_TextTerm___init__ ["self", "text"] (spN (S A) 2 (ev (n + 1) 52)) := by
  refine T.F_TextTerm___init__.ok sc_TextTerm___init__ (fun vs H Q E h => spN_len h) (fun cdv Ar outer s H vs Q E hr h => body_N (N := ["self", "text"]) (ev := b_TextTerm___init__ (ev n)) ?_ rfl (by decide) h)
  exact (s_cons (s_expr (q_clsfn (prm_N (C := ev n) (i := 50) (n := 1)) (pe_glob (v := .ref A.C_SingleTerm) rfl T.g_SingleTerm rfl) T.cr_SingleTerm T.cv_SingleTerm T.F_SingleTerm___init__.kp ih.ok_SingleTerm___init__ (hr.mono (by omega)) T.b_SingleTerm___init__ pass0 (q_cons (q_var (pv 0)) q_nil)))
 (s_one (s_fld ox1cb251ec0d tx1cb251ec0d (fl_text T) (q_var (pv 0)) (q_var (pv 1)) rfl)))
theorem sc_ParameterTerm___init__ : FnScope ["self", "name"] ["self", "name"] (defScope (inClass (topS 56) 0)) := ⟨rfl, rfl, rfl, by decide +kernel, rfl, by decide +kernel, by decide +kernel⟩
theorem z_ParameterTerm___init__ (T : Txt w K mg A) : FnOk P w K mg base CX0 1 A.f_ParameterTerm___init__ A.fd_ParameterTerm___init__ ["self", "name"] (spN (S A) 2 (ev 0 53)) :=
  T.F_ParameterTerm___init__.ok sc_ParameterTerm___init__ (fun vs H Q E h => (spN_no ev0 h).elim) (fun cdv Ar outer s H vs Q E hr h => (spN_no ev0 h).elim)
theorem st_ParameterTerm___init__ (T : Txt w K mg A) {n : Nat} (ih : IH P w K mg base A n) : FnOk P w K mg base CX0 (2 * (n + 1) + 1) A.f_ParameterTerm___init__ A.fd_ParameterTerm___init__ ["self", "name"] (spN (S A) 2 (ev (n + 1) 53)) := by
  refine T.F_ParameterTerm___init__.ok sc_ParameterTerm___init__ (fun vs H Q E h => spN_len h) (fun cdv Ar outer s H vs Q E hr h => body_N (N := ["self", "name"]) (ev := b_ParameterTerm___init__ (ev n)) ?_ rfl (by decide) h)
  exact (s_cons (s_expr (q_clsfn (prm_N (C := ev n) (i := 50) (n := 1)) (pe_glob (v := .ref A.C_SingleTerm) rfl T.g_SingleTerm rfl) T.cr_SingleTerm T.cv_SingleTerm T.F_SingleTerm___init__.kp ih.ok_SingleTerm___init__ (hr.mono (by omega)) T.b_SingleTerm___init__ pass0 (q_cons (q_var (pv 0)) q_nil)))
 (s_one (s_fld oxb068931cc4 txb068931cc4 (fl_name T) (q_var (pv 0)) (q_var (pv 1)) rfl)))
theorem sc_PathTerm___init__ : FnScope ["self", "name", "fields"] ["self", "name", "fields"] (defScope (inClass (topS 57) 0)) := ⟨rfl, rfl, rfl, by decide +kernel, rfl, by decide +kernel, by decide +kernel⟩
theorem z_PathTerm___init__ (T : Txt w K mg A) : FnOk P w K mg base CX0 1 A.f_PathTerm___init__ A.fd_PathTerm___init__ ["self", "name", "fields"] (spN (S A) 3 (ev 0 54)) :=
  T.F_PathTerm___init__.ok sc_PathTerm___init__ (fun vs H Q E h => (spN_no ev0 h).elim) (fun cdv Ar outer s H vs Q E hr h => (spN_no ev0 h).elim)
theorem st_PathTerm___init__ (T : Txt w K mg A) {n : Nat} (ih : IH P w K mg base A n) : FnOk P w K mg base CX0 (2 * (n + 1) + 1) A.f_PathTerm___init__ A.fd_PathTerm___init__ ["self", "name", "fields"] (spN (S A) 3 (ev (n + 1) 54)) := by
  refine T.F_PathTerm___init__.ok sc_PathTerm___init__ (fun vs H Q E h => spN_len h) (fun cdv Ar outer s H vs Q E hr h => body_N (N := ["self", "name", "fields"]) (ev := b_PathTerm___init__ (ev n)) ?_ rfl (by decide) h)
  exact (s_cons (s_expr (q_clsfn (prm_N (C := ev n) (i := 50) (n := 1)) (pe_glob (v := .ref A.C_SingleTerm) rfl T.g_SingleTerm rfl) T.cr_SingleTerm T.cv_SingleTerm T.F_SingleTerm___init__.kp ih.ok_SingleTerm___init__ (hr.mono (by omega)) T.b_SingleTerm___init__ pass0 (q_cons (q_var (pv 0)) q_nil)))
 (s_cons (s_fld oxb068931cc4 txb068931cc4 (fl_name T) (q_var (pv 0)) (q_var (pv 1)) rfl)
 (s_one (s_fld oxd05b6ed7d2 txd05b6ed7d2 (fl_fields T) (q_var (pv 0)) (q_callTy call_list_of (sc_list (sta T)) rfl T.b_list (by decide +kernel) (q_cons (q_var (pv 2)) q_nil)) rfl))))
theorem sc_SomeTerm___init__ : FnScope ["self", "word", "name", "path", "inner"] ["self", "word", "name", "path", "inner"] (defScope (inClass (topS 58) 0)) := ⟨rfl, rfl, rfl, by decide +kernel, rfl, by decide +kernel, by decide +kernel⟩
theorem z_SomeTerm___init__ (T : Txt w K mg A) : FnOk P w K mg base CX0 1 A.f_SomeTerm___init__ A.fd_SomeTerm___init__ ["self", "word", "name", "path", "inner"] (spN (S A) 5 (ev 0 55)) :=
  T.F_SomeTerm___init__.ok sc_SomeTerm___init__ (fun vs H Q E h => (spN_no ev0 h).elim) (fun cdv Ar outer s H vs Q E hr h => (spN_no ev0 h).elim)
theorem st_SomeTerm___init__ (T : Txt w K mg A) {n : Nat} (ih : IH P w K mg base A n) : FnOk P w K mg base CX0 (2 * (n + 1) + 1) A.f_SomeTerm___init__ A.fd_SomeTerm___init__ ["self", "word", "name", "path", "inner"] (spN (S A) 5 (ev (n + 1) 55)) := by
  refine T.F_SomeTerm___init__.ok sc_SomeTerm___init__ (fun vs H Q E h => spN_len h) (fun cdv Ar outer s H vs Q E hr h => body_N (N := ["self", "word", "name", "path", "inner"]) (ev := b_SomeTerm___init__ (ev n)) ?_ rfl (by decide) h)
  exact (s_cons (s_expr (q_clsfn (prm_N (C := ev n) (i := 50) (n := 1)) (pe_glob (v := .ref A.C_SingleTerm) rfl T.g_SingleTerm rfl) T.cr_SingleTerm T.cv_SingleTerm T.F_SingleTerm___init__.kp ih.ok_SingleTerm___init__ (hr.mono (by omega)) T.b_SingleTerm___init__ pass0 (q_cons (q_var (pv 0)) q_nil)))
 (s_cons (s_fld oxc47d187067 txc47d187067 (fl_word T) (q_var (pv 0)) (q_var (pv 1)) rfl)
 (s_cons (s_fld oxb068931cc4 txb068931cc4 (fl_name T) (q_var (pv 0)) (q_var (pv 2)) rfl)
 (s_cons (s_fld oxd6fe1d0be6 txd6fe1d0be6 (fl_path T) (q_var (pv 0)) (q_var (pv 3)) rfl)
 (s_one (s_fld oxea97586b4a txea97586b4a (fl_inner T) (q_var (pv 0)) (q_var (pv 4)) rfl))))))
theorem sc_CountTerm___init__ : FnScope ["self", "path"] ["self", "path"] (defScope (inClass (topS 59) 0)) := ⟨rfl, rfl, rfl, by decide +kernel, rfl, by decide +kernel, by decide +kernel⟩
theorem z_CountTerm___init__ (T : Txt w K mg A) : FnOk P w K mg base CX0 1 A.f_CountTerm___init__ A.fd_CountTerm___init__ ["self", "path"] (spN (S A) 2 (ev 0 56)) :=
  T.F_CountTerm___init__.ok sc_CountTerm___init__ (fun vs H Q E h => (spN_no ev0 h).elim) (fun cdv Ar outer s H vs Q E hr h => (spN_no ev0 h).elim)
theorem st_CountTerm___init__ (T : Txt w K mg A) {n : Nat} (ih : IH P w K mg base A n) : FnOk P w K mg base CX0 (2 * (n + 1) + 1) A.f_CountTerm___init__ A.fd_CountTerm___init__ ["self", "path"] (spN (S A) 2 (ev (n + 1) 56)) := by
  refine T.F_CountTerm___init__.ok sc_CountTerm___init__ (fun vs H Q E h => spN_len h) (fun cdv Ar outer s H vs Q E hr h => body_N (N := ["self", "path"]) (ev := b_CountTerm___init__ (ev n)) ?_ rfl (by decide) h)
  exact (s_cons (s_expr (q_clsfn (prm_N (C := ev n) (i := 50) (n := 1)) (pe_glob (v := .ref A.C_SingleTerm) rfl T.g_SingleTerm rfl) T.cr_SingleTerm T.cv_SingleTerm T.F_SingleTerm___init__.kp ih.ok_SingleTerm___init__ (hr.mono (by omega)) T.b_SingleTerm___init__ pass0 (q_cons (q_var (pv 0)) q_nil)))
 (s_one (s_fld oxd6fe1d0be6 txd6fe1d0be6 (fl_path T) (q_var (pv 0)) (q_var (pv 1)) rfl)))
theorem sc_GroupTotal___init__ : FnScope ["self", "word", "path"] ["self", "word", "path"] (defScope (inClass (topS 60) 0)) := ⟨rfl, rfl, rfl, by decide +kernel, rfl, by decide +kernel, by decide +kernel⟩
theorem z_GroupTotal___init__ (T : Txt w K mg A) : FnOk P w K mg base CX0 1 A.f_GroupTotal___init__ A.fd_GroupTotal___init__ ["self", "word", "path"] (spN (S A) 3 (ev 0 57)) :=
  T.F_GroupTotal___init__.ok sc_GroupTotal___init__ (fun vs H Q E h => (spN_no ev0 h).elim) (fun cdv Ar outer s H vs Q E hr h => (spN_no ev0 h).elim)
theorem st_GroupTotal___init__ (T : Txt w K mg A) {n : Nat} (ih : IH P w K mg base A n) : FnOk P w K mg base CX0 (2 * (n + 1) + 1) A.f_GroupTotal___init__ A.fd_GroupTotal___init__ ["self", "word", "path"] (spN (S A) 3 (ev (n + 1) 57)) := by
  refine T.F_GroupTotal___init__.ok sc_GroupTotal___init__ (fun vs H Q E h => spN_len h) (fun cdv Ar outer s H vs Q E hr h => body_N (N := ["self", "word", "path"]) (ev := b_GroupTotal___init__ (ev n)) ?_ rfl (by decide) h)
  exact (s_cons (s_expr (q_clsfn (prm_N (C := ev n) (i := 50) (n := 1)) (pe_glob (v := .ref A.C_SingleTerm) rfl T.g_SingleTerm rfl) T.cr_SingleTerm T.cv_SingleTerm T.F_SingleTerm___init__.kp ih.ok_SingleTerm___init__ (hr.mono (by omega)) T.b_SingleTerm___init__ pass0 (q_cons (q_var (pv 0)) q_nil)))
 (s_cons (s_fld oxc47d187067 txc47d187067 (fl_word T) (q_var (pv 0)) (q_var (pv 1)) rfl)
 (s_one (s_fld oxd6fe1d0be6 txd6fe1d0be6 (fl_path T) (q_var (pv 0)) (q_var (pv 2)) rfl))))
theorem sc_ListTotal___init__ : FnScope ["self", "word", "name", "path", "inner"] ["self", "word", "name", "path", "inner"] (defScope (inClass (topS 61) 0)) := ⟨rfl, rfl, rfl, by decide +kernel, rfl, by decide +kernel, by decide +kernel⟩
theorem z_ListTotal___init__ (T : Txt w K mg A) : FnOk P w K mg base CX0 1 A.f_ListTotal___init__ A.fd_ListTotal___init__ ["self", "word", "name", "path", "inner"] (spN (S A) 5 (ev 0 58)) :=
  T.F_ListTotal___init__.ok sc_ListTotal___init__ (fun vs H Q E h => (spN_no ev0 h).elim) (fun cdv Ar outer s H vs Q E hr h => (spN_no ev0 h).elim)
theorem st_ListTotal___init__ (T : Txt w K mg A) {n : Nat} (ih : IH P w K mg base A n) : FnOk P w K mg base CX0 (2 * (n + 1) + 1) A.f_ListTotal___init__ A.fd_ListTotal___init__ ["self", "word", "name", "path", "inner"] (spN (S A) 5 (ev (n + 1) 58)) := by
  refine T.F_ListTotal___init__.ok sc_ListTotal___init__ (fun vs H Q E h => spN_len h) (fun cdv Ar outer s H vs Q E hr h => body_N (N := ["self", "word", "name", "path", "inner"]) (ev := b_ListTotal___init__ (ev n)) ?_ rfl (by decide) h)
  exact (s_cons (s_expr (q_clsfn (prm_N (C := ev n) (i := 50) (n := 1)) (pe_glob (v := .ref A.C_SingleTerm) rfl T.g_SingleTerm rfl) T.cr_SingleTerm T.cv_SingleTerm T.F_SingleTerm___init__.kp ih.ok_SingleTerm___init__ (hr.mono (by omega)) T.b_SingleTerm___init__ pass0 (q_cons (q_var (pv 0)) q_nil)))
 (s_cons (s_fld oxc47d187067 txc47d187067 (fl_word T) (q_var (pv 0)) (q_var (pv 1)) rfl)
 (s_cons (s_fld oxb068931cc4 txb068931cc4 (fl_name T) (q_var (pv 0)) (q_var (pv 2)) rfl)
 (s_cons (s_fld oxd6fe1d0be6 txd6fe1d0be6 (fl_path T) (q_var (pv 0)) (q_var (pv 3)) rfl)
 (s_one (s_fld oxea97586b4a txea97586b4a (fl_inner T) (q_var (pv 0)) (q_var (pv 4)) rfl))))))
theorem sc_ChainTerm___init__ : FnScope ["self", "level", "first", "rest"] ["self", "level", "first", "rest"] (defScope (inClass (topS 62) 0)) := ⟨rfl, rfl, rfl, by decide +kernel, rfl, by decide +kernel, by decide +kernel⟩
theorem z_ChainTerm___init__ (T : Txt w K mg A) : FnOk P w K mg base CX0 1 A.f_ChainTerm___init__ A.fd_ChainTerm___init__ ["self", "level", "first", "rest"] (spN (S A) 4 (ev 0 59)) :=
  T.F_ChainTerm___init__.ok sc_ChainTerm___init__ (fun vs H Q E h => (spN_no ev0 h).elim) (fun cdv Ar outer s H vs Q E hr h => (spN_no ev0 h).elim)
theorem st_ChainTerm___init__ (T : Txt w K mg A) {n : Nat} (ih : IH P w K mg base A n) : FnOk P w K mg base CX0 (2 * (n + 1) + 1) A.f_ChainTerm___init__ A.fd_ChainTerm___init__ ["self", "level", "first", "rest"] (spN (S A) 4 (ev (n + 1) 59)) := by
  refine T.F_ChainTerm___init__.ok sc_ChainTerm___init__ (fun vs H Q E h => spN_len h) (fun cdv Ar outer s H vs Q E hr h => body_N (N := ["self", "level", "first", "rest"]) (ev := b_ChainTerm___init__ (ev n)) ?_ rfl (by decide) h)
  exact (s_cons (s_fld oxc9e9a84892 txc9e9a84892 (fl_level T) (q_var (pv 0)) (q_var (pv 1)) rfl)
 (s_cons (s_fld ox8b04d5e377 tx8b04d5e377 (fl_first T) (q_var (pv 0)) (q_var (pv 2)) rfl)
 (s_one (s_fld ox65e8800b5c tx65e8800b5c (fl_rest T) (q_var (pv 0)) (q_callTy call_list_of (sc_list (sta T)) rfl T.b_list (by decide +kernel) (q_cons (q_var (pv 3)) q_nil)) rfl))))
theorem sc_CompareTerm___init__ : FnScope ["self", "sign", "left", "right"] ["self", "sign", "left", "right"] (defScope (inClass (topS 63) 0)) := ⟨rfl, rfl, rfl, by decide +kernel, rfl, by decide +kernel, by decide +kernel⟩
theorem z_CompareTerm___init__ (T : Txt w K mg A) : FnOk P w K mg base CX0 1 A.f_CompareTerm___init__ A.fd_CompareTerm___init__ ["self", "sign", "left", "right"] (spN (S A) 4 (ev 0 60)) :=
  T.F_CompareTerm___init__.ok sc_CompareTerm___init__ (fun vs H Q E h => (spN_no ev0 h).elim) (fun cdv Ar outer s H vs Q E hr h => (spN_no ev0 h).elim)
theorem st_CompareTerm___init__ (T : Txt w K mg A) {n : Nat} (ih : IH P w K mg base A n) : FnOk P w K mg base CX0 (2 * (n + 1) + 1) A.f_CompareTerm___init__ A.fd_CompareTerm___init__ ["self", "sign", "left", "right"] (spN (S A) 4 (ev (n + 1) 60)) := by
  refine T.F_CompareTerm___init__.ok sc_CompareTerm___init__ (fun vs H Q E h => spN_len h) (fun cdv Ar outer s H vs Q E hr h => body_N (N := ["self", "sign", "left", "right"]) (ev := b_CompareTerm___init__ (ev n)) ?_ rfl (by decide) h)
  exact (s_cons (s_fld oxc9e9a84892 txc9e9a84892 (fl_level T) (q_var (pv 0)) (q_c (pe_glob (v := .int 4) rfl T.g_TEST_LEVEL.choose_spec ⟨_, rfl⟩) fun _ _ => rfl) rfl)
 (s_cons (s_fld ox04b2948023 tx04b2948023 (fl_sign T) (q_var (pv 0)) (q_var (pv 1)) rfl)
 (s_cons (s_fld ox811882fecd tx811882fecd (fl_left T) (q_var (pv 0)) (q_var (pv 2)) rfl)
 (s_one (s_fld ox7c4f294078 tx7c4f294078 (fl_right T) (q_var (pv 0)) (q_var (pv 3)) rfl)))))
theorem sc_NullTerm___init__ : FnScope ["self", "inner", "turned"] ["self", "inner", "turned"] (defScope (inClass (topS 64) 0)) := ⟨rfl, rfl, rfl, by decide +kernel, rfl, by decide +kernel, by decide +kernel⟩
theorem z_NullTerm___init__ (T : Txt w K mg A) : FnOk P w K mg base CX0 1 A.f_NullTerm___init__ A.fd_NullTerm___init__ ["self", "inner", "turned"] (spN (S A) 3 (ev 0 61)) :=
  T.F_NullTerm___init__.ok sc_NullTerm___init__ (fun vs H Q E h => (spN_no ev0 h).elim) (fun cdv Ar outer s H vs Q E hr h => (spN_no ev0 h).elim)
theorem st_NullTerm___init__ (T : Txt w K mg A) {n : Nat} (ih : IH P w K mg base A n) : FnOk P w K mg base CX0 (2 * (n + 1) + 1) A.f_NullTerm___init__ A.fd_NullTerm___init__ ["self", "inner", "turned"] (spN (S A) 3 (ev (n + 1) 61)) := by
  refine T.F_NullTerm___init__.ok sc_NullTerm___init__ (fun vs H Q E h => spN_len h) (fun cdv Ar outer s H vs Q E hr h => body_N (N := ["self", "inner", "turned"]) (ev := b_NullTerm___init__ (ev n)) ?_ rfl (by decide) h)
  exact (s_cons (s_fld oxc9e9a84892 txc9e9a84892 (fl_level T) (q_var (pv 0)) (q_c (pe_glob (v := .int 4) rfl T.g_TEST_LEVEL.choose_spec ⟨_, rfl⟩) fun _ _ => rfl) rfl)
 (s_cons (s_fld oxea97586b4a txea97586b4a (fl_inner T) (q_var (pv 0)) (q_var (pv 1)) rfl)
 (s_one (s_fld oxe5412b8b87 txe5412b8b87 (fl_turned T) (q_var (pv 0)) (q_var (pv 2)) rfl))))
theorem sc_AmongTerm___init__ : FnScope ["self", "inner", "others"] ["self", "inner", "others"] (defScope (inClass (topS 65) 0)) := ⟨rfl, rfl, rfl, by decide +kernel, rfl, by decide +kernel, by decide +kernel⟩
theorem z_AmongTerm___init__ (T : Txt w K mg A) : FnOk P w K mg base CX0 1 A.f_AmongTerm___init__ A.fd_AmongTerm___init__ ["self", "inner", "others"] (spN (S A) 3 (ev 0 62)) :=
  T.F_AmongTerm___init__.ok sc_AmongTerm___init__ (fun vs H Q E h => (spN_no ev0 h).elim) (fun cdv Ar outer s H vs Q E hr h => (spN_no ev0 h).elim)
theorem st_AmongTerm___init__ (T : Txt w K mg A) {n : Nat} (ih : IH P w K mg base A n) : FnOk P w K mg base CX0 (2 * (n + 1) + 1) A.f_AmongTerm___init__ A.fd_AmongTerm___init__ ["self", "inner", "others"] (spN (S A) 3 (ev (n + 1) 62)) := by
  refine T.F_AmongTerm___init__.ok sc_AmongTerm___init__ (fun vs H Q E h => spN_len h) (fun cdv Ar outer s H vs Q E hr h => body_N (N := ["self", "inner", "others"]) (ev := b_AmongTerm___init__ (ev n)) ?_ rfl (by decide) h)
  exact (s_cons (s_fld oxc9e9a84892 txc9e9a84892 (fl_level T) (q_var (pv 0)) (q_c (pe_glob (v := .int 4) rfl T.g_TEST_LEVEL.choose_spec ⟨_, rfl⟩) fun _ _ => rfl) rfl)
 (s_cons (s_fld oxea97586b4a txea97586b4a (fl_inner T) (q_var (pv 0)) (q_var (pv 1)) rfl)
 (s_one (s_fld ox5e2bab0ecb tx5e2bab0ecb (fl_others T) (q_var (pv 0)) (q_callTy call_list_of (sc_list (sta T)) rfl T.b_list (by decide +kernel) (q_cons (q_var (pv 2)) q_nil)) rfl))))
theorem sc_NotTerm___init__ : FnScope ["self", "many", "inner"] ["self", "many", "inner"] (defScope (inClass (topS 66) 0)) := ⟨rfl, rfl, rfl, by decide +kernel, rfl, by decide +kernel, by decide +kernel⟩
theorem z_NotTerm___init__ (T : Txt w K mg A) : FnOk P w K mg base CX0 1 A.f_NotTerm___init__ A.fd_NotTerm___init__ ["self", "many", "inner"] (spN (S A) 3 (ev 0 63)) :=
  T.F_NotTerm___init__.ok sc_NotTerm___init__ (fun vs H Q E h => (spN_no ev0 h).elim) (fun cdv Ar outer s H vs Q E hr h => (spN_no ev0 h).elim)
theorem st_NotTerm___init__ (T : Txt w K mg A) {n : Nat} (ih : IH P w K mg base A n) : FnOk P w K mg base CX0 (2 * (n + 1) + 1) A.f_NotTerm___init__ A.fd_NotTerm___init__ ["self", "many", "inner"] (spN (S A) 3 (ev (n + 1) 63)) := by
  refine T.F_NotTerm___init__.ok sc_NotTerm___init__ (fun vs H Q E h => spN_len h) (fun cdv Ar outer s H vs Q E hr h => body_N (N := ["self", "many", "inner"]) (ev := b_NotTerm___init__ (ev n)) ?_ rfl (by decide) h)
  exact (s_cons (s_fld oxc9e9a84892 txc9e9a84892 (fl_level T) (q_var (pv 0)) (q_c (pe_glob (v := .int 3) rfl T.g_NOT_LEVEL.choose_spec ⟨_, rfl⟩) fun _ _ => rfl) rfl)
 (s_cons (s_fld ox8cd283d8b7 tx8cd283d8b7 (fl_many T) (q_var (pv 0)) (q_var (pv 1)) rfl)
 (s_one (s_fld oxea97586b4a txea97586b4a (fl_inner T) (q_var (pv 0)) (q_var (pv 2)) rfl))))
theorem sc_MinusTerm___init__ : FnScope ["self", "many", "inner"] ["self", "many", "inner"] (defScope (inClass (topS 67) 0)) := ⟨rfl, rfl, rfl, by decide +kernel, rfl, by decide +kernel, by decide +kernel⟩
theorem z_MinusTerm___init__ (T : Txt w K mg A) : FnOk P w K mg base CX0 1 A.f_MinusTerm___init__ A.fd_MinusTerm___init__ ["self", "many", "inner"] (spN (S A) 3 (ev 0 64)) :=
  T.F_MinusTerm___init__.ok sc_MinusTerm___init__ (fun vs H Q E h => (spN_no ev0 h).elim) (fun cdv Ar outer s H vs Q E hr h => (spN_no ev0 h).elim)
theorem st_MinusTerm___init__ (T : Txt w K mg A) {n : Nat} (ih : IH P w K mg base A n) : FnOk P w K mg base CX0 (2 * (n + 1) + 1) A.f_MinusTerm___init__ A.fd_MinusTerm___init__ ["self", "many", "inner"] (spN (S A) 3 (ev (n + 1) 64)) := by
  refine T.F_MinusTerm___init__.ok sc_MinusTerm___init__ (fun vs H Q E h => spN_len h) (fun cdv Ar outer s H vs Q E hr h => body_N (N := ["self", "many", "inner"]) (ev := b_MinusTerm___init__ (ev n)) ?_ rfl (by decide) h)
  exact (s_cons (s_fld oxc9e9a84892 txc9e9a84892 (fl_level T) (q_var (pv 0)) (q_c (pe_glob (v := .int 7) rfl T.g_MINUS_LEVEL.choose_spec ⟨_, rfl⟩) fun _ _ => rfl) rfl)
 (s_cons (s_fld ox8cd283d8b7 tx8cd283d8b7 (fl_many T) (q_var (pv 0)) (q_var (pv 1)) rfl)
 (s_one (s_fld oxea97586b4a txea97586b4a (fl_inner T) (q_var (pv 0)) (q_var (pv 2)) rfl))))
theorem sc_QueryState___init__ : FnScope ["self", "schema", "reader"] ["self", "schema", "reader"] (defScope (inClass (topS 70) 0)) := ⟨rfl, rfl, rfl, by decide +kernel, rfl, by decide +kernel, by decide +kernel⟩
theorem z_QueryState___init__ (T : Txt w K mg A) : FnOk P w K mg base CX0 1 A.f_QueryState___init__ A.fd_QueryState___init__ ["self", "schema", "reader"] (spN (S A) 3 (ev 0 65)) :=
  T.F_QueryState___init__.ok sc_QueryState___init__ (fun vs H Q E h => (spN_no ev0 h).elim) (fun cdv Ar outer s H vs Q E hr h => (spN_no ev0 h).elim)
theorem st_QueryState___init__ (T : Txt w K mg A) {n : Nat} (ih : IH P w K mg base A n) : FnOk P w K mg base CX0 (2 * (n + 1) + 1) A.f_QueryState___init__ A.fd_QueryState___init__ ["self", "schema", "reader"] (spN (S A) 3 (ev (n + 1) 65)) := by
  refine T.F_QueryState___init__.ok sc_QueryState___init__ (fun vs H Q E h => spN_len h) (fun cdv Ar outer s H vs Q E hr h => body_N (N := ["self", "schema", "reader"]) (ev := b_QueryState___init__ (ev n)) ?_ rfl (by decide) h)
  exact (s_cons (s_fld oxc9550d5fad txc9550d5fad (fl_schema T) (q_var (pv 0)) (q_var (pv 1)) rfl)
 (s_cons (s_fld ox1de9b0a300 tx1de9b0a300 (fl_reader T) (q_var (pv 0)) (q_var (pv 2)) rfl)
 (s_cons (s_fld ox7c49b153d4 tx7c49b153d4 (fl_origin T) (q_var (pv 0)) (q_c pe_non fun _ _ => rfl) rfl)
 (s_cons (s_fld oxa8998c31a1 txa8998c31a1 (fl_names T) (q_var (pv 0)) q_dnew rfl)
 (s_cons (s_fld ox1471e4e05a tx1471e4e05a (fl_groups T) (q_var (pv 0)) (q_c pe_non fun _ _ => rfl) rfl)
 (s_one (s_fld ox12a055bf01 tx12a055bf01 (fl_depth T) (q_var (pv 0)) (q_c pe_int fun _ _ => rfl) rfl)))))))
theorem sc_QueryState_enter : FnScope ["self", "token"] ["self", "token"] (defScope (inClass (topS 70) 1)) := ⟨rfl, rfl, rfl, by decide +kernel, rfl, by decide +kernel, by decide +kernel⟩
theorem z_QueryState_enter (T : Txt w K mg A) : FnOk P w K mg base (L2.CX P w) 1 A.f_QueryState_enter A.fd_QueryState_enter ["self", "token"] (spE (S A) 2 (ev 0 66)) :=
  T.F_QueryState_enter.okX sc_QueryState_enter (fun vs H Q E h => (spE_no ev0 h).elim) (fun cdv Ar outer s H vs Q E hr h => (spE_no ev0 h).elim)
theorem st_QueryState_enter (T : Txt w K mg A) {n : Nat} (ih : IH P w K mg base A n) : FnOk P w K mg base (L2.CX P w) (2 * (n + 1) + 1) A.f_QueryState_enter A.fd_QueryState_enter ["self", "token"] (spE (S A) 2 (ev (n + 1) 66)) := by
  refine T.F_QueryState_enter.okX sc_QueryState_enter (fun vs H Q E h => spE_len h) (fun cdv Ar outer s H vs Q E hr h => body_E (N := ["self", "token"]) (ev := b_QueryState_enter (ev n)) ?_ rfl (by decide) h)
  exact (s_cons (s_if (q_cmpT op_eq so_eq (q_fld ox12a055bf01 tx12a055bf01 (fl_depth T) (q_var (pv 0)) rfl) (q_c (pe_glob (v := .int 6) rfl T.g_DEEPEST.choose_spec ⟨_, rfl⟩) fun _ _ => rfl) (nomark _))
 (s_one (s_raise (S := S A) (ps_raise rfl (takes_of rfl rfl rfl rfl) (pmk_oex T.oex T.ic_Fault T.ti_Fault (ok_Fault___init__ T) (hr.mono (by omega)) T.b_Fault___init__ .nil pass0 (by rfl) T.g_Fault (q_cons (q_fld oxebed715e82 txebed715e82 (fl_place T) (q_var (pv 1)) rfl) (q_cons (q_str tx8b5376a2ac ox8b5376a2ac) q_nil))))))
 s_nil)
 (s_one (s_fldA ox12a055bf01 tx12a055bf01 (fl_depth T) in_add so_addF (q_var (pv 0)) (q_c pe_int fun _ _ => rfl))))
theorem sc_QueryState_leave : FnScope ["self"] ["self"] (defScope (inClass (topS 70) 2)) := ⟨rfl, rfl, rfl, by decide +kernel, rfl, by decide +kernel, by decide +kernel⟩
theorem z_QueryState_leave (T : Txt w K mg A) : FnOk P w K mg base CX0 1 A.f_QueryState_leave A.fd_QueryState_leave ["self"] (spN (S A) 1 (ev 0 67)) :=
  T.F_QueryState_leave.ok sc_QueryState_leave (fun vs H Q E h => (spN_no ev0 h).elim) (fun cdv Ar outer s H vs Q E hr h => (spN_no ev0 h).elim)
theorem st_QueryState_leave (T : Txt w K mg A) {n : Nat} (ih : IH P w K mg base A n) : FnOk P w K mg base CX0 (2 * (n + 1) + 1) A.f_QueryState_leave A.fd_QueryState_leave ["self"] (spN (S A) 1 (ev (n + 1) 67)) := by
  refine T.F_QueryState_leave.ok sc_QueryState_leave (fun vs H Q E h => spN_len h) (fun cdv Ar outer s H vs Q E hr h => body_N (N := ["self"]) (ev := b_QueryState_leave (ev n)) ?_ rfl (by decide) h)
  exact (s_one (s_fldA ox12a055bf01 tx12a055bf01 (fl_depth T) in_sub so_subF (q_var (pv 0)) (q_c pe_int fun _ _ => rfl)))
theorem sc_QueryState_small_name : FnScope ["self"] ["self"] (defScope (inClass (topS 70) 3)) := ⟨rfl, rfl, rfl, by decide +kernel, rfl, by decide +kernel, by decide +kernel⟩
theorem z_QueryState_small_name (T : Txt w K mg A) : FnOk P w K mg base (L2.CX P w) 1 A.f_QueryState_small_name A.fd_QueryState_small_name ["self"] (spE (S A) 1 (ev 0 68)) :=
  T.F_QueryState_small_name.okX sc_QueryState_small_name (fun vs H Q E h => (spE_no ev0 h).elim) (fun cdv Ar outer s H vs Q E hr h => (spE_no ev0 h).elim)
theorem st_QueryState_small_name (T : Txt w K mg A) {n : Nat} (ih : IH P w K mg base A n) : FnOk P w K mg base (L2.CX P w) (2 * (n + 1) + 1) A.f_QueryState_small_name A.fd_QueryState_small_name ["self"] (spE (S A) 1 (ev (n + 1) 68)) := by
  refine T.F_QueryState_small_name.okX sc_QueryState_small_name (fun vs H Q E h => spE_len h) (fun cdv Ar outer s H vs Q E hr h => body_E (N := ["self"]) (ev := b_QueryState_small_name (ev n)) ?_ rfl (by decide) h)
  exact (s_one (s_ret (q_meth (tb := [(24, 93)]) (sps := fun j => spE (S A) 2 (ev n j)) ox9b258b75cb tx9b258b75cb (fun j => prm_E (C := ev n) (i := j) (n := 2)) (q_fld ox1de9b0a300 tx1de9b0a300 (fl_reader T) (q_var (pv 0)) rfl) ⟨⟨T.cl_TokenReader, T.me_TokenReader_small_name, _, _, ih.ok_TokenReader_small_name, T.b_TokenReader_small_name⟩, trivial⟩ (hr.mono (by omega)) (passes_call (takes_of rfl rfl rfl rfl) (fun _ _ _ _ h => h)) (q_cons (q_str tx044d126c54 ox044d126c54) q_nil))))
theorem sc_QueryState_new_name : FnScope ["self", "name"] ["self"] (defScope (inClass (topS 70) 4)) := ⟨rfl, rfl, rfl, by decide +kernel, rfl, by decide +kernel, by decide +kernel⟩
theorem z_QueryState_new_name (T : Txt w K mg A) : FnOk P w K mg base (L2.CX P w) 1 A.f_QueryState_new_name A.fd_QueryState_new_name ["self"] (spE (S A) 1 (ev 0 69)) :=
  T.F_QueryState_new_name.okX sc_QueryState_new_name (fun vs H Q E h => (spE_no ev0 h).elim) (fun cdv Ar outer s H vs Q E hr h => (spE_no ev0 h).elim)
theorem st_QueryState_new_name (T : Txt w K mg A) {n : Nat} (ih : IH P w K mg base A n) : FnOk P w K mg base (L2.CX P w) (2 * (n + 1) + 1) A.f_QueryState_new_name A.fd_QueryState_new_name ["self"] (spE (S A) 1 (ev (n + 1) 69)) := by
  refine T.F_QueryState_new_name.okX sc_QueryState_new_name (fun vs H Q E h => spE_len h) (fun cdv Ar outer s H vs Q E hr h => body_E (N := ["self", "name"]) (ev := b_QueryState_new_name (ev n)) ?_ rfl (by decide) h)
  exact (s_cons (s_set (i := 1) sc_QueryState_new_name.nd rfl (.inl rfl) (q_meth0 (tb := [(22, 68)]) (sps := fun j => spE (S A) 1 (ev n j)) ox9b258b75cb tx9b258b75cb (fun j => prm_E (C := ev n) (i := j) (n := 1)) (q_var (pv 0)) ⟨⟨T.cl_QueryState, T.me_QueryState_small_name, _, _, ih.ok_QueryState_small_name, T.b_QueryState_small_name⟩, trivial⟩ (hr.mono (by omega)) (passes_call (takes_of rfl rfl rfl rfl) (fun _ _ _ _ h => h))))
 (s_cons (s_if (t_din (u1 hr) (q_fld ox1cb251ec0d tx1cb251ec0d (fl_text T) (q_var (pv 1)) rfl) (q_fld oxa8998c31a1 txa8998c31a1 (fl_names T) (q_var (pv 0)) rfl) (by rfl))
 (s_one (s_raise (S := S A) (ps_raise rfl (takes_of rfl rfl rfl rfl) (pmk_oex T.oex T.ic_Fault T.ti_Fault (ok_Fault___init__ T) (hr.mono (by omega)) T.b_Fault___init__ .nil pass0 (by rfl) T.g_Fault (q_cons (q_fld oxebed715e82 txebed715e82 (fl_place T) (q_var (pv 1)) rfl) (q_cons (q_str tx8c63ca1c0f ox8c63ca1c0f) q_nil))))))
 s_nil)
 (s_one (s_ret (q_fld ox1cb251ec0d tx1cb251ec0d (fl_text T) (q_var (pv 1)) rfl)))))
theorem sc_DrawnPath___init__ : FnScope ["self", "term", "place", "word", "kinds"] ["self", "term", "place", "word", "kinds"] (defScope (inClass (topS 71) 0)) := ⟨rfl, rfl, rfl, by decide +kernel, rfl, by decide +kernel, by decide +kernel⟩
theorem z_DrawnPath___init__ (T : Txt w K mg A) : FnOk P w K mg base CX0 1 A.f_DrawnPath___init__ A.fd_DrawnPath___init__ ["self", "term", "place", "word", "kinds"] (spN (S A) 5 (ev 0 70)) :=
  T.F_DrawnPath___init__.ok sc_DrawnPath___init__ (fun vs H Q E h => (spN_no ev0 h).elim) (fun cdv Ar outer s H vs Q E hr h => (spN_no ev0 h).elim)
theorem st_DrawnPath___init__ (T : Txt w K mg A) {n : Nat} (ih : IH P w K mg base A n) : FnOk P w K mg base CX0 (2 * (n + 1) + 1) A.f_DrawnPath___init__ A.fd_DrawnPath___init__ ["self", "term", "place", "word", "kinds"] (spN (S A) 5 (ev (n + 1) 70)) := by
  refine T.F_DrawnPath___init__.ok sc_DrawnPath___init__ (fun vs H Q E h => spN_len h) (fun cdv Ar outer s H vs Q E hr h => body_N (N := ["self", "term", "place", "word", "kinds"]) (ev := b_DrawnPath___init__ (ev n)) ?_ rfl (by decide) h)
  exact (s_cons (s_fld oxb4dad0fe5f txb4dad0fe5f (fl_term T) (q_var (pv 0)) (q_var (pv 1)) rfl)
 (s_cons (s_fld oxebed715e82 txebed715e82 (fl_place T) (q_var (pv 0)) (q_var (pv 2)) rfl)
 (s_cons (s_fld oxc47d187067 txc47d187067 (fl_word T) (q_var (pv 0)) (q_var (pv 3)) rfl)
 (s_one (s_fld ox3aecd46c86 tx3aecd46c86 (fl_kinds T) (q_var (pv 0)) (q_var (pv 4)) rfl)))))
theorem sc_read_path : FnScope ["state", "name", "word", "kinds", "fields", "field"] ["state"] (defScope (topS 72)) := ⟨rfl, rfl, rfl, by decide +kernel, rfl, by decide +kernel, by decide +kernel⟩
theorem z_read_path (T : Txt w K mg A) : FnOk P w K mg base (L2.CX P w) 1 A.f_read_path A.fd_read_path ["state"] (spE (S A) 1 (ev 0 71)) :=
  T.F_read_path.okX sc_read_path (fun vs H Q E h => (spE_no ev0 h).elim) (fun cdv Ar outer s H vs Q E hr h => (spE_no ev0 h).elim)
theorem st_read_path (T : Txt w K mg A) {n : Nat} (ih : IH P w K mg base A n) : FnOk P w K mg base (L2.CX P w) (2 * (n + 1) + 1) A.f_read_path A.fd_read_path ["state"] (spE (S A) 1 (ev (n + 1) 71)) := by
  refine T.F_read_path.okX sc_read_path (fun vs H Q E h => spE_len h) (fun cdv Ar outer s H vs Q E hr h => body_E (N := ["state", "name", "word", "kinds", "fields", "field"]) (ev := b_read_path (ev n)) ?_ rfl (by decide) h)
  exact (s_cons (s_set (i := 1) sc_read_path.nd rfl (.inl rfl) (q_meth0 (tb := [(22, 68)]) (sps := fun j => spE (S A) 1 (ev n j)) ox9b258b75cb tx9b258b75cb (fun j => prm_E (C := ev n) (i := j) (n := 1)) (q_var (pv 0)) ⟨⟨T.cl_QueryState, T.me_QueryState_small_name, _, _, ih.ok_QueryState_small_name, T.b_QueryState_small_name⟩, trivial⟩ (hr.mono (by omega)) (passes_call (takes_of rfl rfl rfl rfl) (fun _ _ _ _ h => h))))
 (s_cons (s_if (t_dnotin (u1 hr) (q_fld ox1cb251ec0d tx1cb251ec0d (fl_text T) (q_var (pv 1)) rfl) (q_fld oxa8998c31a1 txa8998c31a1 (fl_names T) (q_var (pv 0)) rfl) (by rfl))
 (s_one (s_raise (S := S A) (ps_raise rfl (takes_of rfl rfl rfl rfl) (pmk_oex T.oex T.ic_Fault T.ti_Fault (ok_Fault___init__ T) (hr.mono (by omega)) T.b_Fault___init__ .nil pass0 (by rfl) T.g_Fault (q_cons (q_fld oxebed715e82 txebed715e82 (fl_place T) (q_var (pv 1)) rfl) (q_cons (q_str txeb0694337e oxeb0694337e) q_nil))))))
 s_nil)
 (s_cons (s_set (i := 2) sc_read_path.nd rfl (.inl rfl) (q_c (pe_glob (v := .str "object") rfl T.g_OBJECT.choose_spec ⟨_, rfl⟩) fun _ _ => (relStr txa8cfde6331 oxa8cfde6331)))
 (s_cons (s_set (i := 3) sc_read_path.nd rfl (.inl rfl) (q_dget (u1 hr) (q_fld oxa8998c31a1 txa8998c31a1 (fl_names T) (q_var (pv 0)) rfl) (q_fld ox1cb251ec0d tx1cb251ec0d (fl_text T) (q_var (pv 1)) rfl) (fun _ _ => rfl)))
 (s_cons (s_set (i := 4) sc_read_path.nd rfl (.inl rfl) (q_lst q_nil))
 (s_cons (s_while 200 (passes_of rfl) (q_val (q_meth (tb := [(24, 85)]) (sps := fun j => spN (S A) 2 (ev n j)) ox9560f74c21 tx9560f74c21 (fun j => prm_N (C := ev n) (i := j) (n := 2)) (q_fld ox1de9b0a300 tx1de9b0a300 (fl_reader T) (q_var (pv 0)) rfl) ⟨⟨T.cl_TokenReader, T.me_TokenReader_passes, _, _, ih.ok_TokenReader_passes, T.b_TokenReader_passes⟩, trivial⟩ (hr.mono (by omega)) pass0 (q_cons (q_str tx5058f1af83 ox5058f1af83) q_nil)))
 (s_cons (s_set (i := 5) sc_read_path.nd rfl (.inl rfl) (q_meth0 (tb := [(24, 94)]) (sps := fun j => spE (S A) 1 (ev n j)) ox73f329f154 tx73f329f154 (fun j => prm_E (C := ev n) (i := j) (n := 1)) (q_fld ox1de9b0a300 tx1de9b0a300 (fl_reader T) (q_var (pv 0)) rfl) ⟨⟨T.cl_TokenReader, T.me_TokenReader_field_name, _, _, ih.ok_TokenReader_field_name, T.b_TokenReader_field_name⟩, trivial⟩ (hr.mono (by omega)) (passes_call (takes_of rfl rfl rfl rfl) (fun _ _ _ _ h => h))))
 (s_cons (s_asg (q_call (prm_E (C := ev n) (i := 72) (n := 4)) ih.ok_behind_point (hr.mono (by omega)) (by rfl) T.g_behind_point T.F_behind_point.kp T.b_behind_point (passes_call (takes_of rfl rfl rfl rfl) (fun _ _ _ _ h => h)) (q_cons (q_fld oxc9550d5fad txc9550d5fad (fl_schema T) (q_var (pv 0)) rfl) (q_cons (q_var (pv 2)) (q_cons (q_var (pv 3)) (q_cons (q_var (pv 5)) q_nil))))) (pg_tup rfl (pgs_cons (pg_name (i := 2) sc_read_path.nd rfl (.inl rfl)) (pgs_cons (pg_name (i := 3) sc_read_path.nd rfl (.inl rfl)) pgs_nil))) (g_tup (g_cons (g_name 2) (g_cons (g_name 3) g_nil))))
 (s_one (s_expr (q_bm PySem.F.plainAttrs_list PySem.F.slot_list_append PySem.F.type_list_append mt_append sm_app (q_var (pv 4)) (q_cons (q_fld ox1cb251ec0d tx1cb251ec0d (fl_text T) (q_var (pv 5)) rfl) q_nil)))))))
 (s_one (s_ret (q_make (ci := 23) (dcs := []) (fun _ _ => .nil) (prm_N (C := ev n) (i := 70) (n := 5)) T.mk_DrawnPath ih.ok_DrawnPath___init__ (hr.mono (by omega)) (by rfl) T.g_DrawnPath T.b_DrawnPath___init__ .nil pass0 (q_cons (q_make (ci := 11) (dcs := []) (fun _ _ => .nil) (prm_N (C := ev n) (i := 54) (n := 3)) T.mk_PathTerm ih.ok_PathTerm___init__ (hr.mono (by omega)) (by rfl) T.g_PathTerm T.b_PathTerm___init__ .nil pass0 (q_cons (q_fld ox1cb251ec0d tx1cb251ec0d (fl_text T) (q_var (pv 1)) rfl) (q_cons (q_var (pv 4)) q_nil))) (q_cons (q_fld oxebed715e82 txebed715e82 (fl_place T) (q_var (pv 1)) rfl) (q_cons (q_var (pv 2)) (q_cons (q_var (pv 3)) q_nil)))))))))))))
theorem sc_behind_point : FnScope ["schema", "word", "kinds", "field", "found", "shapes", "sorts", "kind", "one", "shape", "other"] ["schema", "word", "kinds", "field"] (defScope (topS 73)) := ⟨rfl, rfl, rfl, by decide +kernel, rfl, by decide +kernel, by decide +kernel⟩
theorem z_behind_point (T : Txt w K mg A) : FnOk P w K mg base (L2.CX P w) 1 A.f_behind_point A.fd_behind_point ["schema", "word", "kinds", "field"] (spE (S A) 4 (ev 0 72)) :=
  T.F_behind_point.okX sc_behind_point (fun vs H Q E h => (spE_no ev0 h).elim) (fun cdv Ar outer s H vs Q E hr h => (spE_no ev0 h).elim)
theorem st_behind_point (T : Txt w K mg A) {n : Nat} (ih : IH P w K mg base A n) : FnOk P w K mg base (L2.CX P w) (2 * (n + 1) + 1) A.f_behind_point A.fd_behind_point ["schema", "word", "kinds", "field"] (spE (S A) 4 (ev (n + 1) 72)) := by
  refine T.F_behind_point.okX sc_behind_point (fun vs H Q E h => spE_len h) (fun cdv Ar outer s H vs Q E hr h => body_E (N := ["schema", "word", "kinds", "field", "found", "shapes", "sorts", "kind", "one", "shape", "other"]) (ev := b_behind_point (ev n)) ?_ rfl (by decide) h)
  exact (s_cons (s_if (q_cmpT op_eq so_eq (q_var (pv 1)) (q_c (pe_glob (v := .str "list") rfl T.g_LIST.choose_spec ⟨_, rfl⟩) fun _ _ => (relStr tx10ae9fc7d4 ox10ae9fc7d4)) (nomark _))
 (s_one (s_raise (S := S A) (ps_raise rfl (takes_of rfl rfl rfl rfl) (pmk_oex T.oex T.ic_Fault T.ti_Fault (ok_Fault___init__ T) (hr.mono (by omega)) T.b_Fault___init__ .nil pass0 (by rfl) T.g_Fault (q_cons (q_fld oxebed715e82 txebed715e82 (fl_place T) (q_var (pv 3)) rfl) (q_cons (q_str tx1bd9c49214 ox1bd9c49214) q_nil))))))
 s_nil)
 (s_cons (s_if (q_cmpT op_ne so_ne (q_var (pv 1)) (q_c (pe_glob (v := .str "object") rfl T.g_OBJECT.choose_spec ⟨_, rfl⟩) fun _ _ => (relStr txa8cfde6331 oxa8cfde6331)) (nomark _))
 (s_one (s_raise (S := S A) (ps_raise rfl (takes_of rfl rfl rfl rfl) (pmk_oex T.oex T.ic_Fault T.ti_Fault (ok_Fault___init__ T) (hr.mono (by omega)) T.b_Fault___init__ .nil pass0 (by rfl) T.g_Fault (q_cons (q_fld oxebed715e82 txebed715e82 (fl_place T) (q_var (pv 3)) rfl) (q_cons (q_str txbf5a04e375 oxbf5a04e375) q_nil))))))
 s_nil)
 (s_cons (s_setLc (i := 4) (own := [("kind", 7)]) (vs := [7]) 200 (sta T) rfl sc_behind_point.nd rfl rfl (sw_true rfl rfl rfl (by decide +kernel)) (q_var (pv 2)) (blkOk_by (own := [("kind", 7)]) (N := ["schema", "word", "kinds", "field", "found", "shapes", "sorts", "kind", "one", "shape", "other"]) (sc := defScope (topS 73)) (by decide +kernel)) rfl (fun _ _ _ _ _ => (pg_name (i := 7) sc_behind_point.nd rfl (Or.inl rfl))) (g_name 7) (by decide) (fun _ _ _ _ _ => pts_nil) snd_yes (fun _ _ _ _ _ => by exact (q_meth (tb := [(31, 145)]) (sps := fun j => spN (S A) 3 (ev n j)) ox9b271d894e tx9b271d894e (fun j => prm_N (C := ev n) (i := j) (n := 3)) (q_var (pv 0)) ⟨⟨T.cl_Schema, T.me_Schema_field_of, _, _, ih.ok_Schema_field_of, T.b_Schema_field_of⟩, trivial⟩ (hr.mono (by omega)) pass0 (q_cons (q_var (pv 7)) (q_cons (q_fld ox1cb251ec0d tx1cb251ec0d (fl_text T) (q_var (pv 3)) rfl) q_nil)))))
 (s_cons (s_if (q_cmpT (op_noneIn (u64 hr)) (so_inN (nek T) false) (q_c pe_non fun _ _ => rfl) (q_var (pv 4)) (by rfl))
 (s_one (s_raise (S := S A) (ps_raise rfl (takes_of rfl rfl rfl rfl) (pmk_oex T.oex T.ic_Fault T.ti_Fault (ok_Fault___init__ T) (hr.mono (by omega)) T.b_Fault___init__ .nil pass0 (by rfl) T.g_Fault (q_cons (q_fld oxebed715e82 txebed715e82 (fl_place T) (q_var (pv 3)) rfl) (q_cons (q_str txef99bdb132 oxef99bdb132) q_nil))))))
 s_nil)
 (s_cons (s_setLc (i := 5) (own := [("one", 8)]) (vs := [8]) 200 (sta T) rfl sc_behind_point.nd rfl rfl (sw_true rfl rfl rfl (by decide +kernel)) (q_var (pv 4)) (blkOk_by (own := [("one", 8)]) (N := ["schema", "word", "kinds", "field", "found", "shapes", "sorts", "kind", "one", "shape", "other"]) (sc := defScope (topS 73)) (by decide +kernel)) rfl (fun _ _ _ _ _ => (pg_name (i := 8) sc_behind_point.nd rfl (Or.inl rfl))) (g_name 8) (by decide) (fun _ _ _ _ _ => pts_nil) snd_yes (fun _ _ _ _ _ => by exact (q_fld ox8c73a98a30 tx8c73a98a30 (fl_shape T) (q_var (pv 8)) rfl)))
 (s_cons (s_set (i := 6) sc_behind_point.nd rfl (.inr rfl) (q_lc (own := [("shape", 9)]) (vs := [9]) 200 (sta T) rfl sc_behind_point.nd (q_var (pv 5)) (blkOk_by (own := [("shape", 9)]) (N := ["schema", "word", "kinds", "field", "found", "shapes", "sorts", "kind", "one", "shape", "other"]) (sc := defScope (topS 73)) (by decide +kernel)) rfl (fun _ _ _ _ _ => (pg_name (i := 9) sc_behind_point.nd rfl (Or.inl rfl))) (g_name 9) (by decide) (fun _ _ _ _ _ => pts_nil) snd_yes (fun _ _ _ _ _ => by exact (q_call (prm_N (C := ev n) (i := 47) (n := 1)) ih.ok_sort_of_shape (hr.mono (by omega)) (by rfl) T.g_sort_of_shape T.F_sort_of_shape.kp T.b_sort_of_shape pass0 (q_cons (q_var (pv 9)) q_nil)))))
 (s_cons (s_if (q_val (q_callB (cr_any rfl) sc_any rfl T.b_any (by decide +kernel) (q_cons (q_lc (own := [("other", 10)]) (vs := [10]) 200 (sta T) rfl sc_behind_point.nd (q_var (pv 6)) (blkOk_by (own := [("other", 10)]) (N := ["schema", "word", "kinds", "field", "found", "shapes", "sorts", "kind", "one", "shape", "other"]) (sc := defScope (topS 73)) (by decide +kernel)) rfl (fun _ _ _ _ _ => (pg_name (i := 10) sc_behind_point.nd rfl (Or.inl rfl))) (g_name 10) (by decide) (fun _ _ _ _ _ => pts_nil) snd_yes (fun _ _ _ _ _ => by exact (q_cmp op_ne so_ne (q_var (pv 10)) (q_ix ix_seq (so_ix (sta T)) (q_var (pv 6)) (q_c pe_int fun _ _ => rfl) (fun _ _ => rfl)) (nomark _)))) q_nil)))
 (s_one (s_raise (S := S A) (ps_raise rfl (takes_of rfl rfl rfl rfl) (pmk_oex T.oex T.ic_Fault T.ti_Fault (ok_Fault___init__ T) (hr.mono (by omega)) T.b_Fault___init__ .nil pass0 (by rfl) T.g_Fault (q_cons (q_fld oxebed715e82 txebed715e82 (fl_place T) (q_var (pv 3)) rfl) (q_cons (q_str txe363007e3a oxe363007e3a) q_nil))))))
 s_nil)
 (s_cons (s_if (q_pt (q_wor (q_cmpT op_eq so_eq (q_ix ix_seq (so_ix (sta T)) (q_var (pv 6)) (q_c pe_int fun _ _ => rfl) (fun _ _ => rfl)) (q_c (pe_glob (v := .str "object") rfl T.g_OBJECT.choose_spec ⟨_, rfl⟩) fun _ _ => (relStr txa8cfde6331 oxa8cfde6331)) (nomark _)) (q_wor1 (q_cmpT op_eq so_eq (q_ix ix_seq (so_ix (sta T)) (q_var (pv 6)) (q_c pe_int fun _ _ => rfl) (fun _ _ => rfl)) (q_c (pe_glob (v := .str "list") rfl T.g_LIST.choose_spec ⟨_, rfl⟩) fun _ _ => (relStr tx10ae9fc7d4 ox10ae9fc7d4)) (nomark _)))))
 (s_one (s_ret (q_tup (q_cons (q_ix ix_seq (so_ix (sta T)) (q_var (pv 6)) (q_c pe_int fun _ _ => rfl) (fun _ _ => rfl)) (q_cons (q_call (prm_N (C := ev n) (i := 48) (n := 1)) ih.ok_kinds_of_shapes (hr.mono (by omega)) (by rfl) T.g_kinds_of_shapes T.F_kinds_of_shapes.kp T.b_kinds_of_shapes pass0 (q_cons (q_var (pv 5)) q_nil)) q_nil)))))
 s_nil)
 (s_one (s_ret (q_tup (q_cons (q_ix ix_seq (so_ix (sta T)) (q_var (pv 6)) (q_c pe_int fun _ _ => rfl) (fun _ _ => rfl)) (q_cons (q_lst q_nil) q_nil)))))))))))))
theorem sc_read_plain_path : FnScope ["state", "path"] ["state"] (defScope (topS 74)) := ⟨rfl, rfl, rfl, by decide +kernel, rfl, by decide +kernel, by decide +kernel⟩
theorem z_read_plain_path (T : Txt w K mg A) : FnOk P w K mg base (L2.CX P w) 1 A.f_read_plain_path A.fd_read_plain_path ["state"] (spE (S A) 1 (ev 0 73)) :=
  T.F_read_plain_path.okX sc_read_plain_path (fun vs H Q E h => (spE_no ev0 h).elim) (fun cdv Ar outer s H vs Q E hr h => (spE_no ev0 h).elim)
theorem st_read_plain_path (T : Txt w K mg A) {n : Nat} (ih : IH P w K mg base A n) : FnOk P w K mg base (L2.CX P w) (2 * (n + 1) + 1) A.f_read_plain_path A.fd_read_plain_path ["state"] (spE (S A) 1 (ev (n + 1) 73)) := by
  refine T.F_read_plain_path.okX sc_read_plain_path (fun vs H Q E h => spE_len h) (fun cdv Ar outer s H vs Q E hr h => body_E (N := ["state", "path"]) (ev := b_read_plain_path (ev n)) ?_ rfl (by decide) h)
  exact (s_cons (s_set (i := 1) sc_read_plain_path.nd rfl (.inl rfl) (q_call (prm_E (C := ev n) (i := 71) (n := 1)) ih.ok_read_path (hr.mono (by omega)) (by rfl) T.g_read_path T.F_read_path.kp T.b_read_path (passes_call (takes_of rfl rfl rfl rfl) (fun _ _ _ _ h => h)) (q_cons (q_var (pv 0)) q_nil)))
 (s_cons (s_expr (q_call (prm_E (C := ev n) (i := 77) (n := 2)) ih.ok_check_group (hr.mono (by omega)) (by rfl) T.g_check_group T.F_check_group.kp T.b_check_group (passes_call (takes_of rfl rfl rfl rfl) (fun _ _ _ _ h => h)) (q_cons (q_var (pv 0)) (q_cons (q_var (pv 1)) q_nil))))
 (s_one (s_ret (q_call (prm_E (C := ev n) (i := 76) (n := 1)) ih.ok_refuse_list (hr.mono (by omega)) (by rfl) T.g_refuse_list T.F_refuse_list.kp T.b_refuse_list (passes_call (takes_of rfl rfl rfl rfl) (fun _ _ _ _ h => h)) (q_cons (q_var (pv 1)) q_nil))))))
theorem sc_read_list_path : FnScope ["state", "path"] ["state"] (defScope (topS 75)) := ⟨rfl, rfl, rfl, by decide +kernel, rfl, by decide +kernel, by decide +kernel⟩
theorem z_read_list_path (T : Txt w K mg A) : FnOk P w K mg base (L2.CX P w) 1 A.f_read_list_path A.fd_read_list_path ["state"] (spE (S A) 1 (ev 0 74)) :=
  T.F_read_list_path.okX sc_read_list_path (fun vs H Q E h => (spE_no ev0 h).elim) (fun cdv Ar outer s H vs Q E hr h => (spE_no ev0 h).elim)
theorem st_read_list_path (T : Txt w K mg A) {n : Nat} (ih : IH P w K mg base A n) : FnOk P w K mg base (L2.CX P w) (2 * (n + 1) + 1) A.f_read_list_path A.fd_read_list_path ["state"] (spE (S A) 1 (ev (n + 1) 74)) := by
  refine T.F_read_list_path.okX sc_read_list_path (fun vs H Q E h => spE_len h) (fun cdv Ar outer s H vs Q E hr h => body_E (N := ["state", "path"]) (ev := b_read_list_path (ev n)) ?_ rfl (by decide) h)
  exact (s_cons (s_set (i := 1) sc_read_list_path.nd rfl (.inl rfl) (q_call (prm_E (C := ev n) (i := 71) (n := 1)) ih.ok_read_path (hr.mono (by omega)) (by rfl) T.g_read_path T.F_read_path.kp T.b_read_path (passes_call (takes_of rfl rfl rfl rfl) (fun _ _ _ _ h => h)) (q_cons (q_var (pv 0)) q_nil)))
 (s_cons (s_expr (q_call (prm_E (C := ev n) (i := 77) (n := 2)) ih.ok_check_group (hr.mono (by omega)) (by rfl) T.g_check_group T.F_check_group.kp T.b_check_group (passes_call (takes_of rfl rfl rfl rfl) (fun _ _ _ _ h => h)) (q_cons (q_var (pv 0)) (q_cons (q_var (pv 1)) q_nil))))
 (s_cons (s_if (q_cmpT op_ne so_ne (q_fld oxc47d187067 txc47d187067 (fl_word T) (q_var (pv 1)) rfl) (q_c (pe_glob (v := .str "list") rfl T.g_LIST.choose_spec ⟨_, rfl⟩) fun _ _ => (relStr tx10ae9fc7d4 ox10ae9fc7d4)) (nomark _))
 (s_one (s_raise (S := S A) (ps_raise rfl (takes_of rfl rfl rfl rfl) (pmk_oex T.oex T.ic_Fault T.ti_Fault (ok_Fault___init__ T) (hr.mono (by omega)) T.b_Fault___init__ .nil pass0 (by rfl) T.g_Fault (q_cons (q_fld oxebed715e82 txebed715e82 (fl_place T) (q_var (pv 1)) rfl) (q_cons (q_str txee1674d734 oxee1674d734) q_nil))))))
 s_nil)
 (s_one (s_ret (q_var (pv 1)))))))
theorem sc_read_total_path : FnScope ["state"] ["state"] (defScope (topS 76)) := ⟨rfl, rfl, rfl, by decide +kernel, rfl, by decide +kernel, by decide +kernel⟩
theorem z_read_total_path (T : Txt w K mg A) : FnOk P w K mg base (L2.CX P w) 1 A.f_read_total_path A.fd_read_total_path ["state"] (spE (S A) 1 (ev 0 75)) :=
  T.F_read_total_path.okX sc_read_total_path (fun vs H Q E h => (spE_no ev0 h).elim) (fun cdv Ar outer s H vs Q E hr h => (spE_no ev0 h).elim)
theorem st_read_total_path (T : Txt w K mg A) {n : Nat} (ih : IH P w K mg base A n) : FnOk P w K mg base (L2.CX P w) (2 * (n + 1) + 1) A.f_read_total_path A.fd_read_total_path ["state"] (spE (S A) 1 (ev (n + 1) 75)) := by
  refine T.F_read_total_path.okX sc_read_total_path (fun vs H Q E h => spE_len h) (fun cdv Ar outer s H vs Q E hr h => body_E (N := ["state"]) (ev := b_read_total_path (ev n)) ?_ rfl (by decide) h)
  exact (s_one (s_ret (q_call (prm_E (C := ev n) (i := 76) (n := 1)) ih.ok_refuse_list (hr.mono (by omega)) (by rfl) T.g_refuse_list T.F_refuse_list.kp T.b_refuse_list (passes_call (takes_of rfl rfl rfl rfl) (fun _ _ _ _ h => h)) (q_cons (q_call (prm_E (C := ev n) (i := 71) (n := 1)) ih.ok_read_path (hr.mono (by omega)) (by rfl) T.g_read_path T.F_read_path.kp T.b_read_path (passes_call (takes_of rfl rfl rfl rfl) (fun _ _ _ _ h => h)) (q_cons (q_var (pv 0)) q_nil)) q_nil))))
theorem sc_refuse_list : FnScope ["path"] ["path"] (defScope (topS 77)) := ⟨rfl, rfl, rfl, by decide +kernel, rfl, by decide +kernel, by decide +kernel⟩
theorem z_refuse_list (T : Txt w K mg A) : FnOk P w K mg base (L2.CX P w) 1 A.f_refuse_list A.fd_refuse_list ["path"] (spE (S A) 1 (ev 0 76)) :=
  T.F_refuse_list.okX sc_refuse_list (fun vs H Q E h => (spE_no ev0 h).elim) (fun cdv Ar outer s H vs Q E hr h => (spE_no ev0 h).elim)
theorem st_refuse_list (T : Txt w K mg A) {n : Nat} (ih : IH P w K mg base A n) : FnOk P w K mg base (L2.CX P w) (2 * (n + 1) + 1) A.f_refuse_list A.fd_refuse_list ["path"] (spE (S A) 1 (ev (n + 1) 76)) := by
  refine T.F_refuse_list.okX sc_refuse_list (fun vs H Q E h => spE_len h) (fun cdv Ar outer s H vs Q E hr h => body_E (N := ["path"]) (ev := b_refuse_list (ev n)) ?_ rfl (by decide) h)
  exact (s_cons (s_if (q_cmpT op_eq so_eq (q_fld oxc47d187067 txc47d187067 (fl_word T) (q_var (pv 0)) rfl) (q_c (pe_glob (v := .str "list") rfl T.g_LIST.choose_spec ⟨_, rfl⟩) fun _ _ => (relStr tx10ae9fc7d4 ox10ae9fc7d4)) (nomark _))
 (s_one (s_raise (S := S A) (ps_raise rfl (takes_of rfl rfl rfl rfl) (pmk_oex T.oex T.ic_Fault T.ti_Fault (ok_Fault___init__ T) (hr.mono (by omega)) T.b_Fault___init__ .nil pass0 (by rfl) T.g_Fault (q_cons (q_fld oxebed715e82 txebed715e82 (fl_place T) (q_var (pv 0)) rfl) (q_cons (q_str tx1bd9c49214 ox1bd9c49214) q_nil))))))
 s_nil)
 (s_one (s_ret (q_var (pv 0)))))
theorem sc_check_group : FnScope ["state", "path"] ["state", "path"] (defScope (topS 78)) := ⟨rfl, rfl, rfl, by decide +kernel, rfl, by decide +kernel, by decide +kernel⟩
theorem z_check_group (T : Txt w K mg A) : FnOk P w K mg base (L2.CX P w) 1 A.f_check_group A.fd_check_group ["state", "path"] (spE (S A) 2 (ev 0 77)) :=
  T.F_check_group.okX sc_check_group (fun vs H Q E h => (spE_no ev0 h).elim) (fun cdv Ar outer s H vs Q E hr h => (spE_no ev0 h).elim)
theorem st_check_group (T : Txt w K mg A) {n : Nat} (ih : IH P w K mg base A n) : FnOk P w K mg base (L2.CX P w) (2 * (n + 1) + 1) A.f_check_group A.fd_check_group ["state", "path"] (spE (S A) 2 (ev (n + 1) 77)) := by
  refine T.F_check_group.okX sc_check_group (fun vs H Q E h => spE_len h) (fun cdv Ar outer s H vs Q E hr h => body_E (N := ["state", "path"]) (ev := b_check_group (ev n)) ?_ rfl (by decide) h)
  exact (s_cons (s_if (q_pt (q_wor (q_cmpT op_isN so_is (q_fld ox1471e4e05a tx1471e4e05a (fl_groups T) (q_var (pv 0)) rfl) (q_c pe_non fun _ _ => rfl) (nomark _)) (q_wor1 (q_cmpT op_ne so_ne (q_fld oxb068931cc4 txb068931cc4 (fl_name T) (q_fld oxb4dad0fe5f txb4dad0fe5f (fl_term T) (q_var (pv 1)) rfl) rfl) (q_fld ox7c49b153d4 tx7c49b153d4 (fl_origin T) (q_var (pv 0)) rfl) (nomark _)))))
 (s_one s_retN)
 s_nil)
 (s_one (s_if (q_cmpT (op_notInD (u65 hr)) (so_inD true) (q_fld oxd05b6ed7d2 txd05b6ed7d2 (fl_fields T) (q_fld oxb4dad0fe5f txb4dad0fe5f (fl_term T) (q_var (pv 1)) rfl) rfl) (q_fld ox1471e4e05a tx1471e4e05a (fl_groups T) (q_var (pv 0)) rfl) (by rfl))
 (s_one (s_raise (S := S A) (ps_raise rfl (takes_of rfl rfl rfl rfl) (pmk_oex T.oex T.ic_Fault T.ti_Fault (ok_Fault___init__ T) (hr.mono (by omega)) T.b_Fault___init__ .nil pass0 (by rfl) T.g_Fault (q_cons (q_fld oxebed715e82 txebed715e82 (fl_place T) (q_var (pv 1)) rfl) (q_cons (q_str tx9b5eeb1b2a ox9b5eeb1b2a) q_nil))))))
 s_nil)))
theorem sc_TokenReader___init__ : FnScope ["self", "row", "reserved"] ["self", "row", "reserved"] (defScope (inClass (topS 80) 0)) := ⟨rfl, rfl, rfl, by decide +kernel, rfl, by decide +kernel, by decide +kernel⟩
theorem z_TokenReader___init__ (T : Txt w K mg A) : FnOk P w K mg base CX0 1 A.f_TokenReader___init__ A.fd_TokenReader___init__ ["self", "row", "reserved"] (spN (S A) 3 (ev 0 78)) :=
  T.F_TokenReader___init__.ok sc_TokenReader___init__ (fun vs H Q E h => (spN_no ev0 h).elim) (fun cdv Ar outer s H vs Q E hr h => (spN_no ev0 h).elim)
theorem st_TokenReader___init__ (T : Txt w K mg A) {n : Nat} (ih : IH P w K mg base A n) : FnOk P w K mg base CX0 (2 * (n + 1) + 1) A.f_TokenReader___init__ A.fd_TokenReader___init__ ["self", "row", "reserved"] (spN (S A) 3 (ev (n + 1) 78)) := by
  refine T.F_TokenReader___init__.ok sc_TokenReader___init__ (fun vs H Q E h => spN_len h) (fun cdv Ar outer s H vs Q E hr h => body_N (N := ["self", "row", "reserved"]) (ev := b_TokenReader___init__ (ev n)) ?_ rfl (by decide) h)
  exact (s_cons (s_fld oxf1965a857b txf1965a857b (fl_row T) (q_var (pv 0)) (q_callTy call_list_of (sc_list (sta T)) rfl T.b_list (by decide +kernel) (q_cons (q_var (pv 1)) q_nil)) rfl)
 (s_cons (s_fld ox7f005c3fa6 tx7f005c3fa6 (fl_reserved T) (q_var (pv 0)) (q_var (pv 2)) rfl)
 (s_one (s_fld ox7d0db380a5 tx7d0db380a5 (fl_at T) (q_var (pv 0)) (q_c pe_int fun _ _ => rfl) rfl))))
theorem sc_TokenReader_here : FnScope ["self"] ["self"] (defScope (inClass (topS 80) 1)) := ⟨rfl, rfl, rfl, by decide +kernel, rfl, by decide +kernel, by decide +kernel⟩
theorem z_TokenReader_here (T : Txt w K mg A) : FnOk P w K mg base CX0 1 A.f_TokenReader_here A.fd_TokenReader_here ["self"] (spN (S A) 1 (ev 0 79)) :=
  T.F_TokenReader_here.ok sc_TokenReader_here (fun vs H Q E h => (spN_no ev0 h).elim) (fun cdv Ar outer s H vs Q E hr h => (spN_no ev0 h).elim)
theorem st_TokenReader_here (T : Txt w K mg A) {n : Nat} (ih : IH P w K mg base A n) : FnOk P w K mg base CX0 (2 * (n + 1) + 1) A.f_TokenReader_here A.fd_TokenReader_here ["self"] (spN (S A) 1 (ev (n + 1) 79)) := by
  refine T.F_TokenReader_here.ok sc_TokenReader_here (fun vs H Q E h => spN_len h) (fun cdv Ar outer s H vs Q E hr h => body_N (N := ["self"]) (ev := b_TokenReader_here (ev n)) ?_ rfl (by decide) h)
  exact (s_one (s_ret (q_ix ix_seq (so_ix (sta T)) (q_fld oxf1965a857b txf1965a857b (fl_row T) (q_var (pv 0)) rfl) (q_fld ox7d0db380a5 tx7d0db380a5 (fl_at T) (q_var (pv 0)) rfl) (fun _ _ => rfl))))
theorem sc_TokenReader_following : FnScope ["self"] ["self"] (defScope (inClass (topS 80) 2)) := ⟨rfl, rfl, rfl, by decide +kernel, rfl, by decide +kernel, by decide +kernel⟩
theorem z_TokenReader_following (T : Txt w K mg A) : FnOk P w K mg base CX0 1 A.f_TokenReader_following A.fd_TokenReader_following ["self"] (spN (S A) 1 (ev 0 80)) :=
  T.F_TokenReader_following.ok sc_TokenReader_following (fun vs H Q E h => (spN_no ev0 h).elim) (fun cdv Ar outer s H vs Q E hr h => (spN_no ev0 h).elim)
theorem st_TokenReader_following (T : Txt w K mg A) {n : Nat} (ih : IH P w K mg base A n) : FnOk P w K mg base CX0 (2 * (n + 1) + 1) A.f_TokenReader_following A.fd_TokenReader_following ["self"] (spN (S A) 1 (ev (n + 1) 80)) := by
  refine T.F_TokenReader_following.ok sc_TokenReader_following (fun vs H Q E h => spN_len h) (fun cdv Ar outer s H vs Q E hr h => body_N (N := ["self"]) (ev := b_TokenReader_following (ev n)) ?_ rfl (by decide) h)
  exact (s_one (s_ret (q_if (q_val (q_meth0 (tb := [(24, 82)]) (sps := fun j => spN (S A) 1 (ev n j)) oxc4c63c1d55 txc4c63c1d55 (fun j => prm_N (C := ev n) (i := j) (n := 1)) (q_var (pv 0)) ⟨⟨T.cl_TokenReader, T.me_TokenReader_at_end, _, _, ih.ok_TokenReader_at_end, T.b_TokenReader_at_end⟩, trivial⟩ (hr.mono (by omega)) pass0)) (q_meth0 (tb := [(24, 79)]) (sps := fun j => spN (S A) 1 (ev n j)) ox6c92285fa6 tx6c92285fa6 (fun j => prm_N (C := ev n) (i := j) (n := 1)) (q_var (pv 0)) ⟨⟨T.cl_TokenReader, T.me_TokenReader_here, _, _, ih.ok_TokenReader_here, T.b_TokenReader_here⟩, trivial⟩ (hr.mono (by omega)) pass0) (q_ix ix_seq (so_ix (sta T)) (q_fld oxf1965a857b txf1965a857b (fl_row T) (q_var (pv 0)) rfl) (q_op (opOr op_add (opOr op_add_str op_cat)) so_add (q_fld ox7d0db380a5 tx7d0db380a5 (fl_at T) (q_var (pv 0)) rfl) (q_c pe_int fun _ _ => rfl)) (fun _ _ => rfl)))))
theorem sc_TokenReader_take : FnScope ["self", "token"] ["self"] (defScope (inClass (topS 80) 3)) := ⟨rfl, rfl, rfl, by decide +kernel, rfl, by decide +kernel, by decide +kernel⟩
theorem z_TokenReader_take (T : Txt w K mg A) : FnOk P w K mg base CX0 1 A.f_TokenReader_take A.fd_TokenReader_take ["self"] (spN (S A) 1 (ev 0 81)) :=
  T.F_TokenReader_take.ok sc_TokenReader_take (fun vs H Q E h => (spN_no ev0 h).elim) (fun cdv Ar outer s H vs Q E hr h => (spN_no ev0 h).elim)
theorem st_TokenReader_take (T : Txt w K mg A) {n : Nat} (ih : IH P w K mg base A n) : FnOk P w K mg base CX0 (2 * (n + 1) + 1) A.f_TokenReader_take A.fd_TokenReader_take ["self"] (spN (S A) 1 (ev (n + 1) 81)) := by
  refine T.F_TokenReader_take.ok sc_TokenReader_take (fun vs H Q E h => spN_len h) (fun cdv Ar outer s H vs Q E hr h => body_N (N := ["self", "token"]) (ev := b_TokenReader_take (ev n)) ?_ rfl (by decide) h)
  exact (s_cons (s_set (i := 1) sc_TokenReader_take.nd rfl (.inl rfl) (q_meth0 (tb := [(24, 79)]) (sps := fun j => spN (S A) 1 (ev n j)) ox6c92285fa6 tx6c92285fa6 (fun j => prm_N (C := ev n) (i := j) (n := 1)) (q_var (pv 0)) ⟨⟨T.cl_TokenReader, T.me_TokenReader_here, _, _, ih.ok_TokenReader_here, T.b_TokenReader_here⟩, trivial⟩ (hr.mono (by omega)) pass0))
 (s_cons (s_if (q_notT (q_val (q_meth0 (tb := [(24, 82)]) (sps := fun j => spN (S A) 1 (ev n j)) oxc4c63c1d55 txc4c63c1d55 (fun j => prm_N (C := ev n) (i := j) (n := 1)) (q_var (pv 0)) ⟨⟨T.cl_TokenReader, T.me_TokenReader_at_end, _, _, ih.ok_TokenReader_at_end, T.b_TokenReader_at_end⟩, trivial⟩ (hr.mono (by omega)) pass0)))
 (s_one (s_fldA ox7d0db380a5 tx7d0db380a5 (fl_at T) in_add so_addF (q_var (pv 0)) (q_c pe_int fun _ _ => rfl)))
 s_nil)
 (s_one (s_ret (q_var (pv 1))))))
theorem sc_TokenReader_at_end : FnScope ["self"] ["self"] (defScope (inClass (topS 80) 4)) := ⟨rfl, rfl, rfl, by decide +kernel, rfl, by decide +kernel, by decide +kernel⟩
theorem z_TokenReader_at_end (T : Txt w K mg A) : FnOk P w K mg base CX0 1 A.f_TokenReader_at_end A.fd_TokenReader_at_end ["self"] (spN (S A) 1 (ev 0 82)) :=
  T.F_TokenReader_at_end.ok sc_TokenReader_at_end (fun vs H Q E h => (spN_no ev0 h).elim) (fun cdv Ar outer s H vs Q E hr h => (spN_no ev0 h).elim)
theorem st_TokenReader_at_end (T : Txt w K mg A) {n : Nat} (ih : IH P w K mg base A n) : FnOk P w K mg base CX0 (2 * (n + 1) + 1) A.f_TokenReader_at_end A.fd_TokenReader_at_end ["self"] (spN (S A) 1 (ev (n + 1) 82)) := by
  refine T.F_TokenReader_at_end.ok sc_TokenReader_at_end (fun vs H Q E h => spN_len h) (fun cdv Ar outer s H vs Q E hr h => body_N (N := ["self"]) (ev := b_TokenReader_at_end (ev n)) ?_ rfl (by decide) h)
  exact (s_one (s_ret (q_cmp op_eq so_eq (q_fld ox29a7e96467 tx29a7e96467 (fl_role T) (q_meth0 (tb := [(24, 79)]) (sps := fun j => spN (S A) 1 (ev n j)) ox6c92285fa6 tx6c92285fa6 (fun j => prm_N (C := ev n) (i := j) (n := 1)) (q_var (pv 0)) ⟨⟨T.cl_TokenReader, T.me_TokenReader_here, _, _, ih.ok_TokenReader_here, T.b_TokenReader_here⟩, trivial⟩ (hr.mono (by omega)) pass0) rfl) (q_str tx7f021a1415 ox7f021a1415) (nomark _))))
theorem sc_TokenReader_stands : FnScope ["self", "text"] ["self", "text"] (defScope (inClass (topS 80) 5)) := ⟨rfl, rfl, rfl, by decide +kernel, rfl, by decide +kernel, by decide +kernel⟩
theorem z_TokenReader_stands (T : Txt w K mg A) : FnOk P w K mg base CX0 1 A.f_TokenReader_stands A.fd_TokenReader_stands ["self", "text"] (spN (S A) 2 (ev 0 83)) :=
  T.F_TokenReader_stands.ok sc_TokenReader_stands (fun vs H Q E h => (spN_no ev0 h).elim) (fun cdv Ar outer s H vs Q E hr h => (spN_no ev0 h).elim)
theorem st_TokenReader_stands (T : Txt w K mg A) {n : Nat} (ih : IH P w K mg base A n) : FnOk P w K mg base CX0 (2 * (n + 1) + 1) A.f_TokenReader_stands A.fd_TokenReader_stands ["self", "text"] (spN (S A) 2 (ev (n + 1) 83)) := by
  refine T.F_TokenReader_stands.ok sc_TokenReader_stands (fun vs H Q E h => spN_len h) (fun cdv Ar outer s H vs Q E hr h => body_N (N := ["self", "text"]) (ev := b_TokenReader_stands (ev n)) ?_ rfl (by decide) h)
  exact (s_one (s_ret (q_call (prm_N (C := ev n) (i := 95) (n := 2)) ih.ok_is_certain (hr.mono (by omega)) (by rfl) T.g_is_certain T.F_is_certain.kp T.b_is_certain pass0 (q_cons (q_meth0 (tb := [(24, 79)]) (sps := fun j => spN (S A) 1 (ev n j)) ox6c92285fa6 tx6c92285fa6 (fun j => prm_N (C := ev n) (i := j) (n := 1)) (q_var (pv 0)) ⟨⟨T.cl_TokenReader, T.me_TokenReader_here, _, _, ih.ok_TokenReader_here, T.b_TokenReader_here⟩, trivial⟩ (hr.mono (by omega)) pass0) (q_cons (q_var (pv 1)) q_nil)))))
theorem sc_TokenReader_stands_one : FnScope ["self", "texts", "text"] ["self", "texts"] (defScope (inClass (topS 80) 6)) := ⟨rfl, rfl, rfl, by decide +kernel, rfl, by decide +kernel, by decide +kernel⟩
theorem z_TokenReader_stands_one (T : Txt w K mg A) : FnOk P w K mg base CX0 1 A.f_TokenReader_stands_one A.fd_TokenReader_stands_one ["self", "texts"] (spN (S A) 2 (ev 0 84)) :=
  T.F_TokenReader_stands_one.ok sc_TokenReader_stands_one (fun vs H Q E h => (spN_no ev0 h).elim) (fun cdv Ar outer s H vs Q E hr h => (spN_no ev0 h).elim)
theorem st_TokenReader_stands_one (T : Txt w K mg A) {n : Nat} (ih : IH P w K mg base A n) : FnOk P w K mg base CX0 (2 * (n + 1) + 1) A.f_TokenReader_stands_one A.fd_TokenReader_stands_one ["self", "texts"] (spN (S A) 2 (ev (n + 1) 84)) := by
  refine T.F_TokenReader_stands_one.ok sc_TokenReader_stands_one (fun vs H Q E h => spN_len h) (fun cdv Ar outer s H vs Q E hr h => body_N (N := ["self", "texts", "text"]) (ev := b_TokenReader_stands_one (ev n)) ?_ rfl (by decide) h)
  exact (s_one (s_ret (q_callB (cr_any rfl) sc_any rfl T.b_any (by decide +kernel) (q_cons (q_lc (own := [("text", 2)]) (vs := [2]) 200 (sta T) rfl sc_TokenReader_stands_one.nd (q_var (pv 1)) (blkOk_by (own := [("text", 2)]) (N := ["self", "texts", "text"]) (sc := defScope (inClass (topS 80) 6)) (by decide +kernel)) rfl (fun _ _ _ _ _ => (pg_name (i := 2) sc_TokenReader_stands_one.nd rfl (Or.inl rfl))) (g_name 2) (by decide) (fun _ _ _ _ _ => pts_nil) snd_yes (fun _ _ _ _ _ => by exact (q_meth (tb := [(24, 83)]) (sps := fun j => spN (S A) 2 (ev n j)) ox41157b1dde tx41157b1dde (fun j => prm_N (C := ev n) (i := j) (n := 2)) (q_var (pv 0)) ⟨⟨T.cl_TokenReader, T.me_TokenReader_stands, _, _, ih.ok_TokenReader_stands, T.b_TokenReader_stands⟩, trivial⟩ (hr.mono (by omega)) pass0 (q_cons (q_var (pv 2)) q_nil)))) q_nil))))
theorem sc_TokenReader_passes : FnScope ["self", "text"] ["self", "text"] (defScope (inClass (topS 80) 7)) := ⟨rfl, rfl, rfl, by decide +kernel, rfl, by decide +kernel, by decide +kernel⟩
theorem z_TokenReader_passes (T : Txt w K mg A) : FnOk P w K mg base CX0 1 A.f_TokenReader_passes A.fd_TokenReader_passes ["self", "text"] (spN (S A) 2 (ev 0 85)) :=
  T.F_TokenReader_passes.ok sc_TokenReader_passes (fun vs H Q E h => (spN_no ev0 h).elim) (fun cdv Ar outer s H vs Q E hr h => (spN_no ev0 h).elim)
theorem st_TokenReader_passes (T : Txt w K mg A) {n : Nat} (ih : IH P w K mg base A n) : FnOk P w K mg base CX0 (2 * (n + 1) + 1) A.f_TokenReader_passes A.fd_TokenReader_passes ["self", "text"] (spN (S A) 2 (ev (n + 1) 85)) := by
  refine T.F_TokenReader_passes.ok sc_TokenReader_passes (fun vs H Q E h => spN_len h) (fun cdv Ar outer s H vs Q E hr h => body_N (N := ["self", "text"]) (ev := b_TokenReader_passes (ev n)) ?_ rfl (by decide) h)
  exact (s_cons (s_if (q_notT (q_val (q_meth (tb := [(24, 83)]) (sps := fun j => spN (S A) 2 (ev n j)) ox41157b1dde tx41157b1dde (fun j => prm_N (C := ev n) (i := j) (n := 2)) (q_var (pv 0)) ⟨⟨T.cl_TokenReader, T.me_TokenReader_stands, _, _, ih.ok_TokenReader_stands, T.b_TokenReader_stands⟩, trivial⟩ (hr.mono (by omega)) pass0 (q_cons (q_var (pv 1)) q_nil))))
 (s_one (s_ret (q_c pe_bl fun _ _ => rfl)))
 s_nil)
 (s_cons (s_expr (q_meth0 (tb := [(24, 81)]) (sps := fun j => spN (S A) 1 (ev n j)) ox600d6af0f3 tx600d6af0f3 (fun j => prm_N (C := ev n) (i := j) (n := 1)) (q_var (pv 0)) ⟨⟨T.cl_TokenReader, T.me_TokenReader_take, _, _, ih.ok_TokenReader_take, T.b_TokenReader_take⟩, trivial⟩ (hr.mono (by omega)) pass0))
 (s_one (s_ret (q_c pe_bl fun _ _ => rfl)))))
theorem sc_TokenReader_must : FnScope ["self", "text"] ["self", "text"] (defScope (inClass (topS 80) 8)) := ⟨rfl, rfl, rfl, by decide +kernel, rfl, by decide +kernel, by decide +kernel⟩
theorem z_TokenReader_must (T : Txt w K mg A) : FnOk P w K mg base (L2.CX P w) 1 A.f_TokenReader_must A.fd_TokenReader_must ["self", "text"] (spE (S A) 2 (ev 0 86)) :=
  T.F_TokenReader_must.okX sc_TokenReader_must (fun vs H Q E h => (spE_no ev0 h).elim) (fun cdv Ar outer s H vs Q E hr h => (spE_no ev0 h).elim)
theorem st_TokenReader_must (T : Txt w K mg A) {n : Nat} (ih : IH P w K mg base A n) : FnOk P w K mg base (L2.CX P w) (2 * (n + 1) + 1) A.f_TokenReader_must A.fd_TokenReader_must ["self", "text"] (spE (S A) 2 (ev (n + 1) 86)) := by
  refine T.F_TokenReader_must.okX sc_TokenReader_must (fun vs H Q E h => spE_len h) (fun cdv Ar outer s H vs Q E hr h => body_E (N := ["self", "text"]) (ev := b_TokenReader_must (ev n)) ?_ rfl (by decide) h)
  exact (s_cons (s_if (q_notT (q_val (q_meth (tb := [(24, 83)]) (sps := fun j => spN (S A) 2 (ev n j)) ox41157b1dde tx41157b1dde (fun j => prm_N (C := ev n) (i := j) (n := 2)) (q_var (pv 0)) ⟨⟨T.cl_TokenReader, T.me_TokenReader_stands, _, _, ih.ok_TokenReader_stands, T.b_TokenReader_stands⟩, trivial⟩ (hr.mono (by omega)) pass0 (q_cons (q_var (pv 1)) q_nil))))
 (s_one (s_raise (S := S A) (ps_raise rfl (takes_of rfl rfl rfl rfl) (pmk_oex T.oex T.ic_Fault T.ti_Fault (ok_Fault___init__ T) (hr.mono (by omega)) T.b_Fault___init__ .nil pass0 (by rfl) T.g_Fault (q_cons (q_fld oxebed715e82 txebed715e82 (fl_place T) (q_meth0 (tb := [(24, 79)]) (sps := fun j => spN (S A) 1 (ev n j)) ox6c92285fa6 tx6c92285fa6 (fun j => prm_N (C := ev n) (i := j) (n := 1)) (q_var (pv 0)) ⟨⟨T.cl_TokenReader, T.me_TokenReader_here, _, _, ih.ok_TokenReader_here, T.b_TokenReader_here⟩, trivial⟩ (hr.mono (by omega)) pass0) rfl) (q_cons (q_joined (j_cons (q_str tx84cd139cc4 ox84cd139cc4) (j_cons (q_fmt (q_var (pv 1))) j_nil))) q_nil))))))
 s_nil)
 (s_one (s_ret (q_meth0 (tb := [(24, 81)]) (sps := fun j => spN (S A) 1 (ev n j)) ox600d6af0f3 tx600d6af0f3 (fun j => prm_N (C := ev n) (i := j) (n := 1)) (q_var (pv 0)) ⟨⟨T.cl_TokenReader, T.me_TokenReader_take, _, _, ih.ok_TokenReader_take, T.b_TokenReader_take⟩, trivial⟩ (hr.mono (by omega)) pass0))))
theorem sc_TokenReader_must_end : FnScope ["self"] ["self"] (defScope (inClass (topS 80) 9)) := ⟨rfl, rfl, rfl, by decide +kernel, rfl, by decide +kernel, by decide +kernel⟩
theorem z_TokenReader_must_end (T : Txt w K mg A) : FnOk P w K mg base (L2.CX P w) 1 A.f_TokenReader_must_end A.fd_TokenReader_must_end ["self"] (spE (S A) 1 (ev 0 87)) :=
  T.F_TokenReader_must_end.okX sc_TokenReader_must_end (fun vs H Q E h => (spE_no ev0 h).elim) (fun cdv Ar outer s H vs Q E hr h => (spE_no ev0 h).elim)
theorem st_TokenReader_must_end (T : Txt w K mg A) {n : Nat} (ih : IH P w K mg base A n) : FnOk P w K mg base (L2.CX P w) (2 * (n + 1) + 1) A.f_TokenReader_must_end A.fd_TokenReader_must_end ["self"] (spE (S A) 1 (ev (n + 1) 87)) := by
  refine T.F_TokenReader_must_end.okX sc_TokenReader_must_end (fun vs H Q E h => spE_len h) (fun cdv Ar outer s H vs Q E hr h => body_E (N := ["self"]) (ev := b_TokenReader_must_end (ev n)) ?_ rfl (by decide) h)
  exact (s_one (s_if (q_notT (q_val (q_meth0 (tb := [(24, 82)]) (sps := fun j => spN (S A) 1 (ev n j)) oxc4c63c1d55 txc4c63c1d55 (fun j => prm_N (C := ev n) (i := j) (n := 1)) (q_var (pv 0)) ⟨⟨T.cl_TokenReader, T.me_TokenReader_at_end, _, _, ih.ok_TokenReader_at_end, T.b_TokenReader_at_end⟩, trivial⟩ (hr.mono (by omega)) pass0)))
 (s_one (s_raise (S := S A) (ps_raise rfl (takes_of rfl rfl rfl rfl) (pmk_oex T.oex T.ic_Fault T.ti_Fault (ok_Fault___init__ T) (hr.mono (by omega)) T.b_Fault___init__ .nil pass0 (by rfl) T.g_Fault (q_cons (q_fld oxebed715e82 txebed715e82 (fl_place T) (q_meth0 (tb := [(24, 79)]) (sps := fun j => spN (S A) 1 (ev n j)) ox6c92285fa6 tx6c92285fa6 (fun j => prm_N (C := ev n) (i := j) (n := 1)) (q_var (pv 0)) ⟨⟨T.cl_TokenReader, T.me_TokenReader_here, _, _, ih.ok_TokenReader_here, T.b_TokenReader_here⟩, trivial⟩ (hr.mono (by omega)) pass0) rfl) (q_cons (q_str tx9bd5eeb301 ox9bd5eeb301) q_nil))))))
 s_nil))
theorem sc_TokenReader_must_role : FnScope ["self", "role", "reason"] ["self", "role", "reason"] (defScope (inClass (topS 80) 10)) := ⟨rfl, rfl, rfl, by decide +kernel, rfl, by decide +kernel, by decide +kernel⟩
theorem z_TokenReader_must_role (T : Txt w K mg A) : FnOk P w K mg base (L2.CX P w) 1 A.f_TokenReader_must_role A.fd_TokenReader_must_role ["self", "role", "reason"] (spE (S A) 3 (ev 0 88)) :=
  T.F_TokenReader_must_role.okX sc_TokenReader_must_role (fun vs H Q E h => (spE_no ev0 h).elim) (fun cdv Ar outer s H vs Q E hr h => (spE_no ev0 h).elim)
theorem st_TokenReader_must_role (T : Txt w K mg A) {n : Nat} (ih : IH P w K mg base A n) : FnOk P w K mg base (L2.CX P w) (2 * (n + 1) + 1) A.f_TokenReader_must_role A.fd_TokenReader_must_role ["self", "role", "reason"] (spE (S A) 3 (ev (n + 1) 88)) := by
  refine T.F_TokenReader_must_role.okX sc_TokenReader_must_role (fun vs H Q E h => spE_len h) (fun cdv Ar outer s H vs Q E hr h => body_E (N := ["self", "role", "reason"]) (ev := b_TokenReader_must_role (ev n)) ?_ rfl (by decide) h)
  exact (s_cons (s_if (q_cmpT op_ne so_ne (q_fld ox29a7e96467 tx29a7e96467 (fl_role T) (q_meth0 (tb := [(24, 79)]) (sps := fun j => spN (S A) 1 (ev n j)) ox6c92285fa6 tx6c92285fa6 (fun j => prm_N (C := ev n) (i := j) (n := 1)) (q_var (pv 0)) ⟨⟨T.cl_TokenReader, T.me_TokenReader_here, _, _, ih.ok_TokenReader_here, T.b_TokenReader_here⟩, trivial⟩ (hr.mono (by omega)) pass0) rfl) (q_var (pv 1)) (nomark _))
 (s_one (s_raise (S := S A) (ps_raise rfl (takes_of rfl rfl rfl rfl) (pmk_oex T.oex T.ic_Fault T.ti_Fault (ok_Fault___init__ T) (hr.mono (by omega)) T.b_Fault___init__ .nil pass0 (by rfl) T.g_Fault (q_cons (q_fld oxebed715e82 txebed715e82 (fl_place T) (q_meth0 (tb := [(24, 79)]) (sps := fun j => spN (S A) 1 (ev n j)) ox6c92285fa6 tx6c92285fa6 (fun j => prm_N (C := ev n) (i := j) (n := 1)) (q_var (pv 0)) ⟨⟨T.cl_TokenReader, T.me_TokenReader_here, _, _, ih.ok_TokenReader_here, T.b_TokenReader_here⟩, trivial⟩ (hr.mono (by omega)) pass0) rfl) (q_cons (q_var (pv 2)) q_nil))))))
 s_nil)
 (s_one (s_ret (q_meth0 (tb := [(24, 81)]) (sps := fun j => spN (S A) 1 (ev n j)) ox600d6af0f3 tx600d6af0f3 (fun j => prm_N (C := ev n) (i := j) (n := 1)) (q_var (pv 0)) ⟨⟨T.cl_TokenReader, T.me_TokenReader_take, _, _, ih.ok_TokenReader_take, T.b_TokenReader_take⟩, trivial⟩ (hr.mono (by omega)) pass0))))
theorem sc_TokenReader_number_token : FnScope ["self"] ["self"] (defScope (inClass (topS 80) 11)) := ⟨rfl, rfl, rfl, by decide +kernel, rfl, by decide +kernel, by decide +kernel⟩
theorem z_TokenReader_number_token (T : Txt w K mg A) : FnOk P w K mg base (L2.CX P w) 1 A.f_TokenReader_number_token A.fd_TokenReader_number_token ["self"] (spE (S A) 1 (ev 0 89)) :=
  T.F_TokenReader_number_token.okX sc_TokenReader_number_token (fun vs H Q E h => (spE_no ev0 h).elim) (fun cdv Ar outer s H vs Q E hr h => (spE_no ev0 h).elim)
theorem st_TokenReader_number_token (T : Txt w K mg A) {n : Nat} (ih : IH P w K mg base A n) : FnOk P w K mg base (L2.CX P w) (2 * (n + 1) + 1) A.f_TokenReader_number_token A.fd_TokenReader_number_token ["self"] (spE (S A) 1 (ev (n + 1) 89)) := by
  refine T.F_TokenReader_number_token.okX sc_TokenReader_number_token (fun vs H Q E h => spE_len h) (fun cdv Ar outer s H vs Q E hr h => body_E (N := ["self"]) (ev := b_TokenReader_number_token (ev n)) ?_ rfl (by decide) h)
  exact (s_one (s_ret (q_meth (tb := [(24, 88)]) (sps := fun j => spE (S A) 3 (ev n j)) ox1675e5c45a tx1675e5c45a (fun j => prm_E (C := ev n) (i := j) (n := 3)) (q_var (pv 0)) ⟨⟨T.cl_TokenReader, T.me_TokenReader_must_role, _, _, ih.ok_TokenReader_must_role, T.b_TokenReader_must_role⟩, trivial⟩ (hr.mono (by omega)) (passes_call (takes_of rfl rfl rfl rfl) (fun _ _ _ _ h => h)) (q_cons (q_str txb1bc248a7f oxb1bc248a7f) (q_cons (q_str txa89646b603 oxa89646b603) q_nil)))))
theorem sc_TokenReader_is_name : FnScope ["self", "token", "capital"] ["self", "token", "capital"] (defScope (inClass (topS 80) 14)) := ⟨rfl, rfl, rfl, by decide +kernel, rfl, by decide +kernel, by decide +kernel⟩
theorem z_TokenReader_is_name (T : Txt w K mg A) : FnOk P w K mg base CX0 1 A.f_TokenReader_is_name A.fd_TokenReader_is_name ["self", "token", "capital"] (spN (S A) 3 (ev 0 90)) :=
  T.F_TokenReader_is_name.ok sc_TokenReader_is_name (fun vs H Q E h => (spN_no ev0 h).elim) (fun cdv Ar outer s H vs Q E hr h => (spN_no ev0 h).elim)
theorem st_TokenReader_is_name (T : Txt w K mg A) {n : Nat} (ih : IH P w K mg base A n) : FnOk P w K mg base CX0 (2 * (n + 1) + 1) A.f_TokenReader_is_name A.fd_TokenReader_is_name ["self", "token", "capital"] (spN (S A) 3 (ev (n + 1) 90)) := by
  refine T.F_TokenReader_is_name.ok sc_TokenReader_is_name (fun vs H Q E h => spN_len h) (fun cdv Ar outer s H vs Q E hr h => body_N (N := ["self", "token", "capital"]) (ev := b_TokenReader_is_name (ev n)) ?_ rfl (by decide) h)
  exact (s_cons (s_if (q_pt (q_wor (q_cmpT op_ne so_ne (q_fld ox29a7e96467 tx29a7e96467 (fl_role T) (q_var (pv 1)) rfl) (q_str txc47d187067 oxc47d187067) (nomark _)) (q_wor1 (q_cmpT op_in_seq (so_in (sta T) false) (q_fld ox1cb251ec0d tx1cb251ec0d (fl_text T) (q_var (pv 1)) rfl) (q_fld ox7f005c3fa6 tx7f005c3fa6 (fl_reserved T) (q_var (pv 0)) rfl) (by rfl)))))
 (s_one (s_ret (q_c pe_bl fun _ _ => rfl)))
 s_nil)
 (s_one (s_ret (q_cmp op_eq so_eq (q_cmp op_in_sign (so_inS false) (q_ix ix_seq (so_ix (sta T)) (q_fld ox1cb251ec0d tx1cb251ec0d (fl_text T) (q_var (pv 1)) rfl) (q_c pe_int fun _ _ => rfl) (fun _ _ => rfl)) (q_c (pe_glob (v := .str "ABCDEFGHIJKLMNOPQRSTUVWXYZ") rfl T.g_CAPITALS.choose_spec ⟨_, rfl⟩) fun _ _ => (relStr tx437bba8e0b ox437bba8e0b)) (by rfl)) (q_var (pv 2)) (nomark _)))))
theorem sc_TokenReader_small_name_stands : FnScope ["self"] ["self"] (defScope (inClass (topS 80) 15)) := ⟨rfl, rfl, rfl, by decide +kernel, rfl, by decide +kernel, by decide +kernel⟩
theorem z_TokenReader_small_name_stands (T : Txt w K mg A) : FnOk P w K mg base CX0 1 A.f_TokenReader_small_name_stands A.fd_TokenReader_small_name_stands ["self"] (spN (S A) 1 (ev 0 91)) :=
  T.F_TokenReader_small_name_stands.ok sc_TokenReader_small_name_stands (fun vs H Q E h => (spN_no ev0 h).elim) (fun cdv Ar outer s H vs Q E hr h => (spN_no ev0 h).elim)
theorem st_TokenReader_small_name_stands (T : Txt w K mg A) {n : Nat} (ih : IH P w K mg base A n) : FnOk P w K mg base CX0 (2 * (n + 1) + 1) A.f_TokenReader_small_name_stands A.fd_TokenReader_small_name_stands ["self"] (spN (S A) 1 (ev (n + 1) 91)) := by
  refine T.F_TokenReader_small_name_stands.ok sc_TokenReader_small_name_stands (fun vs H Q E h => spN_len h) (fun cdv Ar outer s H vs Q E hr h => body_N (N := ["self"]) (ev := b_TokenReader_small_name_stands (ev n)) ?_ rfl (by decide) h)
  exact (s_one (s_ret (q_meth (tb := [(24, 90)]) (sps := fun j => spN (S A) 3 (ev n j)) ox0cb263803c tx0cb263803c (fun j => prm_N (C := ev n) (i := j) (n := 3)) (q_var (pv 0)) ⟨⟨T.cl_TokenReader, T.me_TokenReader_is_name, _, _, ih.ok_TokenReader_is_name, T.b_TokenReader_is_name⟩, trivial⟩ (hr.mono (by omega)) pass0 (q_cons (q_meth0 (tb := [(24, 79)]) (sps := fun j => spN (S A) 1 (ev n j)) ox6c92285fa6 tx6c92285fa6 (fun j => prm_N (C := ev n) (i := j) (n := 1)) (q_var (pv 0)) ⟨⟨T.cl_TokenReader, T.me_TokenReader_here, _, _, ih.ok_TokenReader_here, T.b_TokenReader_here⟩, trivial⟩ (hr.mono (by omega)) pass0) (q_cons (q_c pe_bl fun _ _ => rfl) q_nil)))))
theorem sc_TokenReader_kind_name : FnScope ["self"] ["self"] (defScope (inClass (topS 80) 17)) := ⟨rfl, rfl, rfl, by decide +kernel, rfl, by decide +kernel, by decide +kernel⟩
theorem z_TokenReader_kind_name (T : Txt w K mg A) : FnOk P w K mg base (L2.CX P w) 1 A.f_TokenReader_kind_name A.fd_TokenReader_kind_name ["self"] (spE (S A) 1 (ev 0 92)) :=
  T.F_TokenReader_kind_name.okX sc_TokenReader_kind_name (fun vs H Q E h => (spE_no ev0 h).elim) (fun cdv Ar outer s H vs Q E hr h => (spE_no ev0 h).elim)
theorem st_TokenReader_kind_name (T : Txt w K mg A) {n : Nat} (ih : IH P w K mg base A n) : FnOk P w K mg base (L2.CX P w) (2 * (n + 1) + 1) A.f_TokenReader_kind_name A.fd_TokenReader_kind_name ["self"] (spE (S A) 1 (ev (n + 1) 92)) := by
  refine T.F_TokenReader_kind_name.okX sc_TokenReader_kind_name (fun vs H Q E h => spE_len h) (fun cdv Ar outer s H vs Q E hr h => body_E (N := ["self"]) (ev := b_TokenReader_kind_name (ev n)) ?_ rfl (by decide) h)
  exact (s_cons (s_if (q_notT (q_val (q_meth (tb := [(24, 90)]) (sps := fun j => spN (S A) 3 (ev n j)) ox0cb263803c tx0cb263803c (fun j => prm_N (C := ev n) (i := j) (n := 3)) (q_var (pv 0)) ⟨⟨T.cl_TokenReader, T.me_TokenReader_is_name, _, _, ih.ok_TokenReader_is_name, T.b_TokenReader_is_name⟩, trivial⟩ (hr.mono (by omega)) pass0 (q_cons (q_meth0 (tb := [(24, 79)]) (sps := fun j => spN (S A) 1 (ev n j)) ox6c92285fa6 tx6c92285fa6 (fun j => prm_N (C := ev n) (i := j) (n := 1)) (q_var (pv 0)) ⟨⟨T.cl_TokenReader, T.me_TokenReader_here, _, _, ih.ok_TokenReader_here, T.b_TokenReader_here⟩, trivial⟩ (hr.mono (by omega)) pass0) (q_cons (q_c pe_bl fun _ _ => rfl) q_nil)))))
 (s_one (s_raise (S := S A) (ps_raise rfl (takes_of rfl rfl rfl rfl) (pmk_oex T.oex T.ic_Fault T.ti_Fault (ok_Fault___init__ T) (hr.mono (by omega)) T.b_Fault___init__ .nil pass0 (by rfl) T.g_Fault (q_cons (q_fld oxebed715e82 txebed715e82 (fl_place T) (q_meth0 (tb := [(24, 79)]) (sps := fun j => spN (S A) 1 (ev n j)) ox6c92285fa6 tx6c92285fa6 (fun j => prm_N (C := ev n) (i := j) (n := 1)) (q_var (pv 0)) ⟨⟨T.cl_TokenReader, T.me_TokenReader_here, _, _, ih.ok_TokenReader_here, T.b_TokenReader_here⟩, trivial⟩ (hr.mono (by omega)) pass0) rfl) (q_cons (q_str tx52fe0679ef ox52fe0679ef) q_nil))))))
 s_nil)
 (s_one (s_ret (q_meth0 (tb := [(24, 81)]) (sps := fun j => spN (S A) 1 (ev n j)) ox600d6af0f3 tx600d6af0f3 (fun j => prm_N (C := ev n) (i := j) (n := 1)) (q_var (pv 0)) ⟨⟨T.cl_TokenReader, T.me_TokenReader_take, _, _, ih.ok_TokenReader_take, T.b_TokenReader_take⟩, trivial⟩ (hr.mono (by omega)) pass0))))
theorem sc_TokenReader_small_name : FnScope ["self", "reason"] ["self", "reason"] (defScope (inClass (topS 80) 18)) := ⟨rfl, rfl, rfl, by decide +kernel, rfl, by decide +kernel, by decide +kernel⟩
theorem z_TokenReader_small_name (T : Txt w K mg A) : FnOk P w K mg base (L2.CX P w) 1 A.f_TokenReader_small_name A.fd_TokenReader_small_name ["self", "reason"] (spE (S A) 2 (ev 0 93)) :=
  T.F_TokenReader_small_name.okX sc_TokenReader_small_name (fun vs H Q E h => (spE_no ev0 h).elim) (fun cdv Ar outer s H vs Q E hr h => (spE_no ev0 h).elim)
theorem st_TokenReader_small_name (T : Txt w K mg A) {n : Nat} (ih : IH P w K mg base A n) : FnOk P w K mg base (L2.CX P w) (2 * (n + 1) + 1) A.f_TokenReader_small_name A.fd_TokenReader_small_name ["self", "reason"] (spE (S A) 2 (ev (n + 1) 93)) := by
  refine T.F_TokenReader_small_name.okX sc_TokenReader_small_name (fun vs H Q E h => spE_len h) (fun cdv Ar outer s H vs Q E hr h => body_E (N := ["self", "reason"]) (ev := b_TokenReader_small_name (ev n)) ?_ rfl (by decide) h)
  exact (s_cons (s_if (q_notT (q_val (q_meth0 (tb := [(24, 91)]) (sps := fun j => spN (S A) 1 (ev n j)) oxdfdb8de5b7 txdfdb8de5b7 (fun j => prm_N (C := ev n) (i := j) (n := 1)) (q_var (pv 0)) ⟨⟨T.cl_TokenReader, T.me_TokenReader_small_name_stands, _, _, ih.ok_TokenReader_small_name_stands, T.b_TokenReader_small_name_stands⟩, trivial⟩ (hr.mono (by omega)) pass0)))
 (s_one (s_raise (S := S A) (ps_raise rfl (takes_of rfl rfl rfl rfl) (pmk_oex T.oex T.ic_Fault T.ti_Fault (ok_Fault___init__ T) (hr.mono (by omega)) T.b_Fault___init__ .nil pass0 (by rfl) T.g_Fault (q_cons (q_fld oxebed715e82 txebed715e82 (fl_place T) (q_meth0 (tb := [(24, 79)]) (sps := fun j => spN (S A) 1 (ev n j)) ox6c92285fa6 tx6c92285fa6 (fun j => prm_N (C := ev n) (i := j) (n := 1)) (q_var (pv 0)) ⟨⟨T.cl_TokenReader, T.me_TokenReader_here, _, _, ih.ok_TokenReader_here, T.b_TokenReader_here⟩, trivial⟩ (hr.mono (by omega)) pass0) rfl) (q_cons (q_var (pv 1)) q_nil))))))
 s_nil)
 (s_one (s_ret (q_meth0 (tb := [(24, 81)]) (sps := fun j => spN (S A) 1 (ev n j)) ox600d6af0f3 tx600d6af0f3 (fun j => prm_N (C := ev n) (i := j) (n := 1)) (q_var (pv 0)) ⟨⟨T.cl_TokenReader, T.me_TokenReader_take, _, _, ih.ok_TokenReader_take, T.b_TokenReader_take⟩, trivial⟩ (hr.mono (by omega)) pass0))))
theorem sc_TokenReader_field_name : FnScope ["self"] ["self"] (defScope (inClass (topS 80) 19)) := ⟨rfl, rfl, rfl, by decide +kernel, rfl, by decide +kernel, by decide +kernel⟩
theorem z_TokenReader_field_name (T : Txt w K mg A) : FnOk P w K mg base (L2.CX P w) 1 A.f_TokenReader_field_name A.fd_TokenReader_field_name ["self"] (spE (S A) 1 (ev 0 94)) :=
  T.F_TokenReader_field_name.okX sc_TokenReader_field_name (fun vs H Q E h => (spE_no ev0 h).elim) (fun cdv Ar outer s H vs Q E hr h => (spE_no ev0 h).elim)
theorem st_TokenReader_field_name (T : Txt w K mg A) {n : Nat} (ih : IH P w K mg base A n) : FnOk P w K mg base (L2.CX P w) (2 * (n + 1) + 1) A.f_TokenReader_field_name A.fd_TokenReader_field_name ["self"] (spE (S A) 1 (ev (n + 1) 94)) := by
  refine T.F_TokenReader_field_name.okX sc_TokenReader_field_name (fun vs H Q E h => spE_len h) (fun cdv Ar outer s H vs Q E hr h => body_E (N := ["self"]) (ev := b_TokenReader_field_name (ev n)) ?_ rfl (by decide) h)
  exact (s_one (s_ret (q_meth (tb := [(24, 93)]) (sps := fun j => spE (S A) 2 (ev n j)) ox9b258b75cb tx9b258b75cb (fun j => prm_E (C := ev n) (i := j) (n := 2)) (q_var (pv 0)) ⟨⟨T.cl_TokenReader, T.me_TokenReader_small_name, _, _, ih.ok_TokenReader_small_name, T.b_TokenReader_small_name⟩, trivial⟩ (hr.mono (by omega)) (passes_call (takes_of rfl rfl rfl rfl) (fun _ _ _ _ h => h)) (q_cons (q_str tx365a055b54 ox365a055b54) q_nil))))
theorem sc_is_certain : FnScope ["token", "text"] ["token", "text"] (defScope (topS 81)) := ⟨rfl, rfl, rfl, by decide +kernel, rfl, by decide +kernel, by decide +kernel⟩
theorem z_is_certain (T : Txt w K mg A) : FnOk P w K mg base CX0 1 A.f_is_certain A.fd_is_certain ["token", "text"] (spN (S A) 2 (ev 0 95)) :=
  T.F_is_certain.ok sc_is_certain (fun vs H Q E h => (spN_no ev0 h).elim) (fun cdv Ar outer s H vs Q E hr h => (spN_no ev0 h).elim)
theorem st_is_certain (T : Txt w K mg A) {n : Nat} (ih : IH P w K mg base A n) : FnOk P w K mg base CX0 (2 * (n + 1) + 1) A.f_is_certain A.fd_is_certain ["token", "text"] (spN (S A) 2 (ev (n + 1) 95)) := by
  refine T.F_is_certain.ok sc_is_certain (fun vs H Q E h => spN_len h) (fun cdv Ar outer s H vs Q E hr h => body_N (N := ["token", "text"]) (ev := b_is_certain (ev n)) ?_ rfl (by decide) h)
  exact (s_one (s_ret (q_and (q_or (q_cmp op_eq so_eq (q_fld ox29a7e96467 tx29a7e96467 (fl_role T) (q_var (pv 0)) rfl) (q_str txc47d187067 oxc47d187067) (nomark _)) (q_one (q_cmp op_eq so_eq (q_fld ox29a7e96467 tx29a7e96467 (fl_role T) (q_var (pv 0)) rfl) (q_str tx04b2948023 ox04b2948023) (nomark _)))) (q_one (q_cmp op_eq so_eq (q_fld ox1cb251ec0d tx1cb251ec0d (fl_text T) (q_var (pv 0)) rfl) (q_var (pv 1)) (nomark _))))))
theorem sc_Drawn___init__ : FnScope ["self", "term", "word", "parameters"] ["self", "term", "word", "parameters"] (defScope (inClass (topS 87) 0)) := ⟨rfl, rfl, rfl, by decide +kernel, rfl, by decide +kernel, by decide +kernel⟩
theorem z_Drawn___init__ (T : Txt w K mg A) : FnOk P w K mg base CX0 1 A.f_Drawn___init__ A.fd_Drawn___init__ ["self", "term", "word", "parameters"] (spN (S A) 4 (ev 0 96)) :=
  T.F_Drawn___init__.ok sc_Drawn___init__ (fun vs H Q E h => (spN_no ev0 h).elim) (fun cdv Ar outer s H vs Q E hr h => (spN_no ev0 h).elim)
theorem st_Drawn___init__ (T : Txt w K mg A) {n : Nat} (ih : IH P w K mg base A n) : FnOk P w K mg base CX0 (2 * (n + 1) + 1) A.f_Drawn___init__ A.fd_Drawn___init__ ["self", "term", "word", "parameters"] (spN (S A) 4 (ev (n + 1) 96)) := by
  refine T.F_Drawn___init__.ok sc_Drawn___init__ (fun vs H Q E h => spN_len h) (fun cdv Ar outer s H vs Q E hr h => body_N (N := ["self", "term", "word", "parameters"]) (ev := b_Drawn___init__ (ev n)) ?_ rfl (by decide) h)
  exact (s_cons (s_fld oxb4dad0fe5f txb4dad0fe5f (fl_term T) (q_var (pv 0)) (q_var (pv 1)) rfl)
 (s_cons (s_fld oxc47d187067 txc47d187067 (fl_word T) (q_var (pv 0)) (q_var (pv 2)) rfl)
 (s_one (s_fld ox166e64f6c3 tx166e64f6c3 (fl_parameters T) (q_var (pv 0)) (q_var (pv 3)) rfl))))
theorem sc_parameters_as : FnScope ["drawn", "word"] ["drawn", "word"] (defScope (topS 88)) := ⟨rfl, rfl, rfl, by decide +kernel, rfl, by decide +kernel, by decide +kernel⟩
theorem z_parameters_as (T : Txt w K mg A) : FnOk P w K mg base CX0 1 A.f_parameters_as A.fd_parameters_as ["drawn", "word"] (spN (S A) 2 (ev 0 97)) :=
  T.F_parameters_as.ok sc_parameters_as (fun vs H Q E h => (spN_no ev0 h).elim) (fun cdv Ar outer s H vs Q E hr h => (spN_no ev0 h).elim)
theorem st_parameters_as (T : Txt w K mg A) {n : Nat} (ih : IH P w K mg base A n) : FnOk P w K mg base CX0 (2 * (n + 1) + 1) A.f_parameters_as A.fd_parameters_as ["drawn", "word"] (spN (S A) 2 (ev (n + 1) 97)) := by
  refine T.F_parameters_as.ok sc_parameters_as (fun vs H Q E h => spN_len h) (fun cdv Ar outer s H vs Q E hr h => body_N (N := ["drawn", "word"]) (ev := b_parameters_as (ev n)) ?_ rfl (by decide) h)
  exact (s_one (s_ret (q_if (q_cmpT op_eq so_eq (q_fld oxc47d187067 txc47d187067 (fl_word T) (q_var (pv 0)) rfl) (q_c (pe_glob (v := .str "parameter") rfl T.g_PARAMETER.choose_spec ⟨_, rfl⟩) fun _ _ => (relStr tx03144cce1f ox03144cce1f)) (nomark _)) (q_done (q_fld oxb068931cc4 txb068931cc4 (fl_name T) (q_fld oxb4dad0fe5f txb4dad0fe5f (fl_term T) (q_var (pv 0)) rfl) rfl) (q_var (pv 1))) (q_fld ox166e64f6c3 tx166e64f6c3 (fl_parameters T) (q_var (pv 0)) rfl))))
theorem sc_merged : FnScope ["rows", "place", "found", "row", "name", "word"] ["rows", "place"] (defScope (topS 89)) := ⟨rfl, rfl, rfl, by decide +kernel, rfl, by decide +kernel, by decide +kernel⟩
theorem z_merged (T : Txt w K mg A) : FnOk P w K mg base (L2.CX P w) 1 A.f_merged A.fd_merged ["rows", "place"] (spE (S A) 2 (ev 0 98)) :=
  T.F_merged.okX sc_merged (fun vs H Q E h => (spE_no ev0 h).elim) (fun cdv Ar outer s H vs Q E hr h => (spE_no ev0 h).elim)
theorem st_merged (T : Txt w K mg A) {n : Nat} (ih : IH P w K mg base A n) : FnOk P w K mg base (L2.CX P w) (2 * (n + 1) + 1) A.f_merged A.fd_merged ["rows", "place"] (spE (S A) 2 (ev (n + 1) 98)) := by
  refine T.F_merged.okX sc_merged (fun vs H Q E h => spE_len h) (fun cdv Ar outer s H vs Q E hr h => body_E (N := ["rows", "place", "found", "row", "name", "word"]) (ev := b_merged (ev n)) ?_ rfl (by decide) h)
  exact (s_cons (s_set (i := 2) sc_merged.nd rfl (.inl rfl) q_dnew)
 (s_cons (s_for 200 (sta T) (passes_of rfl) rfl (q_var (pv 0)) (pg_name (i := 3) sc_merged.nd rfl (.inl rfl)) (g_name 3)
 (s_one (s_forI 200 (passes_of rfl) rfl (pv 3) (pg_tup rfl (pgs_cons (pg_name (i := 4) sc_merged.nd rfl (.inl rfl)) (pgs_cons (pg_name (i := 5) sc_merged.nd rfl (.inl rfl)) pgs_nil))) (g_tup (g_cons (g_name 4) (g_cons (g_name 5) g_nil)))
 (s_one (s_if (q_cmpT op_ne so_ne (q_setd (q_var (pv 2)) (q_var (pv 4)) (q_var (pv 5)) ⟨rfl, rfl, rfl, rfl⟩) (q_var (pv 5)) (nomark _))
 (s_one (s_raise (S := S A) (ps_raise rfl (takes_of rfl rfl rfl rfl) (pmk_oex T.oex T.ic_Fault T.ti_Fault (ok_Fault___init__ T) (hr.mono (by omega)) T.b_Fault___init__ .nil pass0 (by rfl) T.g_Fault (q_cons (q_var (pv 1)) (q_cons (q_c (pe_glob (v := .str "sorts differ") rfl T.g_DIFFER.choose_spec ⟨_, rfl⟩) fun _ _ => (relStr txe363007e3a oxe363007e3a)) q_nil))))))
 s_nil)))))
 (s_one (s_ret (q_var (pv 2))))))
theorem sc_joined_parameters : FnScope ["sign", "sides", "word", "side"] ["sign", "sides"] (defScope (topS 90)) := ⟨rfl, rfl, rfl, by decide +kernel, rfl, by decide +kernel, by decide +kernel⟩
theorem z_joined_parameters (T : Txt w K mg A) : FnOk P w K mg base (L2.CX P w) 1 A.f_joined_parameters A.fd_joined_parameters ["sign", "sides"] (spE (S A) 2 (ev 0 99)) :=
  T.F_joined_parameters.okX sc_joined_parameters (fun vs H Q E h => (spE_no ev0 h).elim) (fun cdv Ar outer s H vs Q E hr h => (spE_no ev0 h).elim)
theorem st_joined_parameters (T : Txt w K mg A) {n : Nat} (ih : IH P w K mg base A n) : FnOk P w K mg base (L2.CX P w) (2 * (n + 1) + 1) A.f_joined_parameters A.fd_joined_parameters ["sign", "sides"] (spE (S A) 2 (ev (n + 1) 99)) := by
  refine T.F_joined_parameters.okX sc_joined_parameters (fun vs H Q E h => spE_len h) (fun cdv Ar outer s H vs Q E hr h => body_E (N := ["sign", "sides", "word", "side"]) (ev := b_joined_parameters (ev n)) ?_ rfl (by decide) h)
  exact (s_cons (s_set (i := 2) sc_joined_parameters.nd rfl (.inr rfl) (q_call (prm_N (C := ev n) (i := 49) (n := 2)) ih.ok_common_sort (hr.mono (by omega)) (by rfl) T.g_common_sort T.F_common_sort.kp T.b_common_sort pass0 (q_cons (q_fld ox1cb251ec0d tx1cb251ec0d (fl_text T) (q_var (pv 0)) rfl) (q_cons (q_lc (own := [("side", 3)]) (vs := [3]) 200 (sta T) rfl sc_joined_parameters.nd (q_var (pv 1)) (blkOk_by (own := [("side", 3)]) (N := ["sign", "sides", "word", "side"]) (sc := defScope (topS 90)) (by decide +kernel)) rfl (fun _ _ _ _ _ => (pg_name (i := 3) sc_joined_parameters.nd rfl (Or.inl rfl))) (g_name 3) (by decide) (fun _ _ _ _ _ => pts_nil) snd_yes (fun _ _ _ _ _ => by exact (q_fld oxc47d187067 txc47d187067 (fl_word T) (q_var (pv 3)) rfl))) q_nil))))
 (s_cons (s_if (q_cmpT op_isN so_is (q_var (pv 2)) (q_c pe_non fun _ _ => rfl) (nomark _))
 (s_one (s_raise (S := S A) (ps_raise rfl (takes_of rfl rfl rfl rfl) (pmk_oex T.oex T.ic_Fault T.ti_Fault (ok_Fault___init__ T) (hr.mono (by omega)) T.b_Fault___init__ .nil pass0 (by rfl) T.g_Fault (q_cons (q_fld oxebed715e82 txebed715e82 (fl_place T) (q_var (pv 0)) rfl) (q_cons (q_c (pe_glob (v := .str "sorts differ") rfl T.g_DIFFER.choose_spec ⟨_, rfl⟩) fun _ _ => (relStr txe363007e3a oxe363007e3a)) q_nil))))))
 s_nil)
 (s_one (s_ret (q_call (prm_E (C := ev n) (i := 98) (n := 2)) ih.ok_merged (hr.mono (by omega)) (by rfl) T.g_merged T.F_merged.kp T.b_merged (passes_call (takes_of rfl rfl rfl rfl) (fun _ _ _ _ h => h)) (q_cons (q_lc (own := [("side", 3)]) (vs := [3]) 200 (sta T) rfl sc_joined_parameters.nd (q_var (pv 1)) (blkOk_by (own := [("side", 3)]) (N := ["sign", "sides", "word", "side"]) (sc := defScope (topS 90)) (by decide +kernel)) rfl (fun _ _ _ _ _ => (pg_name (i := 3) sc_joined_parameters.nd rfl (Or.inl rfl))) (g_name 3) (by decide) (fun _ _ _ _ _ => pts_nil) snd_yes (fun _ _ _ _ _ => by exact (q_call (prm_N (C := ev n) (i := 97) (n := 2)) ih.ok_parameters_as (hr.mono (by omega)) (by rfl) T.g_parameters_as T.F_parameters_as.kp T.b_parameters_as pass0 (q_cons (q_var (pv 3)) (q_cons (q_var (pv 2)) q_nil))))) (q_cons (q_fld oxebed715e82 txebed715e82 (fl_place T) (q_var (pv 0)) rfl) q_nil)))))))
theorem sc_read_either : FnScope ["state"] ["state"] (defScope (topS 91)) := ⟨rfl, rfl, rfl, by decide +kernel, rfl, by decide +kernel, by decide +kernel⟩
theorem z_read_either (T : Txt w K mg A) : FnOk P w K mg base (L2.CX P w) 1 A.f_read_either A.fd_read_either ["state"] (spE (S A) 1 (ev 0 100)) :=
  T.F_read_either.okX sc_read_either (fun vs H Q E h => (spE_no ev0 h).elim) (fun cdv Ar outer s H vs Q E hr h => (spE_no ev0 h).elim)
theorem st_read_either (T : Txt w K mg A) {n : Nat} (ih : IH P w K mg base A n) : FnOk P w K mg base (L2.CX P w) (2 * (n + 1) + 1) A.f_read_either A.fd_read_either ["state"] (spE (S A) 1 (ev (n + 1) 100)) := by
  refine T.F_read_either.okX sc_read_either (fun vs H Q E h => spE_len h) (fun cdv Ar outer s H vs Q E hr h => body_E (N := ["state"]) (ev := b_read_either (ev n)) ?_ rfl (by decide) h)
  exact (s_one (s_ret (q_call (prm_E (C := ev n) (i := 104) (n := 4)) ih.ok_read_chain (hr.mono (by omega)) (by rfl) T.g_read_chain T.F_read_chain.kp T.b_read_chain (passes_call (takes_of rfl rfl rfl rfl) (fun _ _ _ _ h => h)) (q_cons (q_var (pv 0)) (q_cons (q_c (pe_glob (v := .int 1) rfl T.g_OR_LEVEL.choose_spec ⟨_, rfl⟩) fun _ _ => rfl) (q_cons (q_tup (q_cons (q_str txe81c4e4f2b oxe81c4e4f2b) q_nil)) (q_cons (q_c (pe_glob (v := .ref A.f_read_both) rfl T.g_read_both rfl) fun _ _ => rfl) q_nil)))))))
theorem sc_read_both : FnScope ["state"] ["state"] (defScope (topS 92)) := ⟨rfl, rfl, rfl, by decide +kernel, rfl, by decide +kernel, by decide +kernel⟩
theorem z_read_both (T : Txt w K mg A) : FnOk P w K mg base (L2.CX P w) 1 A.f_read_both A.fd_read_both ["state"] (spE (S A) 1 (ev 0 101)) :=
  T.F_read_both.okX sc_read_both (fun vs H Q E h => (spE_no ev0 h).elim) (fun cdv Ar outer s H vs Q E hr h => (spE_no ev0 h).elim)
theorem st_read_both (T : Txt w K mg A) {n : Nat} (ih : IH P w K mg base A n) : FnOk P w K mg base (L2.CX P w) (2 * (n + 1) + 1) A.f_read_both A.fd_read_both ["state"] (spE (S A) 1 (ev (n + 1) 101)) := by
  refine T.F_read_both.okX sc_read_both (fun vs H Q E h => spE_len h) (fun cdv Ar outer s H vs Q E hr h => body_E (N := ["state"]) (ev := b_read_both (ev n)) ?_ rfl (by decide) h)
  exact (s_one (s_ret (q_call (prm_E (C := ev n) (i := 104) (n := 4)) ih.ok_read_chain (hr.mono (by omega)) (by rfl) T.g_read_chain T.F_read_chain.kp T.b_read_chain (passes_call (takes_of rfl rfl rfl rfl) (fun _ _ _ _ h => h)) (q_cons (q_var (pv 0)) (q_cons (q_c (pe_glob (v := .int 2) rfl T.g_AND_LEVEL.choose_spec ⟨_, rfl⟩) fun _ _ => rfl) (q_cons (q_tup (q_cons (q_str txbe5d5d3754 oxbe5d5d3754) q_nil)) (q_cons (q_c (pe_glob (v := .ref A.f_read_turned) rfl T.g_read_turned rfl) fun _ _ => rfl) q_nil)))))))
theorem sc_read_sum : FnScope ["state"] ["state"] (defScope (topS 93)) := ⟨rfl, rfl, rfl, by decide +kernel, rfl, by decide +kernel, by decide +kernel⟩
theorem z_read_sum (T : Txt w K mg A) : FnOk P w K mg base (L2.CX P w) 1 A.f_read_sum A.fd_read_sum ["state"] (spE (S A) 1 (ev 0 102)) :=
  T.F_read_sum.okX sc_read_sum (fun vs H Q E h => (spE_no ev0 h).elim) (fun cdv Ar outer s H vs Q E hr h => (spE_no ev0 h).elim)
theorem st_read_sum (T : Txt w K mg A) {n : Nat} (ih : IH P w K mg base A n) : FnOk P w K mg base (L2.CX P w) (2 * (n + 1) + 1) A.f_read_sum A.fd_read_sum ["state"] (spE (S A) 1 (ev (n + 1) 102)) := by
  refine T.F_read_sum.okX sc_read_sum (fun vs H Q E h => spE_len h) (fun cdv Ar outer s H vs Q E hr h => body_E (N := ["state"]) (ev := b_read_sum (ev n)) ?_ rfl (by decide) h)
  exact (s_one (s_ret (q_call (prm_E (C := ev n) (i := 104) (n := 4)) ih.ok_read_chain (hr.mono (by omega)) (by rfl) T.g_read_chain T.F_read_chain.kp T.b_read_chain (passes_call (takes_of rfl rfl rfl rfl) (fun _ _ _ _ h => h)) (q_cons (q_var (pv 0)) (q_cons (q_c (pe_glob (v := .int 5) rfl T.g_SUM_LEVEL.choose_spec ⟨_, rfl⟩) fun _ _ => rfl) (q_cons (q_tup (q_cons (q_str tx26b17225b6 ox26b17225b6) (q_cons (q_str tx336d5ebc54 ox336d5ebc54) q_nil))) (q_cons (q_c (pe_glob (v := .ref A.f_read_product) rfl T.g_read_product rfl) fun _ _ => rfl) q_nil)))))))
theorem sc_read_product : FnScope ["state"] ["state"] (defScope (topS 94)) := ⟨rfl, rfl, rfl, by decide +kernel, rfl, by decide +kernel, by decide +kernel⟩
theorem z_read_product (T : Txt w K mg A) : FnOk P w K mg base (L2.CX P w) 1 A.f_read_product A.fd_read_product ["state"] (spE (S A) 1 (ev 0 103)) :=
  T.F_read_product.okX sc_read_product (fun vs H Q E h => (spE_no ev0 h).elim) (fun cdv Ar outer s H vs Q E hr h => (spE_no ev0 h).elim)
theorem st_read_product (T : Txt w K mg A) {n : Nat} (ih : IH P w K mg base A n) : FnOk P w K mg base (L2.CX P w) (2 * (n + 1) + 1) A.f_read_product A.fd_read_product ["state"] (spE (S A) 1 (ev (n + 1) 103)) := by
  refine T.F_read_product.okX sc_read_product (fun vs H Q E h => spE_len h) (fun cdv Ar outer s H vs Q E hr h => body_E (N := ["state"]) (ev := b_read_product (ev n)) ?_ rfl (by decide) h)
  exact (s_one (s_ret (q_call (prm_E (C := ev n) (i := 104) (n := 4)) ih.ok_read_chain (hr.mono (by omega)) (by rfl) T.g_read_chain T.F_read_chain.kp T.b_read_chain (passes_call (takes_of rfl rfl rfl rfl) (fun _ _ _ _ h => h)) (q_cons (q_var (pv 0)) (q_cons (q_c (pe_glob (v := .int 6) rfl T.g_PRODUCT_LEVEL.choose_spec ⟨_, rfl⟩) fun _ _ => rfl) (q_cons (q_tup (q_cons (q_str tx3389dae361 ox3389dae361) q_nil)) (q_cons (q_c (pe_glob (v := .ref A.f_read_signed) rfl T.g_read_signed rfl) fun _ _ => rfl) q_nil)))))))
theorem sc_read_chain : FnScope ["state", "level", "signs", "read_side", "left", "sign", "right", "parameters"] ["state", "level", "signs", "read_side"] (defScope (topS 95)) := ⟨rfl, rfl, rfl, by decide +kernel, rfl, by decide +kernel, by decide +kernel⟩
theorem z_read_chain (T : Txt w K mg A) : FnOk P w K mg base (L2.CX P w) 1 A.f_read_chain A.fd_read_chain ["state", "level", "signs", "read_side"] (spE (S A) 4 (ev 0 104)) :=
  T.F_read_chain.okX sc_read_chain (fun vs H Q E h => (spE_no ev0 h).elim) (fun cdv Ar outer s H vs Q E hr h => (spE_no ev0 h).elim)
theorem st_read_chain (T : Txt w K mg A) {n : Nat} (ih : IH P w K mg base A n) : FnOk P w K mg base (L2.CX P w) (2 * (n + 1) + 1) A.f_read_chain A.fd_read_chain ["state", "level", "signs", "read_side"] (spE (S A) 4 (ev (n + 1) 104)) := by
  refine T.F_read_chain.okX sc_read_chain (fun vs H Q E h => spE_len h) (fun cdv Ar outer s H vs Q E hr h => body_E (N := ["state", "level", "signs", "read_side", "left", "sign", "right", "parameters"]) (ev := b_read_chain (ev n)) ?_ rfl (by decide) h)
  exact (s_cons (s_set (i := 4) sc_read_chain.nd rfl (.inl rfl) (q_callL (S := S A) (fs := [101, 103, 107, 112, 132, 134, 135]) (sps := fun j => spE (S A) 1 (ev n j)) (fun j => prm_E (C := ev n) (i := j) (n := 1)) ⟨⟨T.F_read_both.kp, _, _, ih.ok_read_both, T.b_read_both⟩, ⟨⟨T.F_read_product.kp, _, _, ih.ok_read_product, T.b_read_product⟩, ⟨⟨T.F_read_turned.kp, _, _, ih.ok_read_turned, T.b_read_turned⟩, ⟨⟨T.F_read_signed.kp, _, _, ih.ok_read_signed, T.b_read_signed⟩, ⟨⟨T.F_read_group_path.kp, _, _, ih.ok_read_group_path, T.b_read_group_path⟩, ⟨⟨T.F_read_told.kp, _, _, ih.ok_read_told, T.b_read_told⟩, ⟨⟨T.F_read_order_term.kp, _, _, ih.ok_read_order_term, T.b_read_order_term⟩, trivial⟩⟩⟩⟩⟩⟩⟩ (hr.mono (by omega)) rfl (.inl rfl) (passes_call (takes_of rfl rfl rfl rfl) (fun _ _ _ _ h => h)) (q_cons (q_var (pv 0)) q_nil)))
 (s_cons (s_while 200 (passes_of rfl) (q_val (q_meth (tb := [(24, 84)]) (sps := fun j => spN (S A) 2 (ev n j)) oxb39822a656 txb39822a656 (fun j => prm_N (C := ev n) (i := j) (n := 2)) (q_fld ox1de9b0a300 tx1de9b0a300 (fl_reader T) (q_var (pv 0)) rfl) ⟨⟨T.cl_TokenReader, T.me_TokenReader_stands_one, _, _, ih.ok_TokenReader_stands_one, T.b_TokenReader_stands_one⟩, trivial⟩ (hr.mono (by omega)) pass0 (q_cons (q_var (pv 2)) q_nil)))
 (s_cons (s_set (i := 5) sc_read_chain.nd rfl (.inl rfl) (q_meth0 (tb := [(24, 81)]) (sps := fun j => spN (S A) 1 (ev n j)) ox600d6af0f3 tx600d6af0f3 (fun j => prm_N (C := ev n) (i := j) (n := 1)) (q_fld ox1de9b0a300 tx1de9b0a300 (fl_reader T) (q_var (pv 0)) rfl) ⟨⟨T.cl_TokenReader, T.me_TokenReader_take, _, _, ih.ok_TokenReader_take, T.b_TokenReader_take⟩, trivial⟩ (hr.mono (by omega)) pass0))
 (s_cons (s_set (i := 6) sc_read_chain.nd rfl (.inl rfl) (q_callL (S := S A) (fs := [101, 103, 107, 112, 132, 134, 135]) (sps := fun j => spE (S A) 1 (ev n j)) (fun j => prm_E (C := ev n) (i := j) (n := 1)) ⟨⟨T.F_read_both.kp, _, _, ih.ok_read_both, T.b_read_both⟩, ⟨⟨T.F_read_product.kp, _, _, ih.ok_read_product, T.b_read_product⟩, ⟨⟨T.F_read_turned.kp, _, _, ih.ok_read_turned, T.b_read_turned⟩, ⟨⟨T.F_read_signed.kp, _, _, ih.ok_read_signed, T.b_read_signed⟩, ⟨⟨T.F_read_group_path.kp, _, _, ih.ok_read_group_path, T.b_read_group_path⟩, ⟨⟨T.F_read_told.kp, _, _, ih.ok_read_told, T.b_read_told⟩, ⟨⟨T.F_read_order_term.kp, _, _, ih.ok_read_order_term, T.b_read_order_term⟩, trivial⟩⟩⟩⟩⟩⟩⟩ (hr.mono (by omega)) rfl (.inl rfl) (passes_call (takes_of rfl rfl rfl rfl) (fun _ _ _ _ h => h)) (q_cons (q_var (pv 0)) q_nil)))
 (s_cons (s_set (i := 7) sc_read_chain.nd rfl (.inl rfl) (q_call (prm_E (C := ev n) (i := 99) (n := 2)) ih.ok_joined_parameters (hr.mono (by omega)) (by rfl) T.g_joined_parameters T.F_joined_parameters.kp T.b_joined_parameters (passes_call (takes_of rfl rfl rfl rfl) (fun _ _ _ _ h => h)) (q_cons (q_var (pv 5)) (q_cons (q_lst (q_cons (q_var (pv 4)) (q_cons (q_var (pv 6)) q_nil))) q_nil))))
 (s_one (s_set (i := 4) sc_read_chain.nd rfl (.inl rfl) (q_make (ci := 25) (dcs := []) (fun _ _ => .nil) (prm_N (C := ev n) (i := 96) (n := 4)) T.mk_Drawn ih.ok_Drawn___init__ (hr.mono (by omega)) (by rfl) T.g_Drawn T.b_Drawn___init__ .nil pass0 (q_cons (q_call (prm_N (C := ev n) (i := 105) (n := 4)) ih.ok_longer_chain (hr.mono (by omega)) (by rfl) T.g_longer_chain T.F_longer_chain.kp T.b_longer_chain pass0 (q_cons (q_var (pv 1)) (q_cons (q_fld ox1cb251ec0d tx1cb251ec0d (fl_text T) (q_var (pv 5)) rfl) (q_cons (q_fld oxb4dad0fe5f txb4dad0fe5f (fl_term T) (q_var (pv 4)) rfl) (q_cons (q_fld oxb4dad0fe5f txb4dad0fe5f (fl_term T) (q_var (pv 6)) rfl) q_nil))))) (q_cons (q_ix ix_seq (so_ix (sta T)) (q_ix ix_kdict (so_ixD (sdk T)) (q_c (pe_glob (v := .ref A.t_ASKED) rfl T.g_ASKED rfl) fun _ _ => rfl) (q_fld ox1cb251ec0d tx1cb251ec0d (fl_text T) (q_var (pv 5)) rfl) (fun _ _ => rfl)) (q_c pe_int fun _ _ => rfl) (fun _ _ => rfl)) (q_cons (q_var (pv 7)) q_nil))))))))))
 (s_one (s_ret (q_var (pv 4))))))
theorem sc_longer_chain : FnScope ["level", "sign", "left", "right"] ["level", "sign", "left", "right"] (defScope (topS 96)) := ⟨rfl, rfl, rfl, by decide +kernel, rfl, by decide +kernel, by decide +kernel⟩
theorem z_longer_chain (T : Txt w K mg A) : FnOk P w K mg base CX0 1 A.f_longer_chain A.fd_longer_chain ["level", "sign", "left", "right"] (spN (S A) 4 (ev 0 105)) :=
  T.F_longer_chain.ok sc_longer_chain (fun vs H Q E h => (spN_no ev0 h).elim) (fun cdv Ar outer s H vs Q E hr h => (spN_no ev0 h).elim)
theorem st_longer_chain (T : Txt w K mg A) {n : Nat} (ih : IH P w K mg base A n) : FnOk P w K mg base CX0 (2 * (n + 1) + 1) A.f_longer_chain A.fd_longer_chain ["level", "sign", "left", "right"] (spN (S A) 4 (ev (n + 1) 105)) := by
  refine T.F_longer_chain.ok sc_longer_chain (fun vs H Q E h => spN_len h) (fun cdv Ar outer s H vs Q E hr h => body_N (N := ["level", "sign", "left", "right"]) (ev := b_longer_chain (ev n)) ?_ rfl (by decide) h)
  exact (s_cons (s_if (q_pt (q_wand (q_val (q_callB call_isi (sc_is (isk T)) rfl T.b_isinstance (by decide +kernel) (q_cons (q_var (pv 2)) (q_cons (q_c (pe_glob (v := .ref A.C_ChainTerm) rfl T.g_ChainTerm rfl) fun _ _ => rfl) q_nil)))) (q_wand1 (q_cmpT op_eq so_eq (q_fld oxc9e9a84892 txc9e9a84892 (fl_level T) (q_var (pv 2)) rfl) (q_var (pv 0)) (nomark _)))))
 (s_one (s_ret (q_make (ci := 16) (dcs := []) (fun _ _ => .nil) (prm_N (C := ev n) (i := 59) (n := 4)) T.mk_ChainTerm ih.ok_ChainTerm___init__ (hr.mono (by omega)) (by rfl) T.g_ChainTerm T.b_ChainTerm___init__ .nil pass0 (q_cons (q_var (pv 0)) (q_cons (q_fld ox8b04d5e377 tx8b04d5e377 (fl_first T) (q_var (pv 2)) rfl) (q_cons (q_op (opOr op_add (opOr op_add_str op_cat)) so_add (q_fld ox65e8800b5c tx65e8800b5c (fl_rest T) (q_var (pv 2)) rfl) (q_lst (q_cons (q_tup (q_cons (q_var (pv 1)) (q_cons (q_var (pv 3)) q_nil))) q_nil))) q_nil))))))
 s_nil)
 (s_one (s_ret (q_make (ci := 16) (dcs := []) (fun _ _ => .nil) (prm_N (C := ev n) (i := 59) (n := 4)) T.mk_ChainTerm ih.ok_ChainTerm___init__ (hr.mono (by omega)) (by rfl) T.g_ChainTerm T.b_ChainTerm___init__ .nil pass0 (q_cons (q_var (pv 0)) (q_cons (q_var (pv 2)) (q_cons (q_lst (q_cons (q_tup (q_cons (q_var (pv 1)) (q_cons (q_var (pv 3)) q_nil))) q_nil)) q_nil)))))))
theorem sc_pass_all : FnScope ["state", "text", "token", "many"] ["state", "text"] (defScope (topS 97)) := ⟨rfl, rfl, rfl, by decide +kernel, rfl, by decide +kernel, by decide +kernel⟩
theorem z_pass_all (T : Txt w K mg A) : FnOk P w K mg base CX0 1 A.f_pass_all A.fd_pass_all ["state", "text"] (spN (S A) 2 (ev 0 106)) :=
  T.F_pass_all.ok sc_pass_all (fun vs H Q E h => (spN_no ev0 h).elim) (fun cdv Ar outer s H vs Q E hr h => (spN_no ev0 h).elim)
theorem st_pass_all (T : Txt w K mg A) {n : Nat} (ih : IH P w K mg base A n) : FnOk P w K mg base CX0 (2 * (n + 1) + 1) A.f_pass_all A.fd_pass_all ["state", "text"] (spN (S A) 2 (ev (n + 1) 106)) := by
  refine T.F_pass_all.ok sc_pass_all (fun vs H Q E h => spN_len h) (fun cdv Ar outer s H vs Q E hr h => body_N (N := ["state", "text", "token", "many"]) (ev := b_pass_all (ev n)) ?_ rfl (by decide) h)
  exact (s_cons (s_set (i := 2) sc_pass_all.nd rfl (.inl rfl) (q_meth0 (tb := [(24, 79)]) (sps := fun j => spN (S A) 1 (ev n j)) ox6c92285fa6 tx6c92285fa6 (fun j => prm_N (C := ev n) (i := j) (n := 1)) (q_fld ox1de9b0a300 tx1de9b0a300 (fl_reader T) (q_var (pv 0)) rfl) ⟨⟨T.cl_TokenReader, T.me_TokenReader_here, _, _, ih.ok_TokenReader_here, T.b_TokenReader_here⟩, trivial⟩ (hr.mono (by omega)) pass0))
 (s_cons (s_set (i := 3) sc_pass_all.nd rfl (.inl rfl) (q_c pe_int fun _ _ => rfl))
 (s_cons (s_while 200 PassesOwn.never (q_val (q_meth (tb := [(24, 83)]) (sps := fun j => spN (S A) 2 (ev n j)) ox41157b1dde tx41157b1dde (fun j => prm_N (C := ev n) (i := j) (n := 2)) (q_fld ox1de9b0a300 tx1de9b0a300 (fl_reader T) (q_var (pv 0)) rfl) ⟨⟨T.cl_TokenReader, T.me_TokenReader_stands, _, _, ih.ok_TokenReader_stands, T.b_TokenReader_stands⟩, trivial⟩ (hr.mono (by omega)) pass0 (q_cons (q_var (pv 1)) q_nil)))
 (s_cons (s_set (i := 2) sc_pass_all.nd rfl (.inl rfl) (q_meth0 (tb := [(24, 81)]) (sps := fun j => spN (S A) 1 (ev n j)) ox600d6af0f3 tx600d6af0f3 (fun j => prm_N (C := ev n) (i := j) (n := 1)) (q_fld ox1de9b0a300 tx1de9b0a300 (fl_reader T) (q_var (pv 0)) rfl) ⟨⟨T.cl_TokenReader, T.me_TokenReader_take, _, _, ih.ok_TokenReader_take, T.b_TokenReader_take⟩, trivial⟩ (hr.mono (by omega)) pass0))
 (s_one (s_aug (i := 3) so_addN sc_pass_all.nd rfl (.inl rfl) (q_c pe_int fun _ _ => rfl) ip_add))))
 (s_one (s_ret (q_tup (q_cons (q_var (pv 2)) (q_cons (q_var (pv 3)) q_nil))))))))
theorem sc_read_turned : FnScope ["state", "word", "many", "inner"] ["state"] (defScope (topS 98)) := ⟨rfl, rfl, rfl, by decide +kernel, rfl, by decide +kernel, by decide +kernel⟩
theorem z_read_turned (T : Txt w K mg A) : FnOk P w K mg base (L2.CX P w) 1 A.f_read_turned A.fd_read_turned ["state"] (spE (S A) 1 (ev 0 107)) :=
  T.F_read_turned.okX sc_read_turned (fun vs H Q E h => (spE_no ev0 h).elim) (fun cdv Ar outer s H vs Q E hr h => (spE_no ev0 h).elim)
theorem st_read_turned (T : Txt w K mg A) {n : Nat} (ih : IH P w K mg base A n) : FnOk P w K mg base (L2.CX P w) (2 * (n + 1) + 1) A.f_read_turned A.fd_read_turned ["state"] (spE (S A) 1 (ev (n + 1) 107)) := by
  refine T.F_read_turned.okX sc_read_turned (fun vs H Q E h => spE_len h) (fun cdv Ar outer s H vs Q E hr h => body_E (N := ["state", "word", "many", "inner"]) (ev := b_read_turned (ev n)) ?_ rfl (by decide) h)
  exact (s_cons (s_asg (q_call (prm_N (C := ev n) (i := 106) (n := 2)) ih.ok_pass_all (hr.mono (by omega)) (by rfl) T.g_pass_all T.F_pass_all.kp T.b_pass_all pass0 (q_cons (q_var (pv 0)) (q_cons (q_str txd529e94150 oxd529e94150) q_nil))) (pg_tup rfl (pgs_cons (pg_name (i := 1) sc_read_turned.nd rfl (.inl rfl)) (pgs_cons (pg_name (i := 2) sc_read_turned.nd rfl (.inl rfl)) pgs_nil))) (g_tup (g_cons (g_name 1) (g_cons (g_name 2) g_nil))))
 (s_cons (s_set (i := 3) sc_read_turned.nd rfl (.inl rfl) (q_call (prm_E (C := ev n) (i := 108) (n := 1)) ih.ok_read_test (hr.mono (by omega)) (by rfl) T.g_read_test T.F_read_test.kp T.b_read_test (passes_call (takes_of rfl rfl rfl rfl) (fun _ _ _ _ h => h)) (q_cons (q_var (pv 0)) q_nil)))
 (s_cons (s_if (q_cmpT op_eq so_eq (q_var (pv 2)) (q_c pe_int fun _ _ => rfl) (nomark _))
 (s_one (s_ret (q_var (pv 3))))
 s_nil)
 (s_cons (s_if (q_cmpT op_ne so_ne (q_fld oxc47d187067 txc47d187067 (fl_word T) (q_var (pv 3)) rfl) (q_c (pe_glob (v := .str "truth") rfl T.g_TRUTH.choose_spec ⟨_, rfl⟩) fun _ _ => (relStr tx59d42c504c ox59d42c504c)) (nomark _))
 (s_one (s_raise (S := S A) (ps_raise rfl (takes_of rfl rfl rfl rfl) (pmk_oex T.oex T.ic_Fault T.ti_Fault (ok_Fault___init__ T) (hr.mono (by omega)) T.b_Fault___init__ .nil pass0 (by rfl) T.g_Fault (q_cons (q_fld oxebed715e82 txebed715e82 (fl_place T) (q_var (pv 1)) rfl) (q_cons (q_c (pe_glob (v := .str "sorts differ") rfl T.g_DIFFER.choose_spec ⟨_, rfl⟩) fun _ _ => (relStr txe363007e3a oxe363007e3a)) q_nil))))))
 s_nil)
 (s_one (s_ret (q_make (ci := 25) (dcs := []) (fun _ _ => .nil) (prm_N (C := ev n) (i := 96) (n := 4)) T.mk_Drawn ih.ok_Drawn___init__ (hr.mono (by omega)) (by rfl) T.g_Drawn T.b_Drawn___init__ .nil pass0 (q_cons (q_make (ci := 20) (dcs := []) (fun _ _ => .nil) (prm_N (C := ev n) (i := 63) (n := 3)) T.mk_NotTerm ih.ok_NotTerm___init__ (hr.mono (by omega)) (by rfl) T.g_NotTerm T.b_NotTerm___init__ .nil pass0 (q_cons (q_var (pv 2)) (q_cons (q_fld oxb4dad0fe5f txb4dad0fe5f (fl_term T) (q_var (pv 3)) rfl) q_nil))) (q_cons (q_c (pe_glob (v := .str "truth") rfl T.g_TRUTH.choose_spec ⟨_, rfl⟩) fun _ _ => (relStr tx59d42c504c ox59d42c504c)) (q_cons (q_fld ox166e64f6c3 tx166e64f6c3 (fl_parameters T) (q_var (pv 3)) rfl) q_nil))))))))))
theorem sc_read_test : FnScope ["state", "left"] ["state"] (defScope (topS 99)) := ⟨rfl, rfl, rfl, by decide +kernel, rfl, by decide +kernel, by decide +kernel⟩
theorem z_read_test (T : Txt w K mg A) : FnOk P w K mg base (L2.CX P w) 1 A.f_read_test A.fd_read_test ["state"] (spE (S A) 1 (ev 0 108)) :=
  T.F_read_test.okX sc_read_test (fun vs H Q E h => (spE_no ev0 h).elim) (fun cdv Ar outer s H vs Q E hr h => (spE_no ev0 h).elim)
theorem st_read_test (T : Txt w K mg A) {n : Nat} (ih : IH P w K mg base A n) : FnOk P w K mg base (L2.CX P w) (2 * (n + 1) + 1) A.f_read_test A.fd_read_test ["state"] (spE (S A) 1 (ev (n + 1) 108)) := by
  refine T.F_read_test.okX sc_read_test (fun vs H Q E h => spE_len h) (fun cdv Ar outer s H vs Q E hr h => body_E (N := ["state", "left"]) (ev := b_read_test (ev n)) ?_ rfl (by decide) h)
  exact (s_cons (s_set (i := 1) sc_read_test.nd rfl (.inl rfl) (q_call (prm_E (C := ev n) (i := 102) (n := 1)) ih.ok_read_sum (hr.mono (by omega)) (by rfl) T.g_read_sum T.F_read_sum.kp T.b_read_sum (passes_call (takes_of rfl rfl rfl rfl) (fun _ _ _ _ h => h)) (q_cons (q_var (pv 0)) q_nil)))
 (s_cons (s_if (q_val (q_meth (tb := [(24, 84)]) (sps := fun j => spN (S A) 2 (ev n j)) oxb39822a656 txb39822a656 (fun j => prm_N (C := ev n) (i := j) (n := 2)) (q_fld ox1de9b0a300 tx1de9b0a300 (fl_reader T) (q_var (pv 0)) rfl) ⟨⟨T.cl_TokenReader, T.me_TokenReader_stands_one, _, _, ih.ok_TokenReader_stands_one, T.b_TokenReader_stands_one⟩, trivial⟩ (hr.mono (by omega)) pass0 (q_cons (q_c (pe_glob (v := .ref A.t_COMPARISONS) rfl T.g_COMPARISONS rfl) fun _ _ => rfl) q_nil)))
 (s_one (s_ret (q_call (prm_E (C := ev n) (i := 109) (n := 2)) ih.ok_read_comparison (hr.mono (by omega)) (by rfl) T.g_read_comparison T.F_read_comparison.kp T.b_read_comparison (passes_call (takes_of rfl rfl rfl rfl) (fun _ _ _ _ h => h)) (q_cons (q_var (pv 0)) (q_cons (q_var (pv 1)) q_nil)))))
 s_nil)
 (s_cons (s_if (q_val (q_meth (tb := [(24, 83)]) (sps := fun j => spN (S A) 2 (ev n j)) ox41157b1dde tx41157b1dde (fun j => prm_N (C := ev n) (i := j) (n := 2)) (q_fld ox1de9b0a300 tx1de9b0a300 (fl_reader T) (q_var (pv 0)) rfl) ⟨⟨T.cl_TokenReader, T.me_TokenReader_stands, _, _, ih.ok_TokenReader_stands, T.b_TokenReader_stands⟩, trivial⟩ (hr.mono (by omega)) pass0 (q_cons (q_str txa2a551a645 oxa2a551a645) q_nil)))
 (s_one (s_ret (q_call (prm_E (C := ev n) (i := 110) (n := 2)) ih.ok_read_null (hr.mono (by omega)) (by rfl) T.g_read_null T.F_read_null.kp T.b_read_null (passes_call (takes_of rfl rfl rfl rfl) (fun _ _ _ _ h => h)) (q_cons (q_var (pv 0)) (q_cons (q_var (pv 1)) q_nil)))))
 s_nil)
 (s_cons (s_if (q_val (q_meth (tb := [(24, 83)]) (sps := fun j => spN (S A) 2 (ev n j)) ox41157b1dde tx41157b1dde (fun j => prm_N (C := ev n) (i := j) (n := 2)) (q_fld ox1de9b0a300 tx1de9b0a300 (fl_reader T) (q_var (pv 0)) rfl) ⟨⟨T.cl_TokenReader, T.me_TokenReader_stands, _, _, ih.ok_TokenReader_stands, T.b_TokenReader_stands⟩, trivial⟩ (hr.mono (by omega)) pass0 (q_cons (q_str tx13b5bfe96f ox13b5bfe96f) q_nil)))
 (s_one (s_ret (q_call (prm_E (C := ev n) (i := 111) (n := 2)) ih.ok_read_among (hr.mono (by omega)) (by rfl) T.g_read_among T.F_read_among.kp T.b_read_among (passes_call (takes_of rfl rfl rfl rfl) (fun _ _ _ _ h => h)) (q_cons (q_var (pv 0)) (q_cons (q_var (pv 1)) q_nil)))))
 s_nil)
 (s_one (s_ret (q_var (pv 1))))))))
theorem sc_read_comparison : FnScope ["state", "left", "sign", "right", "parameters"] ["state", "left"] (defScope (topS 100)) := ⟨rfl, rfl, rfl, by decide +kernel, rfl, by decide +kernel, by decide +kernel⟩
theorem z_read_comparison (T : Txt w K mg A) : FnOk P w K mg base (L2.CX P w) 1 A.f_read_comparison A.fd_read_comparison ["state", "left"] (spE (S A) 2 (ev 0 109)) :=
  T.F_read_comparison.okX sc_read_comparison (fun vs H Q E h => (spE_no ev0 h).elim) (fun cdv Ar outer s H vs Q E hr h => (spE_no ev0 h).elim)
theorem st_read_comparison (T : Txt w K mg A) {n : Nat} (ih : IH P w K mg base A n) : FnOk P w K mg base (L2.CX P w) (2 * (n + 1) + 1) A.f_read_comparison A.fd_read_comparison ["state", "left"] (spE (S A) 2 (ev (n + 1) 109)) := by
  refine T.F_read_comparison.okX sc_read_comparison (fun vs H Q E h => spE_len h) (fun cdv Ar outer s H vs Q E hr h => body_E (N := ["state", "left", "sign", "right", "parameters"]) (ev := b_read_comparison (ev n)) ?_ rfl (by decide) h)
  exact (s_cons (s_set (i := 2) sc_read_comparison.nd rfl (.inl rfl) (q_meth0 (tb := [(24, 81)]) (sps := fun j => spN (S A) 1 (ev n j)) ox600d6af0f3 tx600d6af0f3 (fun j => prm_N (C := ev n) (i := j) (n := 1)) (q_fld ox1de9b0a300 tx1de9b0a300 (fl_reader T) (q_var (pv 0)) rfl) ⟨⟨T.cl_TokenReader, T.me_TokenReader_take, _, _, ih.ok_TokenReader_take, T.b_TokenReader_take⟩, trivial⟩ (hr.mono (by omega)) pass0))
 (s_cons (s_set (i := 3) sc_read_comparison.nd rfl (.inl rfl) (q_call (prm_E (C := ev n) (i := 102) (n := 1)) ih.ok_read_sum (hr.mono (by omega)) (by rfl) T.g_read_sum T.F_read_sum.kp T.b_read_sum (passes_call (takes_of rfl rfl rfl rfl) (fun _ _ _ _ h => h)) (q_cons (q_var (pv 0)) q_nil)))
 (s_cons (s_set (i := 4) sc_read_comparison.nd rfl (.inl rfl) (q_call (prm_E (C := ev n) (i := 99) (n := 2)) ih.ok_joined_parameters (hr.mono (by omega)) (by rfl) T.g_joined_parameters T.F_joined_parameters.kp T.b_joined_parameters (passes_call (takes_of rfl rfl rfl rfl) (fun _ _ _ _ h => h)) (q_cons (q_var (pv 2)) (q_cons (q_lst (q_cons (q_var (pv 1)) (q_cons (q_var (pv 3)) q_nil))) q_nil))))
 (s_one (s_ret (q_make (ci := 25) (dcs := []) (fun _ _ => .nil) (prm_N (C := ev n) (i := 96) (n := 4)) T.mk_Drawn ih.ok_Drawn___init__ (hr.mono (by omega)) (by rfl) T.g_Drawn T.b_Drawn___init__ .nil pass0 (q_cons (q_make (ci := 17) (dcs := []) (fun _ _ => .nil) (prm_N (C := ev n) (i := 60) (n := 4)) T.mk_CompareTerm ih.ok_CompareTerm___init__ (hr.mono (by omega)) (by rfl) T.g_CompareTerm T.b_CompareTerm___init__ .nil pass0 (q_cons (q_fld ox1cb251ec0d tx1cb251ec0d (fl_text T) (q_var (pv 2)) rfl) (q_cons (q_fld oxb4dad0fe5f txb4dad0fe5f (fl_term T) (q_var (pv 1)) rfl) (q_cons (q_fld oxb4dad0fe5f txb4dad0fe5f (fl_term T) (q_var (pv 3)) rfl) q_nil)))) (q_cons (q_c (pe_glob (v := .str "truth") rfl T.g_TRUTH.choose_spec ⟨_, rfl⟩) fun _ _ => (relStr tx59d42c504c ox59d42c504c)) (q_cons (q_var (pv 4)) q_nil)))))))))
theorem sc_read_null : FnScope ["state", "left", "word", "turned"] ["state", "left"] (defScope (topS 101)) := ⟨rfl, rfl, rfl, by decide +kernel, rfl, by decide +kernel, by decide +kernel⟩
theorem z_read_null (T : Txt w K mg A) : FnOk P w K mg base (L2.CX P w) 1 A.f_read_null A.fd_read_null ["state", "left"] (spE (S A) 2 (ev 0 110)) :=
  T.F_read_null.okX sc_read_null (fun vs H Q E h => (spE_no ev0 h).elim) (fun cdv Ar outer s H vs Q E hr h => (spE_no ev0 h).elim)
theorem st_read_null (T : Txt w K mg A) {n : Nat} (ih : IH P w K mg base A n) : FnOk P w K mg base (L2.CX P w) (2 * (n + 1) + 1) A.f_read_null A.fd_read_null ["state", "left"] (spE (S A) 2 (ev (n + 1) 110)) := by
  refine T.F_read_null.okX sc_read_null (fun vs H Q E h => spE_len h) (fun cdv Ar outer s H vs Q E hr h => body_E (N := ["state", "left", "word", "turned"]) (ev := b_read_null (ev n)) ?_ rfl (by decide) h)
  exact (s_cons (s_set (i := 2) sc_read_null.nd rfl (.inl rfl) (q_meth0 (tb := [(24, 81)]) (sps := fun j => spN (S A) 1 (ev n j)) ox600d6af0f3 tx600d6af0f3 (fun j => prm_N (C := ev n) (i := j) (n := 1)) (q_fld ox1de9b0a300 tx1de9b0a300 (fl_reader T) (q_var (pv 0)) rfl) ⟨⟨T.cl_TokenReader, T.me_TokenReader_take, _, _, ih.ok_TokenReader_take, T.b_TokenReader_take⟩, trivial⟩ (hr.mono (by omega)) pass0))
 (s_cons (s_set (i := 3) sc_read_null.nd rfl (.inl rfl) (q_meth (tb := [(24, 85)]) (sps := fun j => spN (S A) 2 (ev n j)) ox9560f74c21 tx9560f74c21 (fun j => prm_N (C := ev n) (i := j) (n := 2)) (q_fld ox1de9b0a300 tx1de9b0a300 (fl_reader T) (q_var (pv 0)) rfl) ⟨⟨T.cl_TokenReader, T.me_TokenReader_passes, _, _, ih.ok_TokenReader_passes, T.b_TokenReader_passes⟩, trivial⟩ (hr.mono (by omega)) pass0 (q_cons (q_str txd529e94150 oxd529e94150) q_nil)))
 (s_cons (s_expr (q_meth (tb := [(24, 86)]) (sps := fun j => spE (S A) 2 (ev n j)) oxd0e6ef34e7 txd0e6ef34e7 (fun j => prm_E (C := ev n) (i := j) (n := 2)) (q_fld ox1de9b0a300 tx1de9b0a300 (fl_reader T) (q_var (pv 0)) rfl) ⟨⟨T.cl_TokenReader, T.me_TokenReader_must, _, _, ih.ok_TokenReader_must, T.b_TokenReader_must⟩, trivial⟩ (hr.mono (by omega)) (passes_call (takes_of rfl rfl rfl rfl) (fun _ _ _ _ h => h)) (q_cons (q_str tx37a6259cc0 ox37a6259cc0) q_nil)))
 (s_cons (s_if (q_pt (q_wor (q_cmpT op_eq so_eq (q_fld oxc47d187067 txc47d187067 (fl_word T) (q_var (pv 1)) rfl) (q_c (pe_glob (v := .str "truth") rfl T.g_TRUTH.choose_spec ⟨_, rfl⟩) fun _ _ => (relStr tx59d42c504c ox59d42c504c)) (nomark _)) (q_wor1 (q_cmpT op_eq so_eq (q_fld oxc47d187067 txc47d187067 (fl_word T) (q_var (pv 1)) rfl) (q_c (pe_glob (v := .str "parameter") rfl T.g_PARAMETER.choose_spec ⟨_, rfl⟩) fun _ _ => (relStr tx03144cce1f ox03144cce1f)) (nomark _)))))
 (s_one (s_raise (S := S A) (ps_raise rfl (takes_of rfl rfl rfl rfl) (pmk_oex T.oex T.ic_Fault T.ti_Fault (ok_Fault___init__ T) (hr.mono (by omega)) T.b_Fault___init__ .nil pass0 (by rfl) T.g_Fault (q_cons (q_fld oxebed715e82 txebed715e82 (fl_place T) (q_var (pv 2)) rfl) (q_cons (q_c (pe_glob (v := .str "sorts differ") rfl T.g_DIFFER.choose_spec ⟨_, rfl⟩) fun _ _ => (relStr txe363007e3a oxe363007e3a)) q_nil))))))
 s_nil)
 (s_one (s_ret (q_make (ci := 25) (dcs := []) (fun _ _ => .nil) (prm_N (C := ev n) (i := 96) (n := 4)) T.mk_Drawn ih.ok_Drawn___init__ (hr.mono (by omega)) (by rfl) T.g_Drawn T.b_Drawn___init__ .nil pass0 (q_cons (q_make (ci := 18) (dcs := []) (fun _ _ => .nil) (prm_N (C := ev n) (i := 61) (n := 3)) T.mk_NullTerm ih.ok_NullTerm___init__ (hr.mono (by omega)) (by rfl) T.g_NullTerm T.b_NullTerm___init__ .nil pass0 (q_cons (q_fld oxb4dad0fe5f txb4dad0fe5f (fl_term T) (q_var (pv 1)) rfl) (q_cons (q_var (pv 3)) q_nil))) (q_cons (q_c (pe_glob (v := .str "truth") rfl T.g_TRUTH.choose_spec ⟨_, rfl⟩) fun _ _ => (relStr tx59d42c504c ox59d42c504c)) (q_cons (q_fld ox166e64f6c3 tx166e64f6c3 (fl_parameters T) (q_var (pv 1)) rfl) q_nil))))))))))
theorem sc_read_among : FnScope ["state", "left", "word", "others", "parameters", "other"] ["state", "left"] (defScope (topS 102)) := ⟨rfl, rfl, rfl, by decide +kernel, rfl, by decide +kernel, by decide +kernel⟩
theorem z_read_among (T : Txt w K mg A) : FnOk P w K mg base (L2.CX P w) 1 A.f_read_among A.fd_read_among ["state", "left"] (spE (S A) 2 (ev 0 111)) :=
  T.F_read_among.okX sc_read_among (fun vs H Q E h => (spE_no ev0 h).elim) (fun cdv Ar outer s H vs Q E hr h => (spE_no ev0 h).elim)
theorem st_read_among (T : Txt w K mg A) {n : Nat} (ih : IH P w K mg base A n) : FnOk P w K mg base (L2.CX P w) (2 * (n + 1) + 1) A.f_read_among A.fd_read_among ["state", "left"] (spE (S A) 2 (ev (n + 1) 111)) := by
  refine T.F_read_among.okX sc_read_among (fun vs H Q E h => spE_len h) (fun cdv Ar outer s H vs Q E hr h => body_E (N := ["state", "left", "word", "others", "parameters", "other"]) (ev := b_read_among (ev n)) ?_ rfl (by decide) h)
  exact (s_cons (s_set (i := 2) sc_read_among.nd rfl (.inl rfl) (q_meth0 (tb := [(24, 81)]) (sps := fun j => spN (S A) 1 (ev n j)) ox600d6af0f3 tx600d6af0f3 (fun j => prm_N (C := ev n) (i := j) (n := 1)) (q_fld ox1de9b0a300 tx1de9b0a300 (fl_reader T) (q_var (pv 0)) rfl) ⟨⟨T.cl_TokenReader, T.me_TokenReader_take, _, _, ih.ok_TokenReader_take, T.b_TokenReader_take⟩, trivial⟩ (hr.mono (by omega)) pass0))
 (s_cons (s_expr (q_meth (tb := [(24, 86)]) (sps := fun j => spE (S A) 2 (ev n j)) oxd0e6ef34e7 txd0e6ef34e7 (fun j => prm_E (C := ev n) (i := j) (n := 2)) (q_fld ox1de9b0a300 tx1de9b0a300 (fl_reader T) (q_var (pv 0)) rfl) ⟨⟨T.cl_TokenReader, T.me_TokenReader_must, _, _, ih.ok_TokenReader_must, T.b_TokenReader_must⟩, trivial⟩ (hr.mono (by omega)) (passes_call (takes_of rfl rfl rfl rfl) (fun _ _ _ _ h => h)) (q_cons (q_str tx84c4047341 ox84c4047341) q_nil)))
 (s_cons (s_set (i := 3) sc_read_among.nd rfl (.inl rfl) (q_lst (q_cons (q_call (prm_E (C := ev n) (i := 102) (n := 1)) ih.ok_read_sum (hr.mono (by omega)) (by rfl) T.g_read_sum T.F_read_sum.kp T.b_read_sum (passes_call (takes_of rfl rfl rfl rfl) (fun _ _ _ _ h => h)) (q_cons (q_var (pv 0)) q_nil)) q_nil)))
 (s_cons (s_while 200 (passes_of rfl) (q_val (q_meth (tb := [(24, 85)]) (sps := fun j => spN (S A) 2 (ev n j)) ox9560f74c21 tx9560f74c21 (fun j => prm_N (C := ev n) (i := j) (n := 2)) (q_fld ox1de9b0a300 tx1de9b0a300 (fl_reader T) (q_var (pv 0)) rfl) ⟨⟨T.cl_TokenReader, T.me_TokenReader_passes, _, _, ih.ok_TokenReader_passes, T.b_TokenReader_passes⟩, trivial⟩ (hr.mono (by omega)) pass0 (q_cons (q_str txc0cb5f0fcf oxc0cb5f0fcf) q_nil)))
 (s_one (s_expr (q_bm PySem.F.plainAttrs_list PySem.F.slot_list_append PySem.F.type_list_append mt_append sm_app (q_var (pv 3)) (q_cons (q_call (prm_E (C := ev n) (i := 102) (n := 1)) ih.ok_read_sum (hr.mono (by omega)) (by rfl) T.g_read_sum T.F_read_sum.kp T.b_read_sum (passes_call (takes_of rfl rfl rfl rfl) (fun _ _ _ _ h => h)) (q_cons (q_var (pv 0)) q_nil)) q_nil)))))
 (s_cons (s_expr (q_meth (tb := [(24, 86)]) (sps := fun j => spE (S A) 2 (ev n j)) oxd0e6ef34e7 txd0e6ef34e7 (fun j => prm_E (C := ev n) (i := j) (n := 2)) (q_fld ox1de9b0a300 tx1de9b0a300 (fl_reader T) (q_var (pv 0)) rfl) ⟨⟨T.cl_TokenReader, T.me_TokenReader_must, _, _, ih.ok_TokenReader_must, T.b_TokenReader_must⟩, trivial⟩ (hr.mono (by omega)) (passes_call (takes_of rfl rfl rfl rfl) (fun _ _ _ _ h => h)) (q_cons (q_str tx9371d7a2e3 ox9371d7a2e3) q_nil)))
 (s_cons (s_set (i := 4) sc_read_among.nd rfl (.inl rfl) (q_call (prm_E (C := ev n) (i := 99) (n := 2)) ih.ok_joined_parameters (hr.mono (by omega)) (by rfl) T.g_joined_parameters T.F_joined_parameters.kp T.b_joined_parameters (passes_call (takes_of rfl rfl rfl rfl) (fun _ _ _ _ h => h)) (q_cons (q_var (pv 2)) (q_cons (q_lst (q_cons (q_var (pv 1)) (q_star (sta T) (q_var (pv 3)) q_nil))) q_nil))))
 (s_one (s_ret (q_make (ci := 25) (dcs := []) (fun _ _ => .nil) (prm_N (C := ev n) (i := 96) (n := 4)) T.mk_Drawn ih.ok_Drawn___init__ (hr.mono (by omega)) (by rfl) T.g_Drawn T.b_Drawn___init__ .nil pass0 (q_cons (q_make (ci := 19) (dcs := []) (fun _ _ => .nil) (prm_N (C := ev n) (i := 62) (n := 3)) T.mk_AmongTerm ih.ok_AmongTerm___init__ (hr.mono (by omega)) (by rfl) T.g_AmongTerm T.b_AmongTerm___init__ .nil pass0 (q_cons (q_fld oxb4dad0fe5f txb4dad0fe5f (fl_term T) (q_var (pv 1)) rfl) (q_cons (q_lc (own := [("other", 5)]) (vs := [5]) 200 (sta T) rfl sc_read_among.nd (q_var (pv 3)) (blkOk_by (own := [("other", 5)]) (N := ["state", "left", "word", "others", "parameters", "other"]) (sc := defScope (topS 102)) (by decide +kernel)) rfl (fun _ _ _ _ _ => (pg_name (i := 5) sc_read_among.nd rfl (Or.inl rfl))) (g_name 5) (by decide) (fun _ _ _ _ _ => pts_nil) snd_yes (fun _ _ _ _ _ => by exact (q_fld oxb4dad0fe5f txb4dad0fe5f (fl_term T) (q_var (pv 5)) rfl))) q_nil))) (q_cons (q_c (pe_glob (v := .str "truth") rfl T.g_TRUTH.choose_spec ⟨_, rfl⟩) fun _ _ => (relStr tx59d42c504c ox59d42c504c)) (q_cons (q_var (pv 4)) q_nil))))))))))))
theorem sc_read_signed : FnScope ["state", "sign", "many", "inner"] ["state"] (defScope (topS 103)) := ⟨rfl, rfl, rfl, by decide +kernel, rfl, by decide +kernel, by decide +kernel⟩
theorem z_read_signed (T : Txt w K mg A) : FnOk P w K mg base (L2.CX P w) 1 A.f_read_signed A.fd_read_signed ["state"] (spE (S A) 1 (ev 0 112)) :=
  T.F_read_signed.okX sc_read_signed (fun vs H Q E h => (spE_no ev0 h).elim) (fun cdv Ar outer s H vs Q E hr h => (spE_no ev0 h).elim)
theorem st_read_signed (T : Txt w K mg A) {n : Nat} (ih : IH P w K mg base A n) : FnOk P w K mg base (L2.CX P w) (2 * (n + 1) + 1) A.f_read_signed A.fd_read_signed ["state"] (spE (S A) 1 (ev (n + 1) 112)) := by
  refine T.F_read_signed.okX sc_read_signed (fun vs H Q E h => spE_len h) (fun cdv Ar outer s H vs Q E hr h => body_E (N := ["state", "sign", "many", "inner"]) (ev := b_read_signed (ev n)) ?_ rfl (by decide) h)
  exact (s_cons (s_asg (q_call (prm_N (C := ev n) (i := 106) (n := 2)) ih.ok_pass_all (hr.mono (by omega)) (by rfl) T.g_pass_all T.F_pass_all.kp T.b_pass_all pass0 (q_cons (q_var (pv 0)) (q_cons (q_str tx336d5ebc54 ox336d5ebc54) q_nil))) (pg_tup rfl (pgs_cons (pg_name (i := 1) sc_read_signed.nd rfl (.inl rfl)) (pgs_cons (pg_name (i := 2) sc_read_signed.nd rfl (.inl rfl)) pgs_nil))) (g_tup (g_cons (g_name 1) (g_cons (g_name 2) g_nil))))
 (s_cons (s_set (i := 3) sc_read_signed.nd rfl (.inl rfl) (q_call (prm_E (C := ev n) (i := 113) (n := 1)) ih.ok_read_single (hr.mono (by omega)) (by rfl) T.g_read_single T.F_read_single.kp T.b_read_single (passes_call (takes_of rfl rfl rfl rfl) (fun _ _ _ _ h => h)) (q_cons (q_var (pv 0)) q_nil)))
 (s_cons (s_if (q_cmpT op_eq so_eq (q_var (pv 2)) (q_c pe_int fun _ _ => rfl) (nomark _))
 (s_one (s_ret (q_var (pv 3))))
 s_nil)
 (s_cons (s_if (q_pt (q_wand (q_cmpT op_ne so_ne (q_fld oxc47d187067 txc47d187067 (fl_word T) (q_var (pv 3)) rfl) (q_c (pe_glob (v := .str "integer") rfl T.g_INTEGER.choose_spec ⟨_, rfl⟩) fun _ _ => (relStr tx157db7df53 ox157db7df53)) (nomark _)) (q_wand1 (q_cmpT op_ne so_ne (q_fld oxc47d187067 txc47d187067 (fl_word T) (q_var (pv 3)) rfl) (q_c (pe_glob (v := .str "parameter") rfl T.g_PARAMETER.choose_spec ⟨_, rfl⟩) fun _ _ => (relStr tx03144cce1f ox03144cce1f)) (nomark _)))))
 (s_one (s_raise (S := S A) (ps_raise rfl (takes_of rfl rfl rfl rfl) (pmk_oex T.oex T.ic_Fault T.ti_Fault (ok_Fault___init__ T) (hr.mono (by omega)) T.b_Fault___init__ .nil pass0 (by rfl) T.g_Fault (q_cons (q_fld oxebed715e82 txebed715e82 (fl_place T) (q_var (pv 1)) rfl) (q_cons (q_c (pe_glob (v := .str "sorts differ") rfl T.g_DIFFER.choose_spec ⟨_, rfl⟩) fun _ _ => (relStr txe363007e3a oxe363007e3a)) q_nil))))))
 s_nil)
 (s_one (s_ret (q_make (ci := 25) (dcs := []) (fun _ _ => .nil) (prm_N (C := ev n) (i := 96) (n := 4)) T.mk_Drawn ih.ok_Drawn___init__ (hr.mono (by omega)) (by rfl) T.g_Drawn T.b_Drawn___init__ .nil pass0 (q_cons (q_make (ci := 21) (dcs := []) (fun _ _ => .nil) (prm_N (C := ev n) (i := 64) (n := 3)) T.mk_MinusTerm ih.ok_MinusTerm___init__ (hr.mono (by omega)) (by rfl) T.g_MinusTerm T.b_MinusTerm___init__ .nil pass0 (q_cons (q_var (pv 2)) (q_cons (q_fld oxb4dad0fe5f txb4dad0fe5f (fl_term T) (q_var (pv 3)) rfl) q_nil))) (q_cons (q_c (pe_glob (v := .str "integer") rfl T.g_INTEGER.choose_spec ⟨_, rfl⟩) fun _ _ => (relStr tx157db7df53 ox157db7df53)) (q_cons (q_call (prm_N (C := ev n) (i := 97) (n := 2)) ih.ok_parameters_as (hr.mono (by omega)) (by rfl) T.g_parameters_as T.F_parameters_as.kp T.b_parameters_as pass0 (q_cons (q_var (pv 3)) (q_cons (q_c (pe_glob (v := .str "integer") rfl T.g_INTEGER.choose_spec ⟨_, rfl⟩) fun _ _ => (relStr tx157db7df53 ox157db7df53)) q_nil))) q_nil))))))))))
theorem sc_read_single : FnScope ["state", "token", "path"] ["state"] (defScope (topS 104)) := ⟨rfl, rfl, rfl, by decide +kernel, rfl, by decide +kernel, by decide +kernel⟩
theorem z_read_single (T : Txt w K mg A) : FnOk P w K mg base (L2.CX P w) 1 A.f_read_single A.fd_read_single ["state"] (spE (S A) 1 (ev 0 113)) :=
  T.F_read_single.okX sc_read_single (fun vs H Q E h => (spE_no ev0 h).elim) (fun cdv Ar outer s H vs Q E hr h => (spE_no ev0 h).elim)
theorem st_read_single (T : Txt w K mg A) {n : Nat} (ih : IH P w K mg base A n) : FnOk P w K mg base (L2.CX P w) (2 * (n + 1) + 1) A.f_read_single A.fd_read_single ["state"] (spE (S A) 1 (ev (n + 1) 113)) := by
  refine T.F_read_single.okX sc_read_single (fun vs H Q E h => spE_len h) (fun cdv Ar outer s H vs Q E hr h => body_E (N := ["state", "token", "path"]) (ev := b_read_single (ev n)) ?_ rfl (by decide) h)
  exact (s_cons (s_set (i := 1) sc_read_single.nd rfl (.inl rfl) (q_meth0 (tb := [(24, 79)]) (sps := fun j => spN (S A) 1 (ev n j)) ox6c92285fa6 tx6c92285fa6 (fun j => prm_N (C := ev n) (i := j) (n := 1)) (q_fld ox1de9b0a300 tx1de9b0a300 (fl_reader T) (q_var (pv 0)) rfl) ⟨⟨T.cl_TokenReader, T.me_TokenReader_here, _, _, ih.ok_TokenReader_here, T.b_TokenReader_here⟩, trivial⟩ (hr.mono (by omega)) pass0))
 (s_cons (s_if (q_cmpT op_eq so_eq (q_fld ox29a7e96467 tx29a7e96467 (fl_role T) (q_var (pv 1)) rfl) (q_str txb1bc248a7f oxb1bc248a7f) (nomark _))
 (s_one (s_ret (q_make (ci := 25) (dcs := []) (fun _ _ => .nil) (prm_N (C := ev n) (i := 96) (n := 4)) T.mk_Drawn ih.ok_Drawn___init__ (hr.mono (by omega)) (by rfl) T.g_Drawn T.b_Drawn___init__ .nil pass0 (q_cons (q_call (prm_E (C := ev n) (i := 114) (n := 1)) ih.ok_read_number (hr.mono (by omega)) (by rfl) T.g_read_number T.F_read_number.kp T.b_read_number (passes_call (takes_of rfl rfl rfl rfl) (fun _ _ _ _ h => h)) (q_cons (q_var (pv 0)) q_nil)) (q_cons (q_c (pe_glob (v := .str "integer") rfl T.g_INTEGER.choose_spec ⟨_, rfl⟩) fun _ _ => (relStr tx157db7df53 ox157db7df53)) (q_cons q_dnew q_nil))))))
 s_nil)
 (s_cons (s_if (q_cmpT op_eq so_eq (q_fld ox29a7e96467 tx29a7e96467 (fl_role T) (q_var (pv 1)) rfl) (q_str tx1cb251ec0d ox1cb251ec0d) (nomark _))
 (s_one (s_ret (q_make (ci := 25) (dcs := []) (fun _ _ => .nil) (prm_N (C := ev n) (i := 96) (n := 4)) T.mk_Drawn ih.ok_Drawn___init__ (hr.mono (by omega)) (by rfl) T.g_Drawn T.b_Drawn___init__ .nil pass0 (q_cons (q_make (ci := 9) (dcs := []) (fun _ _ => .nil) (prm_N (C := ev n) (i := 52) (n := 2)) T.mk_TextTerm ih.ok_TextTerm___init__ (hr.mono (by omega)) (by rfl) T.g_TextTerm T.b_TextTerm___init__ .nil pass0 (q_cons (q_fld ox1cb251ec0d tx1cb251ec0d (fl_text T) (q_meth0 (tb := [(24, 81)]) (sps := fun j => spN (S A) 1 (ev n j)) ox600d6af0f3 tx600d6af0f3 (fun j => prm_N (C := ev n) (i := j) (n := 1)) (q_fld ox1de9b0a300 tx1de9b0a300 (fl_reader T) (q_var (pv 0)) rfl) ⟨⟨T.cl_TokenReader, T.me_TokenReader_take, _, _, ih.ok_TokenReader_take, T.b_TokenReader_take⟩, trivial⟩ (hr.mono (by omega)) pass0) rfl) q_nil)) (q_cons (q_c (pe_glob (v := .str "text") rfl T.g_TEXT.choose_spec ⟨_, rfl⟩) fun _ _ => (relStr tx1cb251ec0d ox1cb251ec0d)) (q_cons q_dnew q_nil))))))
 s_nil)
 (s_cons (s_if (q_val (q_meth (tb := [(24, 83)]) (sps := fun j => spN (S A) 2 (ev n j)) ox41157b1dde tx41157b1dde (fun j => prm_N (C := ev n) (i := j) (n := 2)) (q_fld ox1de9b0a300 tx1de9b0a300 (fl_reader T) (q_var (pv 0)) rfl) ⟨⟨T.cl_TokenReader, T.me_TokenReader_stands, _, _, ih.ok_TokenReader_stands, T.b_TokenReader_stands⟩, trivial⟩ (hr.mono (by omega)) pass0 (q_cons (q_str tx853ae90f03 ox853ae90f03) q_nil)))
 (s_one (s_ret (q_make (ci := 25) (dcs := []) (fun _ _ => .nil) (prm_N (C := ev n) (i := 96) (n := 4)) T.mk_Drawn ih.ok_Drawn___init__ (hr.mono (by omega)) (by rfl) T.g_Drawn T.b_Drawn___init__ .nil pass0 (q_cons (q_call (prm_E (C := ev n) (i := 115) (n := 1)) ih.ok_read_parameter (hr.mono (by omega)) (by rfl) T.g_read_parameter T.F_read_parameter.kp T.b_read_parameter (passes_call (takes_of rfl rfl rfl rfl) (fun _ _ _ _ h => h)) (q_cons (q_var (pv 0)) q_nil)) (q_cons (q_c (pe_glob (v := .str "parameter") rfl T.g_PARAMETER.choose_spec ⟨_, rfl⟩) fun _ _ => (relStr tx03144cce1f ox03144cce1f)) (q_cons q_dnew q_nil))))))
 s_nil)
 (s_cons (s_if (q_val (q_meth0 (tb := [(24, 91)]) (sps := fun j => spN (S A) 1 (ev n j)) oxdfdb8de5b7 txdfdb8de5b7 (fun j => prm_N (C := ev n) (i := j) (n := 1)) (q_fld ox1de9b0a300 tx1de9b0a300 (fl_reader T) (q_var (pv 0)) rfl) ⟨⟨T.cl_TokenReader, T.me_TokenReader_small_name_stands, _, _, ih.ok_TokenReader_small_name_stands, T.b_TokenReader_small_name_stands⟩, trivial⟩ (hr.mono (by omega)) pass0))
 (s_cons (s_set (i := 2) sc_read_single.nd rfl (.inl rfl) (q_call (prm_E (C := ev n) (i := 73) (n := 1)) ih.ok_read_plain_path (hr.mono (by omega)) (by rfl) T.g_read_plain_path T.F_read_plain_path.kp T.b_read_plain_path (passes_call (takes_of rfl rfl rfl rfl) (fun _ _ _ _ h => h)) (q_cons (q_var (pv 0)) q_nil)))
 (s_one (s_ret (q_make (ci := 25) (dcs := []) (fun _ _ => .nil) (prm_N (C := ev n) (i := 96) (n := 4)) T.mk_Drawn ih.ok_Drawn___init__ (hr.mono (by omega)) (by rfl) T.g_Drawn T.b_Drawn___init__ .nil pass0 (q_cons (q_fld oxb4dad0fe5f txb4dad0fe5f (fl_term T) (q_var (pv 2)) rfl) (q_cons (q_fld oxc47d187067 txc47d187067 (fl_word T) (q_var (pv 2)) rfl) (q_cons q_dnew q_nil)))))))
 s_nil)
 (s_cons (s_if (q_val (q_meth (tb := [(24, 83)]) (sps := fun j => spN (S A) 2 (ev n j)) ox41157b1dde tx41157b1dde (fun j => prm_N (C := ev n) (i := j) (n := 2)) (q_fld ox1de9b0a300 tx1de9b0a300 (fl_reader T) (q_var (pv 0)) rfl) ⟨⟨T.cl_TokenReader, T.me_TokenReader_stands, _, _, ih.ok_TokenReader_stands, T.b_TokenReader_stands⟩, trivial⟩ (hr.mono (by omega)) pass0 (q_cons (q_str tx84c4047341 ox84c4047341) q_nil)))
 (s_one (s_ret (q_call (prm_E (C := ev n) (i := 116) (n := 1)) ih.ok_read_enclosed (hr.mono (by omega)) (by rfl) T.g_read_enclosed T.F_read_enclosed.kp T.b_read_enclosed (passes_call (takes_of rfl rfl rfl rfl) (fun _ _ _ _ h => h)) (q_cons (q_var (pv 0)) q_nil))))
 s_nil)
 (s_cons (s_if (q_val (q_meth (tb := [(24, 84)]) (sps := fun j => spN (S A) 2 (ev n j)) oxb39822a656 txb39822a656 (fun j => prm_N (C := ev n) (i := j) (n := 2)) (q_fld ox1de9b0a300 tx1de9b0a300 (fl_reader T) (q_var (pv 0)) rfl) ⟨⟨T.cl_TokenReader, T.me_TokenReader_stands_one, _, _, ih.ok_TokenReader_stands_one, T.b_TokenReader_stands_one⟩, trivial⟩ (hr.mono (by omega)) pass0 (q_cons (q_tup (q_cons (q_str tx03d59e663c ox03d59e663c) (q_cons (q_str tx83ab982dd0 ox83ab982dd0) q_nil))) q_nil)))
 (s_one (s_ret (q_call (prm_E (C := ev n) (i := 118) (n := 1)) ih.ok_read_some (hr.mono (by omega)) (by rfl) T.g_read_some T.F_read_some.kp T.b_read_some (passes_call (takes_of rfl rfl rfl rfl) (fun _ _ _ _ h => h)) (q_cons (q_var (pv 0)) q_nil))))
 s_nil)
 (s_cons (s_if (q_val (q_meth (tb := [(24, 83)]) (sps := fun j => spN (S A) 2 (ev n j)) ox41157b1dde tx41157b1dde (fun j => prm_N (C := ev n) (i := j) (n := 2)) (q_fld ox1de9b0a300 tx1de9b0a300 (fl_reader T) (q_var (pv 0)) rfl) ⟨⟨T.cl_TokenReader, T.me_TokenReader_stands, _, _, ih.ok_TokenReader_stands, T.b_TokenReader_stands⟩, trivial⟩ (hr.mono (by omega)) pass0 (q_cons (q_str txe2942a0478 oxe2942a0478) q_nil)))
 (s_one (s_ret (q_call (prm_E (C := ev n) (i := 119) (n := 1)) ih.ok_read_count (hr.mono (by omega)) (by rfl) T.g_read_count T.F_read_count.kp T.b_read_count (passes_call (takes_of rfl rfl rfl rfl) (fun _ _ _ _ h => h)) (q_cons (q_var (pv 0)) q_nil))))
 s_nil)
 (s_cons (s_if (q_val (q_meth (tb := [(24, 84)]) (sps := fun j => spN (S A) 2 (ev n j)) oxb39822a656 txb39822a656 (fun j => prm_N (C := ev n) (i := j) (n := 2)) (q_fld ox1de9b0a300 tx1de9b0a300 (fl_reader T) (q_var (pv 0)) rfl) ⟨⟨T.cl_TokenReader, T.me_TokenReader_stands_one, _, _, ih.ok_TokenReader_stands_one, T.b_TokenReader_stands_one⟩, trivial⟩ (hr.mono (by omega)) pass0 (q_cons (q_c (pe_glob (v := .ref A.t_TOTALS) rfl T.g_TOTALS rfl) fun _ _ => rfl) q_nil)))
 (s_one (s_ret (q_call (prm_E (C := ev n) (i := 121) (n := 1)) ih.ok_read_total (hr.mono (by omega)) (by rfl) T.g_read_total T.F_read_total.kp T.b_read_total (passes_call (takes_of rfl rfl rfl rfl) (fun _ _ _ _ h => h)) (q_cons (q_var (pv 0)) q_nil))))
 s_nil)
 (s_one (s_raise (S := S A) (ps_raise rfl (takes_of rfl rfl rfl rfl) (pmk_oex T.oex T.ic_Fault T.ti_Fault (ok_Fault___init__ T) (hr.mono (by omega)) T.b_Fault___init__ .nil pass0 (by rfl) T.g_Fault (q_cons (q_fld oxebed715e82 txebed715e82 (fl_place T) (q_var (pv 1)) rfl) (q_cons (q_str tx3b1d9a27b0 ox3b1d9a27b0) q_nil)))))))))))))))
theorem sc_read_number : FnScope ["state", "token"] ["state"] (defScope (topS 105)) := ⟨rfl, rfl, rfl, by decide +kernel, rfl, by decide +kernel, by decide +kernel⟩
theorem z_read_number (T : Txt w K mg A) : FnOk P w K mg base (L2.CX P w) 1 A.f_read_number A.fd_read_number ["state"] (spE (S A) 1 (ev 0 114)) :=
  T.F_read_number.okX sc_read_number (fun vs H Q E h => (spE_no ev0 h).elim) (fun cdv Ar outer s H vs Q E hr h => (spE_no ev0 h).elim)
theorem st_read_number (T : Txt w K mg A) {n : Nat} (ih : IH P w K mg base A n) : FnOk P w K mg base (L2.CX P w) (2 * (n + 1) + 1) A.f_read_number A.fd_read_number ["state"] (spE (S A) 1 (ev (n + 1) 114)) := by
  refine T.F_read_number.okX sc_read_number (fun vs H Q E h => spE_len h) (fun cdv Ar outer s H vs Q E hr h => body_E (N := ["state", "token"]) (ev := b_read_number (ev n)) ?_ rfl (by decide) h)
  exact (s_cons (s_set (i := 1) sc_read_number.nd rfl (.inl rfl) (q_meth0 (tb := [(24, 89)]) (sps := fun j => spE (S A) 1 (ev n j)) ox1f841f405d tx1f841f405d (fun j => prm_E (C := ev n) (i := j) (n := 1)) (q_fld ox1de9b0a300 tx1de9b0a300 (fl_reader T) (q_var (pv 0)) rfl) ⟨⟨T.cl_TokenReader, T.me_TokenReader_number_token, _, _, ih.ok_TokenReader_number_token, T.b_TokenReader_number_token⟩, trivial⟩ (hr.mono (by omega)) (passes_call (takes_of rfl rfl rfl rfl) (fun _ _ _ _ h => h))))
 (s_cons (s_if (q_cmpT op_gt so_gt (q_callTy (clOr call_int1 call_int_str) sc_int rfl T.b_int (by decide +kernel) (q_cons (q_fld ox1cb251ec0d tx1cb251ec0d (fl_text T) (q_var (pv 1)) rfl) q_nil)) (q_c (pe_glob (v := .int 1000000000000) rfl T.g_LARGEST.choose_spec ⟨_, rfl⟩) fun _ _ => rfl) (nomark _))
 (s_one (s_raise (S := S A) (ps_raise rfl (takes_of rfl rfl rfl rfl) (pmk_oex T.oex T.ic_Fault T.ti_Fault (ok_Fault___init__ T) (hr.mono (by omega)) T.b_Fault___init__ .nil pass0 (by rfl) T.g_Fault (q_cons (q_fld oxebed715e82 txebed715e82 (fl_place T) (q_var (pv 1)) rfl) (q_cons (q_str tx3c568504b9 ox3c568504b9) q_nil))))))
 s_nil)
 (s_one (s_ret (q_make (ci := 8) (dcs := []) (fun _ _ => .nil) (prm_N (C := ev n) (i := 51) (n := 2)) T.mk_NumberTerm ih.ok_NumberTerm___init__ (hr.mono (by omega)) (by rfl) T.g_NumberTerm T.b_NumberTerm___init__ .nil pass0 (q_cons (q_callTy (clOr call_int1 call_int_str) sc_int rfl T.b_int (by decide +kernel) (q_cons (q_fld ox1cb251ec0d tx1cb251ec0d (fl_text T) (q_var (pv 1)) rfl) q_nil)) q_nil))))))
theorem sc_read_parameter : FnScope ["state"] ["state"] (defScope (topS 106)) := ⟨rfl, rfl, rfl, by decide +kernel, rfl, by decide +kernel, by decide +kernel⟩
theorem z_read_parameter (T : Txt w K mg A) : FnOk P w K mg base (L2.CX P w) 1 A.f_read_parameter A.fd_read_parameter ["state"] (spE (S A) 1 (ev 0 115)) :=
  T.F_read_parameter.okX sc_read_parameter (fun vs H Q E h => (spE_no ev0 h).elim) (fun cdv Ar outer s H vs Q E hr h => (spE_no ev0 h).elim)
theorem st_read_parameter (T : Txt w K mg A) {n : Nat} (ih : IH P w K mg base A n) : FnOk P w K mg base (L2.CX P w) (2 * (n + 1) + 1) A.f_read_parameter A.fd_read_parameter ["state"] (spE (S A) 1 (ev (n + 1) 115)) := by
  refine T.F_read_parameter.okX sc_read_parameter (fun vs H Q E h => spE_len h) (fun cdv Ar outer s H vs Q E hr h => body_E (N := ["state"]) (ev := b_read_parameter (ev n)) ?_ rfl (by decide) h)
  exact (s_cons (s_expr (q_meth (tb := [(24, 86)]) (sps := fun j => spE (S A) 2 (ev n j)) oxd0e6ef34e7 txd0e6ef34e7 (fun j => prm_E (C := ev n) (i := j) (n := 2)) (q_fld ox1de9b0a300 tx1de9b0a300 (fl_reader T) (q_var (pv 0)) rfl) ⟨⟨T.cl_TokenReader, T.me_TokenReader_must, _, _, ih.ok_TokenReader_must, T.b_TokenReader_must⟩, trivial⟩ (hr.mono (by omega)) (passes_call (takes_of rfl rfl rfl rfl) (fun _ _ _ _ h => h)) (q_cons (q_str tx853ae90f03 ox853ae90f03) q_nil)))
 (s_one (s_ret (q_make (ci := 10) (dcs := []) (fun _ _ => .nil) (prm_N (C := ev n) (i := 53) (n := 2)) T.mk_ParameterTerm ih.ok_ParameterTerm___init__ (hr.mono (by omega)) (by rfl) T.g_ParameterTerm T.b_ParameterTerm___init__ .nil pass0 (q_cons (q_fld ox1cb251ec0d tx1cb251ec0d (fl_text T) (q_meth0 (tb := [(22, 68)]) (sps := fun j => spE (S A) 1 (ev n j)) ox9b258b75cb tx9b258b75cb (fun j => prm_E (C := ev n) (i := j) (n := 1)) (q_var (pv 0)) ⟨⟨T.cl_QueryState, T.me_QueryState_small_name, _, _, ih.ok_QueryState_small_name, T.b_QueryState_small_name⟩, trivial⟩ (hr.mono (by omega)) (passes_call (takes_of rfl rfl rfl rfl) (fun _ _ _ _ h => h))) rfl) q_nil)))))
theorem sc_read_enclosed : FnScope ["state", "inner"] ["state"] (defScope (topS 107)) := ⟨rfl, rfl, rfl, by decide +kernel, rfl, by decide +kernel, by decide +kernel⟩
theorem z_read_enclosed (T : Txt w K mg A) : FnOk P w K mg base (L2.CX P w) 1 A.f_read_enclosed A.fd_read_enclosed ["state"] (spE (S A) 1 (ev 0 116)) :=
  T.F_read_enclosed.okX sc_read_enclosed (fun vs H Q E h => (spE_no ev0 h).elim) (fun cdv Ar outer s H vs Q E hr h => (spE_no ev0 h).elim)
theorem st_read_enclosed (T : Txt w K mg A) {n : Nat} (ih : IH P w K mg base A n) : FnOk P w K mg base (L2.CX P w) (2 * (n + 1) + 1) A.f_read_enclosed A.fd_read_enclosed ["state"] (spE (S A) 1 (ev (n + 1) 116)) := by
  refine T.F_read_enclosed.okX sc_read_enclosed (fun vs H Q E h => spE_len h) (fun cdv Ar outer s H vs Q E hr h => body_E (N := ["state", "inner"]) (ev := b_read_enclosed (ev n)) ?_ rfl (by decide) h)
  exact (s_cons (s_expr (q_meth (tb := [(22, 66)]) (sps := fun j => spE (S A) 2 (ev n j)) oxe2a7106f1c txe2a7106f1c (fun j => prm_E (C := ev n) (i := j) (n := 2)) (q_var (pv 0)) ⟨⟨T.cl_QueryState, T.me_QueryState_enter, _, _, ih.ok_QueryState_enter, T.b_QueryState_enter⟩, trivial⟩ (hr.mono (by omega)) (passes_call (takes_of rfl rfl rfl rfl) (fun _ _ _ _ h => h)) (q_cons (q_meth0 (tb := [(24, 81)]) (sps := fun j => spN (S A) 1 (ev n j)) ox600d6af0f3 tx600d6af0f3 (fun j => prm_N (C := ev n) (i := j) (n := 1)) (q_fld ox1de9b0a300 tx1de9b0a300 (fl_reader T) (q_var (pv 0)) rfl) ⟨⟨T.cl_TokenReader, T.me_TokenReader_take, _, _, ih.ok_TokenReader_take, T.b_TokenReader_take⟩, trivial⟩ (hr.mono (by omega)) pass0) q_nil)))
 (s_cons (s_set (i := 1) sc_read_enclosed.nd rfl (.inl rfl) (q_call (prm_E (C := ev n) (i := 100) (n := 1)) ih.ok_read_either (hr.mono (by omega)) (by rfl) T.g_read_either T.F_read_either.kp T.b_read_either (passes_call (takes_of rfl rfl rfl rfl) (fun _ _ _ _ h => h)) (q_cons (q_var (pv 0)) q_nil)))
 (s_cons (s_expr (q_meth (tb := [(24, 86)]) (sps := fun j => spE (S A) 2 (ev n j)) oxd0e6ef34e7 txd0e6ef34e7 (fun j => prm_E (C := ev n) (i := j) (n := 2)) (q_fld ox1de9b0a300 tx1de9b0a300 (fl_reader T) (q_var (pv 0)) rfl) ⟨⟨T.cl_TokenReader, T.me_TokenReader_must, _, _, ih.ok_TokenReader_must, T.b_TokenReader_must⟩, trivial⟩ (hr.mono (by omega)) (passes_call (takes_of rfl rfl rfl rfl) (fun _ _ _ _ h => h)) (q_cons (q_str tx9371d7a2e3 ox9371d7a2e3) q_nil)))
 (s_cons (s_expr (q_meth0 (tb := [(22, 67)]) (sps := fun j => spN (S A) 1 (ev n j)) ox6c374e7033 tx6c374e7033 (fun j => prm_N (C := ev n) (i := j) (n := 1)) (q_var (pv 0)) ⟨⟨T.cl_QueryState, T.me_QueryState_leave, _, _, ih.ok_QueryState_leave, T.b_QueryState_leave⟩, trivial⟩ (hr.mono (by omega)) pass0))
 (s_one (s_ret (q_var (pv 1))))))))
theorem sc_read_over : FnScope ["state", "name", "path", "inner"] ["state", "name", "path"] (defScope (topS 108)) := ⟨rfl, rfl, rfl, by decide +kernel, rfl, by decide +kernel, by decide +kernel⟩
theorem z_read_over (T : Txt w K mg A) : FnOk P w K mg base (L2.CX P w) 1 A.f_read_over A.fd_read_over ["state", "name", "path"] (spE (S A) 3 (ev 0 117)) :=
  T.F_read_over.okX sc_read_over (fun vs H Q E h => (spE_no ev0 h).elim) (fun cdv Ar outer s H vs Q E hr h => (spE_no ev0 h).elim)
theorem st_read_over (T : Txt w K mg A) {n : Nat} (ih : IH P w K mg base A n) : FnOk P w K mg base (L2.CX P w) (2 * (n + 1) + 1) A.f_read_over A.fd_read_over ["state", "name", "path"] (spE (S A) 3 (ev (n + 1) 117)) := by
  refine T.F_read_over.okX sc_read_over (fun vs H Q E h => spE_len h) (fun cdv Ar outer s H vs Q E hr h => body_E (N := ["state", "name", "path", "inner"]) (ev := b_read_over (ev n)) ?_ rfl (by decide) h)
  exact (s_cons (s_dput (u1 hr) (q_fld oxa8998c31a1 txa8998c31a1 (fl_names T) (q_var (pv 0)) rfl) (q_var (pv 1)) (q_fld ox3aecd46c86 tx3aecd46c86 (fl_kinds T) (q_var (pv 2)) rfl) rfl)
 (s_cons (s_set (i := 3) sc_read_over.nd rfl (.inl rfl) (q_call (prm_E (C := ev n) (i := 100) (n := 1)) ih.ok_read_either (hr.mono (by omega)) (by rfl) T.g_read_either T.F_read_either.kp T.b_read_either (passes_call (takes_of rfl rfl rfl rfl) (fun _ _ _ _ h => h)) (q_cons (q_var (pv 0)) q_nil)))
 (s_cons (s_ddel (q_fld oxa8998c31a1 txa8998c31a1 (fl_names T) (q_var (pv 0)) rfl) (q_var (pv 1)))
 (s_cons (s_expr (q_meth (tb := [(24, 86)]) (sps := fun j => spE (S A) 2 (ev n j)) oxd0e6ef34e7 txd0e6ef34e7 (fun j => prm_E (C := ev n) (i := j) (n := 2)) (q_fld ox1de9b0a300 tx1de9b0a300 (fl_reader T) (q_var (pv 0)) rfl) ⟨⟨T.cl_TokenReader, T.me_TokenReader_must, _, _, ih.ok_TokenReader_must, T.b_TokenReader_must⟩, trivial⟩ (hr.mono (by omega)) (passes_call (takes_of rfl rfl rfl rfl) (fun _ _ _ _ h => h)) (q_cons (q_str tx9371d7a2e3 ox9371d7a2e3) q_nil)))
 (s_one (s_ret (q_var (pv 3))))))))
theorem sc_read_some : FnScope ["state", "word", "name", "path", "inner"] ["state"] (defScope (topS 109)) := ⟨rfl, rfl, rfl, by decide +kernel, rfl, by decide +kernel, by decide +kernel⟩
theorem z_read_some (T : Txt w K mg A) : FnOk P w K mg base (L2.CX P w) 1 A.f_read_some A.fd_read_some ["state"] (spE (S A) 1 (ev 0 118)) :=
  T.F_read_some.okX sc_read_some (fun vs H Q E h => (spE_no ev0 h).elim) (fun cdv Ar outer s H vs Q E hr h => (spE_no ev0 h).elim)
theorem st_read_some (T : Txt w K mg A) {n : Nat} (ih : IH P w K mg base A n) : FnOk P w K mg base (L2.CX P w) (2 * (n + 1) + 1) A.f_read_some A.fd_read_some ["state"] (spE (S A) 1 (ev (n + 1) 118)) := by
  refine T.F_read_some.okX sc_read_some (fun vs H Q E h => spE_len h) (fun cdv Ar outer s H vs Q E hr h => body_E (N := ["state", "word", "name", "path", "inner"]) (ev := b_read_some (ev n)) ?_ rfl (by decide) h)
  exact (s_cons (s_set (i := 1) sc_read_some.nd rfl (.inl rfl) (q_meth0 (tb := [(24, 81)]) (sps := fun j => spN (S A) 1 (ev n j)) ox600d6af0f3 tx600d6af0f3 (fun j => prm_N (C := ev n) (i := j) (n := 1)) (q_fld ox1de9b0a300 tx1de9b0a300 (fl_reader T) (q_var (pv 0)) rfl) ⟨⟨T.cl_TokenReader, T.me_TokenReader_take, _, _, ih.ok_TokenReader_take, T.b_TokenReader_take⟩, trivial⟩ (hr.mono (by omega)) pass0))
 (s_cons (s_expr (q_meth (tb := [(22, 66)]) (sps := fun j => spE (S A) 2 (ev n j)) oxe2a7106f1c txe2a7106f1c (fun j => prm_E (C := ev n) (i := j) (n := 2)) (q_var (pv 0)) ⟨⟨T.cl_QueryState, T.me_QueryState_enter, _, _, ih.ok_QueryState_enter, T.b_QueryState_enter⟩, trivial⟩ (hr.mono (by omega)) (passes_call (takes_of rfl rfl rfl rfl) (fun _ _ _ _ h => h)) (q_cons (q_var (pv 1)) q_nil)))
 (s_cons (s_set (i := 2) sc_read_some.nd rfl (.inl rfl) (q_meth0 (tb := [(22, 69)]) (sps := fun j => spE (S A) 1 (ev n j)) ox10b0406938 tx10b0406938 (fun j => prm_E (C := ev n) (i := j) (n := 1)) (q_var (pv 0)) ⟨⟨T.cl_QueryState, T.me_QueryState_new_name, _, _, ih.ok_QueryState_new_name, T.b_QueryState_new_name⟩, trivial⟩ (hr.mono (by omega)) (passes_call (takes_of rfl rfl rfl rfl) (fun _ _ _ _ h => h))))
 (s_cons (s_expr (q_meth (tb := [(24, 86)]) (sps := fun j => spE (S A) 2 (ev n j)) oxd0e6ef34e7 txd0e6ef34e7 (fun j => prm_E (C := ev n) (i := j) (n := 2)) (q_fld ox1de9b0a300 tx1de9b0a300 (fl_reader T) (q_var (pv 0)) rfl) ⟨⟨T.cl_TokenReader, T.me_TokenReader_must, _, _, ih.ok_TokenReader_must, T.b_TokenReader_must⟩, trivial⟩ (hr.mono (by omega)) (passes_call (takes_of rfl rfl rfl rfl) (fun _ _ _ _ h => h)) (q_cons (q_str tx13b5bfe96f ox13b5bfe96f) q_nil)))
 (s_cons (s_set (i := 3) sc_read_some.nd rfl (.inl rfl) (q_call (prm_E (C := ev n) (i := 74) (n := 1)) ih.ok_read_list_path (hr.mono (by omega)) (by rfl) T.g_read_list_path T.F_read_list_path.kp T.b_read_list_path (passes_call (takes_of rfl rfl rfl rfl) (fun _ _ _ _ h => h)) (q_cons (q_var (pv 0)) q_nil)))
 (s_cons (s_expr (q_meth (tb := [(24, 86)]) (sps := fun j => spE (S A) 2 (ev n j)) oxd0e6ef34e7 txd0e6ef34e7 (fun j => prm_E (C := ev n) (i := j) (n := 2)) (q_fld ox1de9b0a300 tx1de9b0a300 (fl_reader T) (q_var (pv 0)) rfl) ⟨⟨T.cl_TokenReader, T.me_TokenReader_must, _, _, ih.ok_TokenReader_must, T.b_TokenReader_must⟩, trivial⟩ (hr.mono (by omega)) (passes_call (takes_of rfl rfl rfl rfl) (fun _ _ _ _ h => h)) (q_cons (q_str tx84c4047341 ox84c4047341) q_nil)))
 (s_cons (s_set (i := 4) sc_read_some.nd rfl (.inl rfl) (q_call (prm_E (C := ev n) (i := 117) (n := 3)) ih.ok_read_over (hr.mono (by omega)) (by rfl) T.g_read_over T.F_read_over.kp T.b_read_over (passes_call (takes_of rfl rfl rfl rfl) (fun _ _ _ _ h => h)) (q_cons (q_var (pv 0)) (q_cons (q_var (pv 2)) (q_cons (q_var (pv 3)) q_nil)))))
 (s_cons (s_expr (q_meth0 (tb := [(22, 67)]) (sps := fun j => spN (S A) 1 (ev n j)) ox6c374e7033 tx6c374e7033 (fun j => prm_N (C := ev n) (i := j) (n := 1)) (q_var (pv 0)) ⟨⟨T.cl_QueryState, T.me_QueryState_leave, _, _, ih.ok_QueryState_leave, T.b_QueryState_leave⟩, trivial⟩ (hr.mono (by omega)) pass0))
 (s_cons (s_if (q_cmpT op_ne so_ne (q_fld oxc47d187067 txc47d187067 (fl_word T) (q_var (pv 4)) rfl) (q_c (pe_glob (v := .str "truth") rfl T.g_TRUTH.choose_spec ⟨_, rfl⟩) fun _ _ => (relStr tx59d42c504c ox59d42c504c)) (nomark _))
 (s_one (s_raise (S := S A) (ps_raise rfl (takes_of rfl rfl rfl rfl) (pmk_oex T.oex T.ic_Fault T.ti_Fault (ok_Fault___init__ T) (hr.mono (by omega)) T.b_Fault___init__ .nil pass0 (by rfl) T.g_Fault (q_cons (q_fld oxebed715e82 txebed715e82 (fl_place T) (q_var (pv 3)) rfl) (q_cons (q_c (pe_glob (v := .str "sorts differ") rfl T.g_DIFFER.choose_spec ⟨_, rfl⟩) fun _ _ => (relStr txe363007e3a oxe363007e3a)) q_nil))))))
 s_nil)
 (s_one (s_ret (q_make (ci := 25) (dcs := []) (fun _ _ => .nil) (prm_N (C := ev n) (i := 96) (n := 4)) T.mk_Drawn ih.ok_Drawn___init__ (hr.mono (by omega)) (by rfl) T.g_Drawn T.b_Drawn___init__ .nil pass0 (q_cons (q_make (ci := 12) (dcs := []) (fun _ _ => .nil) (prm_N (C := ev n) (i := 55) (n := 5)) T.mk_SomeTerm ih.ok_SomeTerm___init__ (hr.mono (by omega)) (by rfl) T.g_SomeTerm T.b_SomeTerm___init__ .nil pass0 (q_cons (q_fld ox1cb251ec0d tx1cb251ec0d (fl_text T) (q_var (pv 1)) rfl) (q_cons (q_var (pv 2)) (q_cons (q_fld oxb4dad0fe5f txb4dad0fe5f (fl_term T) (q_var (pv 3)) rfl) (q_cons (q_fld oxb4dad0fe5f txb4dad0fe5f (fl_term T) (q_var (pv 4)) rfl) q_nil))))) (q_cons (q_c (pe_glob (v := .str "truth") rfl T.g_TRUTH.choose_spec ⟨_, rfl⟩) fun _ _ => (relStr tx59d42c504c ox59d42c504c)) (q_cons (q_fld ox166e64f6c3 tx166e64f6c3 (fl_parameters T) (q_var (pv 4)) rfl) q_nil)))))))))))))))
theorem sc_read_count : FnScope ["state", "word", "path"] ["state"] (defScope (topS 110)) := ⟨rfl, rfl, rfl, by decide +kernel, rfl, by decide +kernel, by decide +kernel⟩
theorem z_read_count (T : Txt w K mg A) : FnOk P w K mg base (L2.CX P w) 1 A.f_read_count A.fd_read_count ["state"] (spE (S A) 1 (ev 0 119)) :=
  T.F_read_count.okX sc_read_count (fun vs H Q E h => (spE_no ev0 h).elim) (fun cdv Ar outer s H vs Q E hr h => (spE_no ev0 h).elim)
theorem st_read_count (T : Txt w K mg A) {n : Nat} (ih : IH P w K mg base A n) : FnOk P w K mg base (L2.CX P w) (2 * (n + 1) + 1) A.f_read_count A.fd_read_count ["state"] (spE (S A) 1 (ev (n + 1) 119)) := by
  refine T.F_read_count.okX sc_read_count (fun vs H Q E h => spE_len h) (fun cdv Ar outer s H vs Q E hr h => body_E (N := ["state", "word", "path"]) (ev := b_read_count (ev n)) ?_ rfl (by decide) h)
  exact (s_cons (s_set (i := 1) sc_read_count.nd rfl (.inl rfl) (q_meth0 (tb := [(24, 81)]) (sps := fun j => spN (S A) 1 (ev n j)) ox600d6af0f3 tx600d6af0f3 (fun j => prm_N (C := ev n) (i := j) (n := 1)) (q_fld ox1de9b0a300 tx1de9b0a300 (fl_reader T) (q_var (pv 0)) rfl) ⟨⟨T.cl_TokenReader, T.me_TokenReader_take, _, _, ih.ok_TokenReader_take, T.b_TokenReader_take⟩, trivial⟩ (hr.mono (by omega)) pass0))
 (s_cons (s_expr (q_meth (tb := [(24, 86)]) (sps := fun j => spE (S A) 2 (ev n j)) oxd0e6ef34e7 txd0e6ef34e7 (fun j => prm_E (C := ev n) (i := j) (n := 2)) (q_fld ox1de9b0a300 tx1de9b0a300 (fl_reader T) (q_var (pv 0)) rfl) ⟨⟨T.cl_TokenReader, T.me_TokenReader_must, _, _, ih.ok_TokenReader_must, T.b_TokenReader_must⟩, trivial⟩ (hr.mono (by omega)) (passes_call (takes_of rfl rfl rfl rfl) (fun _ _ _ _ h => h)) (q_cons (q_str tx84c4047341 ox84c4047341) q_nil)))
 (s_cons (s_if (q_val (q_meth (tb := [(24, 85)]) (sps := fun j => spN (S A) 2 (ev n j)) ox9560f74c21 tx9560f74c21 (fun j => prm_N (C := ev n) (i := j) (n := 2)) (q_fld ox1de9b0a300 tx1de9b0a300 (fl_reader T) (q_var (pv 0)) rfl) ⟨⟨T.cl_TokenReader, T.me_TokenReader_passes, _, _, ih.ok_TokenReader_passes, T.b_TokenReader_passes⟩, trivial⟩ (hr.mono (by omega)) pass0 (q_cons (q_str tx9371d7a2e3 ox9371d7a2e3) q_nil)))
 (s_cons (s_expr (q_call (prm_E (C := ev n) (i := 120) (n := 2)) ih.ok_refuse_without_group (hr.mono (by omega)) (by rfl) T.g_refuse_without_group T.F_refuse_without_group.kp T.b_refuse_without_group (passes_call (takes_of rfl rfl rfl rfl) (fun _ _ _ _ h => h)) (q_cons (q_var (pv 0)) (q_cons (q_var (pv 1)) q_nil))))
 (s_one (s_ret (q_make (ci := 25) (dcs := []) (fun _ _ => .nil) (prm_N (C := ev n) (i := 96) (n := 4)) T.mk_Drawn ih.ok_Drawn___init__ (hr.mono (by omega)) (by rfl) T.g_Drawn T.b_Drawn___init__ .nil pass0 (q_cons (q_make (ci := 13) (dcs := []) (fun _ _ => .nil) (prm_N (C := ev n) (i := 56) (n := 2)) T.mk_CountTerm ih.ok_CountTerm___init__ (hr.mono (by omega)) (by rfl) T.g_CountTerm T.b_CountTerm___init__ .nil pass0 (q_cons (q_c pe_non fun _ _ => rfl) q_nil)) (q_cons (q_c (pe_glob (v := .str "integer") rfl T.g_INTEGER.choose_spec ⟨_, rfl⟩) fun _ _ => (relStr tx157db7df53 ox157db7df53)) (q_cons q_dnew q_nil)))))))
 s_nil)
 (s_cons (s_set (i := 2) sc_read_count.nd rfl (.inl rfl) (q_call (prm_E (C := ev n) (i := 74) (n := 1)) ih.ok_read_list_path (hr.mono (by omega)) (by rfl) T.g_read_list_path T.F_read_list_path.kp T.b_read_list_path (passes_call (takes_of rfl rfl rfl rfl) (fun _ _ _ _ h => h)) (q_cons (q_var (pv 0)) q_nil)))
 (s_cons (s_expr (q_meth (tb := [(24, 86)]) (sps := fun j => spE (S A) 2 (ev n j)) oxd0e6ef34e7 txd0e6ef34e7 (fun j => prm_E (C := ev n) (i := j) (n := 2)) (q_fld ox1de9b0a300 tx1de9b0a300 (fl_reader T) (q_var (pv 0)) rfl) ⟨⟨T.cl_TokenReader, T.me_TokenReader_must, _, _, ih.ok_TokenReader_must, T.b_TokenReader_must⟩, trivial⟩ (hr.mono (by omega)) (passes_call (takes_of rfl rfl rfl rfl) (fun _ _ _ _ h => h)) (q_cons (q_str tx9371d7a2e3 ox9371d7a2e3) q_nil)))
 (s_one (s_ret (q_make (ci := 25) (dcs := []) (fun _ _ => .nil) (prm_N (C := ev n) (i := 96) (n := 4)) T.mk_Drawn ih.ok_Drawn___init__ (hr.mono (by omega)) (by rfl) T.g_Drawn T.b_Drawn___init__ .nil pass0 (q_cons (q_make (ci := 13) (dcs := []) (fun _ _ => .nil) (prm_N (C := ev n) (i := 56) (n := 2)) T.mk_CountTerm ih.ok_CountTerm___init__ (hr.mono (by omega)) (by rfl) T.g_CountTerm T.b_CountTerm___init__ .nil pass0 (q_cons (q_fld oxb4dad0fe5f txb4dad0fe5f (fl_term T) (q_var (pv 2)) rfl) q_nil)) (q_cons (q_c (pe_glob (v := .str "integer") rfl T.g_INTEGER.choose_spec ⟨_, rfl⟩) fun _ _ => (relStr tx157db7df53 ox157db7df53)) (q_cons q_dnew q_nil)))))))))))
theorem sc_refuse_without_group : FnScope ["state", "word"] ["state", "word"] (defScope (topS 111)) := ⟨rfl, rfl, rfl, by decide +kernel, rfl, by decide +kernel, by decide +kernel⟩
theorem z_refuse_without_group (T : Txt w K mg A) : FnOk P w K mg base (L2.CX P w) 1 A.f_refuse_without_group A.fd_refuse_without_group ["state", "word"] (spE (S A) 2 (ev 0 120)) :=
  T.F_refuse_without_group.okX sc_refuse_without_group (fun vs H Q E h => (spE_no ev0 h).elim) (fun cdv Ar outer s H vs Q E hr h => (spE_no ev0 h).elim)
theorem st_refuse_without_group (T : Txt w K mg A) {n : Nat} (ih : IH P w K mg base A n) : FnOk P w K mg base (L2.CX P w) (2 * (n + 1) + 1) A.f_refuse_without_group A.fd_refuse_without_group ["state", "word"] (spE (S A) 2 (ev (n + 1) 120)) := by
  refine T.F_refuse_without_group.okX sc_refuse_without_group (fun vs H Q E h => spE_len h) (fun cdv Ar outer s H vs Q E hr h => body_E (N := ["state", "word"]) (ev := b_refuse_without_group (ev n)) ?_ rfl (by decide) h)
  exact (s_one (s_if (q_cmpT op_isN so_is (q_fld ox1471e4e05a tx1471e4e05a (fl_groups T) (q_var (pv 0)) rfl) (q_c pe_non fun _ _ => rfl) (nomark _))
 (s_one (s_raise (S := S A) (ps_raise rfl (takes_of rfl rfl rfl rfl) (pmk_oex T.oex T.ic_Fault T.ti_Fault (ok_Fault___init__ T) (hr.mono (by omega)) T.b_Fault___init__ .nil pass0 (by rfl) T.g_Fault (q_cons (q_fld oxebed715e82 txebed715e82 (fl_place T) (q_var (pv 1)) rfl) (q_cons (q_str tx242cfc70ba ox242cfc70ba) q_nil))))))
 s_nil))
theorem sc_read_total : FnScope ["state", "word", "total"] ["state"] (defScope (topS 112)) := ⟨rfl, rfl, rfl, by decide +kernel, rfl, by decide +kernel, by decide +kernel⟩
theorem z_read_total (T : Txt w K mg A) : FnOk P w K mg base (L2.CX P w) 1 A.f_read_total A.fd_read_total ["state"] (spE (S A) 1 (ev 0 121)) :=
  T.F_read_total.okX sc_read_total (fun vs H Q E h => (spE_no ev0 h).elim) (fun cdv Ar outer s H vs Q E hr h => (spE_no ev0 h).elim)
theorem st_read_total (T : Txt w K mg A) {n : Nat} (ih : IH P w K mg base A n) : FnOk P w K mg base (L2.CX P w) (2 * (n + 1) + 1) A.f_read_total A.fd_read_total ["state"] (spE (S A) 1 (ev (n + 1) 121)) := by
  refine T.F_read_total.okX sc_read_total (fun vs H Q E h => spE_len h) (fun cdv Ar outer s H vs Q E hr h => body_E (N := ["state", "word", "total"]) (ev := b_read_total (ev n)) ?_ rfl (by decide) h)
  exact (s_cons (s_set (i := 1) sc_read_total.nd rfl (.inl rfl) (q_meth0 (tb := [(24, 81)]) (sps := fun j => spN (S A) 1 (ev n j)) ox600d6af0f3 tx600d6af0f3 (fun j => prm_N (C := ev n) (i := j) (n := 1)) (q_fld ox1de9b0a300 tx1de9b0a300 (fl_reader T) (q_var (pv 0)) rfl) ⟨⟨T.cl_TokenReader, T.me_TokenReader_take, _, _, ih.ok_TokenReader_take, T.b_TokenReader_take⟩, trivial⟩ (hr.mono (by omega)) pass0))
 (s_cons (s_expr (q_meth (tb := [(22, 66)]) (sps := fun j => spE (S A) 2 (ev n j)) oxe2a7106f1c txe2a7106f1c (fun j => prm_E (C := ev n) (i := j) (n := 2)) (q_var (pv 0)) ⟨⟨T.cl_QueryState, T.me_QueryState_enter, _, _, ih.ok_QueryState_enter, T.b_QueryState_enter⟩, trivial⟩ (hr.mono (by omega)) (passes_call (takes_of rfl rfl rfl rfl) (fun _ _ _ _ h => h)) (q_cons (q_var (pv 1)) q_nil)))
 (s_cons (s_expr (q_meth (tb := [(24, 86)]) (sps := fun j => spE (S A) 2 (ev n j)) oxd0e6ef34e7 txd0e6ef34e7 (fun j => prm_E (C := ev n) (i := j) (n := 2)) (q_fld ox1de9b0a300 tx1de9b0a300 (fl_reader T) (q_var (pv 0)) rfl) ⟨⟨T.cl_TokenReader, T.me_TokenReader_must, _, _, ih.ok_TokenReader_must, T.b_TokenReader_must⟩, trivial⟩ (hr.mono (by omega)) (passes_call (takes_of rfl rfl rfl rfl) (fun _ _ _ _ h => h)) (q_cons (q_str tx84c4047341 ox84c4047341) q_nil)))
 (s_cons (s_if (q_pt (q_wand (q_val (q_meth0 (tb := [(24, 91)]) (sps := fun j => spN (S A) 1 (ev n j)) oxdfdb8de5b7 txdfdb8de5b7 (fun j => prm_N (C := ev n) (i := j) (n := 1)) (q_fld ox1de9b0a300 tx1de9b0a300 (fl_reader T) (q_var (pv 0)) rfl) ⟨⟨T.cl_TokenReader, T.me_TokenReader_small_name_stands, _, _, ih.ok_TokenReader_small_name_stands, T.b_TokenReader_small_name_stands⟩, trivial⟩ (hr.mono (by omega)) pass0)) (q_wand1 (q_val (q_call (prm_N (C := ev n) (i := 95) (n := 2)) ih.ok_is_certain (hr.mono (by omega)) (by rfl) T.g_is_certain T.F_is_certain.kp T.b_is_certain pass0 (q_cons (q_meth0 (tb := [(24, 80)]) (sps := fun j => spN (S A) 1 (ev n j)) ox2511fc6cb0 tx2511fc6cb0 (fun j => prm_N (C := ev n) (i := j) (n := 1)) (q_fld ox1de9b0a300 tx1de9b0a300 (fl_reader T) (q_var (pv 0)) rfl) ⟨⟨T.cl_TokenReader, T.me_TokenReader_following, _, _, ih.ok_TokenReader_following, T.b_TokenReader_following⟩, trivial⟩ (hr.mono (by omega)) pass0) (q_cons (q_str tx13b5bfe96f ox13b5bfe96f) q_nil)))))))
 (s_one (s_set (i := 2) sc_read_total.nd rfl (.inl rfl) (q_call (prm_E (C := ev n) (i := 122) (n := 2)) ih.ok_read_list_total (hr.mono (by omega)) (by rfl) T.g_read_list_total T.F_read_list_total.kp T.b_read_list_total (passes_call (takes_of rfl rfl rfl rfl) (fun _ _ _ _ h => h)) (q_cons (q_var (pv 0)) (q_cons (q_var (pv 1)) q_nil)))))
 (s_one (s_set (i := 2) sc_read_total.nd rfl (.inl rfl) (q_call (prm_E (C := ev n) (i := 123) (n := 2)) ih.ok_read_group_total (hr.mono (by omega)) (by rfl) T.g_read_group_total T.F_read_group_total.kp T.b_read_group_total (passes_call (takes_of rfl rfl rfl rfl) (fun _ _ _ _ h => h)) (q_cons (q_var (pv 0)) (q_cons (q_var (pv 1)) q_nil))))))
 (s_cons (s_expr (q_meth0 (tb := [(22, 67)]) (sps := fun j => spN (S A) 1 (ev n j)) ox6c374e7033 tx6c374e7033 (fun j => prm_N (C := ev n) (i := j) (n := 1)) (q_var (pv 0)) ⟨⟨T.cl_QueryState, T.me_QueryState_leave, _, _, ih.ok_QueryState_leave, T.b_QueryState_leave⟩, trivial⟩ (hr.mono (by omega)) pass0))
 (s_one (s_ret (q_var (pv 2)))))))))
theorem sc_read_list_total : FnScope ["state", "word", "name", "path", "inner"] ["state", "word"] (defScope (topS 113)) := ⟨rfl, rfl, rfl, by decide +kernel, rfl, by decide +kernel, by decide +kernel⟩
theorem z_read_list_total (T : Txt w K mg A) : FnOk P w K mg base (L2.CX P w) 1 A.f_read_list_total A.fd_read_list_total ["state", "word"] (spE (S A) 2 (ev 0 122)) :=
  T.F_read_list_total.okX sc_read_list_total (fun vs H Q E h => (spE_no ev0 h).elim) (fun cdv Ar outer s H vs Q E hr h => (spE_no ev0 h).elim)
theorem st_read_list_total (T : Txt w K mg A) {n : Nat} (ih : IH P w K mg base A n) : FnOk P w K mg base (L2.CX P w) (2 * (n + 1) + 1) A.f_read_list_total A.fd_read_list_total ["state", "word"] (spE (S A) 2 (ev (n + 1) 122)) := by
  refine T.F_read_list_total.okX sc_read_list_total (fun vs H Q E h => spE_len h) (fun cdv Ar outer s H vs Q E hr h => body_E (N := ["state", "word", "name", "path", "inner"]) (ev := b_read_list_total (ev n)) ?_ rfl (by decide) h)
  exact (s_cons (s_set (i := 2) sc_read_list_total.nd rfl (.inl rfl) (q_meth0 (tb := [(22, 69)]) (sps := fun j => spE (S A) 1 (ev n j)) ox10b0406938 tx10b0406938 (fun j => prm_E (C := ev n) (i := j) (n := 1)) (q_var (pv 0)) ⟨⟨T.cl_QueryState, T.me_QueryState_new_name, _, _, ih.ok_QueryState_new_name, T.b_QueryState_new_name⟩, trivial⟩ (hr.mono (by omega)) (passes_call (takes_of rfl rfl rfl rfl) (fun _ _ _ _ h => h))))
 (s_cons (s_expr (q_meth (tb := [(24, 86)]) (sps := fun j => spE (S A) 2 (ev n j)) oxd0e6ef34e7 txd0e6ef34e7 (fun j => prm_E (C := ev n) (i := j) (n := 2)) (q_fld ox1de9b0a300 tx1de9b0a300 (fl_reader T) (q_var (pv 0)) rfl) ⟨⟨T.cl_TokenReader, T.me_TokenReader_must, _, _, ih.ok_TokenReader_must, T.b_TokenReader_must⟩, trivial⟩ (hr.mono (by omega)) (passes_call (takes_of rfl rfl rfl rfl) (fun _ _ _ _ h => h)) (q_cons (q_str tx13b5bfe96f ox13b5bfe96f) q_nil)))
 (s_cons (s_set (i := 3) sc_read_list_total.nd rfl (.inl rfl) (q_call (prm_E (C := ev n) (i := 74) (n := 1)) ih.ok_read_list_path (hr.mono (by omega)) (by rfl) T.g_read_list_path T.F_read_list_path.kp T.b_read_list_path (passes_call (takes_of rfl rfl rfl rfl) (fun _ _ _ _ h => h)) (q_cons (q_var (pv 0)) q_nil)))
 (s_cons (s_expr (q_meth (tb := [(24, 86)]) (sps := fun j => spE (S A) 2 (ev n j)) oxd0e6ef34e7 txd0e6ef34e7 (fun j => prm_E (C := ev n) (i := j) (n := 2)) (q_fld ox1de9b0a300 tx1de9b0a300 (fl_reader T) (q_var (pv 0)) rfl) ⟨⟨T.cl_TokenReader, T.me_TokenReader_must, _, _, ih.ok_TokenReader_must, T.b_TokenReader_must⟩, trivial⟩ (hr.mono (by omega)) (passes_call (takes_of rfl rfl rfl rfl) (fun _ _ _ _ h => h)) (q_cons (q_str tx853ae90f03 ox853ae90f03) q_nil)))
 (s_cons (s_set (i := 4) sc_read_list_total.nd rfl (.inl rfl) (q_call (prm_E (C := ev n) (i := 117) (n := 3)) ih.ok_read_over (hr.mono (by omega)) (by rfl) T.g_read_over T.F_read_over.kp T.b_read_over (passes_call (takes_of rfl rfl rfl rfl) (fun _ _ _ _ h => h)) (q_cons (q_var (pv 0)) (q_cons (q_var (pv 2)) (q_cons (q_var (pv 3)) q_nil)))))
 (s_cons (s_expr (q_call (prm_E (C := ev n) (i := 124) (n := 2)) ih.ok_check_total (hr.mono (by omega)) (by rfl) T.g_check_total T.F_check_total.kp T.b_check_total (passes_call (takes_of rfl rfl rfl rfl) (fun _ _ _ _ h => h)) (q_cons (q_var (pv 1)) (q_cons (q_fld oxc47d187067 txc47d187067 (fl_word T) (q_var (pv 4)) rfl) q_nil))))
 (s_one (s_ret (q_make (ci := 25) (dcs := []) (fun _ _ => .nil) (prm_N (C := ev n) (i := 96) (n := 4)) T.mk_Drawn ih.ok_Drawn___init__ (hr.mono (by omega)) (by rfl) T.g_Drawn T.b_Drawn___init__ .nil pass0 (q_cons (q_make (ci := 15) (dcs := []) (fun _ _ => .nil) (prm_N (C := ev n) (i := 58) (n := 5)) T.mk_ListTotal ih.ok_ListTotal___init__ (hr.mono (by omega)) (by rfl) T.g_ListTotal T.b_ListTotal___init__ .nil pass0 (q_cons (q_fld ox1cb251ec0d tx1cb251ec0d (fl_text T) (q_var (pv 1)) rfl) (q_cons (q_var (pv 2)) (q_cons (q_fld oxb4dad0fe5f txb4dad0fe5f (fl_term T) (q_var (pv 3)) rfl) (q_cons (q_fld oxb4dad0fe5f txb4dad0fe5f (fl_term T) (q_var (pv 4)) rfl) q_nil))))) (q_cons (q_fld oxc47d187067 txc47d187067 (fl_word T) (q_var (pv 4)) rfl) (q_cons (q_fld ox166e64f6c3 tx166e64f6c3 (fl_parameters T) (q_var (pv 4)) rfl) q_nil))))))))))))
theorem sc_read_group_total : FnScope ["state", "word", "path"] ["state", "word"] (defScope (topS 114)) := ⟨rfl, rfl, rfl, by decide +kernel, rfl, by decide +kernel, by decide +kernel⟩
theorem z_read_group_total (T : Txt w K mg A) : FnOk P w K mg base (L2.CX P w) 1 A.f_read_group_total A.fd_read_group_total ["state", "word"] (spE (S A) 2 (ev 0 123)) :=
  T.F_read_group_total.okX sc_read_group_total (fun vs H Q E h => (spE_no ev0 h).elim) (fun cdv Ar outer s H vs Q E hr h => (spE_no ev0 h).elim)
theorem st_read_group_total (T : Txt w K mg A) {n : Nat} (ih : IH P w K mg base A n) : FnOk P w K mg base (L2.CX P w) (2 * (n + 1) + 1) A.f_read_group_total A.fd_read_group_total ["state", "word"] (spE (S A) 2 (ev (n + 1) 123)) := by
  refine T.F_read_group_total.okX sc_read_group_total (fun vs H Q E h => spE_len h) (fun cdv Ar outer s H vs Q E hr h => body_E (N := ["state", "word", "path"]) (ev := b_read_group_total (ev n)) ?_ rfl (by decide) h)
  exact (s_cons (s_if (q_val (q_meth0 (tb := [(24, 91)]) (sps := fun j => spN (S A) 1 (ev n j)) oxdfdb8de5b7 txdfdb8de5b7 (fun j => prm_N (C := ev n) (i := j) (n := 1)) (q_fld ox1de9b0a300 tx1de9b0a300 (fl_reader T) (q_var (pv 0)) rfl) ⟨⟨T.cl_TokenReader, T.me_TokenReader_small_name_stands, _, _, ih.ok_TokenReader_small_name_stands, T.b_TokenReader_small_name_stands⟩, trivial⟩ (hr.mono (by omega)) pass0))
 (s_one (s_expr (q_call (prm_E (C := ev n) (i := 120) (n := 2)) ih.ok_refuse_without_group (hr.mono (by omega)) (by rfl) T.g_refuse_without_group T.F_refuse_without_group.kp T.b_refuse_without_group (passes_call (takes_of rfl rfl rfl rfl) (fun _ _ _ _ h => h)) (q_cons (q_var (pv 0)) (q_cons (q_var (pv 1)) q_nil)))))
 s_nil)
 (s_cons (s_set (i := 2) sc_read_group_total.nd rfl (.inl rfl) (q_call (prm_E (C := ev n) (i := 75) (n := 1)) ih.ok_read_total_path (hr.mono (by omega)) (by rfl) T.g_read_total_path T.F_read_total_path.kp T.b_read_total_path (passes_call (takes_of rfl rfl rfl rfl) (fun _ _ _ _ h => h)) (q_cons (q_var (pv 0)) q_nil)))
 (s_cons (s_expr (q_meth (tb := [(24, 86)]) (sps := fun j => spE (S A) 2 (ev n j)) oxd0e6ef34e7 txd0e6ef34e7 (fun j => prm_E (C := ev n) (i := j) (n := 2)) (q_fld ox1de9b0a300 tx1de9b0a300 (fl_reader T) (q_var (pv 0)) rfl) ⟨⟨T.cl_TokenReader, T.me_TokenReader_must, _, _, ih.ok_TokenReader_must, T.b_TokenReader_must⟩, trivial⟩ (hr.mono (by omega)) (passes_call (takes_of rfl rfl rfl rfl) (fun _ _ _ _ h => h)) (q_cons (q_str tx9371d7a2e3 ox9371d7a2e3) q_nil)))
 (s_cons (s_expr (q_call (prm_E (C := ev n) (i := 124) (n := 2)) ih.ok_check_total (hr.mono (by omega)) (by rfl) T.g_check_total T.F_check_total.kp T.b_check_total (passes_call (takes_of rfl rfl rfl rfl) (fun _ _ _ _ h => h)) (q_cons (q_var (pv 1)) (q_cons (q_fld oxc47d187067 txc47d187067 (fl_word T) (q_var (pv 2)) rfl) q_nil))))
 (s_one (s_ret (q_make (ci := 25) (dcs := []) (fun _ _ => .nil) (prm_N (C := ev n) (i := 96) (n := 4)) T.mk_Drawn ih.ok_Drawn___init__ (hr.mono (by omega)) (by rfl) T.g_Drawn T.b_Drawn___init__ .nil pass0 (q_cons (q_make (ci := 14) (dcs := []) (fun _ _ => .nil) (prm_N (C := ev n) (i := 57) (n := 3)) T.mk_GroupTotal ih.ok_GroupTotal___init__ (hr.mono (by omega)) (by rfl) T.g_GroupTotal T.b_GroupTotal___init__ .nil pass0 (q_cons (q_fld ox1cb251ec0d tx1cb251ec0d (fl_text T) (q_var (pv 1)) rfl) (q_cons (q_fld oxb4dad0fe5f txb4dad0fe5f (fl_term T) (q_var (pv 2)) rfl) q_nil))) (q_cons (q_fld oxc47d187067 txc47d187067 (fl_word T) (q_var (pv 2)) rfl) (q_cons q_dnew q_nil))))))))))
theorem sc_check_total : FnScope ["word", "sort"] ["word", "sort"] (defScope (topS 115)) := ⟨rfl, rfl, rfl, by decide +kernel, rfl, by decide +kernel, by decide +kernel⟩
theorem z_check_total (T : Txt w K mg A) : FnOk P w K mg base (L2.CX P w) 1 A.f_check_total A.fd_check_total ["word", "sort"] (spE (S A) 2 (ev 0 124)) :=
  T.F_check_total.okX sc_check_total (fun vs H Q E h => (spE_no ev0 h).elim) (fun cdv Ar outer s H vs Q E hr h => (spE_no ev0 h).elim)
theorem st_check_total (T : Txt w K mg A) {n : Nat} (ih : IH P w K mg base A n) : FnOk P w K mg base (L2.CX P w) (2 * (n + 1) + 1) A.f_check_total A.fd_check_total ["word", "sort"] (spE (S A) 2 (ev (n + 1) 124)) := by
  refine T.F_check_total.okX sc_check_total (fun vs H Q E h => spE_len h) (fun cdv Ar outer s H vs Q E hr h => body_E (N := ["word", "sort"]) (ev := b_check_total (ev n)) ?_ rfl (by decide) h)
  exact (s_one (s_if (q_cmpT op_notIn_seq (so_in (sta T) true) (q_var (pv 1)) (q_ix ix_kdict (so_ixD (sdk T)) (q_c (pe_glob (v := .ref A.t_ASKED) rfl T.g_ASKED rfl) fun _ _ => rfl) (q_fld ox1cb251ec0d tx1cb251ec0d (fl_text T) (q_var (pv 0)) rfl) (fun _ _ => rfl)) (by rfl))
 (s_one (s_raise (S := S A) (ps_raise rfl (takes_of rfl rfl rfl rfl) (pmk_oex T.oex T.ic_Fault T.ti_Fault (ok_Fault___init__ T) (hr.mono (by omega)) T.b_Fault___init__ .nil pass0 (by rfl) T.g_Fault (q_cons (q_fld oxebed715e82 txebed715e82 (fl_place T) (q_var (pv 0)) rfl) (q_cons (q_c (pe_glob (v := .str "sorts differ") rfl T.g_DIFFER.choose_spec ⟨_, rfl⟩) fun _ _ => (relStr txe363007e3a oxe363007e3a)) q_nil))))))
 s_nil))
theorem sc_OrderTerm___init__ : FnScope ["self", "term", "down"] ["self", "term", "down"] (defScope (inClass (topS 117) 0)) := ⟨rfl, rfl, rfl, by decide +kernel, rfl, by decide +kernel, by decide +kernel⟩
theorem z_OrderTerm___init__ (T : Txt w K mg A) : FnOk P w K mg base CX0 1 A.f_OrderTerm___init__ A.fd_OrderTerm___init__ ["self", "term", "down"] (spN (S A) 3 (ev 0 125)) :=
  T.F_OrderTerm___init__.ok sc_OrderTerm___init__ (fun vs H Q E h => (spN_no ev0 h).elim) (fun cdv Ar outer s H vs Q E hr h => (spN_no ev0 h).elim)
theorem st_OrderTerm___init__ (T : Txt w K mg A) {n : Nat} (ih : IH P w K mg base A n) : FnOk P w K mg base CX0 (2 * (n + 1) + 1) A.f_OrderTerm___init__ A.fd_OrderTerm___init__ ["self", "term", "down"] (spN (S A) 3 (ev (n + 1) 125)) := by
  refine T.F_OrderTerm___init__.ok sc_OrderTerm___init__ (fun vs H Q E h => spN_len h) (fun cdv Ar outer s H vs Q E hr h => body_N (N := ["self", "term", "down"]) (ev := b_OrderTerm___init__ (ev n)) ?_ rfl (by decide) h)
  exact (s_cons (s_fld oxb4dad0fe5f txb4dad0fe5f (fl_term T) (q_var (pv 0)) (q_var (pv 1)) rfl)
 (s_one (s_fld ox74e8333ad1 tx74e8333ad1 (fl_down T) (q_var (pv 0)) (q_var (pv 2)) rfl)))
theorem sc_QueryParts___init__ : FnScope ["self", "kind", "name"] ["self", "kind", "name"] (defScope (inClass (topS 118) 0)) := ⟨rfl, rfl, rfl, by decide +kernel, rfl, by decide +kernel, by decide +kernel⟩
theorem z_QueryParts___init__ (T : Txt w K mg A) : FnOk P w K mg base CX0 1 A.f_QueryParts___init__ A.fd_QueryParts___init__ ["self", "kind", "name"] (spN (S A) 3 (ev 0 126)) :=
  T.F_QueryParts___init__.ok sc_QueryParts___init__ (fun vs H Q E h => (spN_no ev0 h).elim) (fun cdv Ar outer s H vs Q E hr h => (spN_no ev0 h).elim)
theorem st_QueryParts___init__ (T : Txt w K mg A) {n : Nat} (ih : IH P w K mg base A n) : FnOk P w K mg base CX0 (2 * (n + 1) + 1) A.f_QueryParts___init__ A.fd_QueryParts___init__ ["self", "kind", "name"] (spN (S A) 3 (ev (n + 1) 126)) := by
  refine T.F_QueryParts___init__.ok sc_QueryParts___init__ (fun vs H Q E h => spN_len h) (fun cdv Ar outer s H vs Q E hr h => body_N (N := ["self", "kind", "name"]) (ev := b_QueryParts___init__ (ev n)) ?_ rfl (by decide) h)
  exact (s_cons (s_fld oxd939aaf7d2 txd939aaf7d2 (fl_kind T) (q_var (pv 0)) (q_var (pv 1)) rfl)
 (s_cons (s_fld oxb068931cc4 txb068931cc4 (fl_name T) (q_var (pv 0)) (q_var (pv 2)) rfl)
 (s_cons (s_fld ox567904efe9 tx567904efe9 (fl_where T) (q_var (pv 0)) (q_c pe_non fun _ _ => rfl) rfl)
 (s_cons (s_fld ox1471e4e05a tx1471e4e05a (fl_groups T) (q_var (pv 0)) (q_c pe_non fun _ _ => rfl) rfl)
 (s_cons (s_fld ox70a17ffa72 tx70a17ffa72 (fl_order T) (q_var (pv 0)) (q_lst q_nil) rfl)
 (s_cons (s_fld oxb9f4c1cc74 txb9f4c1cc74 (fl_given T) (q_var (pv 0)) (q_lst q_nil) rfl)
 (s_cons (s_fld oxe52e279299 txe52e279299 (fl_skipped T) (q_var (pv 0)) (q_c pe_non fun _ _ => rfl) rfl)
 (s_cons (s_fld ox4d8b6084f3 tx4d8b6084f3 (fl_kept T) (q_var (pv 0)) (q_c pe_non fun _ _ => rfl) rfl)
 (s_one (s_fld ox166e64f6c3 tx166e64f6c3 (fl_parameters T) (q_var (pv 0)) q_dnew rfl))))))))))
theorem sc_Query___init__ : FnScope ["self", "parts", "text"] ["self", "parts", "text"] (defScope (inClass (topS 119) 0)) := ⟨rfl, rfl, rfl, by decide +kernel, rfl, by decide +kernel, by decide +kernel⟩
theorem z_Query___init__ (T : Txt w K mg A) : FnOk P w K mg base CX0 1 A.f_Query___init__ A.fd_Query___init__ ["self", "parts", "text"] (spN (S A) 3 (ev 0 127)) :=
  T.F_Query___init__.ok sc_Query___init__ (fun vs H Q E h => (spN_no ev0 h).elim) (fun cdv Ar outer s H vs Q E hr h => (spN_no ev0 h).elim)
theorem st_Query___init__ (T : Txt w K mg A) {n : Nat} (ih : IH P w K mg base A n) : FnOk P w K mg base CX0 (2 * (n + 1) + 1) A.f_Query___init__ A.fd_Query___init__ ["self", "parts", "text"] (spN (S A) 3 (ev (n + 1) 127)) := by
  refine T.F_Query___init__.ok sc_Query___init__ (fun vs H Q E h => spN_len h) (fun cdv Ar outer s H vs Q E hr h => body_N (N := ["self", "parts", "text"]) (ev := b_Query___init__ (ev n)) ?_ rfl (by decide) h)
  exact (s_cons (s_fld ox78f0805fa8 tx78f0805fa8 (fl_parts T) (q_var (pv 0)) (q_var (pv 1)) rfl)
 (s_cons (s_fld oxd939aaf7d2 txd939aaf7d2 (fl_kind T) (q_var (pv 0)) (q_fld oxd939aaf7d2 txd939aaf7d2 (fl_kind T) (q_var (pv 1)) rfl) rfl)
 (s_cons (s_fld oxb068931cc4 txb068931cc4 (fl_name T) (q_var (pv 0)) (q_fld oxb068931cc4 txb068931cc4 (fl_name T) (q_var (pv 1)) rfl) rfl)
 (s_one (s_fld ox1cb251ec0d tx1cb251ec0d (fl_text T) (q_var (pv 0)) (q_var (pv 2)) rfl)))))
theorem sc_read_query : FnScope ["schema", "text", "reader", "state", "parts", "rows", "place"] ["schema", "text"] (defScope (topS 130)) := ⟨rfl, rfl, rfl, by decide +kernel, rfl, by decide +kernel, by decide +kernel⟩
theorem z_read_query (T : Txt w K mg A) : FnOk P w K mg base (L2.CX P w) 1 A.f_read_query A.fd_read_query ["schema", "text"] (spE (S A) 2 (ev 0 128)) :=
  T.F_read_query.okX sc_read_query (fun vs H Q E h => (spE_no ev0 h).elim) (fun cdv Ar outer s H vs Q E hr h => (spE_no ev0 h).elim)
theorem st_read_query (T : Txt w K mg A) {n : Nat} (ih : IH P w K mg base A n) : FnOk P w K mg base (L2.CX P w) (2 * (n + 1) + 1) A.f_read_query A.fd_read_query ["schema", "text"] (spE (S A) 2 (ev (n + 1) 128)) := by
  refine T.F_read_query.okX sc_read_query (fun vs H Q E h => spE_len h) (fun cdv Ar outer s H vs Q E hr h => body_E (N := ["schema", "text", "reader", "state", "parts", "rows", "place"]) (ev := b_read_query (ev n)) ?_ rfl (by decide) h)
  exact (s_cons (s_set (i := 2) sc_read_query.nd rfl (.inl rfl) (q_make (ci := 24) (dcs := []) (fun _ _ => .nil) (prm_N (C := ev n) (i := 78) (n := 3)) T.mk_TokenReader ih.ok_TokenReader___init__ (hr.mono (by omega)) (by rfl) T.g_TokenReader T.b_TokenReader___init__ .nil pass0 (q_cons (q_call (prm_E (C := ev n) (i := 33) (n := 3)) ih.ok_tokens (hr.mono (by omega)) (by rfl) T.g_tokens T.F_tokens.kp T.b_tokens (passes_call (takes_of rfl rfl rfl rfl) (fun _ _ _ _ h => h)) (q_cons (q_var (pv 1)) (q_cons (q_c (pe_glob (v := .ref A.t_QUERY_SIGNS) rfl T.g_QUERY_SIGNS rfl) fun _ _ => rfl) (q_cons (q_c (pe_glob (v := .int 400) rfl T.g_LONGEST_QUERY.choose_spec ⟨_, rfl⟩) fun _ _ => rfl) q_nil)))) (q_cons (q_c (pe_glob (v := .ref A.t_QUERY_WORDS) rfl T.g_QUERY_WORDS rfl) fun _ _ => rfl) q_nil))))
 (s_cons (s_set (i := 3) sc_read_query.nd rfl (.inl rfl) (q_make (ci := 22) (dcs := []) (fun _ _ => .nil) (prm_N (C := ev n) (i := 65) (n := 3)) T.mk_QueryState ih.ok_QueryState___init__ (hr.mono (by omega)) (by rfl) T.g_QueryState T.b_QueryState___init__ .nil pass0 (q_cons (q_var (pv 0)) (q_cons (q_var (pv 2)) q_nil))))
 (s_cons (s_set (i := 4) sc_read_query.nd rfl (.inl rfl) (q_call (prm_E (C := ev n) (i := 129) (n := 1)) ih.ok_read_from (hr.mono (by omega)) (by rfl) T.g_read_from T.F_read_from.kp T.b_read_from (passes_call (takes_of rfl rfl rfl rfl) (fun _ _ _ _ h => h)) (q_cons (q_var (pv 3)) q_nil)))
 (s_cons (s_set (i := 5) sc_read_query.nd rfl (.inl rfl) (q_lst (q_cons (q_call (prm_E (C := ev n) (i := 130) (n := 2)) ih.ok_read_where (hr.mono (by omega)) (by rfl) T.g_read_where T.F_read_where.kp T.b_read_where (passes_call (takes_of rfl rfl rfl rfl) (fun _ _ _ _ h => h)) (q_cons (q_var (pv 3)) (q_cons (q_var (pv 4)) q_nil))) q_nil)))
 (s_cons (s_expr (q_call (prm_E (C := ev n) (i := 131) (n := 2)) ih.ok_read_group (hr.mono (by omega)) (by rfl) T.g_read_group T.F_read_group.kp T.b_read_group (passes_call (takes_of rfl rfl rfl rfl) (fun _ _ _ _ h => h)) (q_cons (q_var (pv 3)) (q_cons (q_var (pv 4)) q_nil))))
 (s_cons (s_expr (q_bm PySem.F.plainAttrs_list PySem.F.slot_list_extend PySem.F.type_list_extend mt_extend sm_ext (q_var (pv 5)) (q_cons (q_call (prm_E (C := ev n) (i := 136) (n := 2)) ih.ok_read_order (hr.mono (by omega)) (by rfl) T.g_read_order T.F_read_order.kp T.b_read_order (passes_call (takes_of rfl rfl rfl rfl) (fun _ _ _ _ h => h)) (q_cons (q_var (pv 3)) (q_cons (q_var (pv 4)) q_nil))) q_nil)))
 (s_cons (s_expr (q_meth (tb := [(24, 86)]) (sps := fun j => spE (S A) 2 (ev n j)) oxd0e6ef34e7 txd0e6ef34e7 (fun j => prm_E (C := ev n) (i := j) (n := 2)) (q_var (pv 2)) ⟨⟨T.cl_TokenReader, T.me_TokenReader_must, _, _, ih.ok_TokenReader_must, T.b_TokenReader_must⟩, trivial⟩ (hr.mono (by omega)) (passes_call (takes_of rfl rfl rfl rfl) (fun _ _ _ _ h => h)) (q_cons (q_str txa1ec23e9b9 oxa1ec23e9b9) q_nil)))
 (s_cons (s_set (i := 6) sc_read_query.nd rfl (.inl rfl) (q_fld oxebed715e82 txebed715e82 (fl_place T) (q_meth0 (tb := [(24, 79)]) (sps := fun j => spN (S A) 1 (ev n j)) ox6c92285fa6 tx6c92285fa6 (fun j => prm_N (C := ev n) (i := j) (n := 1)) (q_var (pv 2)) ⟨⟨T.cl_TokenReader, T.me_TokenReader_here, _, _, ih.ok_TokenReader_here, T.b_TokenReader_here⟩, trivial⟩ (hr.mono (by omega)) pass0) rfl))
 (s_cons (s_expr (q_bm PySem.F.plainAttrs_list PySem.F.slot_list_extend PySem.F.type_list_extend mt_extend sm_ext (q_var (pv 5)) (q_cons (q_call (prm_E (C := ev n) (i := 137) (n := 2)) ih.ok_read_give (hr.mono (by omega)) (by rfl) T.g_read_give T.F_read_give.kp T.b_read_give (passes_call (takes_of rfl rfl rfl rfl) (fun _ _ _ _ h => h)) (q_cons (q_var (pv 3)) (q_cons (q_var (pv 4)) q_nil))) q_nil)))
 (s_cons (s_expr (q_bm PySem.F.plainAttrs_list PySem.F.slot_list_extend PySem.F.type_list_extend mt_extend sm_ext (q_var (pv 5)) (q_cons (q_call (prm_E (C := ev n) (i := 138) (n := 2)) ih.ok_read_counts (hr.mono (by omega)) (by rfl) T.g_read_counts T.F_read_counts.kp T.b_read_counts (passes_call (takes_of rfl rfl rfl rfl) (fun _ _ _ _ h => h)) (q_cons (q_var (pv 3)) (q_cons (q_var (pv 4)) q_nil))) q_nil)))
 (s_cons (s_expr (q_meth0 (tb := [(24, 87)]) (sps := fun j => spE (S A) 1 (ev n j)) ox65f15ca514 tx65f15ca514 (fun j => prm_E (C := ev n) (i := j) (n := 1)) (q_var (pv 2)) ⟨⟨T.cl_TokenReader, T.me_TokenReader_must_end, _, _, ih.ok_TokenReader_must_end, T.b_TokenReader_must_end⟩, trivial⟩ (hr.mono (by omega)) (passes_call (takes_of rfl rfl rfl rfl) (fun _ _ _ _ h => h))))
 (s_cons (s_fld ox166e64f6c3 tx166e64f6c3 (fl_parameters T) (q_var (pv 4)) (q_call (prm_E (C := ev n) (i := 98) (n := 2)) ih.ok_merged (hr.mono (by omega)) (by rfl) T.g_merged T.F_merged.kp T.b_merged (passes_call (takes_of rfl rfl rfl rfl) (fun _ _ _ _ h => h)) (q_cons (q_var (pv 5)) (q_cons (q_var (pv 6)) q_nil))) rfl)
 (s_one (s_ret (q_make (ci := 28) (dcs := []) (fun _ _ => .nil) (prm_N (C := ev n) (i := 127) (n := 3)) T.mk_Query ih.ok_Query___init__ (hr.mono (by omega)) (by rfl) T.g_Query T.b_Query___init__ .nil pass0 (q_cons (q_var (pv 4)) (q_cons q_no q_nil)))))))))))))))))
theorem sc_read_from : FnScope ["state", "kind"] ["state"] (defScope (topS 131)) := ⟨rfl, rfl, rfl, by decide +kernel, rfl, by decide +kernel, by decide +kernel⟩
theorem z_read_from (T : Txt w K mg A) : FnOk P w K mg base (L2.CX P w) 1 A.f_read_from A.fd_read_from ["state"] (spE (S A) 1 (ev 0 129)) :=
  T.F_read_from.okX sc_read_from (fun vs H Q E h => (spE_no ev0 h).elim) (fun cdv Ar outer s H vs Q E hr h => (spE_no ev0 h).elim)
theorem st_read_from (T : Txt w K mg A) {n : Nat} (ih : IH P w K mg base A n) : FnOk P w K mg base (L2.CX P w) (2 * (n + 1) + 1) A.f_read_from A.fd_read_from ["state"] (spE (S A) 1 (ev (n + 1) 129)) := by
  refine T.F_read_from.okX sc_read_from (fun vs H Q E h => spE_len h) (fun cdv Ar outer s H vs Q E hr h => body_E (N := ["state", "kind"]) (ev := b_read_from (ev n)) ?_ rfl (by decide) h)
  exact (s_cons (s_expr (q_meth (tb := [(24, 86)]) (sps := fun j => spE (S A) 2 (ev n j)) oxd0e6ef34e7 txd0e6ef34e7 (fun j => prm_E (C := ev n) (i := j) (n := 2)) (q_fld ox1de9b0a300 tx1de9b0a300 (fl_reader T) (q_var (pv 0)) rfl) ⟨⟨T.cl_TokenReader, T.me_TokenReader_must, _, _, ih.ok_TokenReader_must, T.b_TokenReader_must⟩, trivial⟩ (hr.mono (by omega)) (passes_call (takes_of rfl rfl rfl rfl) (fun _ _ _ _ h => h)) (q_cons (q_str txd98a07f849 oxd98a07f849) q_nil)))
 (s_cons (s_set (i := 1) sc_read_from.nd rfl (.inl rfl) (q_meth0 (tb := [(24, 92)]) (sps := fun j => spE (S A) 1 (ev n j)) ox998278fe89 tx998278fe89 (fun j => prm_E (C := ev n) (i := j) (n := 1)) (q_fld ox1de9b0a300 tx1de9b0a300 (fl_reader T) (q_var (pv 0)) rfl) ⟨⟨T.cl_TokenReader, T.me_TokenReader_kind_name, _, _, ih.ok_TokenReader_kind_name, T.b_TokenReader_kind_name⟩, trivial⟩ (hr.mono (by omega)) (passes_call (takes_of rfl rfl rfl rfl) (fun _ _ _ _ h => h))))
 (s_cons (s_if (q_cmpT op_isN so_is (q_meth (tb := [(31, 144)]) (sps := fun j => spN (S A) 2 (ev n j)) ox4b74f772ae tx4b74f772ae (fun j => prm_N (C := ev n) (i := j) (n := 2)) (q_fld oxc9550d5fad txc9550d5fad (fl_schema T) (q_var (pv 0)) rfl) ⟨⟨T.cl_Schema, T.me_Schema_kind_of, _, _, ih.ok_Schema_kind_of, T.b_Schema_kind_of⟩, trivial⟩ (hr.mono (by omega)) pass0 (q_cons (q_fld ox1cb251ec0d tx1cb251ec0d (fl_text T) (q_var (pv 1)) rfl) q_nil)) (q_c pe_non fun _ _ => rfl) (nomark _))
 (s_one (s_raise (S := S A) (ps_raise rfl (takes_of rfl rfl rfl rfl) (pmk_oex T.oex T.ic_Fault T.ti_Fault (ok_Fault___init__ T) (hr.mono (by omega)) T.b_Fault___init__ .nil pass0 (by rfl) T.g_Fault (q_cons (q_fld oxebed715e82 txebed715e82 (fl_place T) (q_var (pv 1)) rfl) (q_cons (q_str tx9dba85b03f ox9dba85b03f) q_nil))))))
 s_nil)
 (s_cons (s_fld ox7c49b153d4 tx7c49b153d4 (fl_origin T) (q_var (pv 0)) (q_meth0 (tb := [(22, 69)]) (sps := fun j => spE (S A) 1 (ev n j)) ox10b0406938 tx10b0406938 (fun j => prm_E (C := ev n) (i := j) (n := 1)) (q_var (pv 0)) ⟨⟨T.cl_QueryState, T.me_QueryState_new_name, _, _, ih.ok_QueryState_new_name, T.b_QueryState_new_name⟩, trivial⟩ (hr.mono (by omega)) (passes_call (takes_of rfl rfl rfl rfl) (fun _ _ _ _ h => h))) rfl)
 (s_cons (s_dput (u1 hr) (q_fld oxa8998c31a1 txa8998c31a1 (fl_names T) (q_var (pv 0)) rfl) (q_fld ox7c49b153d4 tx7c49b153d4 (fl_origin T) (q_var (pv 0)) rfl) (q_lst (q_cons (q_fld ox1cb251ec0d tx1cb251ec0d (fl_text T) (q_var (pv 1)) rfl) q_nil)) rfl)
 (s_one (s_ret (q_make (ci := 27) (dcs := []) (fun _ _ => .nil) (prm_N (C := ev n) (i := 126) (n := 3)) T.mk_QueryParts ih.ok_QueryParts___init__ (hr.mono (by omega)) (by rfl) T.g_QueryParts T.b_QueryParts___init__ .nil pass0 (q_cons (q_fld ox1cb251ec0d tx1cb251ec0d (fl_text T) (q_var (pv 1)) rfl) (q_cons (q_fld ox7c49b153d4 tx7c49b153d4 (fl_origin T) (q_var (pv 0)) rfl) q_nil))))))))))
theorem sc_read_where : FnScope ["state", "parts", "place", "drawn"] ["state", "parts"] (defScope (topS 132)) := ⟨rfl, rfl, rfl, by decide +kernel, rfl, by decide +kernel, by decide +kernel⟩
theorem z_read_where (T : Txt w K mg A) : FnOk P w K mg base (L2.CX P w) 1 A.f_read_where A.fd_read_where ["state", "parts"] (spE (S A) 2 (ev 0 130)) :=
  T.F_read_where.okX sc_read_where (fun vs H Q E h => (spE_no ev0 h).elim) (fun cdv Ar outer s H vs Q E hr h => (spE_no ev0 h).elim)
theorem st_read_where (T : Txt w K mg A) {n : Nat} (ih : IH P w K mg base A n) : FnOk P w K mg base (L2.CX P w) (2 * (n + 1) + 1) A.f_read_where A.fd_read_where ["state", "parts"] (spE (S A) 2 (ev (n + 1) 130)) := by
  refine T.F_read_where.okX sc_read_where (fun vs H Q E h => spE_len h) (fun cdv Ar outer s H vs Q E hr h => body_E (N := ["state", "parts", "place", "drawn"]) (ev := b_read_where (ev n)) ?_ rfl (by decide) h)
  exact (s_cons (s_if (q_notT (q_val (q_meth (tb := [(24, 85)]) (sps := fun j => spN (S A) 2 (ev n j)) ox9560f74c21 tx9560f74c21 (fun j => prm_N (C := ev n) (i := j) (n := 2)) (q_fld ox1de9b0a300 tx1de9b0a300 (fl_reader T) (q_var (pv 0)) rfl) ⟨⟨T.cl_TokenReader, T.me_TokenReader_passes, _, _, ih.ok_TokenReader_passes, T.b_TokenReader_passes⟩, trivial⟩ (hr.mono (by omega)) pass0 (q_cons (q_str tx567904efe9 ox567904efe9) q_nil))))
 (s_one (s_ret q_dnew))
 s_nil)
 (s_cons (s_set (i := 2) sc_read_where.nd rfl (.inl rfl) (q_fld oxebed715e82 txebed715e82 (fl_place T) (q_meth0 (tb := [(24, 79)]) (sps := fun j => spN (S A) 1 (ev n j)) ox6c92285fa6 tx6c92285fa6 (fun j => prm_N (C := ev n) (i := j) (n := 1)) (q_fld ox1de9b0a300 tx1de9b0a300 (fl_reader T) (q_var (pv 0)) rfl) ⟨⟨T.cl_TokenReader, T.me_TokenReader_here, _, _, ih.ok_TokenReader_here, T.b_TokenReader_here⟩, trivial⟩ (hr.mono (by omega)) pass0) rfl))
 (s_cons (s_set (i := 3) sc_read_where.nd rfl (.inl rfl) (q_call (prm_E (C := ev n) (i := 100) (n := 1)) ih.ok_read_either (hr.mono (by omega)) (by rfl) T.g_read_either T.F_read_either.kp T.b_read_either (passes_call (takes_of rfl rfl rfl rfl) (fun _ _ _ _ h => h)) (q_cons (q_var (pv 0)) q_nil)))
 (s_cons (s_if (q_cmpT op_ne so_ne (q_fld oxc47d187067 txc47d187067 (fl_word T) (q_var (pv 3)) rfl) (q_c (pe_glob (v := .str "truth") rfl T.g_TRUTH.choose_spec ⟨_, rfl⟩) fun _ _ => (relStr tx59d42c504c ox59d42c504c)) (nomark _))
 (s_one (s_raise (S := S A) (ps_raise rfl (takes_of rfl rfl rfl rfl) (pmk_oex T.oex T.ic_Fault T.ti_Fault (ok_Fault___init__ T) (hr.mono (by omega)) T.b_Fault___init__ .nil pass0 (by rfl) T.g_Fault (q_cons (q_var (pv 2)) (q_cons (q_c (pe_glob (v := .str "sorts differ") rfl T.g_DIFFER.choose_spec ⟨_, rfl⟩) fun _ _ => (relStr txe363007e3a oxe363007e3a)) q_nil))))))
 s_nil)
 (s_cons (s_fld ox567904efe9 tx567904efe9 (fl_where T) (q_var (pv 1)) (q_fld oxb4dad0fe5f txb4dad0fe5f (fl_term T) (q_var (pv 3)) rfl) rfl)
 (s_one (s_ret (q_fld ox166e64f6c3 tx166e64f6c3 (fl_parameters T) (q_var (pv 3)) rfl))))))))
theorem sc_read_group : FnScope ["state", "parts", "path"] ["state", "parts"] (defScope (topS 133)) := ⟨rfl, rfl, rfl, by decide +kernel, rfl, by decide +kernel, by decide +kernel⟩
theorem z_read_group (T : Txt w K mg A) : FnOk P w K mg base (L2.CX P w) 1 A.f_read_group A.fd_read_group ["state", "parts"] (spE (S A) 2 (ev 0 131)) :=
  T.F_read_group.okX sc_read_group (fun vs H Q E h => (spE_no ev0 h).elim) (fun cdv Ar outer s H vs Q E hr h => (spE_no ev0 h).elim)
theorem st_read_group (T : Txt w K mg A) {n : Nat} (ih : IH P w K mg base A n) : FnOk P w K mg base (L2.CX P w) (2 * (n + 1) + 1) A.f_read_group A.fd_read_group ["state", "parts"] (spE (S A) 2 (ev (n + 1) 131)) := by
  refine T.F_read_group.okX sc_read_group (fun vs H Q E h => spE_len h) (fun cdv Ar outer s H vs Q E hr h => body_E (N := ["state", "parts", "path"]) (ev := b_read_group (ev n)) ?_ rfl (by decide) h)
  exact (s_cons (s_if (q_notT (q_val (q_meth (tb := [(24, 85)]) (sps := fun j => spN (S A) 2 (ev n j)) ox9560f74c21 tx9560f74c21 (fun j => prm_N (C := ev n) (i := j) (n := 2)) (q_fld ox1de9b0a300 tx1de9b0a300 (fl_reader T) (q_var (pv 0)) rfl) ⟨⟨T.cl_TokenReader, T.me_TokenReader_passes, _, _, ih.ok_TokenReader_passes, T.b_TokenReader_passes⟩, trivial⟩ (hr.mono (by omega)) pass0 (q_cons (q_str txdb0f6f37eb oxdb0f6f37eb) q_nil))))
 (s_one s_retN)
 s_nil)
 (s_cons (s_fld ox1471e4e05a tx1471e4e05a (fl_groups T) (q_var (pv 1)) (q_lst q_nil) rfl)
 (s_cons (s_if (q_notT (q_val (q_meth (tb := [(24, 85)]) (sps := fun j => spN (S A) 2 (ev n j)) ox9560f74c21 tx9560f74c21 (fun j => prm_N (C := ev n) (i := j) (n := 2)) (q_fld ox1de9b0a300 tx1de9b0a300 (fl_reader T) (q_var (pv 0)) rfl) ⟨⟨T.cl_TokenReader, T.me_TokenReader_passes, _, _, ih.ok_TokenReader_passes, T.b_TokenReader_passes⟩, trivial⟩ (hr.mono (by omega)) pass0 (q_cons (q_str txa181a60376 oxa181a60376) q_nil))))
 (s_cons (s_expr (q_meth (tb := [(24, 86)]) (sps := fun j => spE (S A) 2 (ev n j)) oxd0e6ef34e7 txd0e6ef34e7 (fun j => prm_E (C := ev n) (i := j) (n := 2)) (q_fld ox1de9b0a300 tx1de9b0a300 (fl_reader T) (q_var (pv 0)) rfl) ⟨⟨T.cl_TokenReader, T.me_TokenReader_must, _, _, ih.ok_TokenReader_must, T.b_TokenReader_must⟩, trivial⟩ (hr.mono (by omega)) (passes_call (takes_of rfl rfl rfl rfl) (fun _ _ _ _ h => h)) (q_cons (q_str txdf3f079de6 oxdf3f079de6) q_nil)))
 (s_one (s_fld ox1471e4e05a tx1471e4e05a (fl_groups T) (q_var (pv 1)) (q_call (prm_E (C := ev n) (i := 133) (n := 3)) ih.ok_read_several (hr.mono (by omega)) (by rfl) T.g_read_several T.F_read_several.kp T.b_read_several (passes_call (takes_of rfl rfl rfl rfl) (fun _ _ _ _ h => h)) (q_cons (q_var (pv 0)) (q_cons (q_c (pe_glob (v := .int 4) rfl T.g_MOST_GROUPED.choose_spec ⟨_, rfl⟩) fun _ _ => rfl) (q_cons (q_c (pe_glob (v := .ref A.f_read_group_path) rfl T.g_read_group_path rfl) fun _ _ => rfl) q_nil)))) rfl)))
 s_nil)
 (s_one (s_fld ox1471e4e05a tx1471e4e05a (fl_groups T) (q_var (pv 0)) (q_lc (own := [("path", 2)]) (vs := [2]) 200 (sta T) rfl sc_read_group.nd (q_fld ox1471e4e05a tx1471e4e05a (fl_groups T) (q_var (pv 1)) rfl) (blkOk_by (own := [("path", 2)]) (N := ["state", "parts", "path"]) (sc := defScope (topS 133)) (by decide +kernel)) rfl (fun _ _ _ _ _ => (pg_name (i := 2) sc_read_group.nd rfl (Or.inl rfl))) (g_name 2) (by decide) (fun _ _ _ _ _ => pts_nil) snd_yes (fun _ _ _ _ _ => by exact (q_fld oxd05b6ed7d2 txd05b6ed7d2 (fl_fields T) (q_var (pv 2)) rfl))) rfl)))))
theorem sc_read_group_path : FnScope ["state"] ["state"] (defScope (topS 134)) := ⟨rfl, rfl, rfl, by decide +kernel, rfl, by decide +kernel, by decide +kernel⟩
theorem z_read_group_path (T : Txt w K mg A) : FnOk P w K mg base (L2.CX P w) 1 A.f_read_group_path A.fd_read_group_path ["state"] (spE (S A) 1 (ev 0 132)) :=
  T.F_read_group_path.okX sc_read_group_path (fun vs H Q E h => (spE_no ev0 h).elim) (fun cdv Ar outer s H vs Q E hr h => (spE_no ev0 h).elim)
theorem st_read_group_path (T : Txt w K mg A) {n : Nat} (ih : IH P w K mg base A n) : FnOk P w K mg base (L2.CX P w) (2 * (n + 1) + 1) A.f_read_group_path A.fd_read_group_path ["state"] (spE (S A) 1 (ev (n + 1) 132)) := by
  refine T.F_read_group_path.okX sc_read_group_path (fun vs H Q E h => spE_len h) (fun cdv Ar outer s H vs Q E hr h => body_E (N := ["state"]) (ev := b_read_group_path (ev n)) ?_ rfl (by decide) h)
  exact (s_one (s_ret (q_fld oxb4dad0fe5f txb4dad0fe5f (fl_term T) (q_call (prm_E (C := ev n) (i := 73) (n := 1)) ih.ok_read_plain_path (hr.mono (by omega)) (by rfl) T.g_read_plain_path T.F_read_plain_path.kp T.b_read_plain_path (passes_call (takes_of rfl rfl rfl rfl) (fun _ _ _ _ h => h)) (q_cons (q_var (pv 0)) q_nil)) rfl)))
theorem sc_read_several : FnScope ["state", "most", "read_one", "found"] ["state", "most", "read_one"] (defScope (topS 135)) := ⟨rfl, rfl, rfl, by decide +kernel, rfl, by decide +kernel, by decide +kernel⟩
theorem z_read_several (T : Txt w K mg A) : FnOk P w K mg base (L2.CX P w) 1 A.f_read_several A.fd_read_several ["state", "most", "read_one"] (spE (S A) 3 (ev 0 133)) :=
  T.F_read_several.okX sc_read_several (fun vs H Q E h => (spE_no ev0 h).elim) (fun cdv Ar outer s H vs Q E hr h => (spE_no ev0 h).elim)
theorem st_read_several (T : Txt w K mg A) {n : Nat} (ih : IH P w K mg base A n) : FnOk P w K mg base (L2.CX P w) (2 * (n + 1) + 1) A.f_read_several A.fd_read_several ["state", "most", "read_one"] (spE (S A) 3 (ev (n + 1) 133)) := by
  refine T.F_read_several.okX sc_read_several (fun vs H Q E h => spE_len h) (fun cdv Ar outer s H vs Q E hr h => body_E (N := ["state", "most", "read_one", "found"]) (ev := b_read_several (ev n)) ?_ rfl (by decide) h)
  exact (s_cons (s_set (i := 3) sc_read_several.nd rfl (.inl rfl) (q_lst (q_cons (q_callL (S := S A) (fs := [101, 103, 107, 112, 132, 134, 135]) (sps := fun j => spE (S A) 1 (ev n j)) (fun j => prm_E (C := ev n) (i := j) (n := 1)) ⟨⟨T.F_read_both.kp, _, _, ih.ok_read_both, T.b_read_both⟩, ⟨⟨T.F_read_product.kp, _, _, ih.ok_read_product, T.b_read_product⟩, ⟨⟨T.F_read_turned.kp, _, _, ih.ok_read_turned, T.b_read_turned⟩, ⟨⟨T.F_read_signed.kp, _, _, ih.ok_read_signed, T.b_read_signed⟩, ⟨⟨T.F_read_group_path.kp, _, _, ih.ok_read_group_path, T.b_read_group_path⟩, ⟨⟨T.F_read_told.kp, _, _, ih.ok_read_told, T.b_read_told⟩, ⟨⟨T.F_read_order_term.kp, _, _, ih.ok_read_order_term, T.b_read_order_term⟩, trivial⟩⟩⟩⟩⟩⟩⟩ (hr.mono (by omega)) rfl (.inl rfl) (passes_call (takes_of rfl rfl rfl rfl) (fun _ _ _ _ h => h)) (q_cons (q_var (pv 0)) q_nil)) q_nil)))
 (s_cons (s_while 200 (passes_of rfl) (q_val (q_meth (tb := [(24, 85)]) (sps := fun j => spN (S A) 2 (ev n j)) ox9560f74c21 tx9560f74c21 (fun j => prm_N (C := ev n) (i := j) (n := 2)) (q_fld ox1de9b0a300 tx1de9b0a300 (fl_reader T) (q_var (pv 0)) rfl) ⟨⟨T.cl_TokenReader, T.me_TokenReader_passes, _, _, ih.ok_TokenReader_passes, T.b_TokenReader_passes⟩, trivial⟩ (hr.mono (by omega)) pass0 (q_cons (q_str txc0cb5f0fcf oxc0cb5f0fcf) q_nil)))
 (s_cons (s_if (q_cmpT op_eq so_eq (q_callB call_len (sc_len (sta T)) rfl T.b_len PySem.boot_len (q_cons (q_var (pv 3)) q_nil)) (q_var (pv 1)) (nomark _))
 (s_one (s_raise (S := S A) (ps_raise rfl (takes_of rfl rfl rfl rfl) (pmk_oex T.oex T.ic_Fault T.ti_Fault (ok_Fault___init__ T) (hr.mono (by omega)) T.b_Fault___init__ .nil pass0 (by rfl) T.g_Fault (q_cons (q_fld oxebed715e82 txebed715e82 (fl_place T) (q_meth0 (tb := [(24, 79)]) (sps := fun j => spN (S A) 1 (ev n j)) ox6c92285fa6 tx6c92285fa6 (fun j => prm_N (C := ev n) (i := j) (n := 1)) (q_fld ox1de9b0a300 tx1de9b0a300 (fl_reader T) (q_var (pv 0)) rfl) ⟨⟨T.cl_TokenReader, T.me_TokenReader_here, _, _, ih.ok_TokenReader_here, T.b_TokenReader_here⟩, trivial⟩ (hr.mono (by omega)) pass0) rfl) (q_cons (q_str tx9226cafed9 ox9226cafed9) q_nil))))))
 s_nil)
 (s_one (s_expr (q_bm PySem.F.plainAttrs_list PySem.F.slot_list_append PySem.F.type_list_append mt_append sm_app (q_var (pv 3)) (q_cons (q_callL (S := S A) (fs := [101, 103, 107, 112, 132, 134, 135]) (sps := fun j => spE (S A) 1 (ev n j)) (fun j => prm_E (C := ev n) (i := j) (n := 1)) ⟨⟨T.F_read_both.kp, _, _, ih.ok_read_both, T.b_read_both⟩, ⟨⟨T.F_read_product.kp, _, _, ih.ok_read_product, T.b_read_product⟩, ⟨⟨T.F_read_turned.kp, _, _, ih.ok_read_turned, T.b_read_turned⟩, ⟨⟨T.F_read_signed.kp, _, _, ih.ok_read_signed, T.b_read_signed⟩, ⟨⟨T.F_read_group_path.kp, _, _, ih.ok_read_group_path, T.b_read_group_path⟩, ⟨⟨T.F_read_told.kp, _, _, ih.ok_read_told, T.b_read_told⟩, ⟨⟨T.F_read_order_term.kp, _, _, ih.ok_read_order_term, T.b_read_order_term⟩, trivial⟩⟩⟩⟩⟩⟩⟩ (hr.mono (by omega)) rfl (.inl rfl) (passes_call (takes_of rfl rfl rfl rfl) (fun _ _ _ _ h => h)) (q_cons (q_var (pv 0)) q_nil)) q_nil))))))
 (s_one (s_ret (q_var (pv 3))))))
theorem sc_read_told : FnScope ["state", "place", "drawn"] ["state"] (defScope (topS 136)) := ⟨rfl, rfl, rfl, by decide +kernel, rfl, by decide +kernel, by decide +kernel⟩
theorem z_read_told (T : Txt w K mg A) : FnOk P w K mg base (L2.CX P w) 1 A.f_read_told A.fd_read_told ["state"] (spE (S A) 1 (ev 0 134)) :=
  T.F_read_told.okX sc_read_told (fun vs H Q E h => (spE_no ev0 h).elim) (fun cdv Ar outer s H vs Q E hr h => (spE_no ev0 h).elim)
theorem st_read_told (T : Txt w K mg A) {n : Nat} (ih : IH P w K mg base A n) : FnOk P w K mg base (L2.CX P w) (2 * (n + 1) + 1) A.f_read_told A.fd_read_told ["state"] (spE (S A) 1 (ev (n + 1) 134)) := by
  refine T.F_read_told.okX sc_read_told (fun vs H Q E h => spE_len h) (fun cdv Ar outer s H vs Q E hr h => body_E (N := ["state", "place", "drawn"]) (ev := b_read_told (ev n)) ?_ rfl (by decide) h)
  exact (s_cons (s_set (i := 1) sc_read_told.nd rfl (.inl rfl) (q_fld oxebed715e82 txebed715e82 (fl_place T) (q_meth0 (tb := [(24, 79)]) (sps := fun j => spN (S A) 1 (ev n j)) ox6c92285fa6 tx6c92285fa6 (fun j => prm_N (C := ev n) (i := j) (n := 1)) (q_fld ox1de9b0a300 tx1de9b0a300 (fl_reader T) (q_var (pv 0)) rfl) ⟨⟨T.cl_TokenReader, T.me_TokenReader_here, _, _, ih.ok_TokenReader_here, T.b_TokenReader_here⟩, trivial⟩ (hr.mono (by omega)) pass0) rfl))
 (s_cons (s_set (i := 2) sc_read_told.nd rfl (.inl rfl) (q_call (prm_E (C := ev n) (i := 100) (n := 1)) ih.ok_read_either (hr.mono (by omega)) (by rfl) T.g_read_either T.F_read_either.kp T.b_read_either (passes_call (takes_of rfl rfl rfl rfl) (fun _ _ _ _ h => h)) (q_cons (q_var (pv 0)) q_nil)))
 (s_cons (s_if (q_pt (q_wor (q_cmpT op_eq so_eq (q_fld oxc47d187067 txc47d187067 (fl_word T) (q_var (pv 2)) rfl) (q_c (pe_glob (v := .str "truth") rfl T.g_TRUTH.choose_spec ⟨_, rfl⟩) fun _ _ => (relStr tx59d42c504c ox59d42c504c)) (nomark _)) (q_wor1 (q_cmpT op_eq so_eq (q_fld oxc47d187067 txc47d187067 (fl_word T) (q_var (pv 2)) rfl) (q_c (pe_glob (v := .str "parameter") rfl T.g_PARAMETER.choose_spec ⟨_, rfl⟩) fun _ _ => (relStr tx03144cce1f ox03144cce1f)) (nomark _)))))
 (s_one (s_raise (S := S A) (ps_raise rfl (takes_of rfl rfl rfl rfl) (pmk_oex T.oex T.ic_Fault T.ti_Fault (ok_Fault___init__ T) (hr.mono (by omega)) T.b_Fault___init__ .nil pass0 (by rfl) T.g_Fault (q_cons (q_var (pv 1)) (q_cons (q_c (pe_glob (v := .str "sorts differ") rfl T.g_DIFFER.choose_spec ⟨_, rfl⟩) fun _ _ => (relStr txe363007e3a oxe363007e3a)) q_nil))))))
 s_nil)
 (s_one (s_ret (q_var (pv 2)))))))
theorem sc_read_order_term : FnScope ["state", "drawn"] ["state"] (defScope (topS 137)) := ⟨rfl, rfl, rfl, by decide +kernel, rfl, by decide +kernel, by decide +kernel⟩
theorem z_read_order_term (T : Txt w K mg A) : FnOk P w K mg base (L2.CX P w) 1 A.f_read_order_term A.fd_read_order_term ["state"] (spE (S A) 1 (ev 0 135)) :=
  T.F_read_order_term.okX sc_read_order_term (fun vs H Q E h => (spE_no ev0 h).elim) (fun cdv Ar outer s H vs Q E hr h => (spE_no ev0 h).elim)
theorem st_read_order_term (T : Txt w K mg A) {n : Nat} (ih : IH P w K mg base A n) : FnOk P w K mg base (L2.CX P w) (2 * (n + 1) + 1) A.f_read_order_term A.fd_read_order_term ["state"] (spE (S A) 1 (ev (n + 1) 135)) := by
  refine T.F_read_order_term.okX sc_read_order_term (fun vs H Q E h => spE_len h) (fun cdv Ar outer s H vs Q E hr h => body_E (N := ["state", "drawn"]) (ev := b_read_order_term (ev n)) ?_ rfl (by decide) h)
  exact (s_cons (s_set (i := 1) sc_read_order_term.nd rfl (.inl rfl) (q_call (prm_E (C := ev n) (i := 134) (n := 1)) ih.ok_read_told (hr.mono (by omega)) (by rfl) T.g_read_told T.F_read_told.kp T.b_read_told (passes_call (takes_of rfl rfl rfl rfl) (fun _ _ _ _ h => h)) (q_cons (q_var (pv 0)) q_nil)))
 (s_one (s_ret (q_tup (q_cons (q_make (ci := 26) (dcs := []) (fun _ _ => .nil) (prm_N (C := ev n) (i := 125) (n := 3)) T.mk_OrderTerm ih.ok_OrderTerm___init__ (hr.mono (by omega)) (by rfl) T.g_OrderTerm T.b_OrderTerm___init__ .nil pass0 (q_cons (q_fld oxb4dad0fe5f txb4dad0fe5f (fl_term T) (q_var (pv 1)) rfl) (q_cons (q_meth (tb := [(24, 85)]) (sps := fun j => spN (S A) 2 (ev n j)) ox9560f74c21 tx9560f74c21 (fun j => prm_N (C := ev n) (i := j) (n := 2)) (q_fld ox1de9b0a300 tx1de9b0a300 (fl_reader T) (q_var (pv 0)) rfl) ⟨⟨T.cl_TokenReader, T.me_TokenReader_passes, _, _, ih.ok_TokenReader_passes, T.b_TokenReader_passes⟩, trivial⟩ (hr.mono (by omega)) pass0 (q_cons (q_str tx74e8333ad1 ox74e8333ad1) q_nil)) q_nil))) (q_cons (q_fld ox166e64f6c3 tx166e64f6c3 (fl_parameters T) (q_var (pv 1)) rfl) q_nil))))))
theorem sc_read_order : FnScope ["state", "parts", "found", "term", "_", "row"] ["state", "parts"] (defScope (topS 138)) := ⟨rfl, rfl, rfl, by decide +kernel, rfl, by decide +kernel, by decide +kernel⟩
theorem z_read_order (T : Txt w K mg A) : FnOk P w K mg base (L2.CX P w) 1 A.f_read_order A.fd_read_order ["state", "parts"] (spE (S A) 2 (ev 0 136)) :=
  T.F_read_order.okX sc_read_order (fun vs H Q E h => (spE_no ev0 h).elim) (fun cdv Ar outer s H vs Q E hr h => (spE_no ev0 h).elim)
theorem st_read_order (T : Txt w K mg A) {n : Nat} (ih : IH P w K mg base A n) : FnOk P w K mg base (L2.CX P w) (2 * (n + 1) + 1) A.f_read_order A.fd_read_order ["state", "parts"] (spE (S A) 2 (ev (n + 1) 136)) := by
  refine T.F_read_order.okX sc_read_order (fun vs H Q E h => spE_len h) (fun cdv Ar outer s H vs Q E hr h => body_E (N := ["state", "parts", "found", "term", "_", "row"]) (ev := b_read_order (ev n)) ?_ rfl (by decide) h)
  exact (s_cons (s_if (q_notT (q_val (q_meth (tb := [(24, 85)]) (sps := fun j => spN (S A) 2 (ev n j)) ox9560f74c21 tx9560f74c21 (fun j => prm_N (C := ev n) (i := j) (n := 2)) (q_fld ox1de9b0a300 tx1de9b0a300 (fl_reader T) (q_var (pv 0)) rfl) ⟨⟨T.cl_TokenReader, T.me_TokenReader_passes, _, _, ih.ok_TokenReader_passes, T.b_TokenReader_passes⟩, trivial⟩ (hr.mono (by omega)) pass0 (q_cons (q_str tx70a17ffa72 ox70a17ffa72) q_nil))))
 (s_one (s_ret (q_lst q_nil)))
 s_nil)
 (s_cons (s_expr (q_meth (tb := [(24, 86)]) (sps := fun j => spE (S A) 2 (ev n j)) oxd0e6ef34e7 txd0e6ef34e7 (fun j => prm_E (C := ev n) (i := j) (n := 2)) (q_fld ox1de9b0a300 tx1de9b0a300 (fl_reader T) (q_var (pv 0)) rfl) ⟨⟨T.cl_TokenReader, T.me_TokenReader_must, _, _, ih.ok_TokenReader_must, T.b_TokenReader_must⟩, trivial⟩ (hr.mono (by omega)) (passes_call (takes_of rfl rfl rfl rfl) (fun _ _ _ _ h => h)) (q_cons (q_str txdf3f079de6 oxdf3f079de6) q_nil)))
 (s_cons (s_set (i := 2) sc_read_order.nd rfl (.inl rfl) (q_call (prm_E (C := ev n) (i := 133) (n := 3)) ih.ok_read_several (hr.mono (by omega)) (by rfl) T.g_read_several T.F_read_several.kp T.b_read_several (passes_call (takes_of rfl rfl rfl rfl) (fun _ _ _ _ h => h)) (q_cons (q_var (pv 0)) (q_cons (q_c (pe_glob (v := .int 4) rfl T.g_MOST_ORDERED.choose_spec ⟨_, rfl⟩) fun _ _ => rfl) (q_cons (q_c (pe_glob (v := .ref A.f_read_order_term) rfl T.g_read_order_term rfl) fun _ _ => rfl) q_nil)))))
 (s_cons (s_fld ox70a17ffa72 tx70a17ffa72 (fl_order T) (q_var (pv 1)) (q_lc (own := [("term", 3), ("_", 4)]) (vs := [3, 4]) 200 (sta T) rfl sc_read_order.nd (q_var (pv 2)) (blkOk_by (own := [("term", 3), ("_", 4)]) (N := ["state", "parts", "found", "term", "_", "row"]) (sc := defScope (topS 138)) (by decide +kernel)) rfl (fun _ _ _ _ _ => (pg_tup rfl (pgs_cons (pg_name (i := 3) sc_read_order.nd rfl (Or.inl rfl)) (pgs_cons (pg_name (i := 4) sc_read_order.nd rfl (Or.inl rfl)) pgs_nil)))) (g_tup (g_cons (g_name 3) (g_cons (g_name 4) g_nil))) (by decide) (fun _ _ _ _ _ => pts_nil) snd_yes (fun _ _ _ _ _ => by exact (q_var (pv 3)))) rfl)
 (s_one (s_ret (q_lc (own := [("_", 4), ("row", 5)]) (vs := [4, 5]) 200 (sta T) rfl sc_read_order.nd (q_var (pv 2)) (blkOk_by (own := [("_", 4), ("row", 5)]) (N := ["state", "parts", "found", "term", "_", "row"]) (sc := defScope (topS 138)) (by decide +kernel)) rfl (fun _ _ _ _ _ => (pg_tup rfl (pgs_cons (pg_name (i := 4) sc_read_order.nd rfl (Or.inl rfl)) (pgs_cons (pg_name (i := 5) sc_read_order.nd rfl (Or.inl rfl)) pgs_nil)))) (g_tup (g_cons (g_name 4) (g_cons (g_name 5) g_nil))) (by decide) (fun _ _ _ _ _ => pts_nil) snd_yes (fun _ _ _ _ _ => by exact (q_var (pv 5))))))))))
theorem sc_read_give : FnScope ["state", "parts", "found", "drawn"] ["state", "parts"] (defScope (topS 139)) := ⟨rfl, rfl, rfl, by decide +kernel, rfl, by decide +kernel, by decide +kernel⟩
theorem z_read_give (T : Txt w K mg A) : FnOk P w K mg base (L2.CX P w) 1 A.f_read_give A.fd_read_give ["state", "parts"] (spE (S A) 2 (ev 0 137)) :=
  T.F_read_give.okX sc_read_give (fun vs H Q E h => (spE_no ev0 h).elim) (fun cdv Ar outer s H vs Q E hr h => (spE_no ev0 h).elim)
theorem st_read_give (T : Txt w K mg A) {n : Nat} (ih : IH P w K mg base A n) : FnOk P w K mg base (L2.CX P w) (2 * (n + 1) + 1) A.f_read_give A.fd_read_give ["state", "parts"] (spE (S A) 2 (ev (n + 1) 137)) := by
  refine T.F_read_give.okX sc_read_give (fun vs H Q E h => spE_len h) (fun cdv Ar outer s H vs Q E hr h => body_E (N := ["state", "parts", "found", "drawn"]) (ev := b_read_give (ev n)) ?_ rfl (by decide) h)
  exact (s_cons (s_set (i := 2) sc_read_give.nd rfl (.inl rfl) (q_call (prm_E (C := ev n) (i := 133) (n := 3)) ih.ok_read_several (hr.mono (by omega)) (by rfl) T.g_read_several T.F_read_several.kp T.b_read_several (passes_call (takes_of rfl rfl rfl rfl) (fun _ _ _ _ h => h)) (q_cons (q_var (pv 0)) (q_cons (q_c (pe_glob (v := .int 6) rfl T.g_MOST_GIVEN.choose_spec ⟨_, rfl⟩) fun _ _ => rfl) (q_cons (q_c (pe_glob (v := .ref A.f_read_told) rfl T.g_read_told rfl) fun _ _ => rfl) q_nil)))))
 (s_cons (s_fld oxb9f4c1cc74 txb9f4c1cc74 (fl_given T) (q_var (pv 1)) (q_lc (own := [("drawn", 3)]) (vs := [3]) 200 (sta T) rfl sc_read_give.nd (q_var (pv 2)) (blkOk_by (own := [("drawn", 3)]) (N := ["state", "parts", "found", "drawn"]) (sc := defScope (topS 139)) (by decide +kernel)) rfl (fun _ _ _ _ _ => (pg_name (i := 3) sc_read_give.nd rfl (Or.inl rfl))) (g_name 3) (by decide) (fun _ _ _ _ _ => pts_nil) snd_yes (fun _ _ _ _ _ => by exact (q_fld oxb4dad0fe5f txb4dad0fe5f (fl_term T) (q_var (pv 3)) rfl))) rfl)
 (s_one (s_ret (q_lc (own := [("drawn", 3)]) (vs := [3]) 200 (sta T) rfl sc_read_give.nd (q_var (pv 2)) (blkOk_by (own := [("drawn", 3)]) (N := ["state", "parts", "found", "drawn"]) (sc := defScope (topS 139)) (by decide +kernel)) rfl (fun _ _ _ _ _ => (pg_name (i := 3) sc_read_give.nd rfl (Or.inl rfl))) (g_name 3) (by decide) (fun _ _ _ _ _ => pts_nil) snd_yes (fun _ _ _ _ _ => by exact (q_fld ox166e64f6c3 tx166e64f6c3 (fl_parameters T) (q_var (pv 3)) rfl)))))))
theorem sc_read_counts : FnScope ["state", "parts", "bounds", "bound"] ["state", "parts"] (defScope (topS 140)) := ⟨rfl, rfl, rfl, by decide +kernel, rfl, by decide +kernel, by decide +kernel⟩
theorem z_read_counts (T : Txt w K mg A) : FnOk P w K mg base (L2.CX P w) 1 A.f_read_counts A.fd_read_counts ["state", "parts"] (spE (S A) 2 (ev 0 138)) :=
  T.F_read_counts.okX sc_read_counts (fun vs H Q E h => (spE_no ev0 h).elim) (fun cdv Ar outer s H vs Q E hr h => (spE_no ev0 h).elim)
theorem st_read_counts (T : Txt w K mg A) {n : Nat} (ih : IH P w K mg base A n) : FnOk P w K mg base (L2.CX P w) (2 * (n + 1) + 1) A.f_read_counts A.fd_read_counts ["state", "parts"] (spE (S A) 2 (ev (n + 1) 138)) := by
  refine T.F_read_counts.okX sc_read_counts (fun vs H Q E h => spE_len h) (fun cdv Ar outer s H vs Q E hr h => body_E (N := ["state", "parts", "bounds", "bound"]) (ev := b_read_counts (ev n)) ?_ rfl (by decide) h)
  exact (s_cons (s_if (q_val (q_meth (tb := [(24, 85)]) (sps := fun j => spN (S A) 2 (ev n j)) ox9560f74c21 tx9560f74c21 (fun j => prm_N (C := ev n) (i := j) (n := 2)) (q_fld ox1de9b0a300 tx1de9b0a300 (fl_reader T) (q_var (pv 0)) rfl) ⟨⟨T.cl_TokenReader, T.me_TokenReader_passes, _, _, ih.ok_TokenReader_passes, T.b_TokenReader_passes⟩, trivial⟩ (hr.mono (by omega)) pass0 (q_cons (q_str tx08b43519a7 ox08b43519a7) q_nil)))
 (s_one (s_fld oxe52e279299 txe52e279299 (fl_skipped T) (q_var (pv 1)) (q_call (prm_E (C := ev n) (i := 139) (n := 1)) ih.ok_read_bound (hr.mono (by omega)) (by rfl) T.g_read_bound T.F_read_bound.kp T.b_read_bound (passes_call (takes_of rfl rfl rfl rfl) (fun _ _ _ _ h => h)) (q_cons (q_var (pv 0)) q_nil)) rfl))
 s_nil)
 (s_cons (s_if (q_val (q_meth (tb := [(24, 85)]) (sps := fun j => spN (S A) 2 (ev n j)) ox9560f74c21 tx9560f74c21 (fun j => prm_N (C := ev n) (i := j) (n := 2)) (q_fld ox1de9b0a300 tx1de9b0a300 (fl_reader T) (q_var (pv 0)) rfl) ⟨⟨T.cl_TokenReader, T.me_TokenReader_passes, _, _, ih.ok_TokenReader_passes, T.b_TokenReader_passes⟩, trivial⟩ (hr.mono (by omega)) pass0 (q_cons (q_str tx8b04d5e377 ox8b04d5e377) q_nil)))
 (s_one (s_fld ox4d8b6084f3 tx4d8b6084f3 (fl_kept T) (q_var (pv 1)) (q_call (prm_E (C := ev n) (i := 139) (n := 1)) ih.ok_read_bound (hr.mono (by omega)) (by rfl) T.g_read_bound T.F_read_bound.kp T.b_read_bound (passes_call (takes_of rfl rfl rfl rfl) (fun _ _ _ _ h => h)) (q_cons (q_var (pv 0)) q_nil)) rfl))
 s_nil)
 (s_cons (s_set (i := 2) sc_read_counts.nd rfl (.inl rfl) (q_lst (q_cons (q_fld oxe52e279299 txe52e279299 (fl_skipped T) (q_var (pv 1)) rfl) (q_cons (q_fld ox4d8b6084f3 tx4d8b6084f3 (fl_kept T) (q_var (pv 1)) rfl) q_nil))))
 (s_one (s_ret (q_lc (own := [("bound", 3)]) (vs := [3]) 200 (sta T) rfl sc_read_counts.nd (q_var (pv 2)) (blkOk_by (own := [("bound", 3)]) (N := ["state", "parts", "bounds", "bound"]) (sc := defScope (topS 140)) (by decide +kernel)) rfl (fun _ _ _ _ _ => (pg_name (i := 3) sc_read_counts.nd rfl (Or.inl rfl))) (g_name 3) (by decide) (fun _ _ _ _ _ => pts_one (by exact (q_val (q_callB call_isi (sc_is (isk T)) rfl T.b_isinstance (by decide +kernel) (q_cons (q_var (pv 3)) (q_cons (q_c (pe_glob (v := .ref A.C_ParameterTerm) rfl T.g_ParameterTerm rfl) fun _ _ => rfl) q_nil)))))) snd_tev (fun _ _ _ _ _ => by exact (q_done (q_fld oxb068931cc4 txb068931cc4 (fl_name T) (q_var (pv 3)) rfl) (q_c (pe_glob (v := .str "integer") rfl T.g_INTEGER.choose_spec ⟨_, rfl⟩) fun _ _ => (relStr tx157db7df53 ox157db7df53))))))))))
theorem sc_read_bound : FnScope ["state"] ["state"] (defScope (topS 141)) := ⟨rfl, rfl, rfl, by decide +kernel, rfl, by decide +kernel, by decide +kernel⟩
theorem z_read_bound (T : Txt w K mg A) : FnOk P w K mg base (L2.CX P w) 1 A.f_read_bound A.fd_read_bound ["state"] (spE (S A) 1 (ev 0 139)) :=
  T.F_read_bound.okX sc_read_bound (fun vs H Q E h => (spE_no ev0 h).elim) (fun cdv Ar outer s H vs Q E hr h => (spE_no ev0 h).elim)
theorem st_read_bound (T : Txt w K mg A) {n : Nat} (ih : IH P w K mg base A n) : FnOk P w K mg base (L2.CX P w) (2 * (n + 1) + 1) A.f_read_bound A.fd_read_bound ["state"] (spE (S A) 1 (ev (n + 1) 139)) := by
  refine T.F_read_bound.okX sc_read_bound (fun vs H Q E h => spE_len h) (fun cdv Ar outer s H vs Q E hr h => body_E (N := ["state"]) (ev := b_read_bound (ev n)) ?_ rfl (by decide) h)
  exact (s_cons (s_if (q_cmpT op_eq so_eq (q_fld ox29a7e96467 tx29a7e96467 (fl_role T) (q_meth0 (tb := [(24, 79)]) (sps := fun j => spN (S A) 1 (ev n j)) ox6c92285fa6 tx6c92285fa6 (fun j => prm_N (C := ev n) (i := j) (n := 1)) (q_fld ox1de9b0a300 tx1de9b0a300 (fl_reader T) (q_var (pv 0)) rfl) ⟨⟨T.cl_TokenReader, T.me_TokenReader_here, _, _, ih.ok_TokenReader_here, T.b_TokenReader_here⟩, trivial⟩ (hr.mono (by omega)) pass0) rfl) (q_str txb1bc248a7f oxb1bc248a7f) (nomark _))
 (s_one (s_ret (q_call (prm_E (C := ev n) (i := 114) (n := 1)) ih.ok_read_number (hr.mono (by omega)) (by rfl) T.g_read_number T.F_read_number.kp T.b_read_number (passes_call (takes_of rfl rfl rfl rfl) (fun _ _ _ _ h => h)) (q_cons (q_var (pv 0)) q_nil))))
 s_nil)
 (s_cons (s_if (q_val (q_meth (tb := [(24, 83)]) (sps := fun j => spN (S A) 2 (ev n j)) ox41157b1dde tx41157b1dde (fun j => prm_N (C := ev n) (i := j) (n := 2)) (q_fld ox1de9b0a300 tx1de9b0a300 (fl_reader T) (q_var (pv 0)) rfl) ⟨⟨T.cl_TokenReader, T.me_TokenReader_stands, _, _, ih.ok_TokenReader_stands, T.b_TokenReader_stands⟩, trivial⟩ (hr.mono (by omega)) pass0 (q_cons (q_str tx853ae90f03 ox853ae90f03) q_nil)))
 (s_one (s_ret (q_call (prm_E (C := ev n) (i := 115) (n := 1)) ih.ok_read_parameter (hr.mono (by omega)) (by rfl) T.g_read_parameter T.F_read_parameter.kp T.b_read_parameter (passes_call (takes_of rfl rfl rfl rfl) (fun _ _ _ _ h => h)) (q_cons (q_var (pv 0)) q_nil))))
 s_nil)
 (s_one (s_raise (S := S A) (ps_raise rfl (takes_of rfl rfl rfl rfl) (pmk_oex T.oex T.ic_Fault T.ti_Fault (ok_Fault___init__ T) (hr.mono (by omega)) T.b_Fault___init__ .nil pass0 (by rfl) T.g_Fault (q_cons (q_fld oxebed715e82 txebed715e82 (fl_place T) (q_meth0 (tb := [(24, 79)]) (sps := fun j => spN (S A) 1 (ev n j)) ox6c92285fa6 tx6c92285fa6 (fun j => prm_N (C := ev n) (i := j) (n := 1)) (q_fld ox1de9b0a300 tx1de9b0a300 (fl_reader T) (q_var (pv 0)) rfl) ⟨⟨T.cl_TokenReader, T.me_TokenReader_here, _, _, ih.ok_TokenReader_here, T.b_TokenReader_here⟩, trivial⟩ (hr.mono (by omega)) pass0) rfl) (q_cons (q_str txfa93e2a328 oxfa93e2a328) q_nil))))))))
theorem sc_Field___init__ : FnScope ["self", "name", "shape", "needed"] ["self", "name", "shape", "needed"] (defScope (inClass (topS 143) 0)) := ⟨rfl, rfl, rfl, by decide +kernel, rfl, by decide +kernel, by decide +kernel⟩
theorem z_Field___init__ (T : Txt w K mg A) : FnOk P w K mg base CX0 1 A.f_Field___init__ A.fd_Field___init__ ["self", "name", "shape", "needed"] (spN (S A) 4 (ev 0 140)) :=
  T.F_Field___init__.ok sc_Field___init__ (fun vs H Q E h => (spN_no ev0 h).elim) (fun cdv Ar outer s H vs Q E hr h => (spN_no ev0 h).elim)
theorem st_Field___init__ (T : Txt w K mg A) {n : Nat} (ih : IH P w K mg base A n) : FnOk P w K mg base CX0 (2 * (n + 1) + 1) A.f_Field___init__ A.fd_Field___init__ ["self", "name", "shape", "needed"] (spN (S A) 4 (ev (n + 1) 140)) := by
  refine T.F_Field___init__.ok sc_Field___init__ (fun vs H Q E h => spN_len h) (fun cdv Ar outer s H vs Q E hr h => body_N (N := ["self", "name", "shape", "needed"]) (ev := b_Field___init__ (ev n)) ?_ rfl (by decide) h)
  exact (s_cons (s_fld oxb068931cc4 txb068931cc4 (fl_name T) (q_var (pv 0)) (q_var (pv 1)) rfl)
 (s_cons (s_fld ox8c73a98a30 tx8c73a98a30 (fl_shape T) (q_var (pv 0)) (q_var (pv 2)) rfl)
 (s_one (s_fld oxc0ca5324e0 txc0ca5324e0 (fl_needed T) (q_var (pv 0)) (q_var (pv 3)) rfl))))
theorem sc_Kind___init__ : FnScope ["self", "name", "fields", "key_rows", "row"] ["self", "name", "fields", "key_rows"] (defScope (inClass (topS 144) 0)) := ⟨rfl, rfl, rfl, by decide +kernel, rfl, by decide +kernel, by decide +kernel⟩
theorem z_Kind___init__ (T : Txt w K mg A) : FnOk P w K mg base CX0 1 A.f_Kind___init__ A.fd_Kind___init__ ["self", "name", "fields", "key_rows"] (spN (S A) 4 (ev 0 141)) :=
  T.F_Kind___init__.ok sc_Kind___init__ (fun vs H Q E h => (spN_no ev0 h).elim) (fun cdv Ar outer s H vs Q E hr h => (spN_no ev0 h).elim)
theorem st_Kind___init__ (T : Txt w K mg A) {n : Nat} (ih : IH P w K mg base A n) : FnOk P w K mg base CX0 (2 * (n + 1) + 1) A.f_Kind___init__ A.fd_Kind___init__ ["self", "name", "fields", "key_rows"] (spN (S A) 4 (ev (n + 1) 141)) := by
  refine T.F_Kind___init__.ok sc_Kind___init__ (fun vs H Q E h => spN_len h) (fun cdv Ar outer s H vs Q E hr h => body_N (N := ["self", "name", "fields", "key_rows", "row"]) (ev := b_Kind___init__ (ev n)) ?_ rfl (by decide) h)
  exact (s_cons (s_fld oxb068931cc4 txb068931cc4 (fl_name T) (q_var (pv 0)) (q_var (pv 1)) rfl)
 (s_cons (s_fld oxd05b6ed7d2 txd05b6ed7d2 (fl_fields T) (q_var (pv 0)) (q_callTy call_list_of (sc_list (sta T)) rfl T.b_list (by decide +kernel) (q_cons (q_var (pv 2)) q_nil)) rfl)
 (s_one (s_fld oxa3735dcf1b txa3735dcf1b (fl_key_rows T) (q_var (pv 0)) (q_lc (own := [("row", 4)]) (vs := [4]) 200 (sta T) rfl sc_Kind___init__.nd (q_var (pv 3)) (blkOk_by (own := [("row", 4)]) (N := ["self", "name", "fields", "key_rows", "row"]) (sc := defScope (inClass (topS 144) 0)) (by decide +kernel)) rfl (fun _ _ _ _ _ => (pg_name (i := 4) sc_Kind___init__.nd rfl (Or.inl rfl))) (g_name 4) (by decide) (fun _ _ _ _ _ => pts_nil) snd_yes (fun _ _ _ _ _ => by exact (q_callTy call_list_of (sc_list (sta T)) rfl T.b_list (by decide +kernel) (q_cons (q_var (pv 4)) q_nil)))) rfl))))
theorem sc_Kind_field_of : FnScope ["self", "name", "field"] ["self", "name"] (defScope (inClass (topS 144) 1)) := ⟨rfl, rfl, rfl, by decide +kernel, rfl, by decide +kernel, by decide +kernel⟩
theorem z_Kind_field_of (T : Txt w K mg A) : FnOk P w K mg base CX0 1 A.f_Kind_field_of A.fd_Kind_field_of ["self", "name"] (spN (S A) 2 (ev 0 142)) :=
  T.F_Kind_field_of.ok sc_Kind_field_of (fun vs H Q E h => (spN_no ev0 h).elim) (fun cdv Ar outer s H vs Q E hr h => (spN_no ev0 h).elim)
theorem st_Kind_field_of (T : Txt w K mg A) {n : Nat} (ih : IH P w K mg base A n) : FnOk P w K mg base CX0 (2 * (n + 1) + 1) A.f_Kind_field_of A.fd_Kind_field_of ["self", "name"] (spN (S A) 2 (ev (n + 1) 142)) := by
  refine T.F_Kind_field_of.ok sc_Kind_field_of (fun vs H Q E h => spN_len h) (fun cdv Ar outer s H vs Q E hr h => body_N (N := ["self", "name", "field"]) (ev := b_Kind_field_of (ev n)) ?_ rfl (by decide) h)
  exact (s_cons (s_for 200 (sta T) PassesOwn.never rfl (q_fld oxd05b6ed7d2 txd05b6ed7d2 (fl_fields T) (q_var (pv 0)) rfl) (pg_name (i := 2) sc_Kind_field_of.nd rfl (.inl rfl)) (g_name 2)
 (s_one (s_if (q_cmpT op_eq so_eq (q_fld oxb068931cc4 txb068931cc4 (fl_name T) (q_var (pv 2)) rfl) (q_var (pv 1)) (nomark _))
 (s_one (s_ret (q_var (pv 2))))
 s_nil)))
 (s_one (s_ret (q_c pe_non fun _ _ => rfl))))
theorem sc_Schema___init__ : FnScope ["self", "kinds"] ["self", "kinds"] (defScope (inClass (topS 145) 0)) := ⟨rfl, rfl, rfl, by decide +kernel, rfl, by decide +kernel, by decide +kernel⟩
theorem z_Schema___init__ (T : Txt w K mg A) : FnOk P w K mg base CX0 1 A.f_Schema___init__ A.fd_Schema___init__ ["self", "kinds"] (spN (S A) 2 (ev 0 143)) :=
  T.F_Schema___init__.ok sc_Schema___init__ (fun vs H Q E h => (spN_no ev0 h).elim) (fun cdv Ar outer s H vs Q E hr h => (spN_no ev0 h).elim)
theorem st_Schema___init__ (T : Txt w K mg A) {n : Nat} (ih : IH P w K mg base A n) : FnOk P w K mg base CX0 (2 * (n + 1) + 1) A.f_Schema___init__ A.fd_Schema___init__ ["self", "kinds"] (spN (S A) 2 (ev (n + 1) 143)) := by
  refine T.F_Schema___init__.ok sc_Schema___init__ (fun vs H Q E h => spN_len h) (fun cdv Ar outer s H vs Q E hr h => body_N (N := ["self", "kinds"]) (ev := b_Schema___init__ (ev n)) ?_ rfl (by decide) h)
  exact (s_one (s_fld ox3aecd46c86 tx3aecd46c86 (fl_kinds T) (q_var (pv 0)) (q_callTy call_list_of (sc_list (sta T)) rfl T.b_list (by decide +kernel) (q_cons (q_var (pv 1)) q_nil)) rfl))
theorem sc_Schema_kind_of : FnScope ["self", "name", "kind"] ["self", "name"] (defScope (inClass (topS 145) 1)) := ⟨rfl, rfl, rfl, by decide +kernel, rfl, by decide +kernel, by decide +kernel⟩
theorem z_Schema_kind_of (T : Txt w K mg A) : FnOk P w K mg base CX0 1 A.f_Schema_kind_of A.fd_Schema_kind_of ["self", "name"] (spN (S A) 2 (ev 0 144)) :=
  T.F_Schema_kind_of.ok sc_Schema_kind_of (fun vs H Q E h => (spN_no ev0 h).elim) (fun cdv Ar outer s H vs Q E hr h => (spN_no ev0 h).elim)
theorem st_Schema_kind_of (T : Txt w K mg A) {n : Nat} (ih : IH P w K mg base A n) : FnOk P w K mg base CX0 (2 * (n + 1) + 1) A.f_Schema_kind_of A.fd_Schema_kind_of ["self", "name"] (spN (S A) 2 (ev (n + 1) 144)) := by
  refine T.F_Schema_kind_of.ok sc_Schema_kind_of (fun vs H Q E h => spN_len h) (fun cdv Ar outer s H vs Q E hr h => body_N (N := ["self", "name", "kind"]) (ev := b_Schema_kind_of (ev n)) ?_ rfl (by decide) h)
  exact (s_cons (s_for 200 (sta T) PassesOwn.never rfl (q_fld ox3aecd46c86 tx3aecd46c86 (fl_kinds T) (q_var (pv 0)) rfl) (pg_name (i := 2) sc_Schema_kind_of.nd rfl (.inl rfl)) (g_name 2)
 (s_one (s_if (q_cmpT op_eq so_eq (q_fld oxb068931cc4 txb068931cc4 (fl_name T) (q_var (pv 2)) rfl) (q_var (pv 1)) (nomark _))
 (s_one (s_ret (q_var (pv 2))))
 s_nil)))
 (s_one (s_ret (q_c pe_non fun _ _ => rfl))))
theorem sc_Schema_field_of : FnScope ["self", "kind", "name", "found"] ["self", "kind", "name"] (defScope (inClass (topS 145) 2)) := ⟨rfl, rfl, rfl, by decide +kernel, rfl, by decide +kernel, by decide +kernel⟩
theorem z_Schema_field_of (T : Txt w K mg A) : FnOk P w K mg base CX0 1 A.f_Schema_field_of A.fd_Schema_field_of ["self", "kind", "name"] (spN (S A) 3 (ev 0 145)) :=
  T.F_Schema_field_of.ok sc_Schema_field_of (fun vs H Q E h => (spN_no ev0 h).elim) (fun cdv Ar outer s H vs Q E hr h => (spN_no ev0 h).elim)
theorem st_Schema_field_of (T : Txt w K mg A) {n : Nat} (ih : IH P w K mg base A n) : FnOk P w K mg base CX0 (2 * (n + 1) + 1) A.f_Schema_field_of A.fd_Schema_field_of ["self", "kind", "name"] (spN (S A) 3 (ev (n + 1) 145)) := by
  refine T.F_Schema_field_of.ok sc_Schema_field_of (fun vs H Q E h => spN_len h) (fun cdv Ar outer s H vs Q E hr h => body_N (N := ["self", "kind", "name", "found"]) (ev := b_Schema_field_of (ev n)) ?_ rfl (by decide) h)
  exact (s_cons (s_set (i := 3) sc_Schema_field_of.nd rfl (.inl rfl) (q_meth (tb := [(31, 144)]) (sps := fun j => spN (S A) 2 (ev n j)) ox4b74f772ae tx4b74f772ae (fun j => prm_N (C := ev n) (i := j) (n := 2)) (q_var (pv 0)) ⟨⟨T.cl_Schema, T.me_Schema_kind_of, _, _, ih.ok_Schema_kind_of, T.b_Schema_kind_of⟩, trivial⟩ (hr.mono (by omega)) pass0 (q_cons (q_var (pv 1)) q_nil)))
 (s_one (s_ret (q_if (q_cmpT op_isN so_is (q_var (pv 3)) (q_c pe_non fun _ _ => rfl) (nomark _)) (q_c pe_non fun _ _ => rfl) (q_meth (tb := [(30, 142)]) (sps := fun j => spN (S A) 2 (ev n j)) ox9b271d894e tx9b271d894e (fun j => prm_N (C := ev n) (i := j) (n := 2)) (q_var (pv 3)) ⟨⟨T.cl_Kind, T.me_Kind_field_of, _, _, ih.ok_Kind_field_of, T.b_Kind_field_of⟩, trivial⟩ (hr.mono (by omega)) pass0 (q_cons (q_var (pv 2)) q_nil))))))
theorem sc__law_schema : FnScope ["rules", "needed", "first", "second"] ["rules", "needed"] (defScope (topS 150)) := ⟨rfl, rfl, rfl, by decide +kernel, rfl, by decide +kernel, by decide +kernel⟩
theorem z__law_schema (T : Txt w K mg A) : FnOk P w K mg base CX0 1 A.f__law_schema A.fd__law_schema ["rules", "needed"] (spN (S A) 2 (ev 0 146)) :=
  T.F__law_schema.ok sc__law_schema (fun vs H Q E h => (spN_no ev0 h).elim) (fun cdv Ar outer s H vs Q E hr h => (spN_no ev0 h).elim)
theorem st__law_schema (T : Txt w K mg A) {n : Nat} (ih : IH P w K mg base A n) : FnOk P w K mg base CX0 (2 * (n + 1) + 1) A.f__law_schema A.fd__law_schema ["rules", "needed"] (spN (S A) 2 (ev (n + 1) 146)) := by
  refine T.F__law_schema.ok sc__law_schema (fun vs H Q E h => spN_len h) (fun cdv Ar outer s H vs Q E hr h => body_N (N := ["rules", "needed", "first", "second"]) (ev := b__law_schema (ev n)) ?_ rfl (by decide) h)
  exact (s_cons (s_set (i := 2) sc__law_schema.nd rfl (.inl rfl) (q_make (ci := 30) (dcs := []) (fun _ _ => .nil) (prm_N (C := ev n) (i := 141) (n := 4)) T.mk_Kind ih.ok_Kind___init__ (hr.mono (by omega)) (by rfl) T.g_Kind T.b_Kind___init__ .nil pass0 (q_cons (q_str tx7fc56270e7 ox7fc56270e7) (q_cons (q_lst (q_cons (q_make (ci := 29) (dcs := []) (fun _ _ => .nil) (prm_N (C := ev n) (i := 140) (n := 4)) T.mk_Field ih.ok_Field___init__ (hr.mono (by omega)) (by rfl) T.g_Field T.b_Field___init__ .nil pass0 (q_cons (q_str tx0cc175b9c0 ox0cc175b9c0) (q_cons (q_make (ci := 2) (dcs := []) (fun _ _ => .nil) (prm_N (C := ev n) (i := 42) (n := 3)) T.mk_IntSort ih.ok_IntSort___init__ (hr.mono (by omega)) (by rfl) T.g_IntSort T.b_IntSort___init__ .nil pass0 (q_cons (q_c pe_int fun _ _ => rfl) (q_cons (q_c pe_int fun _ _ => rfl) q_nil))) (q_cons (q_var (pv 1)) q_nil)))) (q_cons (q_make (ci := 29) (dcs := [.bl false]) (fun _ _ => .cons rfl .nil) (prm_N (C := ev n) (i := 140) (n := 4)) T.mk_Field ih.ok_Field___init__ (hr.mono (by omega)) (by rfl) T.g_Field T.b1_Field___init__.choose_spec.2 T.b1_Field___init__.choose_spec.1 pass0 (q_cons (q_str txe358efa489 oxe358efa489) (q_cons (q_make (ci := 3) (dcs := [.non]) (fun _ _ => .cons rfl .nil) (prm_N (C := ev n) (i := 43) (n := 3)) T.mk_TextSort ih.ok_TextSort___init__ (hr.mono (by omega)) (by rfl) T.g_TextSort T.b1_TextSort___init__.choose_spec.2 T.b1_TextSort___init__.choose_spec.1 pass0 (q_cons (q_c pe_int fun _ _ => rfl) q_nil)) q_nil))) (q_cons (q_make (ci := 29) (dcs := [.bl false]) (fun _ _ => .cons rfl .nil) (prm_N (C := ev n) (i := 140) (n := 4)) T.mk_Field ih.ok_Field___init__ (hr.mono (by omega)) (by rfl) T.g_Field T.b1_Field___init__.choose_spec.2 T.b1_Field___init__.choose_spec.1 pass0 (q_cons (q_str tx4b43b0aee3 ox4b43b0aee3) (q_cons (q_make (ci := 5) (dcs := []) (fun _ _ => .nil) (prm_N (C := ev n) (i := 44) (n := 3)) T.mk_RefSort ih.ok_RefSort___init__ (hr.mono (by omega)) (by rfl) T.g_RefSort T.b_RefSort___init__ .nil pass0 (q_cons (q_lst (q_cons (q_str tx7fc56270e7 ox7fc56270e7) (q_cons (q_str tx9d5ed678fe ox9d5ed678fe) q_nil))) (q_cons (q_ix ix_seq (so_ix (sta T)) (q_var (pv 0)) (q_c pe_int fun _ _ => rfl) (fun _ _ => rfl)) q_nil))) q_nil))) (q_cons (q_make (ci := 29) (dcs := [.bl false]) (fun _ _ => .cons rfl .nil) (prm_N (C := ev n) (i := 140) (n := 4)) T.mk_Field ih.ok_Field___init__ (hr.mono (by omega)) (by rfl) T.g_Field T.b1_Field___init__.choose_spec.2 T.b1_Field___init__.choose_spec.1 pass0 (q_cons (q_str tx2db95e8e1a ox2db95e8e1a) (q_cons (q_make (ci := 6) (dcs := []) (fun _ _ => .nil) (prm_N (C := ev n) (i := 45) (n := 2)) T.mk_ListSort ih.ok_ListSort___init__ (hr.mono (by omega)) (by rfl) T.g_ListSort T.b_ListSort___init__ .nil pass0 (q_cons (q_lst (q_cons (q_str tx7fc56270e7 ox7fc56270e7) q_nil)) q_nil)) q_nil))) q_nil))))) (q_cons (q_lst (q_cons (q_lst (q_cons (q_str tx0cc175b9c0 ox0cc175b9c0) (q_cons (q_str txe358efa489 oxe358efa489) q_nil))) q_nil)) q_nil)))))
 (s_cons (s_set (i := 3) sc__law_schema.nd rfl (.inl rfl) (q_make (ci := 30) (dcs := []) (fun _ _ => .nil) (prm_N (C := ev n) (i := 141) (n := 4)) T.mk_Kind ih.ok_Kind___init__ (hr.mono (by omega)) (by rfl) T.g_Kind T.b_Kind___init__ .nil pass0 (q_cons (q_str tx9d5ed678fe ox9d5ed678fe) (q_cons (q_lst (q_cons (q_make (ci := 29) (dcs := []) (fun _ _ => .nil) (prm_N (C := ev n) (i := 140) (n := 4)) T.mk_Field ih.ok_Field___init__ (hr.mono (by omega)) (by rfl) T.g_Field T.b_Field___init__ .nil pass0 (q_cons (q_str tx83878c9117 ox83878c9117) (q_cons (q_make (ci := 5) (dcs := []) (fun _ _ => .nil) (prm_N (C := ev n) (i := 44) (n := 3)) T.mk_RefSort ih.ok_RefSort___init__ (hr.mono (by omega)) (by rfl) T.g_RefSort T.b_RefSort___init__ .nil pass0 (q_cons (q_lst (q_cons (q_str tx7fc56270e7 ox7fc56270e7) q_nil)) (q_cons (q_ix ix_seq (so_ix (sta T)) (q_var (pv 0)) (q_c pe_int fun _ _ => rfl) (fun _ _ => rfl)) q_nil))) (q_cons (q_var (pv 1)) q_nil)))) (q_cons (q_make (ci := 29) (dcs := [.bl false]) (fun _ _ => .cons rfl .nil) (prm_N (C := ev n) (i := 140) (n := 4)) T.mk_Field ih.ok_Field___init__ (hr.mono (by omega)) (by rfl) T.g_Field T.b1_Field___init__.choose_spec.2 T.b1_Field___init__.choose_spec.1 pass0 (q_cons (q_str tx7694f4a663 ox7694f4a663) (q_cons (q_make (ci := 5) (dcs := []) (fun _ _ => .nil) (prm_N (C := ev n) (i := 44) (n := 3)) T.mk_RefSort ih.ok_RefSort___init__ (hr.mono (by omega)) (by rfl) T.g_RefSort T.b_RefSort___init__ .nil pass0 (q_cons (q_lst (q_cons (q_str tx9d5ed678fe ox9d5ed678fe) q_nil)) (q_cons (q_ix ix_seq (so_ix (sta T)) (q_var (pv 0)) (q_c pe_int fun _ _ => rfl) (fun _ _ => rfl)) q_nil))) q_nil))) (q_cons (q_make (ci := 29) (dcs := [.bl false]) (fun _ _ => .cons rfl .nil) (prm_N (C := ev n) (i := 140) (n := 4)) T.mk_Field ih.ok_Field___init__ (hr.mono (by omega)) (by rfl) T.g_Field T.b1_Field___init__.choose_spec.2 T.b1_Field___init__.choose_spec.1 pass0 (q_cons (q_str tx6f8f577150 ox6f8f577150) (q_cons (q_make (ci := 6) (dcs := []) (fun _ _ => .nil) (prm_N (C := ev n) (i := 45) (n := 2)) T.mk_ListSort ih.ok_ListSort___init__ (hr.mono (by omega)) (by rfl) T.g_ListSort T.b_ListSort___init__ .nil pass0 (q_cons (q_lst (q_cons (q_str tx7fc56270e7 ox7fc56270e7) (q_cons (q_str tx9d5ed678fe ox9d5ed678fe) q_nil))) q_nil)) q_nil))) q_nil)))) (q_cons (q_lst (q_cons (q_lst (q_cons (q_str tx7694f4a663 ox7694f4a663) q_nil)) q_nil)) q_nil)))))
 (s_one (s_ret (q_make (ci := 31) (dcs := []) (fun _ _ => .nil) (prm_N (C := ev n) (i := 143) (n := 2)) T.mk_Schema ih.ok_Schema___init__ (hr.mono (by omega)) (by rfl) T.g_Schema T.b_Schema___init__ .nil pass0 (q_cons (q_lst (q_cons (q_var (pv 2)) (q_cons (q_var (pv 3)) q_nil))) q_nil))))))
theorem sc__law_texts : FnScope [] [] (defScope (topS 151)) := ⟨rfl, rfl, rfl, by decide +kernel, rfl, by decide +kernel, by decide +kernel⟩
theorem z__law_texts (T : Txt w K mg A) : FnOk P w K mg base CX0 1 A.f__law_texts A.fd__law_texts [] (spN (S A) 0 (ev 0 147)) :=
  T.F__law_texts.ok sc__law_texts (fun vs H Q E h => (spN_no ev0 h).elim) (fun cdv Ar outer s H vs Q E hr h => (spN_no ev0 h).elim)
theorem st__law_texts (T : Txt w K mg A) {n : Nat} (ih : IH P w K mg base A n) : FnOk P w K mg base CX0 (2 * (n + 1) + 1) A.f__law_texts A.fd__law_texts [] (spN (S A) 0 (ev (n + 1) 147)) := by
  refine T.F__law_texts.ok sc__law_texts (fun vs H Q E h => spN_len h) (fun cdv Ar outer s H vs Q E hr h => body_N (N := []) (ev := b__law_texts (ev n)) ?_ rfl (by decide) h)
  exact (s_one (s_ret (q_lst (q_cons (q_tup (q_cons (q_str tx806b3a87e4 ox806b3a87e4) (q_cons (q_c pe_int fun _ _ => rfl) (q_cons (q_str tx1233ba08a3 ox1233ba08a3) q_nil)))) (q_cons (q_tup (q_cons (q_str txd350812867 oxd350812867) (q_cons (q_c pe_int fun _ _ => rfl) (q_cons (q_str tx52fe0679ef ox52fe0679ef) q_nil)))) (q_cons (q_tup (q_cons (q_str txd1991a07c7 oxd1991a07c7) (q_cons (q_c pe_int fun _ _ => rfl) (q_cons (q_str tx9dba85b03f ox9dba85b03f) q_nil)))) (q_cons (q_tup (q_cons (q_str txa2972281db oxa2972281db) (q_cons (q_c pe_int fun _ _ => rfl) (q_cons (q_str tx044d126c54 ox044d126c54) q_nil)))) (q_cons (q_tup (q_cons (q_str tx157b866c14 ox157b866c14) (q_cons (q_c pe_int fun _ _ => rfl) (q_cons (q_str tx3b1d9a27b0 ox3b1d9a27b0) q_nil)))) (q_cons (q_tup (q_cons (q_str tx039d7557a5 ox039d7557a5) (q_cons (q_c pe_int fun _ _ => rfl) (q_cons (q_str txd016fcd120 oxd016fcd120) q_nil)))) (q_cons (q_tup (q_cons (q_str txb4375fb2cc oxb4375fb2cc) (q_cons (q_c pe_int fun _ _ => rfl) (q_cons (q_str tx3b1d9a27b0 ox3b1d9a27b0) q_nil)))) (q_cons (q_tup (q_cons (q_str tx3a288f5e16 ox3a288f5e16) (q_cons (q_c pe_int fun _ _ => rfl) (q_cons (q_str tx9bd5eeb301 ox9bd5eeb301) q_nil)))) (q_cons (q_tup (q_cons (q_str tx548b4f48d5 ox548b4f48d5) (q_cons (q_c pe_int fun _ _ => rfl) (q_cons (q_str txeb0694337e oxeb0694337e) q_nil)))) (q_cons (q_tup (q_cons (q_str tx2282cd9ee8 ox2282cd9ee8) (q_cons (q_c pe_int fun _ _ => rfl) (q_cons (q_str txef99bdb132 oxef99bdb132) q_nil)))) (q_cons (q_tup (q_cons (q_str tx041575604e ox041575604e) (q_cons (q_c pe_int fun _ _ => rfl) (q_cons (q_str txbf5a04e375 oxbf5a04e375) q_nil)))) (q_cons (q_tup (q_cons (q_str tx7a2e716877 ox7a2e716877) (q_cons (q_c pe_int fun _ _ => rfl) (q_cons (q_str tx1bd9c49214 ox1bd9c49214) q_nil)))) (q_cons (q_tup (q_cons (q_str tx4c87b8a99a ox4c87b8a99a) (q_cons (q_c pe_int fun _ _ => rfl) (q_cons (q_str tx1bd9c49214 ox1bd9c49214) q_nil)))) (q_cons (q_tup (q_cons (q_str tx3e6cdd040b ox3e6cdd040b) (q_cons (q_c pe_int fun _ _ => rfl) (q_cons (q_str txee1674d734 oxee1674d734) q_nil)))) (q_cons (q_tup (q_cons (q_str tx28d8690bdd ox28d8690bdd) (q_cons (q_c pe_int fun _ _ => rfl) (q_cons (q_str txef99bdb132 oxef99bdb132) q_nil)))) (q_cons (q_tup (q_cons (q_str tx3d4c34c047 ox3d4c34c047) (q_cons (q_c pe_int fun _ _ => rfl) (q_cons (q_str tx242cfc70ba ox242cfc70ba) q_nil)))) (q_cons (q_tup (q_cons (q_str tx82b5a4b573 ox82b5a4b573) (q_cons (q_c pe_int fun _ _ => rfl) (q_cons (q_str tx242cfc70ba ox242cfc70ba) q_nil)))) (q_cons (q_tup (q_cons (q_str txd7165fe267 oxd7165fe267) (q_cons (q_c pe_int fun _ _ => rfl) (q_cons (q_str tx365a055b54 ox365a055b54) q_nil)))) (q_cons (q_tup (q_cons (q_str tx176a1bbd49 ox176a1bbd49) (q_cons (q_c pe_int fun _ _ => rfl) (q_cons (q_str txe363007e3a oxe363007e3a) q_nil)))) (q_cons (q_tup (q_cons (q_str tx066535d7f9 ox066535d7f9) (q_cons (q_c pe_int fun _ _ => rfl) (q_cons (q_str txe363007e3a oxe363007e3a) q_nil)))) (q_cons (q_tup (q_cons (q_str tx98a28e75a2 ox98a28e75a2) (q_cons (q_c pe_int fun _ _ => rfl) (q_cons (q_str txe363007e3a oxe363007e3a) q_nil)))) (q_cons (q_tup (q_cons (q_str tx24469a6756 ox24469a6756) (q_cons (q_c pe_int fun _ _ => rfl) (q_cons (q_str txe363007e3a oxe363007e3a) q_nil)))) (q_cons (q_tup (q_cons (q_str tx930ce982e0 ox930ce982e0) (q_cons (q_c pe_int fun _ _ => rfl) (q_cons (q_str txe363007e3a oxe363007e3a) q_nil)))) (q_cons (q_tup (q_cons (q_str tx88396418d3 ox88396418d3) (q_cons (q_c pe_int fun _ _ => rfl) (q_cons (q_str txe363007e3a oxe363007e3a) q_nil)))) (q_cons (q_tup (q_cons (q_str tx7f1069f1bf ox7f1069f1bf) (q_cons (q_c pe_int fun _ _ => rfl) (q_cons (q_str txe363007e3a oxe363007e3a) q_nil)))) (q_cons (q_tup (q_cons (q_str tx1bba8ab3d0 ox1bba8ab3d0) (q_cons (q_c pe_int fun _ _ => rfl) (q_cons (q_str txe363007e3a oxe363007e3a) q_nil)))) (q_cons (q_tup (q_cons (q_str txacce3d3a3a oxacce3d3a3a) (q_cons (q_c pe_int fun _ _ => rfl) (q_cons (q_str txe363007e3a oxe363007e3a) q_nil)))) (q_cons (q_tup (q_cons (q_str tx915e23dcaa ox915e23dcaa) (q_cons (q_c pe_int fun _ _ => rfl) (q_cons (q_str txe363007e3a oxe363007e3a) q_nil)))) (q_cons (q_tup (q_cons (q_str tx037714f822 ox037714f822) (q_cons (q_c pe_int fun _ _ => rfl) (q_cons (q_str txe363007e3a oxe363007e3a) q_nil)))) (q_cons (q_tup (q_cons (q_str txa830fc62fe oxa830fc62fe) (q_cons (q_c pe_int fun _ _ => rfl) (q_cons (q_str tx3b80aadebf ox3b80aadebf) q_nil)))) (q_cons (q_tup (q_cons (q_str txe28d93f243 oxe28d93f243) (q_cons (q_c pe_int fun _ _ => rfl) (q_cons (q_str txd6094e2179 oxd6094e2179) q_nil)))) (q_cons (q_tup (q_cons (q_str txba5cfbf670 oxba5cfbf670) (q_cons (q_c pe_int fun _ _ => rfl) (q_cons (q_str txe363007e3a oxe363007e3a) q_nil)))) (q_cons (q_tup (q_cons (q_str txbdbac4df2a oxbdbac4df2a) (q_cons (q_c pe_int fun _ _ => rfl) (q_cons (q_str txe363007e3a oxe363007e3a) q_nil)))) (q_cons (q_tup (q_cons (q_str txd3c8db272a oxd3c8db272a) (q_cons (q_c pe_int fun _ _ => rfl) (q_cons (q_str tx8c63ca1c0f ox8c63ca1c0f) q_nil)))) (q_cons (q_tup (q_cons (q_str tx0c3a5bc551 ox0c3a5bc551) (q_cons (q_c pe_int fun _ _ => rfl) (q_cons (q_str txee1674d734 oxee1674d734) q_nil)))) (q_cons (q_tup (q_cons (q_str tx537cb23d04 ox537cb23d04) (q_cons (q_c pe_int fun _ _ => rfl) (q_cons (q_str txe363007e3a oxe363007e3a) q_nil)))) (q_cons (q_tup (q_cons (q_str txc78d0b50d1 oxc78d0b50d1) (q_cons (q_c pe_int fun _ _ => rfl) (q_cons (q_str txd6094e2179 oxd6094e2179) q_nil)))) (q_cons (q_tup (q_cons (q_str tx98888de591 ox98888de591) (q_cons (q_c pe_int fun _ _ => rfl) (q_cons (q_str tx68340130d1 ox68340130d1) q_nil)))) (q_cons (q_tup (q_cons (q_str txd0b8266d00 oxd0b8266d00) (q_cons (q_c pe_int fun _ _ => rfl) (q_cons (q_str txe363007e3a oxe363007e3a) q_nil)))) (q_cons (q_tup (q_cons (q_str txc3b58a46f7 oxc3b58a46f7) (q_cons (q_c pe_int fun _ _ => rfl) (q_cons (q_str tx1bd9c49214 ox1bd9c49214) q_nil)))) (q_cons (q_tup (q_cons (q_str tx890b60dc53 ox890b60dc53) (q_cons (q_c pe_int fun _ _ => rfl) (q_cons (q_str tx9b5eeb1b2a ox9b5eeb1b2a) q_nil)))) (q_cons (q_tup (q_cons (q_str tx173c7d2440 ox173c7d2440) (q_cons (q_c pe_int fun _ _ => rfl) (q_cons (q_str txba479d58a4 oxba479d58a4) q_nil)))) (q_cons (q_tup (q_cons (q_str txca42875fb5 oxca42875fb5) (q_cons (q_c pe_int fun _ _ => rfl) (q_cons (q_str txba479d58a4 oxba479d58a4) q_nil)))) (q_cons (q_tup (q_cons (q_str txef7fb8005c oxef7fb8005c) (q_cons (q_c pe_int fun _ _ => rfl) (q_cons (q_str txfa93e2a328 oxfa93e2a328) q_nil)))) (q_cons (q_tup (q_cons (q_str tx6b02b1247b ox6b02b1247b) (q_cons (q_c pe_int fun _ _ => rfl) (q_cons (q_str tx9bd5eeb301 ox9bd5eeb301) q_nil)))) (q_cons (q_tup (q_cons (q_str tx2aa34f190f ox2aa34f190f) (q_cons (q_c pe_int fun _ _ => rfl) (q_cons (q_str tx3c568504b9 ox3c568504b9) q_nil)))) (q_cons (q_tup (q_cons (q_str tx77361cc4f4 ox77361cc4f4) (q_cons (q_c pe_int fun _ _ => rfl) (q_cons (q_str tx8b5376a2ac ox8b5376a2ac) q_nil)))) (q_cons (q_tup (q_cons (q_str tx21b991ae1a ox21b991ae1a) (q_cons (q_c pe_int fun _ _ => rfl) (q_cons (q_str tx9226cafed9 ox9226cafed9) q_nil)))) (q_cons (q_tup (q_cons (q_str tx1423ea664e ox1423ea664e) (q_cons (q_c pe_int fun _ _ => rfl) (q_cons (q_str txf24faeac0e oxf24faeac0e) q_nil)))) (q_cons (q_tup (q_cons (q_str tx47e665a472 ox47e665a472) (q_cons (q_c pe_int fun _ _ => rfl) (q_cons (q_str tx9bd5eeb301 ox9bd5eeb301) q_nil)))) q_nil)))))))))))))))))))))))))))))))))))))))))))))))))))))
theorem all (T : Txt w K mg A) : ∀ n, IH P w K mg base A n
  | 0 => { ok_Token___init__ := z_Token___init__ T, ok_tokens := z_tokens T, ok_behind_blanks := z_behind_blanks T, ok_token_at := z_token_at T, ok_behind_run := z_behind_run T, ok_word_at := z_word_at T, ok_number_at := z_number_at T, ok_quoted_at := z_quoted_at T, ok_may_stand := z_may_stand T, ok_sign_at := z_sign_at T, ok_IntSort___init__ := z_IntSort___init__ T, ok_TextSort___init__ := z_TextSort___init__ T, ok_RefSort___init__ := z_RefSort___init__ T, ok_ListSort___init__ := z_ListSort___init__ T, ok_is_reference := z_is_reference T, ok_sort_of_shape := z_sort_of_shape T, ok_kinds_of_shapes := z_kinds_of_shapes T, ok_common_sort := z_common_sort T, ok_SingleTerm___init__ := z_SingleTerm___init__ T, ok_NumberTerm___init__ := z_NumberTerm___init__ T, ok_TextTerm___init__ := z_TextTerm___init__ T, ok_ParameterTerm___init__ := z_ParameterTerm___init__ T, ok_PathTerm___init__ := z_PathTerm___init__ T, ok_SomeTerm___init__ := z_SomeTerm___init__ T, ok_CountTerm___init__ := z_CountTerm___init__ T, ok_GroupTotal___init__ := z_GroupTotal___init__ T, ok_ListTotal___init__ := z_ListTotal___init__ T, ok_ChainTerm___init__ := z_ChainTerm___init__ T, ok_CompareTerm___init__ := z_CompareTerm___init__ T, ok_NullTerm___init__ := z_NullTerm___init__ T, ok_AmongTerm___init__ := z_AmongTerm___init__ T, ok_NotTerm___init__ := z_NotTerm___init__ T, ok_MinusTerm___init__ := z_MinusTerm___init__ T, ok_QueryState___init__ := z_QueryState___init__ T, ok_QueryState_enter := z_QueryState_enter T, ok_QueryState_leave := z_QueryState_leave T, ok_QueryState_small_name := z_QueryState_small_name T, ok_QueryState_new_name := z_QueryState_new_name T, ok_DrawnPath___init__ := z_DrawnPath___init__ T, ok_read_path := z_read_path T, ok_behind_point := z_behind_point T, ok_read_plain_path := z_read_plain_path T, ok_read_list_path := z_read_list_path T, ok_read_total_path := z_read_total_path T, ok_refuse_list := z_refuse_list T, ok_check_group := z_check_group T, ok_TokenReader___init__ := z_TokenReader___init__ T, ok_TokenReader_here := z_TokenReader_here T, ok_TokenReader_following := z_TokenReader_following T, ok_TokenReader_take := z_TokenReader_take T, ok_TokenReader_at_end := z_TokenReader_at_end T, ok_TokenReader_stands := z_TokenReader_stands T, ok_TokenReader_stands_one := z_TokenReader_stands_one T, ok_TokenReader_passes := z_TokenReader_passes T, ok_TokenReader_must := z_TokenReader_must T, ok_TokenReader_must_end := z_TokenReader_must_end T, ok_TokenReader_must_role := z_TokenReader_must_role T, ok_TokenReader_number_token := z_TokenReader_number_token T, ok_TokenReader_is_name := z_TokenReader_is_name T, ok_TokenReader_small_name_stands := z_TokenReader_small_name_stands T, ok_TokenReader_kind_name := z_TokenReader_kind_name T, ok_TokenReader_small_name := z_TokenReader_small_name T, ok_TokenReader_field_name := z_TokenReader_field_name T, ok_is_certain := z_is_certain T, ok_Drawn___init__ := z_Drawn___init__ T, ok_parameters_as := z_parameters_as T, ok_merged := z_merged T, ok_joined_parameters := z_joined_parameters T, ok_read_either := z_read_either T, ok_read_both := z_read_both T, ok_read_sum := z_read_sum T, ok_read_product := z_read_product T, ok_read_chain := z_read_chain T, ok_longer_chain := z_longer_chain T, ok_pass_all := z_pass_all T, ok_read_turned := z_read_turned T, ok_read_test := z_read_test T, ok_read_comparison := z_read_comparison T, ok_read_null := z_read_null T, ok_read_among := z_read_among T, ok_read_signed := z_read_signed T, ok_read_single := z_read_single T, ok_read_number := z_read_number T, ok_read_parameter := z_read_parameter T, ok_read_enclosed := z_read_enclosed T, ok_read_over := z_read_over T, ok_read_some := z_read_some T, ok_read_count := z_read_count T, ok_refuse_without_group := z_refuse_without_group T, ok_read_total := z_read_total T, ok_read_list_total := z_read_list_total T, ok_read_group_total := z_read_group_total T, ok_check_total := z_check_total T, ok_OrderTerm___init__ := z_OrderTerm___init__ T, ok_QueryParts___init__ := z_QueryParts___init__ T, ok_Query___init__ := z_Query___init__ T, ok_read_query := z_read_query T, ok_read_from := z_read_from T, ok_read_where := z_read_where T, ok_read_group := z_read_group T, ok_read_group_path := z_read_group_path T, ok_read_several := z_read_several T, ok_read_told := z_read_told T, ok_read_order_term := z_read_order_term T, ok_read_order := z_read_order T, ok_read_give := z_read_give T, ok_read_counts := z_read_counts T, ok_read_bound := z_read_bound T, ok_Field___init__ := z_Field___init__ T, ok_Kind___init__ := z_Kind___init__ T, ok_Kind_field_of := z_Kind_field_of T, ok_Schema___init__ := z_Schema___init__ T, ok_Schema_kind_of := z_Schema_kind_of T, ok_Schema_field_of := z_Schema_field_of T, ok__law_schema := z__law_schema T, ok__law_texts := z__law_texts T }
  | n + 1 => have ih := all T n
    { ok_Token___init__ := st_Token___init__ T ih, ok_tokens := st_tokens T ih, ok_behind_blanks := st_behind_blanks T ih, ok_token_at := st_token_at T ih, ok_behind_run := st_behind_run T ih, ok_word_at := st_word_at T ih, ok_number_at := st_number_at T ih, ok_quoted_at := st_quoted_at T ih, ok_may_stand := st_may_stand T ih, ok_sign_at := st_sign_at T ih, ok_IntSort___init__ := st_IntSort___init__ T ih, ok_TextSort___init__ := st_TextSort___init__ T ih, ok_RefSort___init__ := st_RefSort___init__ T ih, ok_ListSort___init__ := st_ListSort___init__ T ih, ok_is_reference := st_is_reference T ih, ok_sort_of_shape := st_sort_of_shape T ih, ok_kinds_of_shapes := st_kinds_of_shapes T ih, ok_common_sort := st_common_sort T ih, ok_SingleTerm___init__ := st_SingleTerm___init__ T ih, ok_NumberTerm___init__ := st_NumberTerm___init__ T ih, ok_TextTerm___init__ := st_TextTerm___init__ T ih, ok_ParameterTerm___init__ := st_ParameterTerm___init__ T ih, ok_PathTerm___init__ := st_PathTerm___init__ T ih, ok_SomeTerm___init__ := st_SomeTerm___init__ T ih, ok_CountTerm___init__ := st_CountTerm___init__ T ih, ok_GroupTotal___init__ := st_GroupTotal___init__ T ih, ok_ListTotal___init__ := st_ListTotal___init__ T ih, ok_ChainTerm___init__ := st_ChainTerm___init__ T ih, ok_CompareTerm___init__ := st_CompareTerm___init__ T ih, ok_NullTerm___init__ := st_NullTerm___init__ T ih, ok_AmongTerm___init__ := st_AmongTerm___init__ T ih, ok_NotTerm___init__ := st_NotTerm___init__ T ih, ok_MinusTerm___init__ := st_MinusTerm___init__ T ih, ok_QueryState___init__ := st_QueryState___init__ T ih, ok_QueryState_enter := st_QueryState_enter T ih, ok_QueryState_leave := st_QueryState_leave T ih, ok_QueryState_small_name := st_QueryState_small_name T ih, ok_QueryState_new_name := st_QueryState_new_name T ih, ok_DrawnPath___init__ := st_DrawnPath___init__ T ih, ok_read_path := st_read_path T ih, ok_behind_point := st_behind_point T ih, ok_read_plain_path := st_read_plain_path T ih, ok_read_list_path := st_read_list_path T ih, ok_read_total_path := st_read_total_path T ih, ok_refuse_list := st_refuse_list T ih, ok_check_group := st_check_group T ih, ok_TokenReader___init__ := st_TokenReader___init__ T ih, ok_TokenReader_here := st_TokenReader_here T ih, ok_TokenReader_following := st_TokenReader_following T ih, ok_TokenReader_take := st_TokenReader_take T ih, ok_TokenReader_at_end := st_TokenReader_at_end T ih, ok_TokenReader_stands := st_TokenReader_stands T ih, ok_TokenReader_stands_one := st_TokenReader_stands_one T ih, ok_TokenReader_passes := st_TokenReader_passes T ih, ok_TokenReader_must := st_TokenReader_must T ih, ok_TokenReader_must_end := st_TokenReader_must_end T ih, ok_TokenReader_must_role := st_TokenReader_must_role T ih, ok_TokenReader_number_token := st_TokenReader_number_token T ih, ok_TokenReader_is_name := st_TokenReader_is_name T ih, ok_TokenReader_small_name_stands := st_TokenReader_small_name_stands T ih, ok_TokenReader_kind_name := st_TokenReader_kind_name T ih, ok_TokenReader_small_name := st_TokenReader_small_name T ih, ok_TokenReader_field_name := st_TokenReader_field_name T ih, ok_is_certain := st_is_certain T ih, ok_Drawn___init__ := st_Drawn___init__ T ih, ok_parameters_as := st_parameters_as T ih, ok_merged := st_merged T ih, ok_joined_parameters := st_joined_parameters T ih, ok_read_either := st_read_either T ih, ok_read_both := st_read_both T ih, ok_read_sum := st_read_sum T ih, ok_read_product := st_read_product T ih, ok_read_chain := st_read_chain T ih, ok_longer_chain := st_longer_chain T ih, ok_pass_all := st_pass_all T ih, ok_read_turned := st_read_turned T ih, ok_read_test := st_read_test T ih, ok_read_comparison := st_read_comparison T ih, ok_read_null := st_read_null T ih, ok_read_among := st_read_among T ih, ok_read_signed := st_read_signed T ih, ok_read_single := st_read_single T ih, ok_read_number := st_read_number T ih, ok_read_parameter := st_read_parameter T ih, ok_read_enclosed := st_read_enclosed T ih, ok_read_over := st_read_over T ih, ok_read_some := st_read_some T ih, ok_read_count := st_read_count T ih, ok_refuse_without_group := st_refuse_without_group T ih, ok_read_total := st_read_total T ih, ok_read_list_total := st_read_list_total T ih, ok_read_group_total := st_read_group_total T ih, ok_check_total := st_check_total T ih, ok_OrderTerm___init__ := st_OrderTerm___init__ T ih, ok_QueryParts___init__ := st_QueryParts___init__ T ih, ok_Query___init__ := st_Query___init__ T ih, ok_read_query := st_read_query T ih, ok_read_from := st_read_from T ih, ok_read_where := st_read_where T ih, ok_read_group := st_read_group T ih, ok_read_group_path := st_read_group_path T ih, ok_read_several := st_read_several T ih, ok_read_told := st_read_told T ih, ok_read_order_term := st_read_order_term T ih, ok_read_order := st_read_order T ih, ok_read_give := st_read_give T ih, ok_read_counts := st_read_counts T ih, ok_read_bound := st_read_bound T ih, ok_Field___init__ := st_Field___init__ T ih, ok_Kind___init__ := st_Kind___init__ T ih, ok_Kind_field_of := st_Kind_field_of T ih, ok_Schema___init__ := st_Schema___init__ T ih, ok_Schema_kind_of := st_Schema_kind_of T ih, ok_Schema_field_of := st_Schema_field_of T ih, ok__law_schema := st__law_schema T ih, ok__law_texts := st__law_texts T ih }
end
end
end K68
namespace K68
open PySem PySem.Spec PyProof.Rows L2 TL
set_option autoImplicit false
open Rn
noncomputable section
def repS (z : Str) (n : Nat) : Str := ⟨(List.replicate n (tl z)).flatten.toArray⟩
theorem tl_repS (z : Str) (n : Nat) : tl (repS z n) = (List.replicate n (tl z)).flatten := rfl
theorem fold_app : ∀ (n : Nat) (acc c : Array Nat), (List.replicate n c).foldl (· ++ ·) acc = acc ++ (List.replicate n c.toList).flatten.toArray
  | 0, acc, c => by simp
  | n + 1, acc, c => by
    rw [List.replicate_succ, List.foldl_cons, fold_app n, List.replicate_succ, List.flatten_cons]
    apply Array.toList_inj.mp
    simp
theorem repS_fold (z : Str) (n : Nat) : (⟨(List.replicate n z.cps).foldl (· ++ ·) #[]⟩ : Str) = repS z n := by
  apply ext_tl
  rw [fold_app]
  show (#[] ++ (List.replicate n z.cps.toList).flatten.toArray).toList = _
  rw [tl_repS]
  simp
theorem op_mulS {X : Cx} : OpR X (binaryOp .Mult) (fun x y H Q => ∃ z n, x = .str z ∧ y = .int n ∧ 0 ≤ n ∧ n ≤ 2000 ∧ z.length ≤ 100 ∧ Q (.str (repS z n.toNat)) H) := by
  intro pins s σ H x y v u Q I rx ry h
  obtain ⟨z, n, rfl, rfl, h0, h1, hz, q⟩ := h
  obtain ⟨t, rfl⟩ := rx
  obtain ⟨t', rfl⟩ := ry
  have hln : sizeLine = 16777216 := sizeLine_eq
  have hmul : z.length * n.toNat ≤ 100 * 2000 := Nat.mul_le_mul hz (by omega)
  refine PySem.P.mul_str ?_ (fun p1 p2 => ?_) (fun p1 p2 => ?_) ?_
  · rw [decide_eq_false (by omega), decide_eq_false (by omega)]
    rfl
  · have hp : 0 < n := by omega
    have h2 : (100 : Int) ≤ (2 ^ 63 - 1) / n := (Int.le_ediv_iff_mul_le hp).mpr (by omega)
    omega
  · unfold PySem.Builtin.Str.tooLong
    exact decide_eq_false (by rw [hln]; omega)
  · by_cases c1 : n < 1
    · rw [if_pos c1]
      have e : n = 0 := by omega
      subst e
      refine ⟨?_, ⟨.str _, H, I.tok _, ⟨_, rfl⟩, ?_⟩⟩
      · decide
      · exact q
    · rw [if_neg c1]
      by_cases c2 : (n == 1 || z.length == 0) = true
      · rw [if_pos c2]
        refine ⟨.str z, H, I, ⟨_, rfl⟩, ?_⟩
        have e : repS z n.toNat = z := by
          apply ext_tl
          rw [tl_repS]
          rcases Bool.or_eq_true_iff.mp c2 with c | c
          · have : n.toNat = 1 := by
              have := beq_iff_eq.mp c
              omega
            rw [this]
            simp
          · have e0 : tl z = [] := (len0_tl z).mp (beq_iff_eq.mp c)
            rw [e0]
            simp
        rw [e] at q
        exact q
      · rw [if_neg c2]
        refine ⟨?_, ⟨.str _, H, I.tok _, ⟨_, rfl⟩, ?_⟩⟩
        · rw [repS_fold]
          show (repS z n.toNat).length ≤ _
          rw [len_tl, tl_repS]
          simp
          have hm : n.toNat * z.cps.size ≤ 2000 * 100 := Nat.mul_le_mul (by omega) hz
          omega
        · rw [repS_fold]
          exact q
/-- a draw: what it tells and what it leaves -/
def popL : List Int → List Int
  | m :: m2 :: r => if decide (V.int m = V.int 0) = true then m2 :: r else m :: m2 :: r
  | l => l
def drw (ms : List Int) (n : Nat) : Nat := match popL ms with
  | m :: _ => (m.fmod (n : Int)).toNat
  | [] => 0
def nxt (ms : List Int) (n : Nat) : List Int := match popL ms with
  | m :: r => m.fdiv (n : Int) :: r
  | [] => []
theorem popL_ne : ∀ {ms : List Int}, ms ≠ [] → ∃ m r, popL ms = m :: r
  | [m], _ => ⟨m, [], rfl⟩
  | m :: m2 :: r, _ => by
    by_cases h : decide (V.int m = V.int 0) = true
    · exact ⟨m2, r, if_pos h⟩
    · exact ⟨m, m2 :: r, if_neg h⟩
theorem drw_lt {ms : List Int} {n : Nat} (h : ms ≠ []) (hn : 0 < n) : drw ms n < n := by
  obtain ⟨m, r, e⟩ := popL_ne h
  unfold drw
  rw [e]
  have h1 := Int.fmod_nonneg_of_pos m (b := (n : Int)) (by omega)
  have h2 := Int.fmod_lt_of_pos m (b := (n : Int)) (by omega)
  show (m.fmod (n : Int)).toNat < n
  omega
theorem nxt_ne {ms : List Int} {n : Nat} (h : ms ≠ []) : nxt ms n ≠ [] := by
  obtain ⟨m, r, e⟩ := popL_ne h
  unfold nxt
  rw [e]
  simp
def spDrw : Sp := fun vs H Q _ => ∃ (a : Addr) (ms : List Int) (n : Nat), vs = [.ref a, .int (n : Int)] ∧ H a = some (.lst (ms.map V.int)) ∧ ms ≠ [] ∧ 0 < n ∧ n < 1000 ∧ Q (.int (drw ms n : Int)) (upd H a (.lst ((nxt ms n).map V.int)))
def spPick : Sp := fun vs H Q _ => ∃ (a l : Addr) (ms : List Int) (xs : List V), vs = [.ref a, .ref l] ∧ H a = some (.lst (ms.map V.int)) ∧ ms ≠ [] ∧ H l = some (.lst xs) ∧ a ≠ l ∧ 0 < xs.length ∧ xs.length < 1000 ∧
  ∀ v, xs[drw ms xs.length]? = some v → Q v (upd H a (.lst ((nxt ms xs.length).map V.int)))
theorem rep_off {S : Nat → Addr} {β : Bt} {ρ : List Addr} {h : Hc} {H : Hp} {b : Addr} {o : HO} (R : Rep S β ρ h H) (hb : b ∉ ρ) : Rep S β ρ h (upd H b o) := by
  refine ⟨R.nd, R.sz, R.lk, fun i a e => ?_, R.up⟩
  obtain ⟨co, ho, e1, e2, e3⟩ := R.ob i a e
  have hba : a ≠ b := fun q => hb (by rw [← q]; exact List.mem_of_getElem? e)
  exact ⟨co, ho, e1, by rw [upd_ne hba]; exact e2, e3⟩
theorem rep_nil {S : Nat → Addr} {β : Bt} {H : Hp} (hL : β.L = []) : Rep S β [] ⟨0, .lf⟩ H := ⟨List.nodup_nil, rfl, (fun i hi => by rw [hL] at hi; cases hi), (fun i a e => by cases e), fun i co e => by cases e⟩
theorem fF_p (x : V) (s : Str) : (Rn.fF x s).lookup ("place" : Str) = some x := rfl
theorem fF_r (x : V) (s : Str) : (Rn.fF x s).lookup ("reason" : Str) = some (V.str s) := rfl
def bk (n : Nat) : Nat := Nat.rec (motive := fun _ => Nat) 1 (fun _ r => r * 256 + 32) n
def allN (f : Nat → Bool) (n : Nat) : Bool := Nat.rec (motive := fun _ => Bool) true (fun m go => match f m with
  | true => go
  | false => false) n
theorem allN_at {f : Nat → Bool} : ∀ {n i : Nat}, allN f n = true → i < n → f i = true
  | 0, i, _, h => by omega
  | n + 1, i, e, h => by
    have e : (match f n with
      | true => allN f n
      | false => false) = true := e
    split at e
    · rename_i q
      by_cases hi : i = n
      · rw [hi]; exact q
      · exact allN_at e (by omega)
    · cases e
/-- isinstance(e, D) of the error that the suite holds at a, with a dict of its own -/
theorem call_isF {X : Cx} {a D : Addr} {oe : Obj} {cls : Value} {d : Option Addr} {pn : List (Addr × Obj)} (C : ExcC X.K D) (hs : PySem.W.isClsIn X.K D = true) (hz : Zc cls d oe) (hf : ∃ vs, oe.data = .fields vs) :
    CallR (X.suite a ((a, oe) :: pn)) (.builtin "isinstance") (fun xs H Q => cls = .ref D ∧ ∃ (dd : Addr) (fs : List (Str × V)) (c : V) (cv : Value) (b : Bool), d = some dd ∧ H dd = some (.xd fs) ∧ xs = [.ref a, c] ∧ (∀ u, RelV c u → u = cv) ∧
      PySem.W.kitOne X.K (.ref D) cv = some b ∧ Q (.bl b) H) := by
  intro pins s σ H xs us Q I r h
  obtain ⟨rfl, dd, fs, c, cv, b, rfl, hd, rfl, hc, he, q⟩ := h
  obtain ⟨u1, u2, rfl, r1, r2⟩ := vals2 r
  have e1 : u1 = Value.ref a := r1
  have e2 := hc _ r2
  subst e1
  subst e2
  have there := (I.pin (a, oe) (List.mem_append_left _ (List.mem_cons_self ..))).1
  have hx : ObjOk X.prog X.w H s.heap dd (.xd fs) := I.hok dd _ hd
  obtain ⟨mA, hns, _⟩ := hx
  obtain ⟨od, ho, _⟩ := lookIn_ns hns
  obtain ⟨vs, hv⟩ := hf
  have J : PySem.W.InstAt s.heap a oe D (some od) := by
    refine ⟨there, hz.1, ?_, ?_⟩
    · unfold PySem.W.notCls
      rw [hv] <;> rfl
    · rw [hz.2]
      exact ho
  exact PySem.W.kia_one (PySem.W.kitx_exc hs C.hg C.hk C.hs C.ha C.hn C.ht C.hm) I.kIn J he (fun z => by cases z) fun tk => ⟨.bl b, H, I.tok tk, rfl, q⟩
/-- the cells: a new list of so many ints; which ones does not matter -/
def spCells (K : PySem.W.Frag) : Sp := fun vs H Q _ => ∃ (a : Addr) (ns : List Int) (n : Nat), vs = [.ref a, .int (n : Int)] ∧ SqL K H a (ns.map V.int) ∧ ns.length ≤ 63 ∧ n ≤ 64 ∧
  ∀ H' p (ms : List Int), Same H H' → H p = none → H' p = some (.lst (ms.map V.int)) → ms.length = n → Q (.ref p) H'
/-- a draw: the list of ints at a stays one, not empty; the value lies below the bound -/
def spDraw : Sp := fun vs H Q _ => ∃ (a : Addr) (ms : List Int) (n : Nat), vs = [.ref a, .int (n : Int)] ∧ H a = some (.lst (ms.map V.int)) ∧ ms ≠ [] ∧ 0 < n ∧ n < 1000 ∧
  ∀ (v : Nat) (ms' : List Int), v < n → ms' ≠ [] → Q (.int (v : Int)) (upd H a (.lst (ms'.map V.int)))
theorem int_at {ns : List Int} {i : Nat} (h : i < ns.length) : (ns.map V.int)[i]? = some (.int ns[i]) := by
  rw [List.getElem?_map, List.getElem?_eq_getElem h]
  rfl
section
variable {P : Program} {w : World} {K : PySem.W.Frag} {mg : Str → Option Value} {base : Heap} {A : Ad}
theorem sc__law_cells : FnScope ["script", "count", "cells", "k", "cell"] ["script", "count"] (defScope (topS 147)) := ⟨rfl, rfl, rfl, by decide +kernel, rfl, by decide +kernel, by decide +kernel⟩
theorem sc__law_draw : FnScope ["draws", "bound", "amount"] ["draws", "bound"] (defScope (topS 148)) := ⟨rfl, rfl, rfl, by decide +kernel, rfl, by decide +kernel, by decide +kernel⟩
theorem ok__law_cells (T : Txt w K mg A) : FnOk P w K mg base CX0 1 A.f__law_cells A.fd__law_cells ["script", "count"] (spCells K) := by
  refine T.F__law_cells.ok sc__law_cells (fun vs H Q E h => ?_) (fun cdv Ar outer s H vs Q E hr h => ?_)
  · obtain ⟨a, ns, n, rfl, _⟩ := h
    rfl
  · obtain ⟨a, ns, n, rfl, hS, hlen, hn, q⟩ := h
    refine ⟨_, (pss_cons (ps_set (i := 2) sc__law_cells.nd rfl (.inl rfl) (pe_lst pa_nil))
 (pss_cons (ps_for PassesOwn.never rfl (pi_range1 rfl T.b_range (pa_cons (pv 1) pa_nil)) (pg_name (i := 3) sc__law_cells.nd rfl (.inl rfl))
 (pss_cons (ps_set (i := 4) sc__law_cells.nd rfl (.inl rfl) (pe_op op_add (pe_op op_mul pe_int (pv 3)) pe_int))
 (C8.pss_cut (ps_if (pt_cmpR op_lt (pv 3) (pe_callB call_len_seq rfl T.b_len PySem.boot_len (pa_cons (pv 0) pa_nil)) (nomark _))
 (pss_cons (ps_set (i := 4) sc__law_cells.nd rfl (.inl rfl) (pe_callTy call_int1 rfl T.b_int (by decide +kernel) (pa_cons (pe_ix ix_list (pv 0) (pv 3) (fun _ _ => rfl)) pa_nil)))
 (pss_one (ps_if (pt_cmpR op_lt (pv 4) pe_int (nomark _))
 (pss_one (ps_set (i := 4) sc__law_cells.nd rfl (.inl rfl) (pe_op op_sub pe_int (pe_op op_mul pe_int (pv 4)))))
 pss_nil)))
 pss_nil)
 (C8.pss_cut (ps_if (pt_cmpR op_lt (pv 4) pe_int (nomark _))
 (pss_cons (ps_set (i := 4) sc__law_cells.nd rfl (.inl rfl) (pe_op op_mod (pe_callTy call_int1 rfl T.b_int (by decide +kernel) (pa_cons (pe_op op_add (pe_op op_add (pe_op op_mul (pe_callTy call_int1 rfl T.b_int (by decide +kernel) (pa_cons (pv 4) pa_nil)) pe_int) (pe_op op_mul pe_int (pv 3))) pe_int) pa_nil)) pe_int))
 (pss_one (ps_set (i := 4) sc__law_cells.nd rfl (.inl rfl) (pe_op op_mod (pe_callTy call_int1 rfl T.b_int (by decide +kernel) (pa_cons (pe_op op_add (pe_op op_mul (pe_callTy call_int1 rfl T.b_int (by decide +kernel) (pa_cons (pv 4) pa_nil)) pe_int) pe_int) pa_nil)) pe_int))))
 pss_nil)
 (pss_one (ps_expr (pe_bm PySem.F.plainAttrs_list PySem.F.slot_list_append PySem.F.type_list_append mt_append (pv 2) (pa_cons (pv 4) pa_nil))))))))
 (pss_one (ps_ret (pv 2))))), ?_⟩
    refine ⟨Nat.zero_le _, fun o no => ?_⟩
    refine ⟨_, rfl, (n : Int), rfl, by omega, by omega, for_range (lo := 0) (n := (n : Int).toNat) (fun i σ H' => ∃ (ms : List Int) (y3 y4 : Option V), σ = [some (.ref a), some (.int (n : Int)), some (.ref o), y3, y4] ∧ Same H H' ∧ H' o = some (.lst (ms.map V.int)) ∧ ms.length = i)
      ⟨[], none, none, rfl, fun b z e => (upd_ne (ne_of_none e no)).trans e, upd_same, rfl⟩ ?_ ?_⟩
    · rintro i σ H2 hi ⟨ms, y3, y4, rfl, sm, eo, hl⟩
      -- cell = 7 * k + 3
      refine ⟨_, rfl, _, _, rfl, rfl, .inl ⟨by decide, by decide⟩, _, _, rfl, rfl, ?_⟩
      -- if k < len(script): ..
      refine ⟨fun σ' H' => H' = H2 ∧ ∃ c : Int, σ' = [some (.ref a), some (.int (n : Int)), some (.ref o), some (.int (0 + (i : Int))), some (.int c)], ?_, ?_⟩
      · refine ⟨_, rfl, _, rfl, a, _, rfl, .inl (sm.seq hS), _, _, rfl, rfl, _, rfl, ite2 (fun h => ?_) (fun h => ⟨rfl, _, rfl⟩)⟩
        have hi2 : i < ns.length := by
          have h' := of_decide_eq_true h
          rw [List.length_map] at h'
          omega
        refine ⟨_, rfl, _, rfl, a, _, 0 + (i : Int), _, rfl, rfl, sm.seq hS, at_of (j := i) (by omega) (int_at hi2), .inl ⟨_, rfl, ?_⟩⟩
        refine ⟨_, rfl, _, _, rfl, rfl, _, rfl, ite2 (fun h => ?_) (fun h => ⟨rfl, _, rfl⟩)⟩
        refine ⟨_, rfl, _, _, rfl, rfl, .inl ⟨by decide, by decide⟩, _, _, rfl, rfl, rfl, _, rfl⟩
      · rintro σ' H' ⟨rfl, c, rfl⟩
        -- if cell < 1000000000: ..
        refine ⟨fun σ' H'' => H'' = H' ∧ ∃ c : Int, σ' = [some (.ref a), some (.int (n : Int)), some (.ref o), some (.int (0 + (i : Int))), some (.int c)], ?_, ?_⟩
        · refine ⟨_, rfl, _, _, rfl, rfl, _, rfl, ite2 (fun h => ?_) (fun h => ⟨rfl, _, rfl⟩)⟩
          refine ⟨_, rfl, .inl ⟨_, rfl, ?_⟩⟩
          refine ⟨_, _, rfl, rfl, .inr ⟨by decide, by decide⟩, _, rfl, _, _, rfl, rfl, .inl ⟨by decide, by decide⟩, _, _, rfl, rfl, _, _, rfl, rfl, .inl ⟨_, rfl, ?_⟩⟩
          refine ⟨_, _, rfl, rfl, (by decide : (0 : Int) < 2147483647), ?_⟩
          refine ⟨_, rfl, .inl ⟨_, rfl, ?_⟩⟩
          refine ⟨_, _, rfl, rfl, .inr ⟨by decide, by decide⟩, _, _, rfl, rfl, .inl ⟨_, rfl, ?_⟩⟩
          exact ⟨_, _, rfl, rfl, (by decide : (0 : Int) < 18446744073709551557), rfl, _, rfl⟩
        · rintro σ' H'' ⟨rfl, c', rfl⟩
          -- cells.append(cell)
          refine ⟨_, rfl, .inl ⟨rfl, _, SqL.of eo⟩, _, rfl, o, _, _, rfl, rfl, eo, ?_, ?_⟩
          · rw [List.length_map, hl]
            exact small1000 (by omega)
          · refine ⟨ms ++ [c'], _, _, rfl, fun b z e => (upd_ne (ne_of_none e no)).trans (sm b z e), ?_, ?_⟩
            · rw [upd_same, List.map_append]
              rfl
            · rw [List.length_append, hl]
              rfl
    · rintro σ H2 ⟨ms, y3, y4, rfl, sm, eo, hl⟩
      exact ⟨_, rfl, q H2 o ms sm no eo (by omega)⟩
theorem ok__law_draw (T : Txt w K mg A) : FnOk P w K mg base CX0 1 A.f__law_draw A.fd__law_draw ["draws", "bound"] spDrw := by
  refine T.F__law_draw.ok sc__law_draw (fun vs H Q E h => ?_) (fun cdv Ar outer s H vs Q E hr h => ?_)
  · obtain ⟨a, ms, n, rfl, _⟩ := h
    rfl
  · obtain ⟨a, ms, n, rfl, ha, hne, hn, hn2, q⟩ := h
    refine ⟨_, (C8.pss_cut (ps_if (PW.pt (pw_and (pt_cmpR op_eq (pe_ix ix_list (pv 0) pe_int (fun _ _ => rfl)) pe_int (nomark _)) (pw_and1 (pt_cmpR op_gt (pe_callB call_len_seq rfl T.b_len PySem.boot_len (pa_cons (pv 0) pa_nil)) pe_int (nomark _)))))
 (pss_one (ps_expr (pe_bm PySem.F.plainAttrs_list PySem.F.slot_list_pop PySem.F.type_list_pop mt_popAt (pv 0) (pa_cons pe_int pa_nil))))
 pss_nil)
 (pss_cons (ps_set (i := 2) sc__law_draw.nd rfl (.inl rfl) (pe_op op_modN (pe_callTy call_int1 rfl T.b_int (by decide +kernel) (pa_cons (pe_ix ix_list (pv 0) pe_int (fun _ _ => rfl)) pa_nil)) (pv 1)))
 (pss_cons (ps_asg (pe_op op_fdivN (pe_ix ix_list (pv 0) pe_int (fun _ _ => rfl)) (pv 1)) (pg_sub (pv 0) pe_int set_list))
 (pss_one (ps_ret (pv 2)))))), ?_⟩
    obtain ⟨m, r, rfl⟩ : ∃ m r, ms = m :: r := by
      cases ms with
      | nil => exact absurd rfl hne
      | cons m r => exact ⟨m, r, rfl⟩
    -- if draws[0] == 0 and len(draws) > 1: draws.pop(0)
    refine ⟨fun σ' H' => ∃ (m' : Int) (r' : List Int), popL (m :: r) = m' :: r' ∧ σ' = [some (.ref a), some (.int (n : Int)), none] ∧ H' = upd H a (.lst ((m' :: r').map V.int)), ?_, ?_⟩
    · have e0 : upd H a (.lst ((m :: r).map V.int)) = H := by
        funext b
        by_cases hb : b = a
        · rw [hb, upd_same, ha]
        · rw [upd_ne hb]
      refine ⟨_, rfl, a, _, 0, _, rfl, rfl, SqL.of ha, atI_nat (j := 0) rfl, rfl, _, rfl, ite2 (fun h0 => ?_) (fun h0 => iteF ⟨m, r, by cases r with | nil => rfl | cons m2 r2 => exact if_neg h0, rfl, e0.symm⟩)⟩
      refine ⟨_, rfl, a, _, rfl, .inl (SqL.of ha), _, _, rfl, rfl, _, rfl, ite2 (fun h => ?_) (fun h => ⟨m, r, by cases r with | nil => rfl | cons m2 r2 => exact absurd (decide_eq_true (by simp; omega)) h, rfl, e0.symm⟩)⟩
      have h' := of_decide_eq_true h
      obtain ⟨m2, r2, rfl⟩ : ∃ m2 r2, r = m2 :: r2 := by
        cases r with
        | nil => exact absurd h' (by simp)
        | cons m2 r2 => exact ⟨m2, r2, rfl⟩
      refine ⟨_, rfl, .inl ⟨rfl, _, SqL.of ha⟩, a, _, 0, 0, .int m, rfl, rfl, ha, by decide, by decide, ?_, rfl, m2, r2, if_pos h0, rfl, rfl⟩
      unfold seqIndex?
      simp
      omega
    · rintro σ' H' ⟨m', r', ep, rfl, rfl⟩
      refine ⟨_, rfl, a, _, 0, _, rfl, rfl, SqL.of upd_same, atI_nat (j := 0) rfl, .inl ⟨_, rfl, ?_⟩⟩
      refine ⟨_, rfl, _, _, rfl, rfl, (by omega), ?_⟩
      refine ⟨_, rfl, a, _, 0, _, rfl, rfl, SqL.of upd_same, atI_nat (j := 0) rfl, _, rfl, _, _, rfl, rfl, ⟨by omega, by omega⟩, ?_⟩
      refine ⟨_, rfl, a, _, 0, 0, rfl, rfl, upd_same, ?_, ?_⟩
      · unfold ixN
        rw [if_pos (by decide), if_pos (by simp)]
        rfl
      · rw [upd_upd]
        have hm : m'.fmod (n : Int) = ((m'.fmod (n : Int)).toNat : Int) := by
          have := Int.fmod_nonneg_of_pos m' (b := (n : Int)) (by omega)
          omega
        refine ⟨_, rfl, ?_⟩
        show Q (.int (m'.fmod (n : Int))) _
        rw [hm]
        have e1 : drw (m :: r) n = (m'.fmod (n : Int)).toNat := by
          unfold drw
          rw [ep]
        have e2 : nxt (m :: r) n = m'.fdiv (n : Int) :: r' := by
          unfold nxt
          rw [ep]
        rw [e1, e2] at q
        exact q
theorem sc__law_pick : FnScope ["draws", "row"] ["draws", "row"] (defScope (topS 149)) := ⟨rfl, rfl, rfl, by decide +kernel, rfl, by decide +kernel, by decide +kernel⟩
theorem ok__law_pick (T : Txt w K mg A) : FnOk P w K mg base CX0 2 A.f__law_pick A.fd__law_pick ["draws", "row"] spPick := by
  refine T.F__law_pick.ok sc__law_pick (fun vs H Q E h => ?_) (fun cdv Ar outer s H vs Q E hr h => ?_)
  · obtain ⟨a, l, ms, xs, rfl, _⟩ := h
    rfl
  · obtain ⟨a, l, ms, xs, rfl, ha, hne, hl, hal, h0, h1, q⟩ := h
    refine ⟨_, (pss_one (ps_ret (pe_ix ix_list (pv 1) (pe_call (ok__law_draw T) (hr.mono (by decide)) (by rfl) T.g__law_draw T.F__law_draw.kp T.b__law_draw .nil pass0 (pa_cons (pv 0) (pa_cons (pe_callB call_len_seq rfl T.b_len PySem.boot_len (pa_cons (pv 1) pa_nil)) pa_nil))) (fun _ _ => rfl)))), ?_⟩
    refine ⟨_, rfl, _, rfl, _, rfl, l, xs, rfl, .inl (SqL.of hl), a, ms, xs.length, rfl, ha, hne, h0, h1, ?_⟩
    have hv := drw_lt (n := xs.length) hne h0
    exact ⟨l, xs, (drw ms xs.length : Int), xs[drw ms xs.length], rfl, rfl, SqL.of ((upd_ne hal.symm).trans hl), atI_nat (List.getElem?_eq_getElem hv), q _ (List.getElem?_eq_getElem hv)⟩
end
end
end K68
namespace K68
open PySem PySem.Spec PyProof.Rows L2 TL
set_option autoImplicit false
open Rn
noncomputable section
def run1 (s : CV) (h : Hc) (t r : Nat) (p : Int) (b : Nat) : Bool := ev 100 128 [s, .str (catK (bk b) t)] h (fun _ _ => false) (fun p' r' _ => match p' with
  | .int q => match eqI q (p + (b : Int)) with
    | true => Nat.beq r' r
    | false => false
  | _ => false)
def chk1 (i : Nat) (s l : CV) (h : Hc) : Bool := match l with
  | .ref lj => match h.get lj with
    | some (.lst xs) => match Nat.beq (lenL xs) 50 with
      | true => match nth xs i with
        | some (.ref j) => match h.get j with
          | some (.tup [.str t, .int p, .str r]) => match Nat.ble (lenN t) 1000 with
            | true => allN (run1 s h t r p) 7
            | false => false
          | _ => false
        | _ => false
      | false => false
    | _ => false
  | _ => false
def h0 : Hc := Hc.push ⟨0, .lf⟩ (.lst [.str 390792185213555, .str 104257232114509171, .str 1599362262387])
def full (i : Nat) : Bool := ev 100 146 [.ref 0, .bl false] h0 (fun s h1 => ev 100 147 [] h1 (fun l h2 => chk1 i s l h2) kx0) kx0
end
end K68
namespace K68
open PySem PySem.Spec PyProof.Rows L2 TL
set_option autoImplicit false
open Rn
noncomputable section
theorem full0 : full 0 = true := by decide +kernel
theorem full1 : full 1 = true := by decide +kernel
theorem full2 : full 2 = true := by decide +kernel
theorem full3 : full 3 = true := by decide +kernel
theorem full4 : full 4 = true := by decide +kernel
theorem full5 : full 5 = true := by decide +kernel
theorem full6 : full 6 = true := by decide +kernel
theorem full7 : full 7 = true := by decide +kernel
theorem full8 : full 8 = true := by decide +kernel
theorem full9 : full 9 = true := by decide +kernel
theorem full10 : full 10 = true := by decide +kernel
theorem full11 : full 11 = true := by decide +kernel
theorem full12 : full 12 = true := by decide +kernel
theorem full13 : full 13 = true := by decide +kernel
theorem full14 : full 14 = true := by decide +kernel
theorem full15 : full 15 = true := by decide +kernel
theorem full16 : full 16 = true := by decide +kernel
theorem full17 : full 17 = true := by decide +kernel
theorem full18 : full 18 = true := by decide +kernel
theorem full19 : full 19 = true := by decide +kernel
theorem full20 : full 20 = true := by decide +kernel
theorem full21 : full 21 = true := by decide +kernel
theorem full22 : full 22 = true := by decide +kernel
theorem full23 : full 23 = true := by decide +kernel
theorem full24 : full 24 = true := by decide +kernel
theorem full25 : full 25 = true := by decide +kernel
theorem full26 : full 26 = true := by decide +kernel
theorem full27 : full 27 = true := by decide +kernel
theorem full28 : full 28 = true := by decide +kernel
theorem full29 : full 29 = true := by decide +kernel
theorem full30 : full 30 = true := by decide +kernel
theorem full31 : full 31 = true := by decide +kernel
theorem full32 : full 32 = true := by decide +kernel
theorem full33 : full 33 = true := by decide +kernel
theorem full34 : full 34 = true := by decide +kernel
theorem full35 : full 35 = true := by decide +kernel
theorem full36 : full 36 = true := by decide +kernel
theorem full37 : full 37 = true := by decide +kernel
theorem full38 : full 38 = true := by decide +kernel
theorem full39 : full 39 = true := by decide +kernel
theorem full40 : full 40 = true := by decide +kernel
theorem full41 : full 41 = true := by decide +kernel
theorem full42 : full 42 = true := by decide +kernel
theorem full43 : full 43 = true := by decide +kernel
theorem full44 : full 44 = true := by decide +kernel
theorem full45 : full 45 = true := by decide +kernel
theorem full46 : full 46 = true := by decide +kernel
theorem full47 : full 47 = true := by decide +kernel
theorem full48 : full 48 = true := by decide +kernel
theorem full49 : full 49 = true := by decide +kernel
end
end K68
namespace K68
open PySem PySem.Spec PyProof.Rows L2 TL
set_option autoImplicit false
open Rn
noncomputable section
theorem tx1fa9645a77 : tx 390792185213555 = "clears" := by decide +kernel
theorem ox1fa9645a77 : okT 390792185213555 = true := by decide +kernel
theorem tx23adbca68e : tx 104257232114509171 = "refuses" := by decide +kernel
theorem ox23adbca68e : okT 104257232114509171 = true := by decide +kernel
theorem txf75cac0211 : tx 1599362262387 = "takes" := by decide +kernel
theorem oxf75cac0211 : okT 1599362262387 = true := by decide +kernel
def spLaw (K : PySem.W.Frag) : Sp := fun vs H Q _ => ∃ (a : Addr) (ns : List Int), vs = [.ref a] ∧ SqL K H a (ns.map V.int) ∧ ns.length ≤ 63 ∧ ∀ H', Q (.bl true) H'
-- script draws schema text place reason blanks e
section
variable {P : Program} {w : World} {K : PySem.W.Frag} {mg : Str → Option Value} {base : Heap} {A : Ad}
theorem sc_law : FnScope ["script", "draws", "schema", "text", "place", "reason", "blanks", "e"] ["script"] (defScope (topS 152)) := ⟨rfl, rfl, rfl, by decide +kernel, rfl, by decide +kernel, by decide +kernel⟩
theorem fulls : ∀ i, i < 50 → full i = true
  | 0, _ => full0
  | 1, _ => full1
  | 2, _ => full2
  | 3, _ => full3
  | 4, _ => full4
  | 5, _ => full5
  | 6, _ => full6
  | 7, _ => full7
  | 8, _ => full8
  | 9, _ => full9
  | 10, _ => full10
  | 11, _ => full11
  | 12, _ => full12
  | 13, _ => full13
  | 14, _ => full14
  | 15, _ => full15
  | 16, _ => full16
  | 17, _ => full17
  | 18, _ => full18
  | 19, _ => full19
  | 20, _ => full20
  | 21, _ => full21
  | 22, _ => full22
  | 23, _ => full23
  | 24, _ => full24
  | 25, _ => full25
  | 26, _ => full26
  | 27, _ => full27
  | 28, _ => full28
  | 29, _ => full29
  | 30, _ => full30
  | 31, _ => full31
  | 32, _ => full32
  | 33, _ => full33
  | 34, _ => full34
  | 35, _ => full35
  | 36, _ => full36
  | 37, _ => full37
  | 38, _ => full38
  | 39, _ => full39
  | 40, _ => full40
  | 41, _ => full41
  | 42, _ => full42
  | 43, _ => full43
  | 44, _ => full44
  | 45, _ => full45
  | 46, _ => full46
  | 47, _ => full47
  | 48, _ => full48
  | 49, _ => full49
  | n + 50, h => by omega
theorem bks : ∀ b, b < 7 → tx (bk b) = repS " " b ∧ okT (bk b) = true ∧ lenN (bk b) = b := by decide +kernel
theorem chk1_ok {i : Nat} {s l : CV} {h : Hc} (e : chk1 i s l h = true) : ∃ lj xs j t p r, l = .ref lj ∧ h.get lj = some (.lst xs) ∧ xs.length = 50 ∧ xs[i]? = some (.ref j) ∧ h.get j = some (.tup [.str t, .int p, .str r]) ∧ lenN t ≤ 1000 ∧ ∀ b, b < 7 → run1 s h t r p b = true := by
  unfold chk1 at e
  split at e
  · rename_i lj
    split at e
    · rename_i xs h1
      split at e
      · rename_i h2
        split at e
        · rename_i j h3
          split at e
          · rename_i t p r h4
            split at e
            · rename_i h5
              refine ⟨lj, xs, j, t, p, r, rfl, h1, ?_, ?_, h4, Nat.le_of_ble_eq_true h5, fun b hb => allN_at e hb⟩
              · rw [← lenL_eq]; exact Nat.eq_of_beq_eq_true h2
              · rw [← nth_eq]; exact h3
            · cases e
          · cases e
        · cases e
      · cases e
    · cases e
  · cases e
theorem ok_law (T : Txt w K mg A) : FnOk P w K mg base CX0 203 A.f_law A.fd_law ["script"] (spLaw K) := by
  refine T.F_law.ok sc_law (fun vs H Q E h => ?_) (fun cdv Ar outer s H vs Q E hr h => ?_)
  · obtain ⟨a, ns, rfl, _⟩ := h
    rfl
  · obtain ⟨a, ns, rfl, hS, hlen, q⟩ := h
    refine ⟨_, (pss_cons (ps_set (i := 1) sc_law.nd rfl (.inl rfl) (pe_call (ok__law_cells T) (hr.mono (by decide)) (by rfl) T.g__law_cells T.F__law_cells.kp T.b__law_cells .nil pass0 (pa_cons (pv 0) (pa_cons pe_int pa_nil))))
 (pss_cons (ps_set (i := 2) sc_law.nd rfl (.inl rfl) (pe_call (all T 100).ok__law_schema (hr.mono (by decide)) (by rfl) T.g__law_schema T.F__law_schema.kp T.b__law_schema .nil pass0 (pa_cons (pe_lst (pa_cons pe_str (pa_cons pe_str (pa_cons pe_str pa_nil)))) (pa_cons pe_bl pa_nil))))
 (pss_cons (ps_asg (pe_call (ok__law_pick T) (hr.mono (by decide)) (by rfl) T.g__law_pick T.F__law_pick.kp T.b__law_pick .nil pass0 (pa_cons (pv 1) (pa_cons (pe_call0 (all T 100).ok__law_texts (hr.mono (by decide)) (by rfl) T.g__law_texts T.F__law_texts.kp T.b__law_texts .nil pass0) pa_nil))) (pg_tup rfl (pgs_cons (pg_name (i := 3) sc_law.nd rfl (.inl rfl)) (pgs_cons (pg_name (i := 4) sc_law.nd rfl (.inl rfl)) (pgs_cons (pg_name (i := 5) sc_law.nd rfl (.inl rfl)) pgs_nil)))))
 (pss_cons (ps_set (i := 6) sc_law.nd rfl (.inl rfl) (pe_call (ok__law_draw T) (hr.mono (by decide)) (by rfl) T.g__law_draw T.F__law_draw.kp T.b__law_draw .nil pass0 (pa_cons (pv 1) (pa_cons pe_int pa_nil))))
 (pss_cons (ps_try_as (i := 7) (Wout := fun _ _ _ _ => False) rfl rfl sc_law.nd rfl rfl ⟨rfl, by decide, .inl T.g_Fault⟩ takes0 (fun W pn xe tk _ => pss_one (ps_expr (by exact (pe_callS (all T 100).ok_read_query (hr.mono (by decide)) rfl T.g_read_query T.F_read_query.kp T.b_read_query (fun σ => passAt tk σ) (by exact (pa_cons (pv 2) (pa_cons (pe_op op_add_str (pe_op op_mulS pe_str (pv 6)) (pv 3)) pa_nil)))))))
 (fun a oe cls d pn hz hf => pss_one (ps_ret (by exact (pe_and (pe_callB (call_isF T.ec_Fault T.cs_Fault hz hf) rfl T.b_isinstance (by decide +kernel) (pa_cons (pv 7) (pa_cons (pe_glob (v := .ref A.C_HeapError) rfl T.g_HeapError rfl) pa_nil))) (pe_and (pe_cmpR op_eq (pe_xf T.xf_Fault T.np_Fault hz hf (pv 7)) (pe_op op_add (pv 4) (pv 6)) (nomark _)) (pe_one (pe_cmpR op_eq (pe_xf T.xf_Fault T.nr_Fault hz hf (pv 7)) (pv 5) (nomark _)))))))))
 (pss_one (ps_ret pe_bl))))))), ?_⟩
    refine ⟨_, rfl, a, ns, 3, rfl, hS, hlen, by decide, fun H1 d ms s1 _ h1 hms => ?_⟩
    have hms0 : ms ≠ [] := by intro z; rw [z] at hms; cases hms
    have hv := drw_lt (n := 50) hms0 (by decide)
    have hb := drw_lt (n := 7) (nxt_ne (n := 50) hms0) (by decide)
    refine ⟨(by show 3 ≤ sizeLine; decide), fun p hp => ?_⟩
    obtain ⟨R0, m0, r0⟩ := (rep_nil (S := S A) (β := ⟨0, []⟩) (H := H1) rfl).push (p := p) (co := .lst [.str 390792185213555, .str 104257232114509171, .str 1599362262387]) (o := .lst [V.str "clears", V.str "refuses", V.str "takes"]) hp ⟨_, rfl, .cons (relStr tx1fa9645a77 ox1fa9645a77) (.cons (relStr tx23adbca68e ox23adbca68e) (.cons (relStr txf75cac0211 oxf75cac0211) .nil))⟩ (by decide)
    have hd1 : (upd H1 p (.lst [V.str "clears", V.str "refuses", V.str "takes"])) d = some (.lst (ms.map V.int)) := (upd_ne (ne_of_none h1 hp)).trans h1
    have nd1 : d ∉ [p] := fun m => ne_of_none h1 hp (List.mem_singleton.mp m)
    refine ⟨⟨0, []⟩, [p], h0, [.ref 0, .bl false], _, R0, .cons r0 (.cons rfl .nil), rfl, fulls _ hv, fun sc hc ρ1 H2 sv M1 R1 r1 e1 => ?_⟩
    obtain ⟨hd2, nd2⟩ := M1.2.1 _ _ nd1 hd1
    refine ⟨_, rfl, ⟨0, []⟩, ρ1, hc, [], _, R1, .nil, rfl, e1, fun lc hc2 ρ2 H3 lv M2 R2 r2 e2 => ?_⟩
    obtain ⟨hd3, nd3⟩ := M2.2.1 _ _ nd2 hd2
    obtain ⟨lj, xs, j, t, pl, rs, rfl, g1, g2, g3, g4, g5, g6⟩ := chk1_ok e2
    obtain ⟨la, ho, rfl, ela, eh, vs, rfl, pf⟩ := R2.at r2 g1
    have hl : vs.length = 50 := by rw [← paired_len pf, g2]
    refine ⟨d, la, ms, vs, rfl, hd3, hms0, eh, (fun z => nd3 (by rw [z]; exact List.mem_of_getElem? ela)), (by omega), (by omega), fun v hvv => ?_⟩
    rw [hl] at hvv ⊢
    obtain ⟨v', hv', rv⟩ := Rn.paired_get pf g3
    rw [hvv] at hv'
    cases hv'
    obtain ⟨ja, ho2, rfl, eja, eh2, ws, rfl, pf2⟩ := R2.at rv g4
    cases pf2 with
    | cons q1 t1 =>
    cases t1 with
    | cons q2 t2 =>
    cases t2 with
    | cons q3 t3 =>
    cases t3
    obtain ⟨rfl, ot⟩ := q1
    cases q2
    obtain ⟨rfl, or⟩ := q3
    have jd : ja ≠ d := fun z => nd3 (by rw [← z]; exact List.mem_of_getElem? eja)
    refine ⟨ja, _, rfl, SqT.of ((upd_ne jd).trans eh2), rfl, _, _, rfl, _, _, rfl, _, _, rfl, rfl, ?_⟩
    refine ⟨_, rfl, d, _, 7, rfl, upd_same, nxt_ne hms0, by decide, by decide, ?_⟩
    have R3 : Rep (S A) ⟨0, []⟩ ρ2 hc2 (upd (upd H3 d (.lst ((nxt ms 50).map V.int))) d (.lst ((nxt (nxt ms 50) 7).map V.int))) := rep_off (rep_off R2 nd3) nd3
    generalize upd (upd H3 d (.lst ((nxt ms 50).map V.int))) d (.lst ((nxt (nxt ms 50) 7).map V.int)) = H4 at R3 ⊢
    generalize drw (nxt ms 50) 7 = b at hb ⊢
    obtain ⟨b1, b2, b3⟩ := bks b hb
    have run := g6 b hb
    obtain ⟨c1, c2⟩ := tx_cat b2 ot
    have l1 : (repS " " b).length = b := by rw [← b1, tx_len, b3]
    refine ⟨_, rfl, _, rfl, _, _, rfl, rfl, Int.natCast_nonneg b, (by omega), (by decide +kernel), _, rfl, _, _, rfl, rfl, (by rw [show ((b : Int).toNat) = b from rfl, l1, tx_len]; exact line10 (by omega)), ?_⟩
    refine ⟨⟨0, []⟩, ρ2, hc2, [sc, .str (catK (bk b) t)], _, _, R3, .cons (r1.mv M2) (.cons ⟨by rw [c1, b1] <;> rfl, c2⟩ .nil), rfl, run, (fun _ _ _ _ _ _ _ _ e => by cases e), fun px rx hx ρ5 H5 dd x M5 R5 rp os hd e => ?_⟩
    dsimp only at e
    split at e
    · rename_i z
      split at e
      · rename_i h7
        have h8 := Nat.eq_of_beq_eq_true e
        subst h8
        rw [eqI_ok] at h7
        have h9 := of_decide_eq_true h7
        subst h9
        cases rp
        refine ⟨true, T.em_Fault, fun _ a2 _ => ?_, fun e => nomatch e⟩
        refine ⟨_, rfl, rfl, dd, _, _, _, _, rfl, hd, rfl, (fun u r => r), T.ih_Fault, _, rfl, ?_⟩
        refine iteT ⟨_, rfl, rfl, rfl, dd, _, _, rfl, hd, fF_p _ _, _, rfl, _, rfl, _, _, rfl, rfl, ?_⟩
        refine ⟨rfl, _, rfl, ?_⟩
        rw [decide_eq_true rfl]
        refine iteT ⟨_, rfl, rfl, rfl, dd, _, _, rfl, hd, fF_r _ _, _, rfl, ?_⟩
        refine ⟨rfl, ?_⟩
        rw [decide_eq_true rfl]
        exact q _
      · cases e
    · cases e
end
end
end K68
namespace K68
open PySem PySem.Spec PyProof.Rows L2 TL
set_option autoImplicit false
open Rn
noncomputable section
set_option maxHeartbeats 0 in
theorem mk_txt {w : World} {K : PySem.W.Frag} {h : Heap} {mg : Str → Option Value} (X : K.In h) (G : h.Ns mainGlobals mg) (s : SaysH HD w K) : Txt w K mg (adr K) := by
  have E : exB K = true := s.ex
  have gA : allB (eA K) = true := allB_at E 0 rfl
  have g0 : allB (e0 K) = true := allB_at gA 0 rfl
  have g1 : allB (e1 K) = true := allB_at gA 1 rfl
  have g2 : allB (e2 K) = true := allB_at gA 2 rfl
  have g3 : allB (e3 K) = true := allB_at gA 3 rfl
  have gB : allB (eB K) = true := allB_at E 1 rfl
  have g38 : allB (e38 K) = true := allB_at gB 0 rfl
  have g39 : allB (e39 K) = true := allB_at gB 1 rfl
  have g40 : allB (e40 K) = true := allB_at gB 2 rfl
  have g41 : allB (e41 K) = true := allB_at gB 3 rfl
  have gC : allB (eC K) = true := allB_at E 2 rfl
  have g35 : allB (e35 K) = true := allB_at gC 0 rfl
  have g36 : allB (e36 K) = true := allB_at gC 1 rfl
  have g37 : allB (e37 K) = true := allB_at gC 2 rfl
  have gP : allB (eP K) = true := allB_at E 3 rfl
  have g4 : allB (e4 K) = true := allB_at gP 0 rfl
  have g5 : allB (e5 K) = true := allB_at gP 1 rfl
  have g6 : allB (e6 K) = true := allB_at gP 2 rfl
  have g7 : allB (e7 K) = true := allB_at gP 3 rfl
  have g8 : allB (e8 K) = true := allB_at gP 4 rfl
  have g9 : allB (e9 K) = true := allB_at gP 5 rfl
  have g10 : allB (e10 K) = true := allB_at gP 6 rfl
  have g11 : allB (e11 K) = true := allB_at gP 7 rfl
  have g12 : allB (e12 K) = true := allB_at gP 8 rfl
  have g13 : allB (e13 K) = true := allB_at gP 9 rfl
  have g14 : allB (e14 K) = true := allB_at gP 10 rfl
  have g15 : allB (e15 K) = true := allB_at gP 11 rfl
  have g16 : allB (e16 K) = true := allB_at gP 12 rfl
  have g17 : allB (e17 K) = true := allB_at gP 13 rfl
  have g18 : allB (e18 K) = true := allB_at gP 14 rfl
  have g19 : allB (e19 K) = true := allB_at gP 15 rfl
  have g20 : allB (e20 K) = true := allB_at gP 16 rfl
  have g21 : allB (e21 K) = true := allB_at gP 17 rfl
  have g22 : allB (e22 K) = true := allB_at gP 18 rfl
  have g23 : allB (e23 K) = true := allB_at gP 19 rfl
  have g24 : allB (e24 K) = true := allB_at gP 20 rfl
  have g25 : allB (e25 K) = true := allB_at gP 21 rfl
  have g26 : allB (e26 K) = true := allB_at gP 22 rfl
  have g27 : allB (e27 K) = true := allB_at gP 23 rfl
  have g28 : allB (e28 K) = true := allB_at gP 24 rfl
  have g29 : allB (e29 K) = true := allB_at gP 25 rfl
  have g30 : allB (e30 K) = true := allB_at gP 26 rfl
  have g31 : allB (e31 K) = true := allB_at gP 27 rfl
  have g32 : allB (e32 K) = true := allB_at gP 28 rfl
  have g33 : allB (e33 K) = true := allB_at gP 29 rfl
  have g34 : allB (e34 K) = true := allB_at gP 30 rfl
  have F0 : Fun K "__init__" "Fault.__init__" (inClass (topS 3) 0) 48 (fdOf K 48) := fun_of (fn_at s 0 rfl rfl) (fk_ok (allB_at g38 0 rfl)).1 (fk_ok (allB_at g38 0 rfl)).2.1
  have b0 : Binds K (fdOf K 48) ["self", "place", "reason"] [] := F0.binds (ps := ["self", "place", "reason"]) fun _ _ _ _ _ _ us hl => match us, hl with | [_, _, _], _ => rfl
  have F1 : Fun K "__init__" "Token.__init__" (inClass (topS 14) 0) 67 (fdOf K 67) := fun_of (fn_at s 1 rfl rfl) (fk_ok (allB_at g38 1 rfl)).1 (fk_ok (allB_at g38 1 rfl)).2.1
  have b1 : Binds K (fdOf K 67) ["self", "role", "text", "place"] [] := F1.binds (ps := ["self", "role", "text", "place"]) fun _ _ _ _ _ _ us hl => match us, hl with | [_, _, _, _], _ => rfl
  have F2 : Fun K "__init__" "IntSort.__init__" (inClass (topS 26) 0) 158 (fdOf K 158) := fun_of (fn_at s 2 rfl rfl) (fk_ok (allB_at g38 2 rfl)).1 (fk_ok (allB_at g38 2 rfl)).2.1
  have b2 : Binds K (fdOf K 158) ["self", "low", "high"] [] := F2.binds (ps := ["self", "low", "high"]) fun _ _ _ _ _ _ us hl => match us, hl with | [_, _, _], _ => rfl
  have F3 : FunD K "__init__" "TextSort.__init__" (defArgs (inClass (topS 27) 0)) (defBody (inClass (topS 27) 0)) (defScope (inClass (topS 27) 0)) [V.non] [] 201 (fdOf K 201) := funD_of (by simp) (fn_at s 3 rfl rfl) (allB_at g38 3 rfl) (allB_at g38 4 rfl)
  have b3 : Binds K (fdOf K 201) ["self", "longest", "without"] [] := by
    obtain ⟨ds, h1, h2⟩ := F3.binds1 (ps := ["self", "longest", "without"]) 3 1 (by simp) (by rfl) (fun _ _ _ _ _ _ _ us its h3 h4 => match us, its, h3, h4 with | [_, _, _], [_], _, _ => ⟨_, rfl, rfl⟩)
    cases h1
    exact h2
  have F4 : Fun K "__init__" "RefSort.__init__" (inClass (topS 29) 0) 283 (fdOf K 283) := fun_of (fn_at s 4 rfl rfl) (fk_ok (allB_at g38 6 rfl)).1 (fk_ok (allB_at g38 6 rfl)).2.1
  have b4 : Binds K (fdOf K 283) ["self", "kinds", "rule"] [] := F4.binds (ps := ["self", "kinds", "rule"]) fun _ _ _ _ _ _ us hl => match us, hl with | [_, _, _], _ => rfl
  have F5 : Fun K "__init__" "ListSort.__init__" (inClass (topS 30) 0) 325 (fdOf K 325) := fun_of (fn_at s 5 rfl rfl) (fk_ok (allB_at g38 7 rfl)).1 (fk_ok (allB_at g38 7 rfl)).2.1
  have b5 : Binds K (fdOf K 325) ["self", "kinds"] [] := F5.binds (ps := ["self", "kinds"]) fun _ _ _ _ _ _ us hl => match us, hl with | [_, _], _ => rfl
  have F6 : Fun K "__init__" "SingleTerm.__init__" (inClass (topS 53) 0) 418 (fdOf K 418) := fun_of (fn_at s 6 rfl rfl) (fk_ok (allB_at g38 8 rfl)).1 (fk_ok (allB_at g38 8 rfl)).2.1
  have b6 : Binds K (fdOf K 418) ["self"] [] := F6.binds (ps := ["self"]) fun _ _ _ _ _ _ us hl => match us, hl with | [_], _ => rfl
  have F7 : Fun K "__init__" "NumberTerm.__init__" (inClass (topS 54) 0) 439 (fdOf K 439) := fun_of (fn_at s 7 rfl rfl) (fk_ok (allB_at g38 9 rfl)).1 (fk_ok (allB_at g38 9 rfl)).2.1
  have b7 : Binds K (fdOf K 439) ["self", "amount"] [] := F7.binds (ps := ["self", "amount"]) fun _ _ _ _ _ _ us hl => match us, hl with | [_, _], _ => rfl
  have F8 : Fun K "__init__" "TextTerm.__init__" (inClass (topS 55) 0) 465 (fdOf K 465) := fun_of (fn_at s 8 rfl rfl) (fk_ok (allB_at g38 10 rfl)).1 (fk_ok (allB_at g38 10 rfl)).2.1
  have b8 : Binds K (fdOf K 465) ["self", "text"] [] := F8.binds (ps := ["self", "text"]) fun _ _ _ _ _ _ us hl => match us, hl with | [_, _], _ => rfl
  have F9 : Fun K "__init__" "ParameterTerm.__init__" (inClass (topS 56) 0) 491 (fdOf K 491) := fun_of (fn_at s 9 rfl rfl) (fk_ok (allB_at g38 11 rfl)).1 (fk_ok (allB_at g38 11 rfl)).2.1
  have b9 : Binds K (fdOf K 491) ["self", "name"] [] := F9.binds (ps := ["self", "name"]) fun _ _ _ _ _ _ us hl => match us, hl with | [_, _], _ => rfl
  have F10 : Fun K "__init__" "PathTerm.__init__" (inClass (topS 57) 0) 517 (fdOf K 517) := fun_of (fn_at s 10 rfl rfl) (fk_ok (allB_at g38 12 rfl)).1 (fk_ok (allB_at g38 12 rfl)).2.1
  have b10 : Binds K (fdOf K 517) ["self", "name", "fields"] [] := F10.binds (ps := ["self", "name", "fields"]) fun _ _ _ _ _ _ us hl => match us, hl with | [_, _, _], _ => rfl
  have F11 : Fun K "__init__" "SomeTerm.__init__" (inClass (topS 58) 0) 543 (fdOf K 543) := fun_of (fn_at s 11 rfl rfl) (fk_ok (allB_at g38 13 rfl)).1 (fk_ok (allB_at g38 13 rfl)).2.1
  have b11 : Binds K (fdOf K 543) ["self", "word", "name", "path", "inner"] [] := F11.binds (ps := ["self", "word", "name", "path", "inner"]) fun _ _ _ _ _ _ us hl => match us, hl with | [_, _, _, _, _], _ => rfl
  have F12 : Fun K "__init__" "CountTerm.__init__" (inClass (topS 59) 0) 569 (fdOf K 569) := fun_of (fn_at s 12 rfl rfl) (fk_ok (allB_at g38 14 rfl)).1 (fk_ok (allB_at g38 14 rfl)).2.1
  have b12 : Binds K (fdOf K 569) ["self", "path"] [] := F12.binds (ps := ["self", "path"]) fun _ _ _ _ _ _ us hl => match us, hl with | [_, _], _ => rfl
  have F13 : Fun K "__init__" "GroupTotal.__init__" (inClass (topS 60) 0) 595 (fdOf K 595) := fun_of (fn_at s 13 rfl rfl) (fk_ok (allB_at g38 15 rfl)).1 (fk_ok (allB_at g38 15 rfl)).2.1
  have b13 : Binds K (fdOf K 595) ["self", "word", "path"] [] := F13.binds (ps := ["self", "word", "path"]) fun _ _ _ _ _ _ us hl => match us, hl with | [_, _, _], _ => rfl
  have F14 : Fun K "__init__" "ListTotal.__init__" (inClass (topS 61) 0) 621 (fdOf K 621) := fun_of (fn_at s 14 rfl rfl) (fk_ok (allB_at g38 16 rfl)).1 (fk_ok (allB_at g38 16 rfl)).2.1
  have b14 : Binds K (fdOf K 621) ["self", "word", "name", "path", "inner"] [] := F14.binds (ps := ["self", "word", "name", "path", "inner"]) fun _ _ _ _ _ _ us hl => match us, hl with | [_, _, _, _, _], _ => rfl
  have F15 : Fun K "__init__" "ChainTerm.__init__" (inClass (topS 62) 0) 647 (fdOf K 647) := fun_of (fn_at s 15 rfl rfl) (fk_ok (allB_at g38 17 rfl)).1 (fk_ok (allB_at g38 17 rfl)).2.1
  have b15 : Binds K (fdOf K 647) ["self", "level", "first", "rest"] [] := F15.binds (ps := ["self", "level", "first", "rest"]) fun _ _ _ _ _ _ us hl => match us, hl with | [_, _, _, _], _ => rfl
  have F16 : Fun K "__init__" "CompareTerm.__init__" (inClass (topS 63) 0) 675 (fdOf K 675) := fun_of (fn_at s 16 rfl rfl) (fk_ok (allB_at g38 18 rfl)).1 (fk_ok (allB_at g38 18 rfl)).2.1
  have b16 : Binds K (fdOf K 675) ["self", "sign", "left", "right"] [] := F16.binds (ps := ["self", "sign", "left", "right"]) fun _ _ _ _ _ _ us hl => match us, hl with | [_, _, _, _], _ => rfl
  have F17 : Fun K "__init__" "NullTerm.__init__" (inClass (topS 64) 0) 703 (fdOf K 703) := fun_of (fn_at s 17 rfl rfl) (fk_ok (allB_at g38 19 rfl)).1 (fk_ok (allB_at g38 19 rfl)).2.1
  have b17 : Binds K (fdOf K 703) ["self", "inner", "turned"] [] := F17.binds (ps := ["self", "inner", "turned"]) fun _ _ _ _ _ _ us hl => match us, hl with | [_, _, _], _ => rfl
  have F18 : Fun K "__init__" "AmongTerm.__init__" (inClass (topS 65) 0) 731 (fdOf K 731) := fun_of (fn_at s 18 rfl rfl) (fk_ok (allB_at g38 20 rfl)).1 (fk_ok (allB_at g38 20 rfl)).2.1
  have b18 : Binds K (fdOf K 731) ["self", "inner", "others"] [] := F18.binds (ps := ["self", "inner", "others"]) fun _ _ _ _ _ _ us hl => match us, hl with | [_, _, _], _ => rfl
  have F19 : Fun K "__init__" "NotTerm.__init__" (inClass (topS 66) 0) 757 (fdOf K 757) := fun_of (fn_at s 19 rfl rfl) (fk_ok (allB_at g38 21 rfl)).1 (fk_ok (allB_at g38 21 rfl)).2.1
  have b19 : Binds K (fdOf K 757) ["self", "many", "inner"] [] := F19.binds (ps := ["self", "many", "inner"]) fun _ _ _ _ _ _ us hl => match us, hl with | [_, _, _], _ => rfl
  have F20 : Fun K "__init__" "MinusTerm.__init__" (inClass (topS 67) 0) 785 (fdOf K 785) := fun_of (fn_at s 20 rfl rfl) (fk_ok (allB_at g38 22 rfl)).1 (fk_ok (allB_at g38 22 rfl)).2.1
  have b20 : Binds K (fdOf K 785) ["self", "many", "inner"] [] := F20.binds (ps := ["self", "many", "inner"]) fun _ _ _ _ _ _ us hl => match us, hl with | [_, _, _], _ => rfl
  have F21 : Fun K "__init__" "QueryState.__init__" (inClass (topS 70) 0) 813 (fdOf K 813) := fun_of (fn_at s 21 rfl rfl) (fk_ok (allB_at g38 23 rfl)).1 (fk_ok (allB_at g38 23 rfl)).2.1
  have b21 : Binds K (fdOf K 813) ["self", "schema", "reader"] [] := F21.binds (ps := ["self", "schema", "reader"]) fun _ _ _ _ _ _ us hl => match us, hl with | [_, _, _], _ => rfl
  have F22 : Fun K "enter" "QueryState.enter" (inClass (topS 70) 1) 820 (fdOf K 820) := fun_of (fn_at s 22 rfl rfl) (fk_ok (allB_at g38 24 rfl)).1 (fk_ok (allB_at g38 24 rfl)).2.1
  have b22 : Binds K (fdOf K 820) ["self", "token"] [] := F22.binds (ps := ["self", "token"]) fun _ _ _ _ _ _ us hl => match us, hl with | [_, _], _ => rfl
  have F23 : Fun K "leave" "QueryState.leave" (inClass (topS 70) 2) 827 (fdOf K 827) := fun_of (fn_at s 23 rfl rfl) (fk_ok (allB_at g38 25 rfl)).1 (fk_ok (allB_at g38 25 rfl)).2.1
  have b23 : Binds K (fdOf K 827) ["self"] [] := F23.binds (ps := ["self"]) fun _ _ _ _ _ _ us hl => match us, hl with | [_], _ => rfl
  have F24 : Fun K "small_name" "QueryState.small_name" (inClass (topS 70) 3) 834 (fdOf K 834) := fun_of (fn_at s 24 rfl rfl) (fk_ok (allB_at g38 26 rfl)).1 (fk_ok (allB_at g38 26 rfl)).2.1
  have b24 : Binds K (fdOf K 834) ["self"] [] := F24.binds (ps := ["self"]) fun _ _ _ _ _ _ us hl => match us, hl with | [_], _ => rfl
  have F25 : Fun K "new_name" "QueryState.new_name" (inClass (topS 70) 4) 841 (fdOf K 841) := fun_of (fn_at s 25 rfl rfl) (fk_ok (allB_at g38 27 rfl)).1 (fk_ok (allB_at g38 27 rfl)).2.1
  have b25 : Binds K (fdOf K 841) ["self"] [] := F25.binds (ps := ["self"]) fun _ _ _ _ _ _ us hl => match us, hl with | [_], _ => rfl
  have F26 : Fun K "__init__" "DrawnPath.__init__" (inClass (topS 71) 0) 862 (fdOf K 862) := fun_of (fn_at s 26 rfl rfl) (fk_ok (allB_at g38 28 rfl)).1 (fk_ok (allB_at g38 28 rfl)).2.1
  have b26 : Binds K (fdOf K 862) ["self", "term", "place", "word", "kinds"] [] := F26.binds (ps := ["self", "term", "place", "word", "kinds"]) fun _ _ _ _ _ _ us hl => match us, hl with | [_, _, _, _, _], _ => rfl
  have F27 : Fun K "__init__" "TokenReader.__init__" (inClass (topS 80) 0) 930 (fdOf K 930) := fun_of (fn_at s 27 rfl rfl) (fk_ok (allB_at g38 29 rfl)).1 (fk_ok (allB_at g38 29 rfl)).2.1
  have b27 : Binds K (fdOf K 930) ["self", "row", "reserved"] [] := F27.binds (ps := ["self", "row", "reserved"]) fun _ _ _ _ _ _ us hl => match us, hl with | [_, _, _], _ => rfl
  have F28 : Fun K "here" "TokenReader.here" (inClass (topS 80) 1) 937 (fdOf K 937) := fun_of (fn_at s 28 rfl rfl) (fk_ok (allB_at g38 30 rfl)).1 (fk_ok (allB_at g38 30 rfl)).2.1
  have b28 : Binds K (fdOf K 937) ["self"] [] := F28.binds (ps := ["self"]) fun _ _ _ _ _ _ us hl => match us, hl with | [_], _ => rfl
  have F29 : Fun K "following" "TokenReader.following" (inClass (topS 80) 2) 944 (fdOf K 944) := fun_of (fn_at s 29 rfl rfl) (fk_ok (allB_at g38 31 rfl)).1 (fk_ok (allB_at g38 31 rfl)).2.1
  have b29 : Binds K (fdOf K 944) ["self"] [] := F29.binds (ps := ["self"]) fun _ _ _ _ _ _ us hl => match us, hl with | [_], _ => rfl
  have F30 : Fun K "take" "TokenReader.take" (inClass (topS 80) 3) 951 (fdOf K 951) := fun_of (fn_at s 30 rfl rfl) (fk_ok (allB_at g38 32 rfl)).1 (fk_ok (allB_at g38 32 rfl)).2.1
  have b30 : Binds K (fdOf K 951) ["self"] [] := F30.binds (ps := ["self"]) fun _ _ _ _ _ _ us hl => match us, hl with | [_], _ => rfl
  have F31 : Fun K "at_end" "TokenReader.at_end" (inClass (topS 80) 4) 958 (fdOf K 958) := fun_of (fn_at s 31 rfl rfl) (fk_ok (allB_at g38 33 rfl)).1 (fk_ok (allB_at g38 33 rfl)).2.1
  have b31 : Binds K (fdOf K 958) ["self"] [] := F31.binds (ps := ["self"]) fun _ _ _ _ _ _ us hl => match us, hl with | [_], _ => rfl
  have F32 : Fun K "stands" "TokenReader.stands" (inClass (topS 80) 5) 965 (fdOf K 965) := fun_of (fn_at s 32 rfl rfl) (fk_ok (allB_at g38 34 rfl)).1 (fk_ok (allB_at g38 34 rfl)).2.1
  have b32 : Binds K (fdOf K 965) ["self", "text"] [] := F32.binds (ps := ["self", "text"]) fun _ _ _ _ _ _ us hl => match us, hl with | [_, _], _ => rfl
  have F33 : Fun K "stands_one" "TokenReader.stands_one" (inClass (topS 80) 6) 970 (fdOf K 970) := fun_of (fn_at s 33 rfl rfl) (fk_ok (allB_at g38 35 rfl)).1 (fk_ok (allB_at g38 35 rfl)).2.1
  have b33 : Binds K (fdOf K 970) ["self", "texts"] [] := F33.binds (ps := ["self", "texts"]) fun _ _ _ _ _ _ us hl => match us, hl with | [_, _], _ => rfl
  have F34 : Fun K "passes" "TokenReader.passes" (inClass (topS 80) 7) 977 (fdOf K 977) := fun_of (fn_at s 34 rfl rfl) (fk_ok (allB_at g38 36 rfl)).1 (fk_ok (allB_at g38 36 rfl)).2.1
  have b34 : Binds K (fdOf K 977) ["self", "text"] [] := F34.binds (ps := ["self", "text"]) fun _ _ _ _ _ _ us hl => match us, hl with | [_, _], _ => rfl
  have F35 : Fun K "must" "TokenReader.must" (inClass (topS 80) 8) 984 (fdOf K 984) := fun_of (fn_at s 35 rfl rfl) (fk_ok (allB_at g38 37 rfl)).1 (fk_ok (allB_at g38 37 rfl)).2.1
  have b35 : Binds K (fdOf K 984) ["self", "text"] [] := F35.binds (ps := ["self", "text"]) fun _ _ _ _ _ _ us hl => match us, hl with | [_, _], _ => rfl
  have F36 : Fun K "must_end" "TokenReader.must_end" (inClass (topS 80) 9) 991 (fdOf K 991) := fun_of (fn_at s 36 rfl rfl) (fk_ok (allB_at g38 38 rfl)).1 (fk_ok (allB_at g38 38 rfl)).2.1
  have b36 : Binds K (fdOf K 991) ["self"] [] := F36.binds (ps := ["self"]) fun _ _ _ _ _ _ us hl => match us, hl with | [_], _ => rfl
  have F37 : Fun K "must_role" "TokenReader.must_role" (inClass (topS 80) 10) 998 (fdOf K 998) := fun_of (fn_at s 37 rfl rfl) (fk_ok (allB_at g38 39 rfl)).1 (fk_ok (allB_at g38 39 rfl)).2.1
  have b37 : Binds K (fdOf K 998) ["self", "role", "reason"] [] := F37.binds (ps := ["self", "role", "reason"]) fun _ _ _ _ _ _ us hl => match us, hl with | [_, _, _], _ => rfl
  have F38 : Fun K "number_token" "TokenReader.number_token" (inClass (topS 80) 11) 1005 (fdOf K 1005) := fun_of (fn_at s 38 rfl rfl) (fk_ok (allB_at g39 0 rfl)).1 (fk_ok (allB_at g39 0 rfl)).2.1
  have b38 : Binds K (fdOf K 1005) ["self"] [] := F38.binds (ps := ["self"]) fun _ _ _ _ _ _ us hl => match us, hl with | [_], _ => rfl
  have F39 : Fun K "is_name" "TokenReader.is_name" (inClass (topS 80) 14) 1026 (fdOf K 1026) := fun_of (fn_at s 39 rfl rfl) (fk_ok (allB_at g39 1 rfl)).1 (fk_ok (allB_at g39 1 rfl)).2.1
  have b39 : Binds K (fdOf K 1026) ["self", "token", "capital"] [] := F39.binds (ps := ["self", "token", "capital"]) fun _ _ _ _ _ _ us hl => match us, hl with | [_, _, _], _ => rfl
  have F40 : Fun K "small_name_stands" "TokenReader.small_name_stands" (inClass (topS 80) 15) 1033 (fdOf K 1033) := fun_of (fn_at s 40 rfl rfl) (fk_ok (allB_at g39 2 rfl)).1 (fk_ok (allB_at g39 2 rfl)).2.1
  have b40 : Binds K (fdOf K 1033) ["self"] [] := F40.binds (ps := ["self"]) fun _ _ _ _ _ _ us hl => match us, hl with | [_], _ => rfl
  have F41 : Fun K "kind_name" "TokenReader.kind_name" (inClass (topS 80) 17) 1047 (fdOf K 1047) := fun_of (fn_at s 41 rfl rfl) (fk_ok (allB_at g39 3 rfl)).1 (fk_ok (allB_at g39 3 rfl)).2.1
  have b41 : Binds K (fdOf K 1047) ["self"] [] := F41.binds (ps := ["self"]) fun _ _ _ _ _ _ us hl => match us, hl with | [_], _ => rfl
  have F42 : Fun K "small_name" "TokenReader.small_name" (inClass (topS 80) 18) 1054 (fdOf K 1054) := fun_of (fn_at s 42 rfl rfl) (fk_ok (allB_at g39 4 rfl)).1 (fk_ok (allB_at g39 4 rfl)).2.1
  have b42 : Binds K (fdOf K 1054) ["self", "reason"] [] := F42.binds (ps := ["self", "reason"]) fun _ _ _ _ _ _ us hl => match us, hl with | [_, _], _ => rfl
  have F43 : Fun K "field_name" "TokenReader.field_name" (inClass (topS 80) 19) 1061 (fdOf K 1061) := fun_of (fn_at s 43 rfl rfl) (fk_ok (allB_at g39 5 rfl)).1 (fk_ok (allB_at g39 5 rfl)).2.1
  have b43 : Binds K (fdOf K 1061) ["self"] [] := F43.binds (ps := ["self"]) fun _ _ _ _ _ _ us hl => match us, hl with | [_], _ => rfl
  have F44 : Fun K "__init__" "Drawn.__init__" (inClass (topS 87) 0) 1091 (fdOf K 1091) := fun_of (fn_at s 44 rfl rfl) (fk_ok (allB_at g39 6 rfl)).1 (fk_ok (allB_at g39 6 rfl)).2.1
  have b44 : Binds K (fdOf K 1091) ["self", "term", "word", "parameters"] [] := F44.binds (ps := ["self", "term", "word", "parameters"]) fun _ _ _ _ _ _ us hl => match us, hl with | [_, _, _, _], _ => rfl
  have F45 : Fun K "__init__" "OrderTerm.__init__" (inClass (topS 117) 0) 1304 (fdOf K 1304) := fun_of (fn_at s 45 rfl rfl) (fk_ok (allB_at g39 7 rfl)).1 (fk_ok (allB_at g39 7 rfl)).2.1
  have b45 : Binds K (fdOf K 1304) ["self", "term", "down"] [] := F45.binds (ps := ["self", "term", "down"]) fun _ _ _ _ _ _ us hl => match us, hl with | [_, _, _], _ => rfl
  have F46 : Fun K "__init__" "QueryParts.__init__" (inClass (topS 118) 0) 1332 (fdOf K 1332) := fun_of (fn_at s 46 rfl rfl) (fk_ok (allB_at g39 8 rfl)).1 (fk_ok (allB_at g39 8 rfl)).2.1
  have b46 : Binds K (fdOf K 1332) ["self", "kind", "name"] [] := F46.binds (ps := ["self", "kind", "name"]) fun _ _ _ _ _ _ us hl => match us, hl with | [_, _, _], _ => rfl
  have F47 : Fun K "__init__" "Query.__init__" (inClass (topS 119) 0) 1353 (fdOf K 1353) := fun_of (fn_at s 47 rfl rfl) (fk_ok (allB_at g39 9 rfl)).1 (fk_ok (allB_at g39 9 rfl)).2.1
  have b47 : Binds K (fdOf K 1353) ["self", "parts", "text"] [] := F47.binds (ps := ["self", "parts", "text"]) fun _ _ _ _ _ _ us hl => match us, hl with | [_, _, _], _ => rfl
  have F48 : FunD K "__init__" "Field.__init__" (defArgs (inClass (topS 143) 0)) (defBody (inClass (topS 143) 0)) (defScope (inClass (topS 143) 0)) [V.bl false] [] 1465 (fdOf K 1465) := funD_of (by simp) (fn_at s 48 rfl rfl) (allB_at g39 10 rfl) (allB_at g39 11 rfl)
  have b48 : Binds K (fdOf K 1465) ["self", "name", "shape", "needed"] [] := by
    obtain ⟨ds, h1, h2⟩ := F48.binds1 (ps := ["self", "name", "shape", "needed"]) 4 1 (by simp) (by rfl) (fun _ _ _ _ _ _ _ us its h3 h4 => match us, its, h3, h4 with | [_, _, _, _], [_], _, _ => ⟨_, rfl, rfl⟩)
    cases h1
    exact h2
  have F49 : Fun K "__init__" "Kind.__init__" (inClass (topS 144) 0) 1491 (fdOf K 1491) := fun_of (fn_at s 49 rfl rfl) (fk_ok (allB_at g39 13 rfl)).1 (fk_ok (allB_at g39 13 rfl)).2.1
  have b49 : Binds K (fdOf K 1491) ["self", "name", "fields", "key_rows"] [] := F49.binds (ps := ["self", "name", "fields", "key_rows"]) fun _ _ _ _ _ _ us hl => match us, hl with | [_, _, _, _], _ => rfl
  have F50 : Fun K "field_of" "Kind.field_of" (inClass (topS 144) 1) 1498 (fdOf K 1498) := fun_of (fn_at s 50 rfl rfl) (fk_ok (allB_at g39 14 rfl)).1 (fk_ok (allB_at g39 14 rfl)).2.1
  have b50 : Binds K (fdOf K 1498) ["self", "name"] [] := F50.binds (ps := ["self", "name"]) fun _ _ _ _ _ _ us hl => match us, hl with | [_, _], _ => rfl
  have F51 : Fun K "__init__" "Schema.__init__" (inClass (topS 145) 0) 1529 (fdOf K 1529) := fun_of (fn_at s 51 rfl rfl) (fk_ok (allB_at g39 15 rfl)).1 (fk_ok (allB_at g39 15 rfl)).2.1
  have b51 : Binds K (fdOf K 1529) ["self", "kinds"] [] := F51.binds (ps := ["self", "kinds"]) fun _ _ _ _ _ _ us hl => match us, hl with | [_, _], _ => rfl
  have F52 : Fun K "kind_of" "Schema.kind_of" (inClass (topS 145) 1) 1536 (fdOf K 1536) := fun_of (fn_at s 52 rfl rfl) (fk_ok (allB_at g39 16 rfl)).1 (fk_ok (allB_at g39 16 rfl)).2.1
  have b52 : Binds K (fdOf K 1536) ["self", "name"] [] := F52.binds (ps := ["self", "name"]) fun _ _ _ _ _ _ us hl => match us, hl with | [_, _], _ => rfl
  have F53 : Fun K "field_of" "Schema.field_of" (inClass (topS 145) 2) 1543 (fdOf K 1543) := fun_of (fn_at s 53 rfl rfl) (fk_ok (allB_at g39 17 rfl)).1 (fk_ok (allB_at g39 17 rfl)).2.1
  have b53 : Binds K (fdOf K 1543) ["self", "kind", "name"] [] := F53.binds (ps := ["self", "kind", "name"]) fun _ _ _ _ _ _ us hl => match us, hl with | [_, _, _], _ => rfl
  have F54 : Fun K "tokens" "tokens" (topS 15) 81 (fdOf K 81) := fun_of (fn_at s 54 rfl rfl) (fk_ok (allB_at g39 18 rfl)).1 (fk_ok (allB_at g39 18 rfl)).2.1
  have b54 : Binds K (fdOf K 81) ["text", "signs", "longest"] [] := F54.binds (ps := ["text", "signs", "longest"]) fun _ _ _ _ _ _ us hl => match us, hl with | [_, _, _], _ => rfl
  have F55 : Fun K "behind_blanks" "behind_blanks" (topS 17) 95 (fdOf K 95) := fun_of (fn_at s 55 rfl rfl) (fk_ok (allB_at g39 19 rfl)).1 (fk_ok (allB_at g39 19 rfl)).2.1
  have b55 : Binds K (fdOf K 95) ["text", "at"] [] := F55.binds (ps := ["text", "at"]) fun _ _ _ _ _ _ us hl => match us, hl with | [_, _], _ => rfl
  have F56 : Fun K "token_at" "token_at" (topS 18) 102 (fdOf K 102) := fun_of (fn_at s 56 rfl rfl) (fk_ok (allB_at g39 20 rfl)).1 (fk_ok (allB_at g39 20 rfl)).2.1
  have b56 : Binds K (fdOf K 102) ["text", "at", "signs"] [] := F56.binds (ps := ["text", "at", "signs"]) fun _ _ _ _ _ _ us hl => match us, hl with | [_, _, _], _ => rfl
  have F57 : Fun K "behind_run" "behind_run" (topS 19) 109 (fdOf K 109) := fun_of (fn_at s 57 rfl rfl) (fk_ok (allB_at g39 21 rfl)).1 (fk_ok (allB_at g39 21 rfl)).2.1
  have b57 : Binds K (fdOf K 109) ["text", "at", "allowed"] [] := F57.binds (ps := ["text", "at", "allowed"]) fun _ _ _ _ _ _ us hl => match us, hl with | [_, _, _], _ => rfl
  have F58 : Fun K "word_at" "word_at" (topS 20) 116 (fdOf K 116) := fun_of (fn_at s 58 rfl rfl) (fk_ok (allB_at g39 22 rfl)).1 (fk_ok (allB_at g39 22 rfl)).2.1
  have b58 : Binds K (fdOf K 116) ["text", "at"] [] := F58.binds (ps := ["text", "at"]) fun _ _ _ _ _ _ us hl => match us, hl with | [_, _], _ => rfl
  have F59 : Fun K "number_at" "number_at" (topS 21) 123 (fdOf K 123) := fun_of (fn_at s 59 rfl rfl) (fk_ok (allB_at g39 23 rfl)).1 (fk_ok (allB_at g39 23 rfl)).2.1
  have b59 : Binds K (fdOf K 123) ["text", "at"] [] := F59.binds (ps := ["text", "at"]) fun _ _ _ _ _ _ us hl => match us, hl with | [_, _], _ => rfl
  have F60 : Fun K "quoted_at" "quoted_at" (topS 22) 130 (fdOf K 130) := fun_of (fn_at s 60 rfl rfl) (fk_ok (allB_at g39 24 rfl)).1 (fk_ok (allB_at g39 24 rfl)).2.1
  have b60 : Binds K (fdOf K 130) ["text", "start"] [] := F60.binds (ps := ["text", "start"]) fun _ _ _ _ _ _ us hl => match us, hl with | [_, _], _ => rfl
  have F61 : Fun K "may_stand" "may_stand" (topS 23) 137 (fdOf K 137) := fun_of (fn_at s 61 rfl rfl) (fk_ok (allB_at g39 25 rfl)).1 (fk_ok (allB_at g39 25 rfl)).2.1
  have b61 : Binds K (fdOf K 137) ["character", "escaped"] [] := F61.binds (ps := ["character", "escaped"]) fun _ _ _ _ _ _ us hl => match us, hl with | [_, _], _ => rfl
  have F62 : Fun K "sign_at" "sign_at" (topS 24) 144 (fdOf K 144) := fun_of (fn_at s 62 rfl rfl) (fk_ok (allB_at g39 26 rfl)).1 (fk_ok (allB_at g39 26 rfl)).2.1
  have b62 : Binds K (fdOf K 144) ["text", "at", "signs"] [] := F62.binds (ps := ["text", "at", "signs"]) fun _ _ _ _ _ _ us hl => match us, hl with | [_, _, _], _ => rfl
  have F63 : Fun K "is_reference" "is_reference" (topS 31) 360 (fdOf K 360) := fun_of (fn_at s 63 rfl rfl) (fk_ok (allB_at g39 27 rfl)).1 (fk_ok (allB_at g39 27 rfl)).2.1
  have b63 : Binds K (fdOf K 360) ["shape"] [] := F63.binds (ps := ["shape"]) fun _ _ _ _ _ _ us hl => match us, hl with | [_], _ => rfl
  have F64 : Fun K "sort_of_shape" "sort_of_shape" (topS 40) 385 (fdOf K 385) := fun_of (fn_at s 64 rfl rfl) (fk_ok (allB_at g39 28 rfl)).1 (fk_ok (allB_at g39 28 rfl)).2.1
  have b64 : Binds K (fdOf K 385) ["shape"] [] := F64.binds (ps := ["shape"]) fun _ _ _ _ _ _ us hl => match us, hl with | [_], _ => rfl
  have F65 : Fun K "kinds_of_shapes" "kinds_of_shapes" (topS 41) 392 (fdOf K 392) := fun_of (fn_at s 65 rfl rfl) (fk_ok (allB_at g39 29 rfl)).1 (fk_ok (allB_at g39 29 rfl)).2.1
  have b65 : Binds K (fdOf K 392) ["shapes"] [] := F65.binds (ps := ["shapes"]) fun _ _ _ _ _ _ us hl => match us, hl with | [_], _ => rfl
  have F66 : Fun K "common_sort" "common_sort" (topS 42) 397 (fdOf K 397) := fun_of (fn_at s 66 rfl rfl) (fk_ok (allB_at g39 30 rfl)).1 (fk_ok (allB_at g39 30 rfl)).2.1
  have b66 : Binds K (fdOf K 397) ["sign", "sorts"] [] := F66.binds (ps := ["sign", "sorts"]) fun _ _ _ _ _ _ us hl => match us, hl with | [_, _], _ => rfl
  have F67 : Fun K "read_path" "read_path" (topS 72) 876 (fdOf K 876) := fun_of (fn_at s 67 rfl rfl) (fk_ok (allB_at g39 31 rfl)).1 (fk_ok (allB_at g39 31 rfl)).2.1
  have b67 : Binds K (fdOf K 876) ["state"] [] := F67.binds (ps := ["state"]) fun _ _ _ _ _ _ us hl => match us, hl with | [_], _ => rfl
  have F68 : Fun K "behind_point" "behind_point" (topS 73) 881 (fdOf K 881) := fun_of (fn_at s 68 rfl rfl) (fk_ok (allB_at g39 32 rfl)).1 (fk_ok (allB_at g39 32 rfl)).2.1
  have b68 : Binds K (fdOf K 881) ["schema", "word", "kinds", "field"] [] := F68.binds (ps := ["schema", "word", "kinds", "field"]) fun _ _ _ _ _ _ us hl => match us, hl with | [_, _, _, _], _ => rfl
  have F69 : Fun K "read_plain_path" "read_plain_path" (topS 74) 888 (fdOf K 888) := fun_of (fn_at s 69 rfl rfl) (fk_ok (allB_at g39 33 rfl)).1 (fk_ok (allB_at g39 33 rfl)).2.1
  have b69 : Binds K (fdOf K 888) ["state"] [] := F69.binds (ps := ["state"]) fun _ _ _ _ _ _ us hl => match us, hl with | [_], _ => rfl
  have F70 : Fun K "read_list_path" "read_list_path" (topS 75) 895 (fdOf K 895) := fun_of (fn_at s 70 rfl rfl) (fk_ok (allB_at g39 34 rfl)).1 (fk_ok (allB_at g39 34 rfl)).2.1
  have b70 : Binds K (fdOf K 895) ["state"] [] := F70.binds (ps := ["state"]) fun _ _ _ _ _ _ us hl => match us, hl with | [_], _ => rfl
  have F71 : Fun K "read_total_path" "read_total_path" (topS 76) 902 (fdOf K 902) := fun_of (fn_at s 71 rfl rfl) (fk_ok (allB_at g39 35 rfl)).1 (fk_ok (allB_at g39 35 rfl)).2.1
  have b71 : Binds K (fdOf K 902) ["state"] [] := F71.binds (ps := ["state"]) fun _ _ _ _ _ _ us hl => match us, hl with | [_], _ => rfl
  have F72 : Fun K "refuse_list" "refuse_list" (topS 77) 909 (fdOf K 909) := fun_of (fn_at s 72 rfl rfl) (fk_ok (allB_at g39 36 rfl)).1 (fk_ok (allB_at g39 36 rfl)).2.1
  have b72 : Binds K (fdOf K 909) ["path"] [] := F72.binds (ps := ["path"]) fun _ _ _ _ _ _ us hl => match us, hl with | [_], _ => rfl
  have F73 : Fun K "check_group" "check_group" (topS 78) 916 (fdOf K 916) := fun_of (fn_at s 73 rfl rfl) (fk_ok (allB_at g39 37 rfl)).1 (fk_ok (allB_at g39 37 rfl)).2.1
  have b73 : Binds K (fdOf K 916) ["state", "path"] [] := F73.binds (ps := ["state", "path"]) fun _ _ _ _ _ _ us hl => match us, hl with | [_, _], _ => rfl
  have F74 : Fun K "is_certain" "is_certain" (topS 81) 1075 (fdOf K 1075) := fun_of (fn_at s 74 rfl rfl) (fk_ok (allB_at g39 38 rfl)).1 (fk_ok (allB_at g39 38 rfl)).2.1
  have b74 : Binds K (fdOf K 1075) ["token", "text"] [] := F74.binds (ps := ["token", "text"]) fun _ _ _ _ _ _ us hl => match us, hl with | [_, _], _ => rfl
  have F75 : Fun K "parameters_as" "parameters_as" (topS 88) 1105 (fdOf K 1105) := fun_of (fn_at s 75 rfl rfl) (fk_ok (allB_at g39 39 rfl)).1 (fk_ok (allB_at g39 39 rfl)).2.1
  have b75 : Binds K (fdOf K 1105) ["drawn", "word"] [] := F75.binds (ps := ["drawn", "word"]) fun _ _ _ _ _ _ us hl => match us, hl with | [_, _], _ => rfl
  have F76 : Fun K "merged" "merged" (topS 89) 1112 (fdOf K 1112) := fun_of (fn_at s 76 rfl rfl) (fk_ok (allB_at g40 0 rfl)).1 (fk_ok (allB_at g40 0 rfl)).2.1
  have b76 : Binds K (fdOf K 1112) ["rows", "place"] [] := F76.binds (ps := ["rows", "place"]) fun _ _ _ _ _ _ us hl => match us, hl with | [_, _], _ => rfl
  have F77 : Fun K "joined_parameters" "joined_parameters" (topS 90) 1117 (fdOf K 1117) := fun_of (fn_at s 77 rfl rfl) (fk_ok (allB_at g40 1 rfl)).1 (fk_ok (allB_at g40 1 rfl)).2.1
  have b77 : Binds K (fdOf K 1117) ["sign", "sides"] [] := F77.binds (ps := ["sign", "sides"]) fun _ _ _ _ _ _ us hl => match us, hl with | [_, _], _ => rfl
  have F78 : Fun K "read_either" "read_either" (topS 91) 1124 (fdOf K 1124) := fun_of (fn_at s 78 rfl rfl) (fk_ok (allB_at g40 2 rfl)).1 (fk_ok (allB_at g40 2 rfl)).2.1
  have b78 : Binds K (fdOf K 1124) ["state"] [] := F78.binds (ps := ["state"]) fun _ _ _ _ _ _ us hl => match us, hl with | [_], _ => rfl
  have F79 : Fun K "read_both" "read_both" (topS 92) 1131 (fdOf K 1131) := fun_of (fn_at s 79 rfl rfl) (fk_ok (allB_at g40 3 rfl)).1 (fk_ok (allB_at g40 3 rfl)).2.1
  have b79 : Binds K (fdOf K 1131) ["state"] [] := F79.binds (ps := ["state"]) fun _ _ _ _ _ _ us hl => match us, hl with | [_], _ => rfl
  have F80 : Fun K "read_sum" "read_sum" (topS 93) 1138 (fdOf K 1138) := fun_of (fn_at s 80 rfl rfl) (fk_ok (allB_at g40 4 rfl)).1 (fk_ok (allB_at g40 4 rfl)).2.1
  have b80 : Binds K (fdOf K 1138) ["state"] [] := F80.binds (ps := ["state"]) fun _ _ _ _ _ _ us hl => match us, hl with | [_], _ => rfl
  have F81 : Fun K "read_product" "read_product" (topS 94) 1145 (fdOf K 1145) := fun_of (fn_at s 81 rfl rfl) (fk_ok (allB_at g40 5 rfl)).1 (fk_ok (allB_at g40 5 rfl)).2.1
  have b81 : Binds K (fdOf K 1145) ["state"] [] := F81.binds (ps := ["state"]) fun _ _ _ _ _ _ us hl => match us, hl with | [_], _ => rfl
  have F82 : Fun K "read_chain" "read_chain" (topS 95) 1152 (fdOf K 1152) := fun_of (fn_at s 82 rfl rfl) (fk_ok (allB_at g40 6 rfl)).1 (fk_ok (allB_at g40 6 rfl)).2.1
  have b82 : Binds K (fdOf K 1152) ["state", "level", "signs", "read_side"] [] := F82.binds (ps := ["state", "level", "signs", "read_side"]) fun _ _ _ _ _ _ us hl => match us, hl with | [_, _, _, _], _ => rfl
  have F83 : Fun K "longer_chain" "longer_chain" (topS 96) 1159 (fdOf K 1159) := fun_of (fn_at s 83 rfl rfl) (fk_ok (allB_at g40 7 rfl)).1 (fk_ok (allB_at g40 7 rfl)).2.1
  have b83 : Binds K (fdOf K 1159) ["level", "sign", "left", "right"] [] := F83.binds (ps := ["level", "sign", "left", "right"]) fun _ _ _ _ _ _ us hl => match us, hl with | [_, _, _, _], _ => rfl
  have F84 : Fun K "pass_all" "pass_all" (topS 97) 1166 (fdOf K 1166) := fun_of (fn_at s 84 rfl rfl) (fk_ok (allB_at g40 8 rfl)).1 (fk_ok (allB_at g40 8 rfl)).2.1
  have b84 : Binds K (fdOf K 1166) ["state", "text"] [] := F84.binds (ps := ["state", "text"]) fun _ _ _ _ _ _ us hl => match us, hl with | [_, _], _ => rfl
  have F85 : Fun K "read_turned" "read_turned" (topS 98) 1173 (fdOf K 1173) := fun_of (fn_at s 85 rfl rfl) (fk_ok (allB_at g40 9 rfl)).1 (fk_ok (allB_at g40 9 rfl)).2.1
  have b85 : Binds K (fdOf K 1173) ["state"] [] := F85.binds (ps := ["state"]) fun _ _ _ _ _ _ us hl => match us, hl with | [_], _ => rfl
  have F86 : Fun K "read_test" "read_test" (topS 99) 1180 (fdOf K 1180) := fun_of (fn_at s 86 rfl rfl) (fk_ok (allB_at g40 10 rfl)).1 (fk_ok (allB_at g40 10 rfl)).2.1
  have b86 : Binds K (fdOf K 1180) ["state"] [] := F86.binds (ps := ["state"]) fun _ _ _ _ _ _ us hl => match us, hl with | [_], _ => rfl
  have F87 : Fun K "read_comparison" "read_comparison" (topS 100) 1187 (fdOf K 1187) := fun_of (fn_at s 87 rfl rfl) (fk_ok (allB_at g40 11 rfl)).1 (fk_ok (allB_at g40 11 rfl)).2.1
  have b87 : Binds K (fdOf K 1187) ["state", "left"] [] := F87.binds (ps := ["state", "left"]) fun _ _ _ _ _ _ us hl => match us, hl with | [_, _], _ => rfl
  have F88 : Fun K "read_null" "read_null" (topS 101) 1194 (fdOf K 1194) := fun_of (fn_at s 88 rfl rfl) (fk_ok (allB_at g40 12 rfl)).1 (fk_ok (allB_at g40 12 rfl)).2.1
  have b88 : Binds K (fdOf K 1194) ["state", "left"] [] := F88.binds (ps := ["state", "left"]) fun _ _ _ _ _ _ us hl => match us, hl with | [_, _], _ => rfl
  have F89 : Fun K "read_among" "read_among" (topS 102) 1199 (fdOf K 1199) := fun_of (fn_at s 89 rfl rfl) (fk_ok (allB_at g40 13 rfl)).1 (fk_ok (allB_at g40 13 rfl)).2.1
  have b89 : Binds K (fdOf K 1199) ["state", "left"] [] := F89.binds (ps := ["state", "left"]) fun _ _ _ _ _ _ us hl => match us, hl with | [_, _], _ => rfl
  have F90 : Fun K "read_signed" "read_signed" (topS 103) 1206 (fdOf K 1206) := fun_of (fn_at s 90 rfl rfl) (fk_ok (allB_at g40 14 rfl)).1 (fk_ok (allB_at g40 14 rfl)).2.1
  have b90 : Binds K (fdOf K 1206) ["state"] [] := F90.binds (ps := ["state"]) fun _ _ _ _ _ _ us hl => match us, hl with | [_], _ => rfl
  have F91 : Fun K "read_single" "read_single" (topS 104) 1213 (fdOf K 1213) := fun_of (fn_at s 91 rfl rfl) (fk_ok (allB_at g40 15 rfl)).1 (fk_ok (allB_at g40 15 rfl)).2.1
  have b91 : Binds K (fdOf K 1213) ["state"] [] := F91.binds (ps := ["state"]) fun _ _ _ _ _ _ us hl => match us, hl with | [_], _ => rfl
  have F92 : Fun K "read_number" "read_number" (topS 105) 1220 (fdOf K 1220) := fun_of (fn_at s 92 rfl rfl) (fk_ok (allB_at g40 16 rfl)).1 (fk_ok (allB_at g40 16 rfl)).2.1
  have b92 : Binds K (fdOf K 1220) ["state"] [] := F92.binds (ps := ["state"]) fun _ _ _ _ _ _ us hl => match us, hl with | [_], _ => rfl
  have F93 : Fun K "read_parameter" "read_parameter" (topS 106) 1227 (fdOf K 1227) := fun_of (fn_at s 93 rfl rfl) (fk_ok (allB_at g40 17 rfl)).1 (fk_ok (allB_at g40 17 rfl)).2.1
  have b93 : Binds K (fdOf K 1227) ["state"] [] := F93.binds (ps := ["state"]) fun _ _ _ _ _ _ us hl => match us, hl with | [_], _ => rfl
  have F94 : Fun K "read_enclosed" "read_enclosed" (topS 107) 1234 (fdOf K 1234) := fun_of (fn_at s 94 rfl rfl) (fk_ok (allB_at g40 18 rfl)).1 (fk_ok (allB_at g40 18 rfl)).2.1
  have b94 : Binds K (fdOf K 1234) ["state"] [] := F94.binds (ps := ["state"]) fun _ _ _ _ _ _ us hl => match us, hl with | [_], _ => rfl
  have F95 : Fun K "read_over" "read_over" (topS 108) 1241 (fdOf K 1241) := fun_of (fn_at s 95 rfl rfl) (fk_ok (allB_at g40 19 rfl)).1 (fk_ok (allB_at g40 19 rfl)).2.1
  have b95 : Binds K (fdOf K 1241) ["state", "name", "path"] [] := F95.binds (ps := ["state", "name", "path"]) fun _ _ _ _ _ _ us hl => match us, hl with | [_, _, _], _ => rfl
  have F96 : Fun K "read_some" "read_some" (topS 109) 1248 (fdOf K 1248) := fun_of (fn_at s 96 rfl rfl) (fk_ok (allB_at g40 20 rfl)).1 (fk_ok (allB_at g40 20 rfl)).2.1
  have b96 : Binds K (fdOf K 1248) ["state"] [] := F96.binds (ps := ["state"]) fun _ _ _ _ _ _ us hl => match us, hl with | [_], _ => rfl
  have F97 : Fun K "read_count" "read_count" (topS 110) 1255 (fdOf K 1255) := fun_of (fn_at s 97 rfl rfl) (fk_ok (allB_at g40 21 rfl)).1 (fk_ok (allB_at g40 21 rfl)).2.1
  have b97 : Binds K (fdOf K 1255) ["state"] [] := F97.binds (ps := ["state"]) fun _ _ _ _ _ _ us hl => match us, hl with | [_], _ => rfl
  have F98 : Fun K "refuse_without_group" "refuse_without_group" (topS 111) 1262 (fdOf K 1262) := fun_of (fn_at s 98 rfl rfl) (fk_ok (allB_at g40 22 rfl)).1 (fk_ok (allB_at g40 22 rfl)).2.1
  have b98 : Binds K (fdOf K 1262) ["state", "word"] [] := F98.binds (ps := ["state", "word"]) fun _ _ _ _ _ _ us hl => match us, hl with | [_, _], _ => rfl
  have F99 : Fun K "read_total" "read_total" (topS 112) 1269 (fdOf K 1269) := fun_of (fn_at s 99 rfl rfl) (fk_ok (allB_at g40 23 rfl)).1 (fk_ok (allB_at g40 23 rfl)).2.1
  have b99 : Binds K (fdOf K 1269) ["state"] [] := F99.binds (ps := ["state"]) fun _ _ _ _ _ _ us hl => match us, hl with | [_], _ => rfl
  have F100 : Fun K "read_list_total" "read_list_total" (topS 113) 1276 (fdOf K 1276) := fun_of (fn_at s 100 rfl rfl) (fk_ok (allB_at g40 24 rfl)).1 (fk_ok (allB_at g40 24 rfl)).2.1
  have b100 : Binds K (fdOf K 1276) ["state", "word"] [] := F100.binds (ps := ["state", "word"]) fun _ _ _ _ _ _ us hl => match us, hl with | [_, _], _ => rfl
  have F101 : Fun K "read_group_total" "read_group_total" (topS 114) 1283 (fdOf K 1283) := fun_of (fn_at s 101 rfl rfl) (fk_ok (allB_at g40 25 rfl)).1 (fk_ok (allB_at g40 25 rfl)).2.1
  have b101 : Binds K (fdOf K 1283) ["state", "word"] [] := F101.binds (ps := ["state", "word"]) fun _ _ _ _ _ _ us hl => match us, hl with | [_, _], _ => rfl
  have F102 : Fun K "check_total" "check_total" (topS 115) 1290 (fdOf K 1290) := fun_of (fn_at s 102 rfl rfl) (fk_ok (allB_at g40 26 rfl)).1 (fk_ok (allB_at g40 26 rfl)).2.1
  have b102 : Binds K (fdOf K 1290) ["word", "sort"] [] := F102.binds (ps := ["word", "sort"]) fun _ _ _ _ _ _ us hl => match us, hl with | [_, _], _ => rfl
  have F103 : Fun K "read_query" "read_query" (topS 130) 1381 (fdOf K 1381) := fun_of (fn_at s 103 rfl rfl) (fk_ok (allB_at g40 27 rfl)).1 (fk_ok (allB_at g40 27 rfl)).2.1
  have b103 : Binds K (fdOf K 1381) ["schema", "text"] [] := F103.binds (ps := ["schema", "text"]) fun _ _ _ _ _ _ us hl => match us, hl with | [_, _], _ => rfl
  have F104 : Fun K "read_from" "read_from" (topS 131) 1388 (fdOf K 1388) := fun_of (fn_at s 104 rfl rfl) (fk_ok (allB_at g40 28 rfl)).1 (fk_ok (allB_at g40 28 rfl)).2.1
  have b104 : Binds K (fdOf K 1388) ["state"] [] := F104.binds (ps := ["state"]) fun _ _ _ _ _ _ us hl => match us, hl with | [_], _ => rfl
  have F105 : Fun K "read_where" "read_where" (topS 132) 1395 (fdOf K 1395) := fun_of (fn_at s 105 rfl rfl) (fk_ok (allB_at g40 29 rfl)).1 (fk_ok (allB_at g40 29 rfl)).2.1
  have b105 : Binds K (fdOf K 1395) ["state", "parts"] [] := F105.binds (ps := ["state", "parts"]) fun _ _ _ _ _ _ us hl => match us, hl with | [_, _], _ => rfl
  have F106 : Fun K "read_group" "read_group" (topS 133) 1400 (fdOf K 1400) := fun_of (fn_at s 106 rfl rfl) (fk_ok (allB_at g40 30 rfl)).1 (fk_ok (allB_at g40 30 rfl)).2.1
  have b106 : Binds K (fdOf K 1400) ["state", "parts"] [] := F106.binds (ps := ["state", "parts"]) fun _ _ _ _ _ _ us hl => match us, hl with | [_, _], _ => rfl
  have F107 : Fun K "read_group_path" "read_group_path" (topS 134) 1407 (fdOf K 1407) := fun_of (fn_at s 107 rfl rfl) (fk_ok (allB_at g40 31 rfl)).1 (fk_ok (allB_at g40 31 rfl)).2.1
  have b107 : Binds K (fdOf K 1407) ["state"] [] := F107.binds (ps := ["state"]) fun _ _ _ _ _ _ us hl => match us, hl with | [_], _ => rfl
  have F108 : Fun K "read_several" "read_several" (topS 135) 1414 (fdOf K 1414) := fun_of (fn_at s 108 rfl rfl) (fk_ok (allB_at g40 32 rfl)).1 (fk_ok (allB_at g40 32 rfl)).2.1
  have b108 : Binds K (fdOf K 1414) ["state", "most", "read_one"] [] := F108.binds (ps := ["state", "most", "read_one"]) fun _ _ _ _ _ _ us hl => match us, hl with | [_, _, _], _ => rfl
  have F109 : Fun K "read_told" "read_told" (topS 136) 1421 (fdOf K 1421) := fun_of (fn_at s 109 rfl rfl) (fk_ok (allB_at g40 33 rfl)).1 (fk_ok (allB_at g40 33 rfl)).2.1
  have b109 : Binds K (fdOf K 1421) ["state"] [] := F109.binds (ps := ["state"]) fun _ _ _ _ _ _ us hl => match us, hl with | [_], _ => rfl
  have F110 : Fun K "read_order_term" "read_order_term" (topS 137) 1428 (fdOf K 1428) := fun_of (fn_at s 110 rfl rfl) (fk_ok (allB_at g40 34 rfl)).1 (fk_ok (allB_at g40 34 rfl)).2.1
  have b110 : Binds K (fdOf K 1428) ["state"] [] := F110.binds (ps := ["state"]) fun _ _ _ _ _ _ us hl => match us, hl with | [_], _ => rfl
  have F111 : Fun K "read_order" "read_order" (topS 138) 1433 (fdOf K 1433) := fun_of (fn_at s 111 rfl rfl) (fk_ok (allB_at g40 35 rfl)).1 (fk_ok (allB_at g40 35 rfl)).2.1
  have b111 : Binds K (fdOf K 1433) ["state", "parts"] [] := F111.binds (ps := ["state", "parts"]) fun _ _ _ _ _ _ us hl => match us, hl with | [_, _], _ => rfl
  have F112 : Fun K "read_give" "read_give" (topS 139) 1438 (fdOf K 1438) := fun_of (fn_at s 112 rfl rfl) (fk_ok (allB_at g40 36 rfl)).1 (fk_ok (allB_at g40 36 rfl)).2.1
  have b112 : Binds K (fdOf K 1438) ["state", "parts"] [] := F112.binds (ps := ["state", "parts"]) fun _ _ _ _ _ _ us hl => match us, hl with | [_, _], _ => rfl
  have F113 : Fun K "read_counts" "read_counts" (topS 140) 1443 (fdOf K 1443) := fun_of (fn_at s 113 rfl rfl) (fk_ok (allB_at g40 37 rfl)).1 (fk_ok (allB_at g40 37 rfl)).2.1
  have b113 : Binds K (fdOf K 1443) ["state", "parts"] [] := F113.binds (ps := ["state", "parts"]) fun _ _ _ _ _ _ us hl => match us, hl with | [_, _], _ => rfl
  have F114 : Fun K "read_bound" "read_bound" (topS 141) 1450 (fdOf K 1450) := fun_of (fn_at s 114 rfl rfl) (fk_ok (allB_at g40 38 rfl)).1 (fk_ok (allB_at g40 38 rfl)).2.1
  have b114 : Binds K (fdOf K 1450) ["state"] [] := F114.binds (ps := ["state"]) fun _ _ _ _ _ _ us hl => match us, hl with | [_], _ => rfl
  have F115 : Fun K "_law_schema" "_law_schema" (topS 150) 1588 (fdOf K 1588) := fun_of (fn_at s 115 rfl rfl) (fk_ok (allB_at g40 39 rfl)).1 (fk_ok (allB_at g40 39 rfl)).2.1
  have b115 : Binds K (fdOf K 1588) ["rules", "needed"] [] := F115.binds (ps := ["rules", "needed"]) fun _ _ _ _ _ _ us hl => match us, hl with | [_, _], _ => rfl
  have F116 : Fun K "_law_texts" "_law_texts" (topS 151) 1595 (fdOf K 1595) := fun_of (fn_at s 116 rfl rfl) (fk_ok (allB_at g41 0 rfl)).1 (fk_ok (allB_at g41 0 rfl)).2.1
  have b116 : Binds K (fdOf K 1595) [] [] := F116.binds (ps := []) fun _ _ _ _ _ _ us hl => match us, hl with | [], _ => rfl
  have F117 : Fun K "law" "law" (topS 152) 1602 (fdOf K 1602) := fun_of (fn_at s 117 rfl rfl) (fk_ok (allB_at g41 1 rfl)).1 (fk_ok (allB_at g41 1 rfl)).2.1
  have b117 : Binds K (fdOf K 1602) ["script"] [] := F117.binds (ps := ["script"]) fun _ _ _ _ _ _ us hl => match us, hl with | [_], _ => rfl
  have F118 : Fun K "_law_cells" "_law_cells" (topS 147) 1567 (fdOf K 1567) := fun_of (fn_at s 118 rfl rfl) (fk_ok (allB_at g41 2 rfl)).1 (fk_ok (allB_at g41 2 rfl)).2.1
  have b118 : Binds K (fdOf K 1567) ["script", "count"] [] := F118.binds (ps := ["script", "count"]) fun _ _ _ _ _ _ us hl => match us, hl with | [_, _], _ => rfl
  have F119 : Fun K "_law_draw" "_law_draw" (topS 148) 1574 (fdOf K 1574) := fun_of (fn_at s 119 rfl rfl) (fk_ok (allB_at g41 3 rfl)).1 (fk_ok (allB_at g41 3 rfl)).2.1
  have b119 : Binds K (fdOf K 1574) ["draws", "bound"] [] := F119.binds (ps := ["draws", "bound"]) fun _ _ _ _ _ _ us hl => match us, hl with | [_, _], _ => rfl
  have F120 : Fun K "_law_pick" "_law_pick" (topS 149) 1581 (fdOf K 1581) := fun_of (fn_at s 120 rfl rfl) (fk_ok (allB_at g41 4 rfl)).1 (fk_ok (allB_at g41 4 rfl)).2.1
  have b120 : Binds K (fdOf K 1581) ["draws", "row"] [] := F120.binds (ps := ["draws", "row"]) fun _ _ _ _ _ _ us hl => match us, hl with | [_, _], _ => rfl
  exact {
    b_any := PySem.W.mg_none_of X G (eqN_ok (allB_at g0 0 rfl)),
    b_int := PySem.W.mg_none_of X G (eqN_ok (allB_at g0 1 rfl)),
    b_isinstance := PySem.W.mg_none_of X G (eqN_ok (allB_at g0 2 rfl)),
    b_len := PySem.W.mg_none_of X G (eqN_ok (allB_at g0 3 rfl)),
    b_list := PySem.W.mg_none_of X G (eqN_ok (allB_at g0 4 rfl)),
    b_ord := PySem.W.mg_none_of X G (eqN_ok (allB_at g0 5 rfl)),
    b_range := PySem.W.mg_none_of X G (eqN_ok (allB_at g0 6 rfl)),
    g_CAPITALS := (strAt_ok (allB_at g0 7 rfl)).imp fun t h => PySem.W.mg_of X G h,
    g_LETTERS := (strAt_ok (allB_at g0 8 rfl)).imp fun t h => PySem.W.mg_of X G h,
    g_DIGITS := (strAt_ok (allB_at g0 9 rfl)).imp fun t h => PySem.W.mg_of X G h,
    g_WORD_SIGNS := (strAt_ok (allB_at g0 10 rfl)).imp fun t h => PySem.W.mg_of X G h,
    g_QUOTE := (strAt_ok (allB_at g0 11 rfl)).imp fun t h => PySem.W.mg_of X G h,
    g_BACKSLASH := (strAt_ok (allB_at g0 12 rfl)).imp fun t h => PySem.W.mg_of X G h,
    g_PERCENT_CODE := (intAt_ok (allB_at g0 13 rfl)).imp fun t h => PySem.W.mg_of X G h,
    g_LONGEST_WORD := (intAt_ok (allB_at g0 14 rfl)).imp fun t h => PySem.W.mg_of X G h,
    g_LONGEST_NUMBER := (intAt_ok (allB_at g0 15 rfl)).imp fun t h => PySem.W.mg_of X G h,
    g_INTEGER := (strAt_ok (allB_at g0 16 rfl)).imp fun t h => PySem.W.mg_of X G h,
    g_TEXT := (strAt_ok (allB_at g0 17 rfl)).imp fun t h => PySem.W.mg_of X G h,
    g_TRUTH := (strAt_ok (allB_at g0 18 rfl)).imp fun t h => PySem.W.mg_of X G h,
    g_OBJECT := (strAt_ok (allB_at g0 19 rfl)).imp fun t h => PySem.W.mg_of X G h,
    g_LIST := (strAt_ok (allB_at g0 20 rfl)).imp fun t h => PySem.W.mg_of X G h,
    g_PARAMETER := (strAt_ok (allB_at g0 21 rfl)).imp fun t h => PySem.W.mg_of X G h,
    g_OR_LEVEL := (intAt_ok (allB_at g0 22 rfl)).imp fun t h => PySem.W.mg_of X G h,
    g_AND_LEVEL := (intAt_ok (allB_at g0 23 rfl)).imp fun t h => PySem.W.mg_of X G h,
    g_NOT_LEVEL := (intAt_ok (allB_at g0 24 rfl)).imp fun t h => PySem.W.mg_of X G h,
    g_TEST_LEVEL := (intAt_ok (allB_at g0 25 rfl)).imp fun t h => PySem.W.mg_of X G h,
    g_SUM_LEVEL := (intAt_ok (allB_at g0 26 rfl)).imp fun t h => PySem.W.mg_of X G h,
    g_PRODUCT_LEVEL := (intAt_ok (allB_at g0 27 rfl)).imp fun t h => PySem.W.mg_of X G h,
    g_MINUS_LEVEL := (intAt_ok (allB_at g0 28 rfl)).imp fun t h => PySem.W.mg_of X G h,
    g_SINGLE_LEVEL := (intAt_ok (allB_at g0 29 rfl)).imp fun t h => PySem.W.mg_of X G h,
    g_DEEPEST := (intAt_ok (allB_at g0 30 rfl)).imp fun t h => PySem.W.mg_of X G h,
    g_LARGEST := (intAt_ok (allB_at g0 31 rfl)).imp fun t h => PySem.W.mg_of X G h,
    g_DIFFER := (strAt_ok (allB_at g0 32 rfl)).imp fun t h => PySem.W.mg_of X G h,
    g_LONGEST_QUERY := (intAt_ok (allB_at g0 33 rfl)).imp fun t h => PySem.W.mg_of X G h,
    g_MOST_GIVEN := (intAt_ok (allB_at g0 34 rfl)).imp fun t h => PySem.W.mg_of X G h,
    g_MOST_ORDERED := (intAt_ok (allB_at g0 35 rfl)).imp fun t h => PySem.W.mg_of X G h,
    g_MOST_GROUPED := (intAt_ok (allB_at g0 36 rfl)).imp fun t h => PySem.W.mg_of X G h,
    g_HeapError := PySem.W.mg_of X G (eqR_ok (allB_at g0 37 rfl)),
    g_Fault := PySem.W.mg_of X G (eqR_ok (allB_at g0 38 rfl)),
    g_Token := PySem.W.mg_of X G (eqR_ok (allB_at g0 39 rfl)),
    cl_Token := ⟨(allB_at g4 0 rfl), (allB_at g4 1 rfl), (allB_at g4 2 rfl), eqF_ok (allB_at g4 3 rfl)⟩,
    mk_Token := ⟨(allB_at g4 4 rfl), eqR_ok (allB_at g4 9 rfl), (fk_ok (allB_at g38 1 rfl)).2.2, (allB_at g4 5 rfl)⟩,
    na_Token_role := eqN_ok (allB_at g4 6 rfl),
    na_Token_text := eqN_ok (allB_at g4 7 rfl),
    na_Token_place := eqN_ok (allB_at g4 8 rfl),
    g_IntSort := PySem.W.mg_of X G (eqR_ok (allB_at g1 0 rfl)),
    cl_IntSort := ⟨(allB_at g5 0 rfl), (allB_at g5 1 rfl), (allB_at g5 2 rfl), eqF_ok (allB_at g5 3 rfl)⟩,
    mk_IntSort := ⟨(allB_at g5 4 rfl), eqR_ok (allB_at g5 8 rfl), (fk_ok (allB_at g38 2 rfl)).2.2, (allB_at g5 5 rfl)⟩,
    na_IntSort_low := eqN_ok (allB_at g5 6 rfl),
    na_IntSort_high := eqN_ok (allB_at g5 7 rfl),
    ii_IntSort := fun H a dx fs e => .base (.ins e ⟨(allB_at g5 0 rfl), (allB_at g5 1 rfl), (allB_at g5 2 rfl), eqF_ok (allB_at g5 3 rfl)⟩ (eqF_ok (allB_at g5 9 rfl)) (eqF_ok (allB_at g35 0 rfl)) (eqB_ok (allB_at g35 1 rfl)) (eqB_ok (allB_at g5 10 rfl))),
    g_TextSort := PySem.W.mg_of X G (eqR_ok (allB_at g1 1 rfl)),
    cl_TextSort := ⟨(allB_at g6 0 rfl), (allB_at g6 1 rfl), (allB_at g6 2 rfl), eqF_ok (allB_at g6 3 rfl)⟩,
    mk_TextSort := ⟨(allB_at g6 4 rfl), eqR_ok (allB_at g6 8 rfl), (allB_at g38 5 rfl), (allB_at g6 5 rfl)⟩,
    na_TextSort_longest := eqN_ok (allB_at g6 6 rfl),
    na_TextSort_without := eqN_ok (allB_at g6 7 rfl),
    ii_TextSort := fun H a dx fs e => .base (.ins e ⟨(allB_at g6 0 rfl), (allB_at g6 1 rfl), (allB_at g6 2 rfl), eqF_ok (allB_at g6 3 rfl)⟩ (eqF_ok (allB_at g6 9 rfl)) (eqF_ok (allB_at g35 0 rfl)) (eqB_ok (allB_at g35 1 rfl)) (eqB_ok (allB_at g6 10 rfl))),
    g_ChoiceSort := PySem.W.mg_of X G (eqR_ok (allB_at g1 2 rfl)),
    cl_ChoiceSort := ⟨(allB_at g7 0 rfl), (allB_at g7 1 rfl), (allB_at g7 2 rfl), eqF_ok (allB_at g7 3 rfl)⟩,
    na_ChoiceSort_choices := eqN_ok (allB_at g7 6 rfl),
    ii_ChoiceSort := fun H a dx fs e => .base (.ins e ⟨(allB_at g7 0 rfl), (allB_at g7 1 rfl), (allB_at g7 2 rfl), eqF_ok (allB_at g7 3 rfl)⟩ (eqF_ok (allB_at g7 7 rfl)) (eqF_ok (allB_at g35 0 rfl)) (eqB_ok (allB_at g35 1 rfl)) (eqB_ok (allB_at g7 8 rfl))),
    g_RefSort := PySem.W.mg_of X G (eqR_ok (allB_at g1 3 rfl)),
    cl_RefSort := ⟨(allB_at g8 0 rfl), (allB_at g8 1 rfl), (allB_at g8 2 rfl), eqF_ok (allB_at g8 3 rfl)⟩,
    mk_RefSort := ⟨(allB_at g8 4 rfl), eqR_ok (allB_at g8 8 rfl), (fk_ok (allB_at g38 6 rfl)).2.2, (allB_at g8 5 rfl)⟩,
    na_RefSort_kinds := eqN_ok (allB_at g8 6 rfl),
    na_RefSort_rule := eqN_ok (allB_at g8 7 rfl),
    ii_RefSort := fun H a dx fs e => .base (.ins e ⟨(allB_at g8 0 rfl), (allB_at g8 1 rfl), (allB_at g8 2 rfl), eqF_ok (allB_at g8 3 rfl)⟩ (eqF_ok (allB_at g8 9 rfl)) (eqF_ok (allB_at g35 0 rfl)) (eqB_ok (allB_at g35 1 rfl)) (eqB_ok (allB_at g8 10 rfl))),
    g_ListSort := PySem.W.mg_of X G (eqR_ok (allB_at g1 4 rfl)),
    cl_ListSort := ⟨(allB_at g9 0 rfl), (allB_at g9 1 rfl), (allB_at g9 2 rfl), eqF_ok (allB_at g9 3 rfl)⟩,
    mk_ListSort := ⟨(allB_at g9 4 rfl), eqR_ok (allB_at g9 7 rfl), (fk_ok (allB_at g38 7 rfl)).2.2, (allB_at g9 5 rfl)⟩,
    na_ListSort_kinds := eqN_ok (allB_at g9 6 rfl),
    ii_ListSort := fun H a dx fs e => .base (.ins e ⟨(allB_at g9 0 rfl), (allB_at g9 1 rfl), (allB_at g9 2 rfl), eqF_ok (allB_at g9 3 rfl)⟩ (eqF_ok (allB_at g9 8 rfl)) (eqF_ok (allB_at g35 0 rfl)) (eqB_ok (allB_at g35 1 rfl)) (eqB_ok (allB_at g9 9 rfl))),
    g_SingleTerm := PySem.W.mg_of X G (eqR_ok (allB_at g1 5 rfl)),
    cl_SingleTerm := ⟨(allB_at g10 0 rfl), (allB_at g10 1 rfl), (allB_at g10 2 rfl), eqF_ok (allB_at g10 3 rfl)⟩,
    mk_SingleTerm := ⟨(allB_at g10 4 rfl), eqR_ok (allB_at g10 7 rfl), (fk_ok (allB_at g38 8 rfl)).2.2, (allB_at g10 5 rfl)⟩,
    na_SingleTerm_level := eqN_ok (allB_at g10 6 rfl),
    g_NumberTerm := PySem.W.mg_of X G (eqR_ok (allB_at g1 6 rfl)),
    cl_NumberTerm := ⟨(allB_at g11 0 rfl), (allB_at g11 1 rfl), (allB_at g11 2 rfl), eqF_ok (allB_at g11 3 rfl)⟩,
    mk_NumberTerm := ⟨(allB_at g11 4 rfl), eqR_ok (allB_at g11 8 rfl), (fk_ok (allB_at g38 9 rfl)).2.2, (allB_at g11 5 rfl)⟩,
    na_NumberTerm_level := eqN_ok (allB_at g11 6 rfl),
    na_NumberTerm_amount := eqN_ok (allB_at g11 7 rfl),
    ii_NumberTerm := fun H a dx fs e => .base (.ins e ⟨(allB_at g11 0 rfl), (allB_at g11 1 rfl), (allB_at g11 2 rfl), eqF_ok (allB_at g11 3 rfl)⟩ (eqF_ok (allB_at g11 9 rfl)) (eqF_ok (allB_at g35 0 rfl)) (eqB_ok (allB_at g35 1 rfl)) (eqB_ok (allB_at g11 10 rfl))),
    g_TextTerm := PySem.W.mg_of X G (eqR_ok (allB_at g1 7 rfl)),
    cl_TextTerm := ⟨(allB_at g12 0 rfl), (allB_at g12 1 rfl), (allB_at g12 2 rfl), eqF_ok (allB_at g12 3 rfl)⟩,
    mk_TextTerm := ⟨(allB_at g12 4 rfl), eqR_ok (allB_at g12 8 rfl), (fk_ok (allB_at g38 10 rfl)).2.2, (allB_at g12 5 rfl)⟩,
    na_TextTerm_level := eqN_ok (allB_at g12 6 rfl),
    na_TextTerm_text := eqN_ok (allB_at g12 7 rfl),
    ii_TextTerm := fun H a dx fs e => .base (.ins e ⟨(allB_at g12 0 rfl), (allB_at g12 1 rfl), (allB_at g12 2 rfl), eqF_ok (allB_at g12 3 rfl)⟩ (eqF_ok (allB_at g12 9 rfl)) (eqF_ok (allB_at g35 0 rfl)) (eqB_ok (allB_at g35 1 rfl)) (eqB_ok (allB_at g12 10 rfl))),
    g_ParameterTerm := PySem.W.mg_of X G (eqR_ok (allB_at g1 8 rfl)),
    cl_ParameterTerm := ⟨(allB_at g13 0 rfl), (allB_at g13 1 rfl), (allB_at g13 2 rfl), eqF_ok (allB_at g13 3 rfl)⟩,
    mk_ParameterTerm := ⟨(allB_at g13 4 rfl), eqR_ok (allB_at g13 8 rfl), (fk_ok (allB_at g38 11 rfl)).2.2, (allB_at g13 5 rfl)⟩,
    na_ParameterTerm_level := eqN_ok (allB_at g13 6 rfl),
    na_ParameterTerm_name := eqN_ok (allB_at g13 7 rfl),
    ii_ParameterTerm := fun H a dx fs e => .base (.ins e ⟨(allB_at g13 0 rfl), (allB_at g13 1 rfl), (allB_at g13 2 rfl), eqF_ok (allB_at g13 3 rfl)⟩ (eqF_ok (allB_at g13 9 rfl)) (eqF_ok (allB_at g35 0 rfl)) (eqB_ok (allB_at g35 1 rfl)) (eqB_ok (allB_at g13 10 rfl))),
    g_PathTerm := PySem.W.mg_of X G (eqR_ok (allB_at g1 9 rfl)),
    cl_PathTerm := ⟨(allB_at g14 0 rfl), (allB_at g14 1 rfl), (allB_at g14 2 rfl), eqF_ok (allB_at g14 3 rfl)⟩,
    mk_PathTerm := ⟨(allB_at g14 4 rfl), eqR_ok (allB_at g14 9 rfl), (fk_ok (allB_at g38 12 rfl)).2.2, (allB_at g14 5 rfl)⟩,
    na_PathTerm_level := eqN_ok (allB_at g14 6 rfl),
    na_PathTerm_name := eqN_ok (allB_at g14 7 rfl),
    na_PathTerm_fields := eqN_ok (allB_at g14 8 rfl),
    ii_PathTerm := fun H a dx fs e => .base (.ins e ⟨(allB_at g14 0 rfl), (allB_at g14 1 rfl), (allB_at g14 2 rfl), eqF_ok (allB_at g14 3 rfl)⟩ (eqF_ok (allB_at g14 10 rfl)) (eqF_ok (allB_at g35 0 rfl)) (eqB_ok (allB_at g35 1 rfl)) (eqB_ok (allB_at g14 11 rfl))),
    g_SomeTerm := PySem.W.mg_of X G (eqR_ok (allB_at g1 10 rfl)),
    cl_SomeTerm := ⟨(allB_at g15 0 rfl), (allB_at g15 1 rfl), (allB_at g15 2 rfl), eqF_ok (allB_at g15 3 rfl)⟩,
    mk_SomeTerm := ⟨(allB_at g15 4 rfl), eqR_ok (allB_at g15 11 rfl), (fk_ok (allB_at g38 13 rfl)).2.2, (allB_at g15 5 rfl)⟩,
    na_SomeTerm_level := eqN_ok (allB_at g15 6 rfl),
    na_SomeTerm_word := eqN_ok (allB_at g15 7 rfl),
    na_SomeTerm_name := eqN_ok (allB_at g15 8 rfl),
    na_SomeTerm_path := eqN_ok (allB_at g15 9 rfl),
    na_SomeTerm_inner := eqN_ok (allB_at g15 10 rfl),
    ii_SomeTerm := fun H a dx fs e => .base (.ins e ⟨(allB_at g15 0 rfl), (allB_at g15 1 rfl), (allB_at g15 2 rfl), eqF_ok (allB_at g15 3 rfl)⟩ (eqF_ok (allB_at g15 12 rfl)) (eqF_ok (allB_at g35 0 rfl)) (eqB_ok (allB_at g35 1 rfl)) (eqB_ok (allB_at g15 13 rfl))),
    g_CountTerm := PySem.W.mg_of X G (eqR_ok (allB_at g1 11 rfl)),
    cl_CountTerm := ⟨(allB_at g16 0 rfl), (allB_at g16 1 rfl), (allB_at g16 2 rfl), eqF_ok (allB_at g16 3 rfl)⟩,
    mk_CountTerm := ⟨(allB_at g16 4 rfl), eqR_ok (allB_at g16 8 rfl), (fk_ok (allB_at g38 14 rfl)).2.2, (allB_at g16 5 rfl)⟩,
    na_CountTerm_level := eqN_ok (allB_at g16 6 rfl),
    na_CountTerm_path := eqN_ok (allB_at g16 7 rfl),
    ii_CountTerm := fun H a dx fs e => .base (.ins e ⟨(allB_at g16 0 rfl), (allB_at g16 1 rfl), (allB_at g16 2 rfl), eqF_ok (allB_at g16 3 rfl)⟩ (eqF_ok (allB_at g16 9 rfl)) (eqF_ok (allB_at g35 0 rfl)) (eqB_ok (allB_at g35 1 rfl)) (eqB_ok (allB_at g16 10 rfl))),
    g_GroupTotal := PySem.W.mg_of X G (eqR_ok (allB_at g1 12 rfl)),
    cl_GroupTotal := ⟨(allB_at g17 0 rfl), (allB_at g17 1 rfl), (allB_at g17 2 rfl), eqF_ok (allB_at g17 3 rfl)⟩,
    mk_GroupTotal := ⟨(allB_at g17 4 rfl), eqR_ok (allB_at g17 9 rfl), (fk_ok (allB_at g38 15 rfl)).2.2, (allB_at g17 5 rfl)⟩,
    na_GroupTotal_level := eqN_ok (allB_at g17 6 rfl),
    na_GroupTotal_word := eqN_ok (allB_at g17 7 rfl),
    na_GroupTotal_path := eqN_ok (allB_at g17 8 rfl),
    ii_GroupTotal := fun H a dx fs e => .base (.ins e ⟨(allB_at g17 0 rfl), (allB_at g17 1 rfl), (allB_at g17 2 rfl), eqF_ok (allB_at g17 3 rfl)⟩ (eqF_ok (allB_at g17 10 rfl)) (eqF_ok (allB_at g35 0 rfl)) (eqB_ok (allB_at g35 1 rfl)) (eqB_ok (allB_at g17 11 rfl))),
    g_ListTotal := PySem.W.mg_of X G (eqR_ok (allB_at g1 13 rfl)),
    cl_ListTotal := ⟨(allB_at g18 0 rfl), (allB_at g18 1 rfl), (allB_at g18 2 rfl), eqF_ok (allB_at g18 3 rfl)⟩,
    mk_ListTotal := ⟨(allB_at g18 4 rfl), eqR_ok (allB_at g18 11 rfl), (fk_ok (allB_at g38 16 rfl)).2.2, (allB_at g18 5 rfl)⟩,
    na_ListTotal_level := eqN_ok (allB_at g18 6 rfl),
    na_ListTotal_word := eqN_ok (allB_at g18 7 rfl),
    na_ListTotal_name := eqN_ok (allB_at g18 8 rfl),
    na_ListTotal_path := eqN_ok (allB_at g18 9 rfl),
    na_ListTotal_inner := eqN_ok (allB_at g18 10 rfl),
    ii_ListTotal := fun H a dx fs e => .base (.ins e ⟨(allB_at g18 0 rfl), (allB_at g18 1 rfl), (allB_at g18 2 rfl), eqF_ok (allB_at g18 3 rfl)⟩ (eqF_ok (allB_at g18 12 rfl)) (eqF_ok (allB_at g35 0 rfl)) (eqB_ok (allB_at g35 1 rfl)) (eqB_ok (allB_at g18 13 rfl))),
    g_ChainTerm := PySem.W.mg_of X G (eqR_ok (allB_at g1 14 rfl)),
    cl_ChainTerm := ⟨(allB_at g19 0 rfl), (allB_at g19 1 rfl), (allB_at g19 2 rfl), eqF_ok (allB_at g19 3 rfl)⟩,
    mk_ChainTerm := ⟨(allB_at g19 4 rfl), eqR_ok (allB_at g19 9 rfl), (fk_ok (allB_at g38 17 rfl)).2.2, (allB_at g19 5 rfl)⟩,
    na_ChainTerm_level := eqN_ok (allB_at g19 6 rfl),
    na_ChainTerm_first := eqN_ok (allB_at g19 7 rfl),
    na_ChainTerm_rest := eqN_ok (allB_at g19 8 rfl),
    ii_ChainTerm := fun H a dx fs e => .base (.ins e ⟨(allB_at g19 0 rfl), (allB_at g19 1 rfl), (allB_at g19 2 rfl), eqF_ok (allB_at g19 3 rfl)⟩ (eqF_ok (allB_at g19 10 rfl)) (eqF_ok (allB_at g35 0 rfl)) (eqB_ok (allB_at g35 1 rfl)) (eqB_ok (allB_at g19 11 rfl))),
    g_CompareTerm := PySem.W.mg_of X G (eqR_ok (allB_at g1 15 rfl)),
    cl_CompareTerm := ⟨(allB_at g20 0 rfl), (allB_at g20 1 rfl), (allB_at g20 2 rfl), eqF_ok (allB_at g20 3 rfl)⟩,
    mk_CompareTerm := ⟨(allB_at g20 4 rfl), eqR_ok (allB_at g20 10 rfl), (fk_ok (allB_at g38 18 rfl)).2.2, (allB_at g20 5 rfl)⟩,
    na_CompareTerm_level := eqN_ok (allB_at g20 6 rfl),
    na_CompareTerm_sign := eqN_ok (allB_at g20 7 rfl),
    na_CompareTerm_left := eqN_ok (allB_at g20 8 rfl),
    na_CompareTerm_right := eqN_ok (allB_at g20 9 rfl),
    ii_CompareTerm := fun H a dx fs e => .base (.ins e ⟨(allB_at g20 0 rfl), (allB_at g20 1 rfl), (allB_at g20 2 rfl), eqF_ok (allB_at g20 3 rfl)⟩ (eqF_ok (allB_at g20 11 rfl)) (eqF_ok (allB_at g35 0 rfl)) (eqB_ok (allB_at g35 1 rfl)) (eqB_ok (allB_at g20 12 rfl))),
    g_NullTerm := PySem.W.mg_of X G (eqR_ok (allB_at g1 16 rfl)),
    cl_NullTerm := ⟨(allB_at g21 0 rfl), (allB_at g21 1 rfl), (allB_at g21 2 rfl), eqF_ok (allB_at g21 3 rfl)⟩,
    mk_NullTerm := ⟨(allB_at g21 4 rfl), eqR_ok (allB_at g21 9 rfl), (fk_ok (allB_at g38 19 rfl)).2.2, (allB_at g21 5 rfl)⟩,
    na_NullTerm_level := eqN_ok (allB_at g21 6 rfl),
    na_NullTerm_inner := eqN_ok (allB_at g21 7 rfl),
    na_NullTerm_turned := eqN_ok (allB_at g21 8 rfl),
    ii_NullTerm := fun H a dx fs e => .base (.ins e ⟨(allB_at g21 0 rfl), (allB_at g21 1 rfl), (allB_at g21 2 rfl), eqF_ok (allB_at g21 3 rfl)⟩ (eqF_ok (allB_at g21 10 rfl)) (eqF_ok (allB_at g35 0 rfl)) (eqB_ok (allB_at g35 1 rfl)) (eqB_ok (allB_at g21 11 rfl))),
    g_AmongTerm := PySem.W.mg_of X G (eqR_ok (allB_at g1 17 rfl)),
    cl_AmongTerm := ⟨(allB_at g22 0 rfl), (allB_at g22 1 rfl), (allB_at g22 2 rfl), eqF_ok (allB_at g22 3 rfl)⟩,
    mk_AmongTerm := ⟨(allB_at g22 4 rfl), eqR_ok (allB_at g22 9 rfl), (fk_ok (allB_at g38 20 rfl)).2.2, (allB_at g22 5 rfl)⟩,
    na_AmongTerm_level := eqN_ok (allB_at g22 6 rfl),
    na_AmongTerm_inner := eqN_ok (allB_at g22 7 rfl),
    na_AmongTerm_others := eqN_ok (allB_at g22 8 rfl),
    ii_AmongTerm := fun H a dx fs e => .base (.ins e ⟨(allB_at g22 0 rfl), (allB_at g22 1 rfl), (allB_at g22 2 rfl), eqF_ok (allB_at g22 3 rfl)⟩ (eqF_ok (allB_at g22 10 rfl)) (eqF_ok (allB_at g35 0 rfl)) (eqB_ok (allB_at g35 1 rfl)) (eqB_ok (allB_at g22 11 rfl))),
    g_NotTerm := PySem.W.mg_of X G (eqR_ok (allB_at g1 18 rfl)),
    cl_NotTerm := ⟨(allB_at g23 0 rfl), (allB_at g23 1 rfl), (allB_at g23 2 rfl), eqF_ok (allB_at g23 3 rfl)⟩,
    mk_NotTerm := ⟨(allB_at g23 4 rfl), eqR_ok (allB_at g23 9 rfl), (fk_ok (allB_at g38 21 rfl)).2.2, (allB_at g23 5 rfl)⟩,
    na_NotTerm_level := eqN_ok (allB_at g23 6 rfl),
    na_NotTerm_many := eqN_ok (allB_at g23 7 rfl),
    na_NotTerm_inner := eqN_ok (allB_at g23 8 rfl),
    ii_NotTerm := fun H a dx fs e => .base (.ins e ⟨(allB_at g23 0 rfl), (allB_at g23 1 rfl), (allB_at g23 2 rfl), eqF_ok (allB_at g23 3 rfl)⟩ (eqF_ok (allB_at g23 10 rfl)) (eqF_ok (allB_at g35 0 rfl)) (eqB_ok (allB_at g35 1 rfl)) (eqB_ok (allB_at g23 11 rfl))),
    g_MinusTerm := PySem.W.mg_of X G (eqR_ok (allB_at g1 19 rfl)),
    cl_MinusTerm := ⟨(allB_at g24 0 rfl), (allB_at g24 1 rfl), (allB_at g24 2 rfl), eqF_ok (allB_at g24 3 rfl)⟩,
    mk_MinusTerm := ⟨(allB_at g24 4 rfl), eqR_ok (allB_at g24 9 rfl), (fk_ok (allB_at g38 22 rfl)).2.2, (allB_at g24 5 rfl)⟩,
    na_MinusTerm_level := eqN_ok (allB_at g24 6 rfl),
    na_MinusTerm_many := eqN_ok (allB_at g24 7 rfl),
    na_MinusTerm_inner := eqN_ok (allB_at g24 8 rfl),
    ii_MinusTerm := fun H a dx fs e => .base (.ins e ⟨(allB_at g24 0 rfl), (allB_at g24 1 rfl), (allB_at g24 2 rfl), eqF_ok (allB_at g24 3 rfl)⟩ (eqF_ok (allB_at g24 10 rfl)) (eqF_ok (allB_at g35 0 rfl)) (eqB_ok (allB_at g35 1 rfl)) (eqB_ok (allB_at g24 11 rfl))),
    g_QueryState := PySem.W.mg_of X G (eqR_ok (allB_at g1 20 rfl)),
    cl_QueryState := ⟨(allB_at g25 0 rfl), (allB_at g25 1 rfl), (allB_at g25 2 rfl), eqF_ok (allB_at g25 3 rfl)⟩,
    mk_QueryState := ⟨(allB_at g25 4 rfl), eqR_ok (allB_at g25 12 rfl), (fk_ok (allB_at g38 23 rfl)).2.2, (allB_at g25 5 rfl)⟩,
    na_QueryState_schema := eqN_ok (allB_at g25 6 rfl),
    na_QueryState_reader := eqN_ok (allB_at g25 7 rfl),
    na_QueryState_origin := eqN_ok (allB_at g25 8 rfl),
    na_QueryState_names := eqN_ok (allB_at g25 9 rfl),
    na_QueryState_groups := eqN_ok (allB_at g25 10 rfl),
    na_QueryState_depth := eqN_ok (allB_at g25 11 rfl),
    me_QueryState_enter := ⟨eqR_ok (allB_at g25 13 rfl), (fk_ok (allB_at g38 24 rfl)).2.2, (fk_ok (allB_at g38 24 rfl)).2.1⟩,
    me_QueryState_leave := ⟨eqR_ok (allB_at g25 14 rfl), (fk_ok (allB_at g38 25 rfl)).2.2, (fk_ok (allB_at g38 25 rfl)).2.1⟩,
    me_QueryState_small_name := ⟨eqR_ok (allB_at g25 15 rfl), (fk_ok (allB_at g38 26 rfl)).2.2, (fk_ok (allB_at g38 26 rfl)).2.1⟩,
    me_QueryState_new_name := ⟨eqR_ok (allB_at g25 16 rfl), (fk_ok (allB_at g38 27 rfl)).2.2, (fk_ok (allB_at g38 27 rfl)).2.1⟩,
    g_DrawnPath := PySem.W.mg_of X G (eqR_ok (allB_at g1 21 rfl)),
    cl_DrawnPath := ⟨(allB_at g26 0 rfl), (allB_at g26 1 rfl), (allB_at g26 2 rfl), eqF_ok (allB_at g26 3 rfl)⟩,
    mk_DrawnPath := ⟨(allB_at g26 4 rfl), eqR_ok (allB_at g26 10 rfl), (fk_ok (allB_at g38 28 rfl)).2.2, (allB_at g26 5 rfl)⟩,
    na_DrawnPath_term := eqN_ok (allB_at g26 6 rfl),
    na_DrawnPath_place := eqN_ok (allB_at g26 7 rfl),
    na_DrawnPath_word := eqN_ok (allB_at g26 8 rfl),
    na_DrawnPath_kinds := eqN_ok (allB_at g26 9 rfl),
    g_TokenReader := PySem.W.mg_of X G (eqR_ok (allB_at g1 22 rfl)),
    cl_TokenReader := ⟨(allB_at g27 0 rfl), (allB_at g27 1 rfl), (allB_at g27 2 rfl), eqF_ok (allB_at g27 3 rfl)⟩,
    mk_TokenReader := ⟨(allB_at g27 4 rfl), eqR_ok (allB_at g27 9 rfl), (fk_ok (allB_at g38 29 rfl)).2.2, (allB_at g27 5 rfl)⟩,
    na_TokenReader_row := eqN_ok (allB_at g27 6 rfl),
    na_TokenReader_reserved := eqN_ok (allB_at g27 7 rfl),
    na_TokenReader_at := eqN_ok (allB_at g27 8 rfl),
    me_TokenReader_here := ⟨eqR_ok (allB_at g27 10 rfl), (fk_ok (allB_at g38 30 rfl)).2.2, (fk_ok (allB_at g38 30 rfl)).2.1⟩,
    me_TokenReader_following := ⟨eqR_ok (allB_at g27 11 rfl), (fk_ok (allB_at g38 31 rfl)).2.2, (fk_ok (allB_at g38 31 rfl)).2.1⟩,
    me_TokenReader_take := ⟨eqR_ok (allB_at g27 12 rfl), (fk_ok (allB_at g38 32 rfl)).2.2, (fk_ok (allB_at g38 32 rfl)).2.1⟩,
    me_TokenReader_at_end := ⟨eqR_ok (allB_at g27 13 rfl), (fk_ok (allB_at g38 33 rfl)).2.2, (fk_ok (allB_at g38 33 rfl)).2.1⟩,
    me_TokenReader_stands := ⟨eqR_ok (allB_at g27 14 rfl), (fk_ok (allB_at g38 34 rfl)).2.2, (fk_ok (allB_at g38 34 rfl)).2.1⟩,
    me_TokenReader_stands_one := ⟨eqR_ok (allB_at g27 15 rfl), (fk_ok (allB_at g38 35 rfl)).2.2, (fk_ok (allB_at g38 35 rfl)).2.1⟩,
    me_TokenReader_passes := ⟨eqR_ok (allB_at g27 16 rfl), (fk_ok (allB_at g38 36 rfl)).2.2, (fk_ok (allB_at g38 36 rfl)).2.1⟩,
    me_TokenReader_must := ⟨eqR_ok (allB_at g27 17 rfl), (fk_ok (allB_at g38 37 rfl)).2.2, (fk_ok (allB_at g38 37 rfl)).2.1⟩,
    me_TokenReader_must_end := ⟨eqR_ok (allB_at g27 18 rfl), (fk_ok (allB_at g38 38 rfl)).2.2, (fk_ok (allB_at g38 38 rfl)).2.1⟩,
    me_TokenReader_must_role := ⟨eqR_ok (allB_at g27 19 rfl), (fk_ok (allB_at g38 39 rfl)).2.2, (fk_ok (allB_at g38 39 rfl)).2.1⟩,
    me_TokenReader_number_token := ⟨eqR_ok (allB_at g27 20 rfl), (fk_ok (allB_at g39 0 rfl)).2.2, (fk_ok (allB_at g39 0 rfl)).2.1⟩,
    me_TokenReader_is_name := ⟨eqR_ok (allB_at g27 21 rfl), (fk_ok (allB_at g39 1 rfl)).2.2, (fk_ok (allB_at g39 1 rfl)).2.1⟩,
    me_TokenReader_small_name_stands := ⟨eqR_ok (allB_at g27 22 rfl), (fk_ok (allB_at g39 2 rfl)).2.2, (fk_ok (allB_at g39 2 rfl)).2.1⟩,
    me_TokenReader_kind_name := ⟨eqR_ok (allB_at g27 23 rfl), (fk_ok (allB_at g39 3 rfl)).2.2, (fk_ok (allB_at g39 3 rfl)).2.1⟩,
    me_TokenReader_small_name := ⟨eqR_ok (allB_at g27 24 rfl), (fk_ok (allB_at g39 4 rfl)).2.2, (fk_ok (allB_at g39 4 rfl)).2.1⟩,
    me_TokenReader_field_name := ⟨eqR_ok (allB_at g27 25 rfl), (fk_ok (allB_at g39 5 rfl)).2.2, (fk_ok (allB_at g39 5 rfl)).2.1⟩,
    g_Drawn := PySem.W.mg_of X G (eqR_ok (allB_at g1 23 rfl)),
    cl_Drawn := ⟨(allB_at g28 0 rfl), (allB_at g28 1 rfl), (allB_at g28 2 rfl), eqF_ok (allB_at g28 3 rfl)⟩,
    mk_Drawn := ⟨(allB_at g28 4 rfl), eqR_ok (allB_at g28 9 rfl), (fk_ok (allB_at g39 6 rfl)).2.2, (allB_at g28 5 rfl)⟩,
    na_Drawn_term := eqN_ok (allB_at g28 6 rfl),
    na_Drawn_word := eqN_ok (allB_at g28 7 rfl),
    na_Drawn_parameters := eqN_ok (allB_at g28 8 rfl),
    g_OrderTerm := PySem.W.mg_of X G (eqR_ok (allB_at g1 24 rfl)),
    cl_OrderTerm := ⟨(allB_at g29 0 rfl), (allB_at g29 1 rfl), (allB_at g29 2 rfl), eqF_ok (allB_at g29 3 rfl)⟩,
    mk_OrderTerm := ⟨(allB_at g29 4 rfl), eqR_ok (allB_at g29 8 rfl), (fk_ok (allB_at g39 7 rfl)).2.2, (allB_at g29 5 rfl)⟩,
    na_OrderTerm_term := eqN_ok (allB_at g29 6 rfl),
    na_OrderTerm_down := eqN_ok (allB_at g29 7 rfl),
    g_QueryParts := PySem.W.mg_of X G (eqR_ok (allB_at g1 25 rfl)),
    cl_QueryParts := ⟨(allB_at g30 0 rfl), (allB_at g30 1 rfl), (allB_at g30 2 rfl), eqF_ok (allB_at g30 3 rfl)⟩,
    mk_QueryParts := ⟨(allB_at g30 4 rfl), eqR_ok (allB_at g30 15 rfl), (fk_ok (allB_at g39 8 rfl)).2.2, (allB_at g30 5 rfl)⟩,
    na_QueryParts_kind := eqN_ok (allB_at g30 6 rfl),
    na_QueryParts_name := eqN_ok (allB_at g30 7 rfl),
    na_QueryParts_where := eqN_ok (allB_at g30 8 rfl),
    na_QueryParts_groups := eqN_ok (allB_at g30 9 rfl),
    na_QueryParts_order := eqN_ok (allB_at g30 10 rfl),
    na_QueryParts_given := eqN_ok (allB_at g30 11 rfl),
    na_QueryParts_skipped := eqN_ok (allB_at g30 12 rfl),
    na_QueryParts_kept := eqN_ok (allB_at g30 13 rfl),
    na_QueryParts_parameters := eqN_ok (allB_at g30 14 rfl),
    g_Query := PySem.W.mg_of X G (eqR_ok (allB_at g1 26 rfl)),
    cl_Query := ⟨(allB_at g31 0 rfl), (allB_at g31 1 rfl), (allB_at g31 2 rfl), eqF_ok (allB_at g31 3 rfl)⟩,
    mk_Query := ⟨(allB_at g31 4 rfl), eqR_ok (allB_at g31 10 rfl), (fk_ok (allB_at g39 9 rfl)).2.2, (allB_at g31 5 rfl)⟩,
    na_Query_parts := eqN_ok (allB_at g31 6 rfl),
    na_Query_kind := eqN_ok (allB_at g31 7 rfl),
    na_Query_name := eqN_ok (allB_at g31 8 rfl),
    na_Query_text := eqN_ok (allB_at g31 9 rfl),
    g_Field := PySem.W.mg_of X G (eqR_ok (allB_at g1 27 rfl)),
    cl_Field := ⟨(allB_at g32 0 rfl), (allB_at g32 1 rfl), (allB_at g32 2 rfl), eqF_ok (allB_at g32 3 rfl)⟩,
    mk_Field := ⟨(allB_at g32 4 rfl), eqR_ok (allB_at g32 9 rfl), (allB_at g39 12 rfl), (allB_at g32 5 rfl)⟩,
    na_Field_name := eqN_ok (allB_at g32 6 rfl),
    na_Field_shape := eqN_ok (allB_at g32 7 rfl),
    na_Field_needed := eqN_ok (allB_at g32 8 rfl),
    g_Kind := PySem.W.mg_of X G (eqR_ok (allB_at g1 28 rfl)),
    cl_Kind := ⟨(allB_at g33 0 rfl), (allB_at g33 1 rfl), (allB_at g33 2 rfl), eqF_ok (allB_at g33 3 rfl)⟩,
    mk_Kind := ⟨(allB_at g33 4 rfl), eqR_ok (allB_at g33 9 rfl), (fk_ok (allB_at g39 13 rfl)).2.2, (allB_at g33 5 rfl)⟩,
    na_Kind_name := eqN_ok (allB_at g33 6 rfl),
    na_Kind_fields := eqN_ok (allB_at g33 7 rfl),
    na_Kind_key_rows := eqN_ok (allB_at g33 8 rfl),
    me_Kind_field_of := ⟨eqR_ok (allB_at g33 10 rfl), (fk_ok (allB_at g39 14 rfl)).2.2, (fk_ok (allB_at g39 14 rfl)).2.1⟩,
    g_Schema := PySem.W.mg_of X G (eqR_ok (allB_at g1 29 rfl)),
    cl_Schema := ⟨(allB_at g34 0 rfl), (allB_at g34 1 rfl), (allB_at g34 2 rfl), eqF_ok (allB_at g34 3 rfl)⟩,
    mk_Schema := ⟨(allB_at g34 4 rfl), eqR_ok (allB_at g34 7 rfl), (fk_ok (allB_at g39 15 rfl)).2.2, (allB_at g34 5 rfl)⟩,
    na_Schema_kinds := eqN_ok (allB_at g34 6 rfl),
    me_Schema_kind_of := ⟨eqR_ok (allB_at g34 8 rfl), (fk_ok (allB_at g39 16 rfl)).2.2, (fk_ok (allB_at g39 16 rfl)).2.1⟩,
    me_Schema_field_of := ⟨eqR_ok (allB_at g34 9 rfl), (fk_ok (allB_at g39 17 rfl)).2.2, (fk_ok (allB_at g39 17 rfl)).2.1⟩,
    is_IntSort_IntSort := eqB_ok (allB_at g35 2 rfl),
    is_TextSort_IntSort := eqB_ok (allB_at g35 3 rfl),
    is_ChoiceSort_IntSort := eqB_ok (allB_at g35 4 rfl),
    is_RefSort_IntSort := eqB_ok (allB_at g35 5 rfl),
    is_ListSort_IntSort := eqB_ok (allB_at g35 6 rfl),
    is_IntSort_TextSort := eqB_ok (allB_at g35 7 rfl),
    is_TextSort_TextSort := eqB_ok (allB_at g35 8 rfl),
    is_ChoiceSort_TextSort := eqB_ok (allB_at g35 9 rfl),
    is_RefSort_TextSort := eqB_ok (allB_at g35 10 rfl),
    is_ListSort_TextSort := eqB_ok (allB_at g35 11 rfl),
    is_IntSort_ChoiceSort := eqB_ok (allB_at g35 12 rfl),
    is_TextSort_ChoiceSort := eqB_ok (allB_at g35 13 rfl),
    is_ChoiceSort_ChoiceSort := eqB_ok (allB_at g35 14 rfl),
    is_RefSort_ChoiceSort := eqB_ok (allB_at g35 15 rfl),
    is_ListSort_ChoiceSort := eqB_ok (allB_at g35 16 rfl),
    is_IntSort_RefSort := eqB_ok (allB_at g35 17 rfl),
    is_TextSort_RefSort := eqB_ok (allB_at g35 18 rfl),
    is_ChoiceSort_RefSort := eqB_ok (allB_at g35 19 rfl),
    is_RefSort_RefSort := eqB_ok (allB_at g35 20 rfl),
    is_ListSort_RefSort := eqB_ok (allB_at g35 21 rfl),
    is_NumberTerm_ChainTerm := eqB_ok (allB_at g35 22 rfl),
    is_TextTerm_ChainTerm := eqB_ok (allB_at g35 23 rfl),
    is_ParameterTerm_ChainTerm := eqB_ok (allB_at g35 24 rfl),
    is_PathTerm_ChainTerm := eqB_ok (allB_at g35 25 rfl),
    is_SomeTerm_ChainTerm := eqB_ok (allB_at g35 26 rfl),
    is_CountTerm_ChainTerm := eqB_ok (allB_at g35 27 rfl),
    is_GroupTotal_ChainTerm := eqB_ok (allB_at g35 28 rfl),
    is_ListTotal_ChainTerm := eqB_ok (allB_at g35 29 rfl),
    is_ChainTerm_ChainTerm := eqB_ok (allB_at g35 30 rfl),
    is_CompareTerm_ChainTerm := eqB_ok (allB_at g35 31 rfl),
    is_NullTerm_ChainTerm := eqB_ok (allB_at g35 32 rfl),
    is_AmongTerm_ChainTerm := eqB_ok (allB_at g35 33 rfl),
    is_NotTerm_ChainTerm := eqB_ok (allB_at g35 34 rfl),
    is_MinusTerm_ChainTerm := eqB_ok (allB_at g35 35 rfl),
    is_NumberTerm_ParameterTerm := eqB_ok (allB_at g35 36 rfl),
    is_ParameterTerm_ParameterTerm := eqB_ok (allB_at g35 37 rfl),
    F_Fault___init__ := F0,
    b_Fault___init__ := b0,
    F_Token___init__ := F1,
    b_Token___init__ := b1,
    F_IntSort___init__ := F2,
    b_IntSort___init__ := b2,
    F_TextSort___init__ := F3,
    b_TextSort___init__ := b3,
    F_RefSort___init__ := F4,
    b_RefSort___init__ := b4,
    F_ListSort___init__ := F5,
    b_ListSort___init__ := b5,
    F_SingleTerm___init__ := F6,
    b_SingleTerm___init__ := b6,
    F_NumberTerm___init__ := F7,
    b_NumberTerm___init__ := b7,
    F_TextTerm___init__ := F8,
    b_TextTerm___init__ := b8,
    F_ParameterTerm___init__ := F9,
    b_ParameterTerm___init__ := b9,
    F_PathTerm___init__ := F10,
    b_PathTerm___init__ := b10,
    F_SomeTerm___init__ := F11,
    b_SomeTerm___init__ := b11,
    F_CountTerm___init__ := F12,
    b_CountTerm___init__ := b12,
    F_GroupTotal___init__ := F13,
    b_GroupTotal___init__ := b13,
    F_ListTotal___init__ := F14,
    b_ListTotal___init__ := b14,
    F_ChainTerm___init__ := F15,
    b_ChainTerm___init__ := b15,
    F_CompareTerm___init__ := F16,
    b_CompareTerm___init__ := b16,
    F_NullTerm___init__ := F17,
    b_NullTerm___init__ := b17,
    F_AmongTerm___init__ := F18,
    b_AmongTerm___init__ := b18,
    F_NotTerm___init__ := F19,
    b_NotTerm___init__ := b19,
    F_MinusTerm___init__ := F20,
    b_MinusTerm___init__ := b20,
    F_QueryState___init__ := F21,
    b_QueryState___init__ := b21,
    F_QueryState_enter := F22,
    b_QueryState_enter := b22,
    F_QueryState_leave := F23,
    b_QueryState_leave := b23,
    F_QueryState_small_name := F24,
    b_QueryState_small_name := b24,
    F_QueryState_new_name := F25,
    b_QueryState_new_name := b25,
    F_DrawnPath___init__ := F26,
    b_DrawnPath___init__ := b26,
    F_TokenReader___init__ := F27,
    b_TokenReader___init__ := b27,
    F_TokenReader_here := F28,
    b_TokenReader_here := b28,
    F_TokenReader_following := F29,
    b_TokenReader_following := b29,
    F_TokenReader_take := F30,
    b_TokenReader_take := b30,
    F_TokenReader_at_end := F31,
    b_TokenReader_at_end := b31,
    F_TokenReader_stands := F32,
    b_TokenReader_stands := b32,
    F_TokenReader_stands_one := F33,
    b_TokenReader_stands_one := b33,
    F_TokenReader_passes := F34,
    b_TokenReader_passes := b34,
    F_TokenReader_must := F35,
    b_TokenReader_must := b35,
    F_TokenReader_must_end := F36,
    b_TokenReader_must_end := b36,
    F_TokenReader_must_role := F37,
    b_TokenReader_must_role := b37,
    F_TokenReader_number_token := F38,
    b_TokenReader_number_token := b38,
    F_TokenReader_is_name := F39,
    b_TokenReader_is_name := b39,
    F_TokenReader_small_name_stands := F40,
    b_TokenReader_small_name_stands := b40,
    F_TokenReader_kind_name := F41,
    b_TokenReader_kind_name := b41,
    F_TokenReader_small_name := F42,
    b_TokenReader_small_name := b42,
    F_TokenReader_field_name := F43,
    b_TokenReader_field_name := b43,
    F_Drawn___init__ := F44,
    b_Drawn___init__ := b44,
    F_OrderTerm___init__ := F45,
    b_OrderTerm___init__ := b45,
    F_QueryParts___init__ := F46,
    b_QueryParts___init__ := b46,
    F_Query___init__ := F47,
    b_Query___init__ := b47,
    F_Field___init__ := F48,
    b_Field___init__ := b48,
    F_Kind___init__ := F49,
    b_Kind___init__ := b49,
    F_Kind_field_of := F50,
    b_Kind_field_of := b50,
    F_Schema___init__ := F51,
    b_Schema___init__ := b51,
    F_Schema_kind_of := F52,
    b_Schema_kind_of := b52,
    F_Schema_field_of := F53,
    b_Schema_field_of := b53,
    F_tokens := F54,
    b_tokens := b54,
    g_tokens := PySem.W.mg_of X G (eqR_ok (allB_at g1 30 rfl)),
    F_behind_blanks := F55,
    b_behind_blanks := b55,
    g_behind_blanks := PySem.W.mg_of X G (eqR_ok (allB_at g1 31 rfl)),
    F_token_at := F56,
    b_token_at := b56,
    g_token_at := PySem.W.mg_of X G (eqR_ok (allB_at g1 32 rfl)),
    F_behind_run := F57,
    b_behind_run := b57,
    g_behind_run := PySem.W.mg_of X G (eqR_ok (allB_at g1 33 rfl)),
    F_word_at := F58,
    b_word_at := b58,
    g_word_at := PySem.W.mg_of X G (eqR_ok (allB_at g1 34 rfl)),
    F_number_at := F59,
    b_number_at := b59,
    g_number_at := PySem.W.mg_of X G (eqR_ok (allB_at g1 35 rfl)),
    F_quoted_at := F60,
    b_quoted_at := b60,
    g_quoted_at := PySem.W.mg_of X G (eqR_ok (allB_at g1 36 rfl)),
    F_may_stand := F61,
    b_may_stand := b61,
    g_may_stand := PySem.W.mg_of X G (eqR_ok (allB_at g1 37 rfl)),
    F_sign_at := F62,
    b_sign_at := b62,
    g_sign_at := PySem.W.mg_of X G (eqR_ok (allB_at g1 38 rfl)),
    F_is_reference := F63,
    b_is_reference := b63,
    g_is_reference := PySem.W.mg_of X G (eqR_ok (allB_at g1 39 rfl)),
    F_sort_of_shape := F64,
    b_sort_of_shape := b64,
    g_sort_of_shape := PySem.W.mg_of X G (eqR_ok (allB_at g2 0 rfl)),
    F_kinds_of_shapes := F65,
    b_kinds_of_shapes := b65,
    g_kinds_of_shapes := PySem.W.mg_of X G (eqR_ok (allB_at g2 1 rfl)),
    F_common_sort := F66,
    b_common_sort := b66,
    g_common_sort := PySem.W.mg_of X G (eqR_ok (allB_at g2 2 rfl)),
    F_read_path := F67,
    b_read_path := b67,
    g_read_path := PySem.W.mg_of X G (eqR_ok (allB_at g2 3 rfl)),
    F_behind_point := F68,
    b_behind_point := b68,
    g_behind_point := PySem.W.mg_of X G (eqR_ok (allB_at g2 4 rfl)),
    F_read_plain_path := F69,
    b_read_plain_path := b69,
    g_read_plain_path := PySem.W.mg_of X G (eqR_ok (allB_at g2 5 rfl)),
    F_read_list_path := F70,
    b_read_list_path := b70,
    g_read_list_path := PySem.W.mg_of X G (eqR_ok (allB_at g2 6 rfl)),
    F_read_total_path := F71,
    b_read_total_path := b71,
    g_read_total_path := PySem.W.mg_of X G (eqR_ok (allB_at g2 7 rfl)),
    F_refuse_list := F72,
    b_refuse_list := b72,
    g_refuse_list := PySem.W.mg_of X G (eqR_ok (allB_at g2 8 rfl)),
    F_check_group := F73,
    b_check_group := b73,
    g_check_group := PySem.W.mg_of X G (eqR_ok (allB_at g2 9 rfl)),
    F_is_certain := F74,
    b_is_certain := b74,
    g_is_certain := PySem.W.mg_of X G (eqR_ok (allB_at g2 10 rfl)),
    F_parameters_as := F75,
    b_parameters_as := b75,
    g_parameters_as := PySem.W.mg_of X G (eqR_ok (allB_at g2 11 rfl)),
    F_merged := F76,
    b_merged := b76,
    g_merged := PySem.W.mg_of X G (eqR_ok (allB_at g2 12 rfl)),
    F_joined_parameters := F77,
    b_joined_parameters := b77,
    g_joined_parameters := PySem.W.mg_of X G (eqR_ok (allB_at g2 13 rfl)),
    F_read_either := F78,
    b_read_either := b78,
    g_read_either := PySem.W.mg_of X G (eqR_ok (allB_at g2 14 rfl)),
    F_read_both := F79,
    b_read_both := b79,
    g_read_both := PySem.W.mg_of X G (eqR_ok (allB_at g2 15 rfl)),
    F_read_sum := F80,
    b_read_sum := b80,
    g_read_sum := PySem.W.mg_of X G (eqR_ok (allB_at g2 16 rfl)),
    F_read_product := F81,
    b_read_product := b81,
    g_read_product := PySem.W.mg_of X G (eqR_ok (allB_at g2 17 rfl)),
    F_read_chain := F82,
    b_read_chain := b82,
    g_read_chain := PySem.W.mg_of X G (eqR_ok (allB_at g2 18 rfl)),
    F_longer_chain := F83,
    b_longer_chain := b83,
    g_longer_chain := PySem.W.mg_of X G (eqR_ok (allB_at g2 19 rfl)),
    F_pass_all := F84,
    b_pass_all := b84,
    g_pass_all := PySem.W.mg_of X G (eqR_ok (allB_at g2 20 rfl)),
    F_read_turned := F85,
    b_read_turned := b85,
    g_read_turned := PySem.W.mg_of X G (eqR_ok (allB_at g2 21 rfl)),
    F_read_test := F86,
    b_read_test := b86,
    g_read_test := PySem.W.mg_of X G (eqR_ok (allB_at g2 22 rfl)),
    F_read_comparison := F87,
    b_read_comparison := b87,
    g_read_comparison := PySem.W.mg_of X G (eqR_ok (allB_at g2 23 rfl)),
    F_read_null := F88,
    b_read_null := b88,
    g_read_null := PySem.W.mg_of X G (eqR_ok (allB_at g2 24 rfl)),
    F_read_among := F89,
    b_read_among := b89,
    g_read_among := PySem.W.mg_of X G (eqR_ok (allB_at g2 25 rfl)),
    F_read_signed := F90,
    b_read_signed := b90,
    g_read_signed := PySem.W.mg_of X G (eqR_ok (allB_at g2 26 rfl)),
    F_read_single := F91,
    b_read_single := b91,
    g_read_single := PySem.W.mg_of X G (eqR_ok (allB_at g2 27 rfl)),
    F_read_number := F92,
    b_read_number := b92,
    g_read_number := PySem.W.mg_of X G (eqR_ok (allB_at g2 28 rfl)),
    F_read_parameter := F93,
    b_read_parameter := b93,
    g_read_parameter := PySem.W.mg_of X G (eqR_ok (allB_at g2 29 rfl)),
    F_read_enclosed := F94,
    b_read_enclosed := b94,
    g_read_enclosed := PySem.W.mg_of X G (eqR_ok (allB_at g2 30 rfl)),
    F_read_over := F95,
    b_read_over := b95,
    g_read_over := PySem.W.mg_of X G (eqR_ok (allB_at g2 31 rfl)),
    F_read_some := F96,
    b_read_some := b96,
    g_read_some := PySem.W.mg_of X G (eqR_ok (allB_at g2 32 rfl)),
    F_read_count := F97,
    b_read_count := b97,
    g_read_count := PySem.W.mg_of X G (eqR_ok (allB_at g2 33 rfl)),
    F_refuse_without_group := F98,
    b_refuse_without_group := b98,
    g_refuse_without_group := PySem.W.mg_of X G (eqR_ok (allB_at g2 34 rfl)),
    F_read_total := F99,
    b_read_total := b99,
    g_read_total := PySem.W.mg_of X G (eqR_ok (allB_at g2 35 rfl)),
    F_read_list_total := F100,
    b_read_list_total := b100,
    g_read_list_total := PySem.W.mg_of X G (eqR_ok (allB_at g2 36 rfl)),
    F_read_group_total := F101,
    b_read_group_total := b101,
    g_read_group_total := PySem.W.mg_of X G (eqR_ok (allB_at g2 37 rfl)),
    F_check_total := F102,
    b_check_total := b102,
    g_check_total := PySem.W.mg_of X G (eqR_ok (allB_at g2 38 rfl)),
    F_read_query := F103,
    b_read_query := b103,
    g_read_query := PySem.W.mg_of X G (eqR_ok (allB_at g2 39 rfl)),
    F_read_from := F104,
    b_read_from := b104,
    g_read_from := PySem.W.mg_of X G (eqR_ok (allB_at g3 0 rfl)),
    F_read_where := F105,
    b_read_where := b105,
    g_read_where := PySem.W.mg_of X G (eqR_ok (allB_at g3 1 rfl)),
    F_read_group := F106,
    b_read_group := b106,
    g_read_group := PySem.W.mg_of X G (eqR_ok (allB_at g3 2 rfl)),
    F_read_group_path := F107,
    b_read_group_path := b107,
    g_read_group_path := PySem.W.mg_of X G (eqR_ok (allB_at g3 3 rfl)),
    F_read_several := F108,
    b_read_several := b108,
    g_read_several := PySem.W.mg_of X G (eqR_ok (allB_at g3 4 rfl)),
    F_read_told := F109,
    b_read_told := b109,
    g_read_told := PySem.W.mg_of X G (eqR_ok (allB_at g3 5 rfl)),
    F_read_order_term := F110,
    b_read_order_term := b110,
    g_read_order_term := PySem.W.mg_of X G (eqR_ok (allB_at g3 6 rfl)),
    F_read_order := F111,
    b_read_order := b111,
    g_read_order := PySem.W.mg_of X G (eqR_ok (allB_at g3 7 rfl)),
    F_read_give := F112,
    b_read_give := b112,
    g_read_give := PySem.W.mg_of X G (eqR_ok (allB_at g3 8 rfl)),
    F_read_counts := F113,
    b_read_counts := b113,
    g_read_counts := PySem.W.mg_of X G (eqR_ok (allB_at g3 9 rfl)),
    F_read_bound := F114,
    b_read_bound := b114,
    g_read_bound := PySem.W.mg_of X G (eqR_ok (allB_at g3 10 rfl)),
    F__law_schema := F115,
    b__law_schema := b115,
    g__law_schema := PySem.W.mg_of X G (eqR_ok (allB_at g3 11 rfl)),
    F__law_texts := F116,
    b__law_texts := b116,
    g__law_texts := PySem.W.mg_of X G (eqR_ok (allB_at g3 12 rfl)),
    F_law := F117,
    b_law := b117,
    F__law_cells := F118,
    b__law_cells := b118,
    g__law_cells := PySem.W.mg_of X G (eqR_ok (allB_at g3 14 rfl)),
    F__law_draw := F119,
    b__law_draw := b119,
    g__law_draw := PySem.W.mg_of X G (eqR_ok (allB_at g3 15 rfl)),
    F__law_pick := F120,
    b__law_pick := b120,
    g__law_pick := PySem.W.mg_of X G (eqR_ok (allB_at g3 16 rfl)),
    g_COMPARISONS := PySem.W.mg_of X G (eqR_ok (allB_at g3 17 rfl)),
    q_COMPARISONS := tupB_ok (allB_at g36 4 rfl) (by decide),
    g_TOTALS := PySem.W.mg_of X G (eqR_ok (allB_at g3 18 rfl)),
    q_TOTALS := tupB_ok (allB_at g36 5 rfl) (by decide),
    g_QUERY_SIGNS := PySem.W.mg_of X G (eqR_ok (allB_at g3 19 rfl)),
    q_QUERY_SIGNS := tupB_ok (allB_at g36 6 rfl) (by decide),
    g_QUERY_WORDS := PySem.W.mg_of X G (eqR_ok (allB_at g3 20 rfl)),
    q_QUERY_WORDS := tupB_ok (allB_at g36 7 rfl) (by decide),
    g_ASKED := PySem.W.mg_of X G (eqR_ok (allB_at g3 21 rfl)),
    q_ASKED_0 := tupB_ok (allB_at g36 8 rfl) (by decide),
    d_ASKED_0 := kd_of (dc_at s 0 rfl rfl) (allB_at g36 9 rfl),
    q_ASKED_1 := tupB_ok (allB_at g36 10 rfl) (by decide),
    d_ASKED_1 := kd_of (dc_at s 0 rfl rfl) (allB_at g36 11 rfl),
    q_ASKED_2 := tupB_ok (allB_at g36 12 rfl) (by decide),
    d_ASKED_2 := kd_of (dc_at s 0 rfl rfl) (allB_at g36 13 rfl),
    q_ASKED_3 := tupB_ok (allB_at g36 14 rfl) (by decide),
    d_ASKED_3 := kd_of (dc_at s 0 rfl rfl) (allB_at g36 15 rfl),
    q_ASKED_4 := tupB_ok (allB_at g36 16 rfl) (by decide),
    d_ASKED_4 := kd_of (dc_at s 0 rfl rfl) (allB_at g36 17 rfl),
    q_ASKED_5 := tupB_ok (allB_at g36 18 rfl) (by decide),
    d_ASKED_5 := kd_of (dc_at s 0 rfl rfl) (allB_at g36 19 rfl),
    q_ASKED_6 := tupB_ok (allB_at g36 20 rfl) (by decide),
    d_ASKED_6 := kd_of (dc_at s 0 rfl rfl) (allB_at g36 21 rfl),
    q_ASKED_7 := tupB_ok (allB_at g36 22 rfl) (by decide),
    d_ASKED_7 := kd_of (dc_at s 0 rfl rfl) (allB_at g36 23 rfl),
    q_ASKED_8 := tupB_ok (allB_at g36 24 rfl) (by decide),
    d_ASKED_8 := kd_of (dc_at s 0 rfl rfl) (allB_at g36 25 rfl),
    q_ASKED_9 := tupB_ok (allB_at g36 26 rfl) (by decide),
    d_ASKED_9 := kd_of (dc_at s 0 rfl rfl) (allB_at g36 27 rfl),
    q_ASKED_10 := tupB_ok (allB_at g36 28 rfl) (by decide),
    d_ASKED_10 := kd_of (dc_at s 0 rfl rfl) (allB_at g36 29 rfl),
    q_ASKED_11 := tupB_ok (allB_at g36 30 rfl) (by decide),
    d_ASKED_11 := kd_of (dc_at s 0 rfl rfl) (allB_at g36 31 rfl),
    q_ASKED_12 := tupB_ok (allB_at g36 32 rfl) (by decide),
    d_ASKED_12 := kd_of (dc_at s 0 rfl rfl) (allB_at g36 33 rfl),
    q_ASKED_13 := tupB_ok (allB_at g36 34 rfl) (by decide),
    d_ASKED_13 := kd_of (dc_at s 0 rfl rfl) (allB_at g36 35 rfl),
    q_ASKED_14 := tupB_ok (allB_at g36 36 rfl) (by decide),
    d_ASKED_14 := kd_of (dc_at s 0 rfl rfl) (allB_at g36 37 rfl),
    q_ASKED_15 := tupB_ok (allB_at g36 38 rfl) (by decide),
    d_ASKED_15 := kd_of (dc_at s 0 rfl rfl) (allB_at g36 39 rfl),
    q_ASKED_16 := tupB_ok (allB_at g37 0 rfl) (by decide),
    d_ASKED_16 := kd_of (dc_at s 0 rfl rfl) (allB_at g37 1 rfl),
    cr_SingleTerm := ⟨(allB_at g35 39 rfl), eqF_ok (allB_at g36 0 rfl)⟩,
    cv_SingleTerm := ⟨eqC1_ok (allB_at g36 1 rfl), rfl⟩,
    no_Field := ⟨eqB_ok (allB_at g36 2 rfl), eqF_ok (allB_at g36 3 rfl)⟩,
    isn_ParameterTerm := eqB_ok (allB_at g35 38 rfl),
    b1_TextSort___init__ := F3.binds1 (ps := ["self", "longest", "without"]) 2 0 (by simp) (by rfl) (fun _ _ _ _ _ _ _ us its h3 h4 => match us, its, h3, h4 with | [_, _], [_], _, _ => ⟨_, rfl, rfl⟩),
    b1_Field___init__ := F48.binds1 (ps := ["self", "name", "shape", "needed"]) 3 0 (by simp) (by rfl) (fun _ _ _ _ _ _ _ us its h3 h4 => match us, its, h3, h4 with | [_, _, _], [_], _, _ => ⟨_, rfl, rfl⟩),
    oex := ⟨oexB_ok (allB_at g37 2 rfl), eqF_ok (allB_at g37 3 rfl), eqB_ok (allB_at g37 4 rfl), eqT_ok (allB_at g37 5 rfl), (allB_at g37 6 rfl)⟩,
    ic_Fault := eqR_ok (allB_at g37 7 rfl),
    ti_Fault := eqT_ok (allB_at g37 8 rfl),
    np_Fault := eqN_ok (allB_at g37 9 rfl),
    nr_Fault := eqN_ok (allB_at g37 10 rfl),
    xf_Fault := ⟨eqF_ok (allB_at g37 11 rfl), eqN_ok (allB_at g37 12 rfl), eqB_ok (allB_at g37 4 rfl), (allB_at g37 13 rfl)⟩,
    ec_Fault := ⟨eqF_ok (allB_at g37 11 rfl), eqN_ok (allB_at g37 12 rfl), eqB_ok (allB_at g37 4 rfl), (allB_at g37 13 rfl), eqF_ok (allB_at g37 14 rfl), eqF_ok (allB_at g35 0 rfl), eqB_ok (allB_at g35 1 rfl), eqB_ok (allB_at g37 15 rfl)⟩,
    em_Fault := eqB_ok (allB_at g37 16 rfl),
    cs_Fault := (allB_at g37 17 rfl),
    ih_Fault := eqB_ok (allB_at g37 18 rfl),
    iv_Fault := eqB_ok (allB_at g37 19 rfl) }
theorem law_at {w : World} {K : PySem.W.Frag} {h : Heap} {mg : Str → Option Value} (X : K.In h) (G : h.Ns mainGlobals mg) (s : SaysH HD w K) : mg "law" = some (.ref (adr K).f_law) := by
  have E : exB K = true := s.ex
  have gA : allB (eA K) = true := allB_at E 0 rfl
  have gB : allB (eB K) = true := allB_at E 1 rfl
  have gC : allB (eC K) = true := allB_at E 2 rfl
  have gP : allB (eP K) = true := allB_at E 3 rfl
  have g3 : allB (e3 K) = true := allB_at gA 3 rfl
  exact PySem.W.mg_of X G (eqR_ok (allB_at g3 13 rfl))
end
end K68
open PySem PySem.W PySem.Calls PyProof.Rows in
set_option maxRecDepth 100000 in
set_option maxHeartbeats 0 in
theorem PySem.Challenge.cw_oneheap_k68_faults_of_queries_holds : PySem.Challenge.rw_oneheap_k68_faults_of_queries.Holds := by
  w_on; o_law
  refine HandSHeadRun.head_any (r := PySem.W.OpenLaw.row PySem.Challenge.rw_oneheap_k68_faults_of_queries) (q := K68.qv) (H := Rn.hookH K68.HD) (ob := Rn.obH K68.HD) (M := 100000) (loose := K68.nms) (d := HandSHeadRun.topDef (PySem.W.OpenLaw.row PySem.Challenge.rw_oneheap_k68_faults_of_queries).prog 152) (kwd := []) (Rn.obH_eq K68.HD)
    (by kernel_rfl) (fun s => by kernel_rfl) K68.runH (by kernel_rfl) (by kernel_rfl) (by kernel_rfl) (by rfl) (by first | assumption | decide +kernel) (by decide +kernel) ⟨rfl, rfl, rfl, rfl, rfl, by decide +kernel⟩ ?hw ?hc
  case hw => w_witness2
  case hc =>
    refine L2.walk_ofE (l := PySem.Challenge.rw_oneheap_k68_faults_of_queries) (n := 63) (k := 203) (x := "script") (CX := L2.CX0) rfl (by decide) (by kernel_rfl) ⟨rfl, by decide, by decide⟩ ?F (fun _ _ _ _ z => z)
    intro w mg fa h Y G hmg0
    obtain ⟨K, KX, c⟩ := Y
    have hmg : mg ("law" : PySem.Str) = some (.ref fa) := by
      have e : (HandSHeadRun.topDef (PySem.W.OpenLaw.row PySem.Challenge.rw_oneheap_k68_faults_of_queries).prog 152).name = ("law" : PySem.Str) := by kernel_rfl
      rw [← e]
      exact hmg0
    have T := K68.mk_txt (w := w) KX G c
    have e := hmg.symm.trans (K68.law_at KX G c)
    cases e
    refine ⟨K, (K68.adr K).fd_law, K68.spLaw K, KX, fun s u => ?_, fun H a ns hl _ hS => ⟨a, ns, rfl, hS, hl, fun _ => rfl⟩, fun base _ _ => K68.ok_law T⟩
    obtain ⟨_, _, _, _, _, _, _, _, _, e, _⟩ := T.F_law.ex
    rw [e]
    exact .of_eq rfl
