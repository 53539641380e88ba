import PyProof.Rows.All
import Wide.All
import OpenK.AllK
import Wide.FinOn
import HandS.ForMost
import HandS.Codes
import HandS.Exc
import HandS.ExcOwn
import HandS.ExcInit
import HandS.ExcField
import HandS.ExcIs
import HandS.WordsExc
import HandS.IsInst
import KE.KExcIs
import HandS.Replace
import HandS.ReplaceList
import PyProof.ToksMono
import OpenK.XOpen
import OpenK.ZHead
import PySem.Challenge.RW_oneheap_k01_quoted_texts
set_option Elab.async false
set_option linter.all false
set_option maxRecDepth 100000
namespace Ky
open PySem PySem.Spec PyProof.Rows L2 TL
set_option autoImplicit false
/-! ### the mathematics: what stands at a place of a text -/
/-- how many signs of a kind stand at the head -/
def runp (p : Nat → Bool) (l : List Nat) : Nat := (l.takeWhile p).length
theorem runp_nil (p : Nat → Bool) : runp p [] = 0 := rfl
theorem runp_hit {p : Nat → Bool} {c : Nat} {r : List Nat} (h : p c = true) : runp p (c :: r) = 1 + runp p r := by
  unfold runp
  rw [List.takeWhile_cons_of_pos h, List.length_cons]
  omega
theorem runp_miss {p : Nat → Bool} {c : Nat} {r : List Nat} (h : p c = false) : runp p (c :: r) = 0 := by
  unfold runp
  rw [List.takeWhile_cons_of_neg (by rw [h]; exact Bool.false_ne_true)]
  rfl
theorem runp_le (p : Nat → Bool) : ∀ l : List Nat, runp p l ≤ l.length
  | [] => Nat.le_refl _
  | c :: r => by
    cases h : p c with
    | true =>
      rw [runp_hit h, List.length_cons]
      have := runp_le p r
      omega
    | false =>
      rw [runp_miss h]
      exact Nat.zero_le _
theorem runp_congr {p q : Nat → Bool} (h : ∀ c, p c = q c) (l : List Nat) : runp p l = runp q l := by
  rw [show p = q from funext h]
theorem drop_at {L : List Nat} {i : Nat} (h : i < L.length) : L.drop i = L[i] :: L.drop (i + 1) := List.drop_eq_getElem_cons h
theorem drop_end {L : List Nat} {i : Nat} (h : L.length ≤ i) : L.drop i = [] := List.drop_eq_nil_of_le h
/-- what one place gives: a token of some role, its text, and where the next one may begin; or a fault -/
inductive Res where
  | tok (role : Str) (txt : List Nat) (stop : Nat)
  | bad (place : Nat) (reason : Str)
def isLet (c : Nat) : Bool := (decide (97 ≤ c) && decide (c ≤ 122)) || (decide (65 ≤ c) && decide (c ≤ 90))
def isDig (c : Nat) : Bool := decide (48 ≤ c) && decide (c ≤ 57)
def isWs (c : Nat) : Bool := isDig c || (isLet c || c == 95)
def isBl (c : Nat) : Bool := c == 32
theorem mem_by {S : List Nat} {p : Nat → Bool} (h1 : ∀ x ∈ S, x < 128) (h2 : ∀ c, 128 ≤ c → p c = false) (h3 : ∀ c : Nat, c < 128 → decide (c ∈ S) = p c) (c : Nat) : decide (c ∈ S) = p c := by
  by_cases h : c < 128
  · exact h3 c h
  · rw [h2 c (by omega)]
    exact decide_eq_false fun m => h (h1 c m)
theorem isLet_big {c : Nat} (h : 128 ≤ c) : isLet c = false := by
  unfold isLet
  rw [decide_eq_false (show ¬ c ≤ 122 by omega), decide_eq_false (show ¬ c ≤ 90 by omega)]
  simp
theorem isDig_big {c : Nat} (h : 128 ≤ c) : isDig c = false := by
  unfold isDig
  rw [decide_eq_false (show ¬ c ≤ 57 by omega)]
  simp
theorem isWs_big {c : Nat} (h : 128 ≤ c) : isWs c = false := by
  unfold isWs
  rw [isLet_big h, isDig_big h, beq_eq_false_iff_ne.mpr (by omega)]
  rfl
theorem in_letters (c : Nat) : decide (c ∈ tl "abcdefghijklmnopqrstuvwxyzABCDEFGHIJKLMNOPQRSTUVWXYZ") = isLet c := mem_by (by decide +kernel) (fun _ h => isLet_big h) (by decide +kernel) c
theorem in_digits (c : Nat) : decide (c ∈ tl "0123456789") = isDig c := mem_by (by decide +kernel) (fun _ h => isDig_big h) (by decide +kernel) c
theorem in_word (c : Nat) : decide (c ∈ tl "abcdefghijklmnopqrstuvwxyzABCDEFGHIJKLMNOPQRSTUVWXYZ0123456789_") = isWs c := mem_by (by decide +kernel) (fun _ h => isWs_big h) (by decide +kernel) c
theorem ws_of_let {c : Nat} (h : isLet c = true) : isWs c = true := by
  unfold isWs
  rw [h]
  simp
theorem ws_of_dig {c : Nat} (h : isDig c = true) : isWs c = true := by
  unfold isWs
  rw [h]
  rfl
def resWord (L : List Nat) (i : Nat) : Res :=
  if 12 < runp isWs (L.drop i) then .bad i "word too long" else .tok "word" ((L.drop i).take (runp isWs (L.drop i))) (i + runp isWs (L.drop i))
def resNum (L : List Nat) (i : Nat) : Res :=
  if (L.drop i).head? = some 48 ∧ 1 < runp isDig (L.drop i) then .bad i "needless zero"
  else if 18 < runp isDig (L.drop i) then .bad i "number too long"
  else if 0 < runp isWs (L.drop (i + runp isDig (L.drop i))) then .bad (i + runp isDig (L.drop i)) "unexpected sign"
  else .tok "number" ((L.drop i).take (runp isDig (L.drop i))) (i + runp isDig (L.drop i))
/-- from behind the first quotation mark, which stands at st -/
def qgo (st : Nat) : List Nat → List Nat → Nat → Res
  | [], _, _ => .bad st "text is not closed"
  | c :: r, acc, i =>
    if c = 34 then .tok "text" acc (i + 1)
    else if c = 92 then (match r with
      | [] => .bad st "text is not closed"
      | d :: r' => if d = 34 ∨ d = 92 then qgo st r' (acc ++ [d]) (i + 2) else .bad (i + 1) "unexpected sign")
    else qgo st r (acc ++ [c]) (i + 1)
def resQuo (L : List Nat) (i : Nat) : Res := qgo i (L.drop (i + 1)) [] (i + 1)
def better (l : List Nat) (b s : List Nat) : List Nat := if b.length < s.length ∧ l.take s.length = s then s else b
def bestS (l : List Nat) (sgs : List (List Nat)) : List Nat := sgs.foldl (better l) []
def resSign (sgs : List (List Nat)) (L : List Nat) (i : Nat) : Res :=
  if bestS (L.drop i) sgs = [] then .bad i "unexpected sign" else .tok "sign" (bestS (L.drop i) sgs) (i + (bestS (L.drop i) sgs).length)
/-- one token of the package -/
def one (sgs : List (List Nat)) (L : List Nat) (i : Nat) : Res :=
  match (L.drop i).head? with
  | none => .bad i "unexpected sign"
  | some c => if isLet c = true then resWord L i else if isDig c = true then resNum L i else if c = 34 then resQuo L i else resSign sgs L i
theorem qgo_stop {st : Nat} : ∀ (l acc : List Nat) (i : Nat) {role : Str} {txt : List Nat} {stop : Nat}, qgo st l acc i = .tok role txt stop → i < stop
  | [], _, _, _, _, _, h => by
    unfold qgo at h
    cases h
  | [c], acc, i, _, _, _, h => by
    unfold qgo at h
    split at h
    · cases h; omega
    · split at h
      · cases h
      · have := qgo_stop [] _ _ h; omega
  | c :: d :: r, acc, i, _, _, _, h => by
    unfold qgo at h
    split at h
    · cases h; omega
    · split at h
      · simp only at h
        split at h
        · have := qgo_stop r _ _ h; omega
        · cases h
      · have := qgo_stop (d :: r) _ _ h; omega
theorem one_stop {sgs : List (List Nat)} {L : List Nat} {i : Nat} {role : Str} {txt : List Nat} {stop : Nat} (hi : i < L.length) (h : one sgs L i = .tok role txt stop) : i < stop := by
  have hd := drop_at hi
  unfold one at h
  rw [hd] at h
  simp only [List.head?_cons] at h
  split at h
  · rename_i hl
    unfold resWord at h
    split at h
    · cases h
    · cases h
      rw [hd, runp_hit (ws_of_let hl)]
      omega
  · split at h
    · rename_i hl
      unfold resNum at h
      split at h
      · cases h
      · split at h
        · cases h
        · split at h
          · cases h
          · cases h
            rw [hd, runp_hit hl]
            omega
    · split at h
      · unfold resQuo at h
        have := qgo_stop _ _ _ h
        omega
      · unfold resSign at h
        split at h
        · cases h
        · rename_i hb
          cases h
          have : 0 < (bestS (L.drop i) sgs).length := List.length_pos_iff.mpr hb
          omega
def skip (L : List Nat) (i : Nat) : Nat := i + runp isBl (L.drop i)
theorem le_skip (L : List Nat) (i : Nat) : i ≤ skip L i := Nat.le_add_right _ _
theorem skip_end {L : List Nat} {i : Nat} (h : L.length ≤ i) : skip L i = i := by
  unfold skip
  rw [drop_end h]
  rfl
theorem skip_hit {L : List Nat} {i : Nat} (h : i < L.length) (hc : L[i] = 32) : skip L i = skip L (i + 1) := by
  unfold skip
  rw [drop_at h, runp_hit (by rw [hc]; rfl)]
  omega
theorem skip_miss {L : List Nat} {i : Nat} (h : i < L.length) (hc : L[i] ≠ 32) : skip L i = i := by
  unfold skip
  rw [drop_at h, runp_miss (show isBl L[i] = false from beq_eq_false_iff_ne.mpr hc)]
  rfl
/-- a token as it is told: role, text, place -/
abbrev Tk := Str × List Nat × Nat
def out (sgs : List (List Nat)) : Type := List Tk ⊕ (Nat × Str)
def consT (t : Tk) : List Tk ⊕ (Nat × Str) → List Tk ⊕ (Nat × Str)
  | .inl ts => .inl (t :: ts)
  | .inr e => .inr e
/-- what the rest of a text from a place on is read as: its tokens, or its first fault -/
inductive Lexes (sgs : List (List Nat)) (L : List Nat) : Nat → List Tk ⊕ (Nat × Str) → Prop where
  | fin {i : Nat} (h : L.length ≤ i) : Lexes sgs L i (.inl [("end", [], L.length)])
  | bad {i p : Nat} {r : Str} (h : i < L.length) (e : one sgs L i = .bad p r) : Lexes sgs L i (.inr (p, r))
  | tok {i stop : Nat} {role : Str} {txt : List Nat} {R : List Tk ⊕ (Nat × Str)} (h : i < L.length) (e : one sgs L i = .tok role txt stop) (t : Lexes sgs L (skip L stop) R) : Lexes sgs L i (consT (role, txt, i) R)
theorem Lexes.det {sgs : List (List Nat)} {L : List Nat} {i : Nat} {R R' : List Tk ⊕ (Nat × Str)} (a : Lexes sgs L i R) : Lexes sgs L i R' → R = R' := by
  induction a generalizing R' with
  | fin h =>
    intro b
    cases b with
    | fin _ => rfl
    | bad h' _ => omega
    | tok h' _ _ => omega
  | bad h e =>
    intro b
    cases b with
    | fin _ => omega
    | bad _ e' =>
      rw [e] at e'
      cases e'
      rfl
    | tok _ e' _ =>
      rw [e] at e'
      cases e'
  | tok h e t ih =>
    intro b
    cases b with
    | fin _ => omega
    | bad _ e' =>
      rw [e] at e'
      cases e'
    | tok _ e' t' =>
      rw [e] at e'
      cases e'
      rw [ih t']
def appT (ts : List Tk) (R : List Tk ⊕ (Nat × Str)) : List Tk ⊕ (Nat × Str) := ts.foldr consT R
theorem appT_snoc (ts : List Tk) (t : Tk) (R : List Tk ⊕ (Nat × Str)) : appT (ts ++ [t]) R = appT ts (consT t R) := by
  unfold appT
  rw [List.foldr_append]
  rfl
theorem appT_inl : ∀ (ts us : List Tk), appT ts (.inl us) = .inl (ts ++ us)
  | [], _ => rfl
  | t :: ts, us => by
    show consT t (appT ts (.inl us)) = _
    rw [appT_inl ts us]
    rfl
theorem appT_inr : ∀ (ts : List Tk) (e : Nat × Str), appT ts (.inr e) = .inr e
  | [], _ => rfl
  | t :: ts, e => by
    show consT t (appT ts (.inr e)) = _
    rw [appT_inr ts e]
    rfl
theorem kit_self {K : PySem.W.Frag} {C : Addr} : PySem.W.kitOne K (.ref C) (.ref C) = some true := if_pos (beq_self_eq_true _)
theorem kit_own {K : PySem.W.Frag} {C D : Addr} {r : Bool} (h1 : PySem.W.isClsIn K D = true) (h2 : PySem.W.typeIn K (.ref D) = some (.type "type")) (h3 : PySem.W.subIn K (.ref C) (.ref D) = some r) (h4 : (Value.ref C == Value.ref D) = false) :
    PySem.W.kitOne K (.ref C) (.ref D) = some r := by
  have a1 : ((PySem.W.clsIn K D).isSome && PySem.W.typeIn K (.ref D) == some (.type "type")) = true := by
    rw [h2, show (PySem.W.clsIn K D).isSome = true from h1] <;> rfl
  have a2 : PySem.W.kitCls K (.ref C) (.ref D) = some r := Eq.trans (if_pos a1) h3
  exact Eq.trans (if_neg (by rw [h4] <;> decide)) a2
theorem exm_own {K : PySem.W.Frag} {S D : Addr} (h1 : PySem.W.subIn K (.ref D) (.type "BaseException") = some true) (h2 : PySem.W.isClsIn K D = true) (h3 : PySem.W.typeIn K (.ref D) = some (.type "type")) (h4 : PySem.W.subIn K (.ref S) (.ref D) = some true) :
    PySem.W.exmOne K (.ref S) (.ref D) = some true := by
  have a1 : (PySem.W.subIn K (.ref D) (.type "BaseException") == some true) = true := by
    rw [h1] <;> rfl
  have a2 : ((PySem.W.clsIn K D).isSome && PySem.W.typeIn K (.ref D) == some (.type "type")) = true := by
    rw [h3, show (PySem.W.clsIn K D).isSome = true from h2] <;> rfl
  exact Eq.trans (if_pos a1) (Eq.trans (if_pos a2) h4)
theorem kit_typ {K : PySem.W.Frag} {C : Addr} (h : PySem.W.subIn K (.ref C) (.type "ValueError") = some true) : PySem.W.kitOne K (.ref C) (.type "ValueError") = some true := by
  have a : PySem.W.kitCls K (.ref C) (.type "ValueError") = some true := by
    show (if PySem.W.kitMeta "ValueError" = true then PySem.W.subIn K (.ref C) (.type "ValueError") else none) = some true
    rw [if_pos (by decide +kernel)]
    exact h
  exact Eq.trans (if_neg (by simp)) a
def topS (i : Nat) : Stmt := PySem.Challenge.pw_oneheap_k01_quoted_texts.main.body.getD i (.Pass ⟨0, 0, 0, 0⟩)
structure Ad where
  C_HeapError : Addr
  C_Fault : Addr
  C_Token : Addr
  f_Fault___init__ : Addr
  fd_Fault___init__ : FuncData
  f_Token___init__ : Addr
  fd_Token___init__ : FuncData
  f_tokens : Addr
  fd_tokens : FuncData
  f_quoted : Addr
  fd_quoted : FuncData
  f_behind_blanks : Addr
  fd_behind_blanks : FuncData
  f_token_at : Addr
  fd_token_at : FuncData
  f_behind_run : Addr
  fd_behind_run : FuncData
  f_word_at : Addr
  fd_word_at : FuncData
  f_number_at : Addr
  fd_number_at : FuncData
  f_quoted_at : Addr
  fd_quoted_at : FuncData
  f_may_stand : Addr
  fd_may_stand : FuncData
  f_sign_at : Addr
  fd_sign_at : FuncData
  f__law_cells : Addr
  fd__law_cells : FuncData
  f__law_draw : Addr
  fd__law_draw : FuncData
  f__law_text : Addr
  fd__law_text : FuncData
  f_law : Addr
  fd_law : FuncData
  nt : Nat
/-- what the top leaves, as the proofs of the defs ask it -/
structure Txt (K : PySem.W.Frag) (mg : Str → Option Value) (A : Ad) : Prop where
  b_len : mg "len" = none
  b_int : mg "int" = none
  b_range : mg "range" = none
  b_list : mg "list" = none
  b_str : mg "str" = none
  b_ord : mg "ord" = none
  b_isinstance : mg "isinstance" = none
  b_ValueError : mg "ValueError" = none
  g_LETTERS : ∃ t, mg "LETTERS" = some (.str "abcdefghijklmnopqrstuvwxyzABCDEFGHIJKLMNOPQRSTUVWXYZ" t)
  g_DIGITS : ∃ t, mg "DIGITS" = some (.str "0123456789" t)
  g_WORD_SIGNS : ∃ t, mg "WORD_SIGNS" = some (.str "abcdefghijklmnopqrstuvwxyzABCDEFGHIJKLMNOPQRSTUVWXYZ0123456789_" t)
  g_QUOTE : ∃ t, mg "QUOTE" = some (.str "\"" t)
  g_BACKSLASH : ∃ t, mg "BACKSLASH" = some (.str "\\" t)
  g_PERCENT_CODE : ∃ t, mg "PERCENT_CODE" = some (.int 37 t)
  g_LONGEST_WORD : ∃ t, mg "LONGEST_WORD" = some (.int 12 t)
  g_LONGEST_NUMBER : ∃ t, mg "LONGEST_NUMBER" = some (.int 18 t)
  g_HeapError : mg "HeapError" = some (.ref A.C_HeapError)
  g_Fault : mg "Fault" = some (.ref A.C_Fault)
  g_Token : mg "Token" = some (.ref A.C_Token)
  cl_Token : Cls K A.C_Token
  mk_Token : Mk K A.C_Token A.f_Token___init__
  na_Token_role : NoAttr K A.C_Token "role"
  na_Token_text : NoAttr K A.C_Token "text"
  na_Token_place : NoAttr K A.C_Token "place"
  F_Fault___init__ : Fun K "__init__" "Fault.__init__" (inClass (topS 2) 0) A.f_Fault___init__ A.fd_Fault___init__
  b_Fault___init__ : Binds K A.fd_Fault___init__ ["self", "place", "reason"] []
  F_Token___init__ : Fun K "__init__" "Token.__init__" (inClass (topS 12) 0) A.f_Token___init__ A.fd_Token___init__
  b_Token___init__ : Binds K A.fd_Token___init__ ["self", "role", "text", "place"] []
  F_tokens : Fun K "tokens" "tokens" (topS 13) A.f_tokens A.fd_tokens
  b_tokens : Binds K A.fd_tokens ["text", "signs", "longest"] []
  g_tokens : mg "tokens" = some (.ref A.f_tokens)
  F_quoted : Fun K "quoted" "quoted" (topS 14) A.f_quoted A.fd_quoted
  b_quoted : Binds K A.fd_quoted ["text"] []
  g_quoted : mg "quoted" = some (.ref A.f_quoted)
  F_behind_blanks : Fun K "behind_blanks" "behind_blanks" (topS 15) A.f_behind_blanks A.fd_behind_blanks
  b_behind_blanks : Binds K A.fd_behind_blanks ["text", "at"] []
  g_behind_blanks : mg "behind_blanks" = some (.ref A.f_behind_blanks)
  F_token_at : Fun K "token_at" "token_at" (topS 16) A.f_token_at A.fd_token_at
  b_token_at : Binds K A.fd_token_at ["text", "at", "signs"] []
  g_token_at : mg "token_at" = some (.ref A.f_token_at)
  F_behind_run : Fun K "behind_run" "behind_run" (topS 17) A.f_behind_run A.fd_behind_run
  b_behind_run : Binds K A.fd_behind_run ["text", "at", "allowed"] []
  g_behind_run : mg "behind_run" = some (.ref A.f_behind_run)
  F_word_at : Fun K "word_at" "word_at" (topS 18) A.f_word_at A.fd_word_at
  b_word_at : Binds K A.fd_word_at ["text", "at"] []
  g_word_at : mg "word_at" = some (.ref A.f_word_at)
  F_number_at : Fun K "number_at" "number_at" (topS 19) A.f_number_at A.fd_number_at
  b_number_at : Binds K A.fd_number_at ["text", "at"] []
  g_number_at : mg "number_at" = some (.ref A.f_number_at)
  F_quoted_at : Fun K "quoted_at" "quoted_at" (topS 20) A.f_quoted_at A.fd_quoted_at
  b_quoted_at : Binds K A.fd_quoted_at ["text", "start"] []
  g_quoted_at : mg "quoted_at" = some (.ref A.f_quoted_at)
  F_may_stand : Fun K "may_stand" "may_stand" (topS 21) A.f_may_stand A.fd_may_stand
  b_may_stand : Binds K A.fd_may_stand ["character", "escaped"] []
  g_may_stand : mg "may_stand" = some (.ref A.f_may_stand)
  F_sign_at : Fun K "sign_at" "sign_at" (topS 22) A.f_sign_at A.fd_sign_at
  b_sign_at : Binds K A.fd_sign_at ["text", "at", "signs"] []
  g_sign_at : mg "sign_at" = some (.ref A.f_sign_at)
  F__law_cells : Fun K "_law_cells" "_law_cells" (topS 24) A.f__law_cells A.fd__law_cells
  b__law_cells : Binds K A.fd__law_cells ["script", "count"] []
  g__law_cells : mg "_law_cells" = some (.ref A.f__law_cells)
  F__law_draw : Fun K "_law_draw" "_law_draw" (topS 25) A.f__law_draw A.fd__law_draw
  b__law_draw : Binds K A.fd__law_draw ["draws", "bound"] []
  g__law_draw : mg "_law_draw" = some (.ref A.f__law_draw)
  F__law_text : Fun K "_law_text" "_law_text" (topS 26) A.f__law_text A.fd__law_text
  b__law_text : Binds K A.fd__law_text ["draws"] []
  g__law_text : mg "_law_text" = some (.ref A.f__law_text)
  F_law : Fun K "law" "law" (topS 27) A.f_law A.fd_law
  b_law : Binds K A.fd_law ["script"] []
  oex : OexC K A.C_Fault
  ic_Fault : PySem.W.findIn K (.ref A.C_Fault) "__init__" = some (some (.ref A.f_Fault___init__))
  ti_Fault : PySem.W.typeIn K (.ref A.f_Fault___init__) = some (.type "function")
  np_Fault : PySem.W.findIn K (.ref A.C_Fault) "place" = some none
  nr_Fault : PySem.W.findIn K (.ref A.C_Fault) "reason" = some none
  xf_Fault : XfC K A.C_Fault
  ec_Fault : ExcC K A.C_Fault
  em_Fault : PySem.W.exmOne K (.ref A.C_Fault) (.ref A.C_Fault) = some true
  cs_Fault : PySem.W.isClsIn K A.C_Fault = true
  ih_Fault : PySem.W.kitOne K (.ref A.C_Fault) (.ref A.C_HeapError) = some true
  iv_Fault : PySem.W.kitOne K (.ref A.C_Fault) (.type "ValueError") = some true
  kB : ∃ t, mg "BACKSLASH" = some (.str "\\" t) ∧ t ≠ 0 ∧ t < A.nt
  kQ : ∃ t, mg "QUOTE" = some (.str "\"" t) ∧ t ≠ 0 ∧ t < A.nt
section
variable {X : Cx}
/-- a text so many times -/
def repS (z : Str) (n : Nat) : Str := ⟨(List.replicate n (tl z)).flatten.toArray⟩
theorem tl_repS (z : Str) (n : Nat) : tl (repS z n) = (List.replicate n (tl z)).flatten := rfl
theorem fold_app : ∀ (n : Nat) (acc c : Array Nat), (List.replicate n c).foldl (· ++ ·) acc = acc ++ (List.replicate n c.toList).flatten.toArray
  | 0, acc, c => by simp
  | n + 1, acc, c => by
    rw [List.replicate_succ, List.foldl_cons, fold_app n, List.replicate_succ, List.flatten_cons]
    apply Array.toList_inj.mp
    simp
theorem repS_fold (z : Str) (n : Nat) : (⟨(List.replicate n z.cps).foldl (· ++ ·) #[]⟩ : Str) = repS z n := by
  apply ext_tl
  rw [fold_app]
  show (#[] ++ (List.replicate n z.cps.toList).flatten.toArray).toList = _
  rw [tl_repS]
  simp
theorem op_mulS : OpR X (binaryOp .Mult) (fun x y H Q => ∃ z n, x = .str z ∧ y = .int n ∧ 0 ≤ n ∧ n ≤ 100 ∧ z.length ≤ 100 ∧ Q (.str (repS z n.toNat)) H) := by
  intro pins s σ H x y v u Q I rx ry h
  obtain ⟨z, n, rfl, rfl, h0, h1, hz, q⟩ := h
  obtain ⟨t, rfl⟩ := rx
  obtain ⟨t', rfl⟩ := ry
  have hln : sizeLine = 16777216 := sizeLine_eq
  have hmul : z.length * n.toNat ≤ 100 * 100 := Nat.mul_le_mul hz (by omega)
  refine PySem.P.mul_str ?_ (fun p1 p2 => ?_) (fun p1 p2 => ?_) ?_
  · rw [decide_eq_false (by omega), decide_eq_false (by omega)]
    rfl
  · have hp : 0 < n := by omega
    have h2 : (100 : Int) ≤ (2 ^ 63 - 1) / n := (Int.le_ediv_iff_mul_le hp).mpr (by omega)
    omega
  · unfold PySem.Builtin.Str.tooLong
    exact decide_eq_false (by rw [hln]; omega)
  · by_cases c1 : n < 1
    · rw [if_pos c1]
      have e : n = 0 := by omega
      subst e
      refine ⟨?_, ⟨.str _, H, I.tok _, ⟨_, rfl⟩, ?_⟩⟩
      · decide
      · exact q
    · rw [if_neg c1]
      by_cases c2 : (n == 1 || z.length == 0) = true
      · rw [if_pos c2]
        refine ⟨.str z, H, I, ⟨_, rfl⟩, ?_⟩
        have e : repS z n.toNat = z := by
          apply ext_tl
          rw [tl_repS]
          rcases Bool.or_eq_true_iff.mp c2 with c | c
          · have : n.toNat = 1 := by
              have := beq_iff_eq.mp c
              omega
            rw [this]
            simp
          · have e0 : tl z = [] := (len0_tl z).mp (beq_iff_eq.mp c)
            rw [e0]
            simp
        rw [e] at q
        exact q
      · rw [if_neg c2]
        refine ⟨?_, ⟨.str _, H, I.tok _, ⟨_, rfl⟩, ?_⟩⟩
        · rw [repS_fold]
          show (repS z n.toNat).length ≤ _
          rw [len_tl, tl_repS]
          simp
          have hm : n.toNat * z.cps.size ≤ 100 * 100 := Nat.mul_le_mul (by omega) hz
          omega
        · rw [repS_fold]
          exact q
end
/-! ### the promises -/
theorem same_new {H : Hp} {p : Addr} {o : HO} (h : H p = none) : Same H (upd H p o) := fun b x e => by
  rw [upd_ne (ne_of_none e h)]
  exact e
theorem same_two {H : Hp} {x dx : Addr} {o1 o2 : HO} (hx : H x = none) (hdx : H dx = none) : Same H (upd (upd H dx o1) x o2) := fun b o e => by
  rw [upd_ne (ne_of_none e hx), upd_ne (ne_of_none e hdx)]
  exact e
/-- the fields of a token, of a fault -/
def f3 (f g k : Str) (x y z : V) : List (Str × V) := putF k z (putF g y (putF f x []))
theorem f3_1 {f g k : Str} (x y z : V) (h : ¬ f = k) (h' : ¬ f = g) : (f3 f g k x y z).lookup f = some x := by
  unfold f3
  rw [lookup_putF, if_neg h, lookup_putF, if_neg h', lookup_putF, if_pos rfl]
theorem f3_2 {f g k : Str} (x y z : V) (h : ¬ g = k) : (f3 f g k x y z).lookup g = some y := by
  unfold f3
  rw [lookup_putF, if_neg h, lookup_putF, if_pos rfl]
theorem f3_3 {f g k : Str} (x y z : V) : (f3 f g k x y z).lookup k = some z := by
  unfold f3
  rw [lookup_putF, if_pos rfl]
def fFault (p : Nat) (r : Str) : List (Str × V) := [("reason", .str r), ("place", .int (p : Int))]
theorem fF_place (p : Nat) (r : Str) : (fFault p r).lookup ("place" : Str) = some (V.int (p : Int)) := by
  unfold fFault
  rw [lookup_put, if_neg (by decide +kernel), lookup_put, if_pos rfl]
theorem fF_reason (p : Nat) (r : Str) : (fFault p r).lookup ("reason" : Str) = some (V.str r) := by
  unfold fFault
  rw [lookup_put, if_pos rfl]
/-- at k: a token -/
def TokAt (A : Ad) (H : Hp) (k : Addr) (t : Tk) : Prop := ∃ (dx : Addr) (z : Str), H k = some (.ins A.C_Token dx (f3 "role" "text" "place" (.str t.1) (.str z) (.int (t.2.2 : Int)))) ∧ tl z = t.2.1
theorem TokAt.keep {A : Ad} {H H' : Hp} {k : Addr} {t : Tk} (h : TokAt A H k t) (s : Same H H') : TokAt A H' k t := by
  obtain ⟨dx, z, a, b⟩ := h
  exact ⟨dx, z, s _ _ a, b⟩
/-- how a def ends that reads one token at i: it hands back the pair of the token and its end, or raises the fault -/
def Out (A : Ad) (H : Hp) (Q : VK) (E : XK) (i : Nat) : Res → Prop
  | .tok role txt stop => ∀ (t k : Addr) (H' : Hp), Same H H' → H' t = some (.tup [.ref k, .int (stop : Int)]) → TokAt A H' k (role, txt, i) → Q (.ref t) H'
  | .bad p r => ∀ (d : Addr) (H' : Hp), Same H H' → H' d = some (.xd (fFault p r)) → E (.ref A.C_Fault) (some d) H'
def spFI (C : Addr) : Sp := fun vs H Q _ => ∃ (a : Addr) (x y : V), vs = [.ref a, x, y] ∧ H a = some (exo a C none) ∧ ∀ d, H d = none → d ≠ a → Q .non (upd (upd (upd H d (exd d [(("place" : Str), x)])) a (exo a C (some d))) d (exd d [(("reason" : Str), y), (("place" : Str), x)]))
def spTI (C : Addr) : Sp := fun vs H Q _ => ∃ (p dx : Addr) (x y z : V), vs = [.ref p, x, y, z] ∧ H p = some (.ins C dx []) ∧ Q .non (upd H p (.ins C dx (f3 "role" "text" "place" x y z)))
def spBlanks : Sp := fun vs H Q _ => ∃ (z : Str) (i : Nat), vs = [.str z, .int (i : Int)] ∧ z.length ≤ 1000 ∧ Q (.int ((skip (tl z) i : Nat) : Int)) H
def spRun : Sp := fun vs H Q _ => ∃ (z al : Str) (i : Nat), vs = [.str z, .int (i : Int), .str al] ∧ z.length ≤ 1000 ∧ i ≤ (tl z).length ∧ Q (.int ((i + runp (fun c => decide (c ∈ tl al)) ((tl z).drop i) : Nat) : Int)) H
def spAt (A : Ad) (res : List Nat → Nat → Res) : Sp := fun vs H Q E => ∃ (z : Str) (i : Nat), vs = [.str z, .int (i : Int)] ∧ z.length ≤ 1000 ∧ i < (tl z).length ∧ Out A H Q E i (res (tl z) i)
/-- signs as a package's place may hold them: of the printable ones, no percent sign -/
def Fine (c : Nat) : Prop := 32 ≤ c ∧ c ≤ 126 ∧ c ≠ 37
def spQuo (A : Ad) : Sp := fun vs H Q E => ∃ (z : Str) (i : Nat), vs = [.str z, .int (i : Int)] ∧ z.length ≤ 1000 ∧ i < (tl z).length ∧ (∀ c ∈ tl z, Fine c) ∧ Out A H Q E i (resQuo (tl z) i)
def spMay : Sp := fun vs H Q _ => ∃ (c : Nat) (b : Bool), vs = [.str ⟨#[c]⟩, .bl b] ∧ Fine c ∧ Q (.bl (if b = true then decide (c = 34) || decide (c = 92) else true)) H
def spSign (K : PySem.W.Frag) (A : Ad) : Sp := fun vs H Q E => ∃ (z : Str) (i : Nat) (sg : Addr) (sgs : List Str), vs = [.str z, .int (i : Int), .ref sg] ∧ z.length ≤ 1000 ∧ i < (tl z).length ∧ SqT K H sg (sgs.map V.str) ∧ (∀ s ∈ sgs, s.length ≤ 1000) ∧ Out A H Q E i (resSign (sgs.map tl) (tl z) i)
def spOne (K : PySem.W.Frag) (A : Ad) : Sp := fun vs H Q E => ∃ (z : Str) (i : Nat) (sg : Addr) (sgs : List Str), vs = [.str z, .int (i : Int), .ref sg] ∧ z.length ≤ 1000 ∧ i < (tl z).length ∧ SqT K H sg (sgs.map V.str) ∧ (∀ s ∈ sgs, s.length ≤ 1000) ∧ (∀ c ∈ tl z, Fine c) ∧ Out A H Q E i (one (sgs.map tl) (tl z) i)
/-- a list of tokens, each at its address -/
def Toks (A : Ad) (H : Hp) (ks : List Addr) (ts : List Tk) : Prop := ks.length = ts.length ∧ ∀ (i : Nat) (k : Addr) (t : Tk), ks[i]? = some k → ts[i]? = some t → TokAt A H k t
theorem TokAt.upd {A : Ad} {H : Hp} {o k : Addr} {t : Tk} {xs ys : List V} (h : TokAt A H k t) (ho : H o = some (.lst xs)) : TokAt A (upd H o (.lst ys)) k t := by
  obtain ⟨dx, z, a, b⟩ := h
  exact ⟨dx, z, (upd_ne (ne_of a ho (by intro e; cases e))).trans a, b⟩
theorem Toks.snoc {A : Ad} {H : Hp} {ks : List Addr} {ts : List Tk} {k : Addr} {t : Tk} (h : ∀ (i : Nat) (k : Addr) (t : Tk), ks[i]? = some k → ts[i]? = some t → TokAt A H k t) (hl : ks.length = ts.length) (hk : TokAt A H k t) : Toks A H (ks ++ [k]) (ts ++ [t]) := by
  refine ⟨by rw [List.length_append, List.length_append, hl]; rfl, fun i k' t' a b => ?_⟩
  by_cases hi : i < ks.length
  · rw [List.getElem?_append_left hi] at a
    rw [List.getElem?_append_left (by omega)] at b
    exact h i k' t' a b
  · rw [List.getElem?_append_right (by omega)] at a
    rw [List.getElem?_append_right (by omega)] at b
    have e : i - ks.length = 0 := by
      cases q : i - ks.length with
      | zero => rfl
      | succ n =>
        rw [q] at a
        cases a
    rw [e] at a
    rw [show i - ts.length = 0 by omega] at b
    cases a
    cases b
    exact hk
def spTokens (K : PySem.W.Frag) (A : Ad) : Sp := fun vs H Q E => ∃ (z : Str) (lg : Nat) (sg : Addr) (sgs : List Str), vs = [.str z, .ref sg, .int (lg : Int)] ∧ z.length ≤ 1000 ∧ SqT K H sg (sgs.map V.str) ∧ (∀ s ∈ sgs, s.length ≤ 1000) ∧ (∀ c ∈ tl z, Fine c) ∧
  (lg < z.length → ∀ (d : Addr) (H' : Hp), Same H H' → H' d = some (.xd (fFault 0 "text too long")) → E (.ref A.C_Fault) (some d) H') ∧
  (¬ lg < z.length → (∀ (l : Addr) (ks : List Addr) (ts : List Tk) (H' : Hp), Same H H' → H' l = some (.lst (ks.map V.ref)) → Toks A H' ks ts → Lexes (sgs.map tl) (tl z) (skip (tl z) 0) (.inl ts) → Q (.ref l) H') ∧
    (∀ (d : Addr) (p : Nat) (r : Str) (H' : Hp), Same H H' → H' d = some (.xd (fFault p r)) → Lexes (sgs.map tl) (tl z) (skip (tl z) 0) (.inr (p, r)) → E (.ref A.C_Fault) (some d) H'))
theorem same_sqt {K : PySem.W.Frag} {H H' : Hp} {a : Addr} {xs : List V} (e : Same H H') (h : SqT K H a xs) : SqT K H' a xs := by
  rcases h with (h | ⟨o, h⟩) | h
  · exact .inl (.inl (e _ _ h))
  · exact .inl (.inr ⟨o, e _ _ h⟩)
  · exact .inr h
theorem sign_at_list {z : Str} {i : Nat} (h : i < (tl z).length) : atI z.cps.toList (i : Int) = some ((tl z)[i]) := atI_nat (List.getElem?_eq_getElem h)
theorem str1_eq (c d : Nat) : decide (V.str ⟨#[c]⟩ = V.str ⟨#[d]⟩) = decide (c = d) := by
  by_cases h : c = d
  · rw [decide_eq_true h, decide_eq_true (by rw [h])]
  · rw [decide_eq_false h, decide_eq_false]
    intro e
    have e2 := congrArg tl (V.str.inj e)
    rw [tl, tl] at e2
    exact h (List.cons.inj e2).1
theorem lex1 (c d : Nat) : decide (([c] : List Nat) < [d]) = decide (c < d) := by
  by_cases h : c < d
  · rw [decide_eq_true h]
    exact decide_eq_true (List.Lex.rel h)
  · rw [decide_eq_false h]
    refine decide_eq_false fun q => ?_
    cases q with
    | rel q => exact h q
    | cons q => cases q
/-- the text of one sign -/
abbrev sg1 (c : Nat) : V := .str ⟨#[c]⟩
theorem sg_map (acc : List Nat) : acc.map sg1 = (acc.map fun c => (⟨#[c]⟩ : Str)).map V.str := by
  rw [List.map_map]
  rfl
theorem join_signs : ∀ acc : List Nat, joinL [] ((acc.map fun c => (⟨#[c]⟩ : Str)).map tl) = acc
  | [] => rfl
  | [c] => rfl
  | c :: d :: r => by
    show [c] ++ ([] ++ joinL [] (((d :: r).map fun c => (⟨#[c]⟩ : Str)).map tl)) = c :: d :: r
    rw [join_signs (d :: r)]
    rfl
theorem len_signs : ∀ acc : List Nat, ((acc.map fun c => (⟨#[c]⟩ : Str)).map (·.length)).sum = acc.length
  | [] => rfl
  | c :: r => by
    rw [List.map_cons, List.map_cons, List.sum_cons, len_signs r, List.length_cons]
    show 1 + r.length = _
    omega
theorem sign_is {s : Str} {d : Nat} (h : tl s = [d]) : s = ⟨#[d]⟩ := ext_tl h
theorem made_fault {A : Ad} {H : Hp} {a d : Addr} {p : Nat} {r : Str} (ha : H a = none) (hd : H d = none) (hda : d ≠ a) :
    Same H (upd (del (upd (upd (upd (upd H a (exo a A.C_Fault none)) d (exd d [(("place" : Str), .int (p : Int))])) a (exo a A.C_Fault (some d))) d (exd d [(("reason" : Str), .str r), (("place" : Str), .int (p : Int))])) a) d (.xd (fFault p r))) := fun b o e => by
  have n1 := ne_of_none e ha
  have n2 := ne_of_none e hd
  rw [upd_ne n2, del_ne n1, upd_ne n2, upd_ne n1, upd_ne n2, upd_ne n1]
  exact e
/-- slices by natural places -/
theorem tl_cut {z : Str} {i j : Nat} (hi : i ≤ (tl z).length) : tl (cutS z (some (i : Int)) (some (j : Int))) = ((tl z).drop i).take (j - i) := by
  have hz : z.length = (tl z).length := len_tl z
  show (z.cps.toList.drop (HT.sIx z.length 0 (some (i : Int)))).take (HT.sIx z.length z.length (some (j : Int)) - HT.sIx z.length 0 (some (i : Int))) = _
  rw [HT.sIx_nat, HT.sIx_nat, hz, Nat.min_eq_left hi]
  by_cases hj : j ≤ (tl z).length
  · rw [Nat.min_eq_left hj]
  · have hl : ((tl z).drop i).length = (tl z).length - i := List.length_drop
    rw [Nat.min_eq_right (by omega), List.take_of_length_le (by rw [hl]; exact Nat.le_refl _), List.take_of_length_le (by rw [hl]; omega)]
/-- the cells: a new list of so many ints; which ones does not matter -/
def spCells (K : PySem.W.Frag) : Sp := fun vs H Q _ => ∃ (a : Addr) (ns : List Int) (n : Nat), vs = [.ref a, .int (n : Int)] ∧ SqL K H a (ns.map V.int) ∧ ns.length ≤ 63 ∧ n ≤ 64 ∧
  ∀ H' p (ms : List Int), Same H H' → H p = none → H' p = some (.lst (ms.map V.int)) → ms.length = n → Q (.ref p) H'
/-- a draw: the list of ints at a stays one, not empty; the value lies below the bound -/
def spDraw : Sp := fun vs H Q _ => ∃ (a : Addr) (ms : List Int) (n : Nat), vs = [.ref a, .int (n : Int)] ∧ H a = some (.lst (ms.map V.int)) ∧ ms ≠ [] ∧ 0 < n ∧ n < 1000 ∧
  ∀ (v : Nat) (ms' : List Int), v < n → ms' ≠ [] → Q (.int (v : Int)) (upd H a (.lst (ms'.map V.int)))
theorem int_at {ns : List Int} {i : Nat} (h : i < ns.length) : (ns.map V.int)[i]? = some (.int ns[i]) := by
  rw [List.getElem?_map, List.getElem?_eq_getElem h]
  rfl
section
variable {P : Program} {w : World} {K : PySem.W.Frag} {mg : Str → Option Value} {base : Heap} {A : Ad}
theorem sc__law_cells : FnScope ["script", "count", "cells", "k", "cell"] ["script", "count"] (defScope (topS 24)) := ⟨rfl, rfl, rfl, by decide +kernel, rfl, by decide +kernel, by decide +kernel⟩
theorem sc__law_draw : FnScope ["draws", "bound", "value"] ["draws", "bound"] (defScope (topS 25)) := ⟨rfl, rfl, rfl, by decide +kernel, rfl, by decide +kernel, by decide +kernel⟩
theorem ok__law_cells (T : Txt K mg A) : FnOk P w K mg base CX0 1 A.f__law_cells A.fd__law_cells ["script", "count"] (spCells K) := by
  refine T.F__law_cells.ok sc__law_cells (fun vs H Q E h => ?_) (fun cdv Ar outer s H vs Q E hr h => ?_)
  · obtain ⟨a, ns, n, rfl, _⟩ := h
    rfl
  · obtain ⟨a, ns, n, rfl, hS, hlen, hn, q⟩ := h
    refine ⟨_, (pss_cons (ps_set (i := 2) sc__law_cells.nd rfl (.inl rfl) (pe_lst pa_nil))
 (pss_cons (ps_for PassesOwn.never rfl (pi_range1 rfl T.b_range (pa_cons (pv 1) pa_nil)) (pg_name (i := 3) sc__law_cells.nd rfl (.inl rfl))
 (pss_cons (ps_set (i := 4) sc__law_cells.nd rfl (.inl rfl) (pe_op op_add (pe_op op_mul pe_int (pv 3)) pe_int))
 (C8.pss_cut (ps_if (pt_cmpR op_lt (pv 3) (pe_callB call_len_seq rfl T.b_len PySem.boot_len (pa_cons (pv 0) pa_nil)) (nomark _))
 (pss_cons (ps_set (i := 4) sc__law_cells.nd rfl (.inl rfl) (pe_callTy call_int1 rfl T.b_int (by decide +kernel) (pa_cons (pe_ix ix_list (pv 0) (pv 3) (fun _ _ => rfl)) pa_nil)))
 (pss_one (ps_if (pt_cmpR op_lt (pv 4) pe_int (nomark _))
 (pss_one (ps_set (i := 4) sc__law_cells.nd rfl (.inl rfl) (pe_op op_sub pe_int (pe_op op_mul pe_int (pv 4)))))
 pss_nil)))
 pss_nil)
 (C8.pss_cut (ps_if (pt_cmpR op_lt (pv 4) pe_int (nomark _))
 (pss_cons (ps_set (i := 4) sc__law_cells.nd rfl (.inl rfl) (pe_op op_mod (pe_op op_add (pe_op op_add (pe_op op_mul (pe_callTy call_int1 rfl T.b_int (by decide +kernel) (pa_cons (pv 4) pa_nil)) pe_int) pe_int) (pe_op op_mul pe_int (pv 3))) pe_int))
 (pss_one (ps_set (i := 4) sc__law_cells.nd rfl (.inl rfl) (pe_op op_mod (pe_op op_add (pe_op op_mul (pe_callTy call_int1 rfl T.b_int (by decide +kernel) (pa_cons (pv 4) pa_nil)) pe_int) pe_int) pe_int))))
 pss_nil)
 (pss_one (ps_expr (pe_bm PySem.F.plainAttrs_list PySem.F.slot_list_append PySem.F.type_list_append mt_append (pv 2) (pa_cons (pv 4) pa_nil))))))))
 (pss_one (ps_ret (pv 2))))), ?_⟩
    refine ⟨Nat.zero_le _, fun o no => ?_⟩
    refine ⟨_, rfl, (n : Int), rfl, by omega, by omega, for_range (lo := 0) (n := (n : Int).toNat) (fun i σ H' => ∃ (ms : List Int) (y3 y4 : Option V), σ = [some (.ref a), some (.int (n : Int)), some (.ref o), y3, y4] ∧ Same H H' ∧ H' o = some (.lst (ms.map V.int)) ∧ ms.length = i)
      ⟨[], none, none, rfl, fun b z e => (upd_ne (ne_of_none e no)).trans e, upd_same, rfl⟩ ?_ ?_⟩
    · rintro i σ H2 hi ⟨ms, y3, y4, rfl, sm, eo, hl⟩
      -- cell = 7 * k + 3
      refine ⟨_, rfl, _, _, rfl, rfl, .inl ⟨by decide, by decide⟩, _, _, rfl, rfl, ?_⟩
      -- if k < len(script): ..
      refine ⟨fun σ' H' => H' = H2 ∧ ∃ c : Int, σ' = [some (.ref a), some (.int (n : Int)), some (.ref o), some (.int (0 + (i : Int))), some (.int c)], ?_, ?_⟩
      · refine ⟨_, rfl, _, rfl, a, _, rfl, .inl (sm.seq hS), _, _, rfl, rfl, _, rfl, ite2 (fun h => ?_) (fun h => ⟨rfl, _, rfl⟩)⟩
        have hi2 : i < ns.length := by
          have h' := of_decide_eq_true h
          rw [List.length_map] at h'
          omega
        refine ⟨_, rfl, _, rfl, a, _, 0 + (i : Int), _, rfl, rfl, sm.seq hS, at_of (j := i) (by omega) (int_at hi2), .inl ⟨_, rfl, ?_⟩⟩
        refine ⟨_, rfl, _, _, rfl, rfl, _, rfl, ite2 (fun h => ?_) (fun h => ⟨rfl, _, rfl⟩)⟩
        refine ⟨_, rfl, _, _, rfl, rfl, .inl ⟨by decide, by decide⟩, _, _, rfl, rfl, rfl, _, rfl⟩
      · rintro σ' H' ⟨rfl, c, rfl⟩
        -- if cell < 1000000000: ..
        refine ⟨fun σ' H'' => H'' = H' ∧ ∃ c : Int, σ' = [some (.ref a), some (.int (n : Int)), some (.ref o), some (.int (0 + (i : Int))), some (.int c)], ?_, ?_⟩
        · refine ⟨_, rfl, _, _, rfl, rfl, _, rfl, ite2 (fun h => ?_) (fun h => ⟨rfl, _, rfl⟩)⟩
          refine ⟨_, rfl, .inl ⟨_, rfl, ?_⟩⟩
          refine ⟨_, _, rfl, rfl, .inr ⟨by decide, by decide⟩, _, _, rfl, rfl, _, rfl, _, _, rfl, rfl, .inl ⟨by decide, by decide⟩, _, _, rfl, rfl, _, _, rfl, rfl, (by decide : (0 : Int) < 2147483647), ?_⟩
          refine ⟨_, rfl, .inl ⟨_, rfl, ?_⟩⟩
          refine ⟨_, _, rfl, rfl, .inr ⟨by decide, by decide⟩, _, _, rfl, rfl, _, _, rfl, rfl, (by decide : (0 : Int) < 18446744073709551557), rfl, _, rfl⟩
        · rintro σ' H'' ⟨rfl, c', rfl⟩
          -- cells.append(cell)
          refine ⟨_, rfl, .inl ⟨rfl, _, SqL.of eo⟩, _, rfl, o, _, _, rfl, rfl, eo, ?_, ?_⟩
          · rw [List.length_map, hl]
            exact small1000 (by omega)
          · refine ⟨ms ++ [c'], _, _, rfl, fun b z e => (upd_ne (ne_of_none e no)).trans (sm b z e), ?_, ?_⟩
            · rw [upd_same, List.map_append]
              rfl
            · rw [List.length_append, hl]
              rfl
    · rintro σ H2 ⟨ms, y3, y4, rfl, sm, eo, hl⟩
      exact ⟨_, rfl, q H2 o ms sm no eo (by omega)⟩
theorem ok__law_draw (T : Txt K mg A) : FnOk P w K mg base CX0 1 A.f__law_draw A.fd__law_draw ["draws", "bound"] spDraw := by
  refine T.F__law_draw.ok sc__law_draw (fun vs H Q E h => ?_) (fun cdv Ar outer s H vs Q E hr h => ?_)
  · obtain ⟨a, ms, n, rfl, _⟩ := h
    rfl
  · obtain ⟨a, ms, n, rfl, ha, hne, hn, hn2, q⟩ := h
    refine ⟨_, (C8.pss_cut (ps_if (PW.pt (pw_and (pt_cmpR op_eq (pe_ix ix_list (pv 0) pe_int (fun _ _ => rfl)) pe_int (nomark _)) (pw_and1 (pt_cmpR op_gt (pe_callB call_len_seq rfl T.b_len PySem.boot_len (pa_cons (pv 0) pa_nil)) pe_int (nomark _)))))
 (pss_one (ps_expr (pe_bm PySem.F.plainAttrs_list PySem.F.slot_list_pop PySem.F.type_list_pop mt_popAt (pv 0) (pa_cons pe_int pa_nil))))
 pss_nil)
 (pss_cons (ps_set (i := 2) sc__law_draw.nd rfl (.inl rfl) (pe_op op_modN (pe_callTy call_int1 rfl T.b_int (by decide +kernel) (pa_cons (pe_ix ix_list (pv 0) pe_int (fun _ _ => rfl)) pa_nil)) (pv 1)))
 (pss_cons (ps_asg (pe_op op_fdivN (pe_ix ix_list (pv 0) pe_int (fun _ _ => rfl)) (pv 1)) (pg_sub (pv 0) pe_int set_list))
 (pss_one (ps_ret (pv 2)))))), ?_⟩
    obtain ⟨m, r, rfl⟩ : ∃ m r, ms = m :: r := by
      cases ms with
      | nil => exact absurd rfl hne
      | cons m r => exact ⟨m, r, rfl⟩
    -- if draws[0] == 0 and len(draws) > 1: draws.pop(0)
    refine ⟨fun σ' H' => ∃ (m' : Int) (r' : List Int), σ' = [some (.ref a), some (.int (n : Int)), none] ∧ H' = upd H a (.lst ((m' :: r').map V.int)), ?_, ?_⟩
    · have e0 : upd H a (.lst ((m :: r).map V.int)) = H := by
        funext b
        by_cases hb : b = a
        · rw [hb, upd_same, ha]
        · rw [upd_ne hb]
      refine ⟨_, rfl, a, _, 0, _, rfl, rfl, SqL.of ha, atI_nat (j := 0) rfl, rfl, _, rfl, ite2 (fun h0 => ?_) (fun _ => iteF ⟨m, r, rfl, e0.symm⟩)⟩
      refine ⟨_, rfl, a, _, rfl, .inl (SqL.of ha), _, _, rfl, rfl, _, rfl, ite2 (fun h => ?_) (fun _ => ⟨m, r, rfl, e0.symm⟩)⟩
      have h' := of_decide_eq_true h
      obtain ⟨m2, r2, rfl⟩ : ∃ m2 r2, r = m2 :: r2 := by
        cases r with
        | nil => exact absurd h' (by simp)
        | cons m2 r2 => exact ⟨m2, r2, rfl⟩
      refine ⟨_, rfl, .inl ⟨rfl, _, SqL.of ha⟩, a, _, 0, 0, .int m, rfl, rfl, ha, by decide, by decide, ?_, rfl, m2, r2, rfl, rfl⟩
      unfold seqIndex?
      simp
      omega
    · rintro σ' H' ⟨m', r', rfl, rfl⟩
      refine ⟨_, rfl, a, _, 0, _, rfl, rfl, SqL.of upd_same, atI_nat (j := 0) rfl, .inl ⟨_, rfl, ?_⟩⟩
      refine ⟨_, rfl, _, _, rfl, rfl, (by omega), ?_⟩
      refine ⟨_, rfl, a, _, 0, _, rfl, rfl, SqL.of upd_same, atI_nat (j := 0) rfl, _, rfl, _, _, rfl, rfl, ⟨by omega, by omega⟩, ?_⟩
      refine ⟨_, rfl, a, _, 0, 0, rfl, rfl, upd_same, ?_, ?_⟩
      · unfold ixN
        rw [if_pos (by decide), if_pos (by simp)]
        rfl
      · rw [upd_upd]
        have hm : m'.fmod (n : Int) = ((m'.fmod (n : Int)).toNat : Int) := by
          have := Int.fmod_nonneg_of_pos m' (b := (n : Int)) (by omega)
          omega
        have hlt : (m'.fmod (n : Int)).toNat < n := by
          have := Int.fmod_lt_of_pos m' (b := (n : Int)) (by omega)
          omega
        refine ⟨_, rfl, ?_⟩
        show Q (.int (m'.fmod (n : Int))) _
        rw [hm]
        exact q _ ((m'.fdiv (n : Int)) :: r') hlt (by simp)
end
/-! ### quoted texts -/
open PySem.StrLaws
def esc (c : Nat) : List Nat := if c = 92 then [92, 92] else if c = 34 then [92, 34] else [c]
theorem repl_one (c : Nat) (z : List Nat) : ∀ l : List Nat, replL [c] z l = l.flatMap (fun d => if d = c then z else [d])
  | [] => replL_nil
  | d :: r => by
    rw [List.flatMap_cons]
    by_cases h : d = c
    · subst h
      rw [replL_hit (by simp) (by simp), if_pos rfl]
      show z ++ replL [d] z r = _
      rw [repl_one d z r]
    · rw [replL_miss (by simpa using h), if_neg h, repl_one c z r]
      rfl
theorem esc_two (L : List Nat) : (L.flatMap (fun d => if d = 92 then [92, 92] else [d])).flatMap (fun d => if d = 34 then [92, 34] else [d]) = L.flatMap esc := by
  induction L with
  | nil => rfl
  | cons c r ih =>
    rw [List.flatMap_cons, List.flatMap_append, ih, List.flatMap_cons]
    congr 1
    unfold esc
    by_cases h : c = 92
    · subst h; rfl
    · rw [if_neg h, if_neg h]
      by_cases h2 : c = 34
      · subst h2; rfl
      · simp [h2]
theorem two_len (f : Nat → List Nat) (h : ∀ c, (f c).length ≤ 2) : ∀ L : List Nat, (L.flatMap f).length ≤ 2 * L.length
  | [] => Nat.le_refl _
  | c :: r => by
    rw [List.flatMap_cons, List.length_append, List.length_cons]
    have := two_len f h r
    have := h c
    omega
theorem esc_len (c : Nat) : (esc c).length ≤ 2 := by
  unfold esc
  split
  · exact Nat.le_refl _
  · split
    · exact Nat.le_refl _
    · exact Nat.le_succ _
theorem qgo_esc (st : Nat) (r : List Nat) : ∀ (L acc : List Nat) (i : Nat), qgo st (L.flatMap esc ++ 34 :: r) acc i = .tok "text" (acc ++ L) (i + (L.flatMap esc).length + 1)
  | [], acc, i => by
    rw [List.flatMap_nil, List.nil_append, List.append_nil]
    unfold qgo
    rw [if_pos rfl]
    rfl
  | c :: L, acc, i => by
    rw [List.flatMap_cons, List.append_assoc, List.length_append]
    by_cases h : c = 92
    · subst h
      rw [show esc 92 = [92, 92] from rfl]
      show qgo st (92 :: 92 :: (L.flatMap esc ++ 34 :: r)) acc i = _
      unfold qgo
      rw [if_neg (by decide), if_pos rfl]
      show (if (92 : Nat) = 34 ∨ (92 : Nat) = 92 then qgo st (L.flatMap esc ++ 34 :: r) (acc ++ [92]) (i + 2) else _) = _
      rw [if_pos (.inr rfl), qgo_esc st r L, show acc ++ [92] ++ L = acc ++ 92 :: L by simp]
      exact congrArg _ (by show i + 2 + (L.flatMap esc).length + 1 = i + (2 + (L.flatMap esc).length) + 1; omega)
    · by_cases h2 : c = 34
      · subst h2
        rw [show esc 34 = [92, 34] from rfl]
        show qgo st (92 :: 34 :: (L.flatMap esc ++ 34 :: r)) acc i = _
        unfold qgo
        rw [if_neg (by decide), if_pos rfl]
        show (if (34 : Nat) = 34 ∨ (34 : Nat) = 92 then qgo st (L.flatMap esc ++ 34 :: r) (acc ++ [34]) (i + 2) else _) = _
        rw [if_pos (.inl rfl), qgo_esc st r L, show acc ++ [34] ++ L = acc ++ 34 :: L by simp]
        exact congrArg _ (by show i + 2 + (L.flatMap esc).length + 1 = i + (2 + (L.flatMap esc).length) + 1; omega)
      · rw [show esc c = [c] from (if_neg h).trans (if_neg h2)]
        show qgo st (c :: (L.flatMap esc ++ 34 :: r)) acc i = _
        unfold qgo
        rw [if_neg h2, if_neg h, qgo_esc st r L, show acc ++ [c] ++ L = acc ++ c :: L by simp]
        exact congrArg _ (by show i + 1 + (L.flatMap esc).length + 1 = i + (1 + (L.flatMap esc).length) + 1; omega)
theorem esc_inj {L M : List Nat} (h : 34 :: L.flatMap esc ++ [34] = 34 :: M.flatMap esc ++ [34]) : L = M := by
  have h2 : L.flatMap esc ++ [34] = M.flatMap esc ++ [34] := (List.cons.inj h).2
  have a := qgo_esc 0 [] L [] 0
  have b := qgo_esc 0 [] M [] 0
  rw [h2, b] at a
  have e := (Res.tok.inj a).2.1
  simpa using e.symm
/-- blanks, a quoted text, blanks -/
theorem lex_quoted {sgs : List (List Nat)} (m k : Nat) (L : List Nat) : Lexes sgs (List.replicate m 32 ++ (34 :: L.flatMap esc ++ [34]) ++ List.replicate k 32) (skip (List.replicate m 32 ++ (34 :: L.flatMap esc ++ [34]) ++ List.replicate k 32) 0)
    (.inl [("text", L, m), ("end", [], (List.replicate m 32 ++ (34 :: L.flatMap esc ++ [34]) ++ List.replicate k 32).length)]) := by
  have e : List.replicate m 32 ++ (34 :: L.flatMap esc ++ [34]) ++ List.replicate k 32 = List.replicate m 32 ++ (34 :: (L.flatMap esc ++ 34 :: List.replicate k 32)) := by simp
  rw [e]
  have run_rep : ∀ (j : Nat) (r : List Nat), runp isBl (List.replicate j 32 ++ r) = j + runp isBl r := fun j r => by
    induction j with
    | zero => simp
    | succ j ih =>
      rw [List.replicate_succ, List.cons_append, runp_hit rfl, ih]
      omega
  generalize hT : List.replicate m 32 ++ (34 :: (L.flatMap esc ++ 34 :: List.replicate k 32)) = T
  have dm : T.drop m = 34 :: (L.flatMap esc ++ 34 :: List.replicate k 32) := by
    rw [← hT, List.drop_left' (by simp)]
  have s0 : skip T 0 = m := by
    unfold skip
    rw [List.drop_zero, ← hT, run_rep, runp_miss rfl]
    omega
  have hl : T.length = m + 1 + (L.flatMap esc).length + 1 + k := by
    rw [← hT]
    simp
    omega
  have o1 : one sgs T m = .tok "text" L (m + 1 + (L.flatMap esc).length + 1) := by
    unfold one
    rw [dm]
    show (if isLet 34 = true then resWord T m else if isDig 34 = true then resNum T m else if (34 : Nat) = 34 then resQuo T m else resSign sgs T m) = _
    rw [if_neg (by decide), if_neg (by decide), if_pos rfl]
    unfold resQuo
    rw [show T.drop (m + 1) = L.flatMap esc ++ 34 :: List.replicate k 32 by rw [← List.drop_drop, dm]; rfl, qgo_esc]
    rfl
  have s1 : skip T (m + 1 + (L.flatMap esc).length + 1) = T.length := by
    unfold skip
    have d2 : T.drop (m + 1 + (L.flatMap esc).length + 1) = List.replicate k 32 := by
      rw [show m + 1 + (L.flatMap esc).length + 1 = m + (1 + (L.flatMap esc).length + 1) by omega, ← List.drop_drop, dm]
      show List.drop (1 + (L.flatMap esc).length + 1) (34 :: (L.flatMap esc ++ 34 :: List.replicate k 32)) = _
      rw [show 1 + (L.flatMap esc).length + 1 = ((L.flatMap esc).length + 1) + 1 by omega, List.drop_succ_cons, show L.flatMap esc ++ 34 :: List.replicate k 32 = (L.flatMap esc ++ [34]) ++ List.replicate k 32 by simp, List.drop_left' (by simp)]
    rw [d2, show List.replicate k 32 = List.replicate k 32 ++ [] by simp, run_rep, runp_nil, hl]
    omega
  rw [s0]
  exact Lexes.tok (R := .inl [("end", [], T.length)]) (by omega) o1 (by rw [s1]; exact .fin (Nat.le_refl _))
def spQd : Sp := fun vs H Q _ => ∃ z : Str, vs = [.str z] ∧ z.length ≤ 1000 ∧ ∀ z' : Str, tl z' = 34 :: (tl z).flatMap esc ++ [34] → Q (.str z') H
def spText : Sp := fun vs H Q _ => ∃ (a : Addr) (ms : List Int), vs = [.ref a] ∧ H a = some (.lst (ms.map V.int)) ∧ ms ≠ [] ∧ ∀ (z : Str) (ms' : List Int), ms' ≠ [] → (∀ c ∈ tl z, Fine c) → z.length ≤ 12 → Q (.str z) (upd H a (.lst (ms'.map V.int)))
/-! ### the same judgements where so many tokens are out already: str.replace asks whether its two texts are one object -/
section
variable {X : Cx} {n : Nat}
def PEN (n : Nat) (X : Cx) (e : Expr) (t : TE) : Prop := ∀ (pins : List (Addr × Obj)) (s : Shared) (σ : L2.St) (H : Hp) (Q : VK), n ≤ s.toks → Inv X pins σ H s → t σ H Q →
  wpAny (model X.prog X.w) X.A (eval e X.env) (fun u s' => n ≤ s'.toks ∧ EP X pins σ Q u s') X.xe s
def PTN (n : Nat) (X : Cx) (e : Expr) (t : TT) : Prop := ∀ (pins : List (Addr × Obj)) (s : Shared) (σ : L2.St) (H : Hp) (Q : Bool → Hp → Prop), n ≤ s.toks → Inv X pins σ H s → t σ H Q →
  wpAny (model X.prog X.w) X.A (isTrue e X.env (eval e X.env)) (fun b s' => n ≤ s'.toks ∧ TP X pins σ Q b s') X.xe s
def PSN (n : Nat) (X : Cx) (st : Stmt) (t : TS) : Prop := ∀ (pins : List (Addr × Obj)) (s : Shared) (σ : L2.St) (H : Hp) (D : Ends), n ≤ s.toks → Inv X pins σ H s → t D σ H →
  wpAny (model X.prog X.w) X.A (exec st X.env) (fun f s' => n ≤ s'.toks ∧ SP X pins D f s') X.xe s
def PSsN (n : Nat) (X : Cx) (ss : List Stmt) (t : TS) : Prop := ∀ (pins : List (Addr × Obj)) (s : Shared) (σ : L2.St) (H : Hp) (D : Ends), n ≤ s.toks → Inv X pins σ H s → t D σ H →
  wpAny (model X.prog X.w) X.A (execs ss X.env) (fun f s' => n ≤ s'.toks ∧ SP X pins D f s') X.xe s
/-- what holds behind a run holds with the tokens, which never grow fewer -/
theorem out_too {α : Type} {M : Model} {A : Around} {a : Sem α} {Q : α → Shared → Prop} {E : Value → Shared → Prop} {s : Shared} (hn : n ≤ s.toks) (h : wpAny M A a Q E s) : wpAny M A a (fun v s' => n ≤ s'.toks ∧ Q v s') E s :=
  wpAny_mono (wpAny_toks_of hn h) (fun _ _ z => z) fun _ _ z => z.2
theorem PEN.of {e : Expr} {t : TE} (h : PE X e t) : PEN n X e t := fun pins s σ H Q hn I q => out_too hn (h.run pins s σ H Q I q)
theorem PSN.of {st : Stmt} {t : TS} (h : PS X st t) : PSN n X st t := fun pins s σ H D hn I q => out_too hn (h.run pins s σ H D I q)
theorem PSsN.of {ss : List Stmt} {t : TS} (h : PSs X ss t) : PSsN n X ss t := fun pins s σ H D hn I q => out_too hn (h.run pins s σ H D I q)
theorem psn_cons {st : Stmt} {ss : List Stmt} {t u : TS} (h : PSN n X st t) (k : PSsN n X ss u) : PSsN n X (st :: ss) (tSeq t u) := fun pins s σ H D hn I q =>
  wpAny_execs_cons (thn (h pins s σ H { D with nx := u D } hn I q) fun f s' z => match f, z with
    | .next, ⟨hn', σ', H', I', q'⟩ => k pins s' σ' H' D hn' I' q'
    | .ret _, z => z
    | .brk, z => z
    | .cont, z => z)
theorem psn_one {st : Stmt} {t : TS} (h : PSN n X st t) : PSsN n X [st] t := fun pins s σ H D hn I q =>
  wpAny_execs_cons (thn (h pins s σ H D hn I q) fun f s' z => match f, z with
    | .next, z => wpAny_execs_nil z
    | .ret _, z => z
    | .brk, z => z
    | .cont, z => z)
theorem psn_cut {st : Stmt} {ss : List Stmt} {t u : TS} (h : PSN n X st t) (k : PSsN n X ss u) : PSsN n X (st :: ss) (C8.tCut t u) := fun pins s σ H D hn I q => by
  obtain ⟨Mid, hm, hu⟩ := q
  refine wpAny_execs_cons (thn (h pins s σ H { D with nx := Mid } hn I hm) fun f s' z => ?_)
  match f, z with
  | .next, ⟨hn', σ', H', I', q'⟩ => exact k pins s' σ' H' D hn' I' (hu σ' H' q')
  | .ret _, z => exact z
  | .brk, z => exact z
  | .cont, z => exact z
theorem psn_set {i : Nat} {x : Str} {e : Expr} {te : TE} {p1 p2 : Pos} (hN : X.N.Nodup) (hi : X.N[i]? = some x) (hx : Loc X.env.scope x) (he : PEN n X e te) (hs : swapsWith e (some (.Name x p1)) p2.line X.env = pure false := by rfl)
    (hf : X.fn x = true ∨ X.env.scope.names.lookup x = some .local := by first | exact .inl rfl | exact .inr rfl) : PSN n X (.Assign [.Name x p1] e p2) (tAsg te (gName i)) := fun pins s σ H D hn I q =>
  wpAny_Assign_Name (thn (he pins s σ H _ hn I q) fun _ s1 ⟨hn1, _, H1, I1, r1, q1⟩ => out_too hn1 (store_ok I1 hN hi hx r1 (fun _ I2 => ⟨_, H1, I2, q1⟩) hf)) hs
theorem psn_ret {e : Expr} {te : TE} {p : Pos} (he : PEN n X e te) : PSN n X (.Return (some e) p) (tRet te) := fun pins s σ H D hn I q =>
  wpAny_Return_some (thn (he pins s σ H _ hn I q) fun _ _ ⟨hn1, v, H1, I1, r1, q1⟩ => ⟨hn1, v, σ, H1, I1, r1, q1⟩)
theorem psn_if {c : Expr} {a b : List Stmt} {tc : TT} {t u : TS} {p : Pos} (hc : PTN n X c tc) (ha : PSsN n X a t) (hb : PSsN n X b u) : PSN n X (.If c a b p) (tIfS tc t u) := fun pins s σ H D hn I q =>
  wpAny_If (thn (hc pins s σ H _ hn I q) fun d s1 z => match d, z with
    | true, ⟨hn1, H1, I1, q1⟩ => ha pins s1 σ H1 D hn1 I1 q1
    | false, ⟨hn1, H1, I1, q1⟩ => hb pins s1 σ H1 D hn1 I1 q1)
theorem pen_op {op : Operator} {r : R2} {a b : Expr} {ta tb : TE} {p : Pos} (ho : OpR X (binaryOp op) r) (ha : PEN n X a ta) (hb : PE X b tb) : PEN n X (.BinOp a op b p) (tOp r ta tb) := fun pins s σ H Q hn I q =>
  wpAny_BinOp (thn (ha pins s σ H _ hn I q) fun v s1 ⟨hn1, x, H1, I1, r1, q1⟩ => thn (out_too hn1 (hb.run pins s1 σ H1 _ I1 q1)) fun u s2 ⟨hn2, y, H2, I2, r2, q2⟩ => out_too hn2 (ho pins s2 σ H2 x y v u Q I2 r1 r2 q2))
theorem pen_opR {op : Operator} {r : R2} {a b : Expr} {ta tb : TE} {p : Pos} (ho : OpR X (binaryOp op) r) (ha : PE X a ta) (hb : PEN n X b tb) : PEN n X (.BinOp a op b p) (tOp r ta tb) := fun pins s σ H Q hn I q =>
  wpAny_BinOp (thn (out_too hn (ha.run pins s σ H _ I q)) fun v s1 ⟨hn1, x, H1, I1, r1, q1⟩ => thn (hb pins s1 σ H1 _ hn1 I1 q1) fun u s2 ⟨hn2, y, H2, I2, r2, q2⟩ => out_too hn2 (ho pins s2 σ H2 x y v u Q I2 r1 r2 q2))
theorem pen_cmp {op : CmpOp} {r : R2} {a b : Expr} {ta tb : TE} {p : Pos} (ho : OpR X (compareOp op) r) (ha : PE X a ta) (hb : PEN n X b tb) (hm : behindInMarks op b = false) : PEN n X (.Compare a [op] [b] p) (tOp r ta tb) := fun pins s σ H Q hn I q =>
  wpAny_Compare1 (thn (out_too hn (ha.run pins s σ H _ I q)) fun v s1 ⟨hn1, x, H1, I1, r1, q1⟩ => thn (hb pins s1 σ H1 _ hn1 I1 q1) fun u s2 ⟨hn2, y, H2, I2, r2, q2⟩ => out_too hn2 (ho pins s2 σ H2 x y v u Q I2 r1 r2 q2)) hm
theorem ptn_cmp {op : CmpOp} {r : R2} {a b : Expr} {ta tb : TE} {p : Pos} (ho : OpR X (compareOp op) r) (ha : PEN n X a ta) (hb : PE X b tb) (hm : behindInMarks op b = false) : PTN n X (.Compare a [op] [b] p) (tTest (tOp r ta tb)) := fun pins s σ H Q hn I q => by
  refine wpAny_isTrue_Compare1 (thn (ha pins s σ H _ hn I q) fun v s1 ⟨hn1, x, H1, I1, r1, q1⟩ => thn (out_too hn1 (hb.run pins s1 σ H1 _ I1 q1)) fun u s2 ⟨hn2, y, H2, I2, r2, q2⟩ => thn (out_too hn2 (ho pins s2 σ H2 x y v u _ I2 r1 r2 q2)) fun d s3 ⟨hn3, z, H3, I3, r3, k, e, q3⟩ => ?_) hm
  subst e
  cases r3
  exact wpAny_truthy_bool ⟨hn3, H3, I3, q3⟩
theorem ptn_or {a b : Expr} {ta tb : TT} {p : Pos} (ha : PT X a ta) (hb : PTN n X b tb) : PTN n X (.BoolOp .Or [a, b] p) (tOr ta tb) := fun pins s σ H Q hn I q => by
  refine isTrue_or (thn (out_too hn (ha.run pins s σ H _ I q)) fun c s1 ⟨hn1, H1, I1, q1⟩ => ?_)
  cases c with
  | true => exact ⟨hn1, H1, I1, q1⟩
  | false =>
    refine isTrue_or (thn (hb pins s1 σ H1 Q hn1 I1 q1) fun c s2 z => ?_)
    cases c with
    | false => exact isTrue_or_nil z
    | true => exact z
/-! ### defs that are entered so -/
structure FnN (n : Nat) (P : Program) (w : World) (K : PySem.W.Frag) (mg : Str → Option Value) (base : Heap) (k : Nat) (f : Addr) (fd : FuncData) (ps : List Str) (sp : Sp) : Prop where
  len : ∀ vs H Q E, sp vs H Q E → vs.length = ps.length
  run : ∀ (A : Around) (outer : List Env) (s : Shared) (H : Hp) (args : Args) (us : List Value) (vs : List V) (Q : VK) (E : XK), n ≤ s.toks → Room k A → Env0 P w K mg base A outer s H → BindsTo s fd args (ps.zip us) → Vals vs us → sp vs H Q E →
    codeAny (model P w) A (.call (.ref f) args) (CR CX0 outer P w H s Q E) s
theorem pen_call {k : Nat} {f : Addr} {fd : FuncData} {ps : List Str} {sp : Sp} {x : Str} {p1 p2 : Pos} {e : Expr} {es : List Expr} {t : TA} (F : FnN n X.prog X.w X.K X.mg X.base k f fd ps sp) (hr : Room k X.A) (hg : Gl X x) (hm : X.mg x = some (.ref f))
    (hk : PySem.W.keepIn X.K (.ref f) = true) (hb : Binds X.K fd ps []) (ha : PA X (e :: es) t) (hd : (x == ("__debug__" : Str)) = false := by decide)
    (he : starEach (e :: es) X.env = (false, eval e X.env) :: starEach es X.env := by rfl) (hpl : (backTo p2 (starEach es X.env)).any (·.1) = false := by rfl) : PEN n X (.Call (.Name x p1) (e :: es) [] p2) (tCall sp [] E0 t) := fun pins s σ H Q hn I q => by
  refine out_too hn (wpAny_Call_Name_kw (ld_glob I hg hm ?_ hd))
  refine PySem.W.callWith_K (h₀ := X.base) I.ok.mod.kin hk (thn (out_too hn (ha.run p2 pins s σ H _ I q)) fun us s1 z => ?_) he hpl
  obtain ⟨hn1, vs, H1, I1, r1, q1⟩ := z
  rw [List.append_nil] at q1
  have hl : us.length = ps.length := r1.length.symm.trans (F.len _ _ _ _ q1)
  have bb := hb s1 us I1.kIn (by rw [List.append_nil]; exact hl)
  rw [List.append_nil] at bb
  refine ⟨I1.kIn, wpAny_call (codeAny_mono (F.run X.A X.stack s1 H1 ⟨us, []⟩ us vs Q E0 hn1 hr I1.env0 bb r1 q1) fun r s' hq => ?_)⟩
  match r, hq with
  | .ok (.ret _), hq => exact I1.after hq
theorem fnN_of {P : Program} {w : World} {K : PySem.W.Frag} {mg : Str → Option Value} {base : Heap} {x qual : Str} {st : Stmt} {f : Addr} {fd : FuncData} {N ps : List Str} {k : Nat} {sp : Sp} (F : Fun K x qual st f fd) (S : FnScope N ps (defScope st))
    (len : ∀ vs H Q E, sp vs H Q E → vs.length = ps.length)
    (hbody : ∀ (cdv : Value) (A : Around) (outer : List Env) (s : Shared) (H : Hp) (vs : List V) (Q : VK) (E : XK), Room k (A.deeper (envOfC qual (defScope st) s.heap.objs.size f cdv)) → sp vs H Q E →
      ∃ t, PSsN n (cxOf CX0 P w K mg base N qual (defScope st) f cdv A outer s H E) (defBody st) t ∧ t { nx := fun _ H' => Q .non H', rt := Q } (start N vs) H) : FnN n P w K mg base (k + 1) f fd ps sp := by
  obtain ⟨oc, od, kV, doc, pm, an, cdv, ct, osl, rfl, lk, hcd⟩ := F.ex
  refine ⟨len, fun A outer s H args us vs Q E hn hr e0 hb r hsp => ?_⟩
  have hl := len _ _ _ _ hsp
  have inK := e0.mod.kin.keeps fun b o e => (e0.bs b o e).1
  have limit := e0.mod.nolimit.keeps fun b o e => (e0.bs b o e).1
  refine codeAny_call_function hr.depth (inK _ _ lk) rfl S.co S.gen rfl (PySem.W.codeRec_of inK hcd) (hb _ _ _ _ (wpAny_with_toks hn ?_))
  refine wpAny_newFunctionEnv_cells S.kind (fun y hy => ?_) fun env he s1 x hn1 => ?_
  · obtain ⟨m, v⟩ := y
    exact (S.par m (List.of_mem_zip hy).1).elim (fun q => .inl q) fun q => .inr ⟨q, PySem.W.cellsFrom_some _ _ _ (.inl q)⟩
  · subst he
    obtain ⟨t, ht, hq⟩ := hbody cdv A outer s H vs Q E (hr.deeper _) hsp
    have I := inv_start (CX := CX0) (E := E) (qual := qual) (f := f) (cd := cdv) S hr.hd e0 hl r x
    refine ⟨limit.keeps x.toInCall.keep, codeAny_func (wpAny_mono (ht [] s1 (start N vs) H _ hn1 I hq) (fun fl s' hs => ?_) fun _ _ hs => hs)⟩
    match fl, hs with
    | .ret _, ⟨_, v, _, H', J, rv, q⟩ => exact ⟨v, H', J.os, J.bare, J.base, J.hok, rv, q⟩
    | .next, ⟨_, _, H', J, q⟩ => exact ⟨V.non, H', J.os, J.bare, J.base, J.hok, rfl, q⟩
    | .brk, ⟨_, _, _, _, q⟩ => exact False.elim q
    | .cont, ⟨_, _, _, _, q⟩ => exact False.elim q
end
section
variable {X : Cx} {n : Nat}
/-- o.replace(Y, A + B): Y, A, B texts of the module, Y's token out before; the sum is a text of its own, so the two are never one object -/
def tRepN (y z : Str) (to : TE) : TE := fun σ H Q => to σ H fun v H1 => ∃ x, v = .str x ∧ x.length + (x.length + 1) * z.length ≤ 16777216 ∧ Q (.str (Txt.replace x y z)) H1
theorem pen_repl {o : Expr} {to : TE} {yn an bn y a b : Str} {ty ta tb : Tok} {p1 p2 p3 p4 ap pos : Pos} (ho : PEN n X o to) (gy : Gl X yn) (my : X.mg yn = some (.str y ty)) (ga : Gl X an) (ma : X.mg an = some (.str a ta)) (gb : Gl X bn) (mb : X.mg bn = some (.str b tb))
    (h0 : ty ≠ 0) (h1 : ty < n) (ea : a.length ≠ 0) (eb : b.length ≠ 0) (hyz : (y == a ++ b) = false) (hsz : (a ++ b).length ≤ 100) (dy : (yn == ("__debug__" : Str)) = false := by decide) (da : (an == ("__debug__" : Str)) = false := by decide) (db : (bn == ("__debug__" : Str)) = false := by decide)
    (hst : starEach [.Name yn p1, .BinOp (.Name an p2) .Add (.Name bn p3) p4] X.env = [(false, eval (.Name yn p1) X.env), (false, eval (.BinOp (.Name an p2) .Add (.Name bn p3) p4) X.env)] := by rfl)
    (hba : attributeBase o "replace" X.env (eval o X.env) = eval o X.env := by rfl) (hli : (ap.endLine == pos.line) = true := by rfl) :
    PEN n X (.Call (.Attribute o "replace" ap) [.Name yn p1, .BinOp (.Name an p2) .Add (.Name bn p3) p4] [] pos) (tRepN y (a ++ b) to) := by
  intro pins s σ H Q hn I q
  refine out_too hn (PySem.Call_method2 hba hst hli (thn (ho pins s σ H _ hn I q) fun v s1 z => ?_))
  obtain ⟨hn1, v', H1, I1, r1, x, rfl, hb, q1⟩ := z
  obtain ⟨tx, rfl⟩ := r1
  refine ⟨"str", _, PySem.F.plainAttrs_str, PySem.F.slot_str_replace, PySem.F.type_str_replace, typeIs_str _ _ _, (fun _ e => nomatch e), Calls.callWith_builtin rfl (Calls.evalArgs_plain (Calls.spliced_cons (ld_glob I1 gy my ?_ dy)))⟩
  refine Calls.spliced_cons (wpAny_BinOp (ld_glob I1 ga ma (ld_glob I1 gb mb (PySem.P.add_str ?_) db) da))
  rw [if_neg (by simpa using ea), if_neg (by simpa using eb)]
  refine ⟨Nat.le_trans hsz (by decide), Calls.spliced_nil ?_⟩
  refine PySem.SC.replace h0 (Nat.ne_of_gt (Nat.lt_of_le_of_lt (Nat.zero_le ty) (Nat.lt_of_lt_of_le h1 hn1))) (Nat.ne_of_lt (Nat.lt_of_lt_of_le h1 hn1)) hyz hb fun t' k => ?_
  exact ⟨.str (Txt.replace x y (a ++ b)), H1, I1.tok k, ⟨t', rfl⟩, q1⟩
end
/-- the law's call, from the state behind the top: its tokens are told -/
theorem endN {P : Program} {w : World} {K : PySem.W.Frag} {mg mb : Str → Option Value} {k n : Nat} {fa a : Addr} {fd : FuncData} {x : Str} {sp : Sp} {s₁ : Shared} {vs : List Value} {ns : List Int}
    (KX : K.In s₁.heap) (hns : s₁.heap.Ns mainGlobals mg) (hb : s₁.heap.Ns builtinsNs mb) (hbb : ∀ x : Str, x ≠ "__name__" → mb x = bootBuiltins x) (hlim : s₁.heap.NoLimit) (hg : s₁.gens = #[]) (hn : n ≤ s₁.toks)
    (ha : s₁.heap.get? a = some { cls := .type "list", data := .seq vs.toArray }) (hi : IntsAre vs ns) (hl : ns.length ≤ sizeLine) (hr : Room k callerA)
    (F : ∀ base : Heap, K.In base → base.Ns mainGlobals mg → FnN n P w K mg base k fa fd [x] sp) (hbind : ∀ (s : Shared) (u : Value), BindsTo s fd ⟨[u], []⟩ [(x, u)])
    (hsp : ∀ H : Hp, SqL K H a (ns.map V.int) → sp [.ref a] H (fun v _ => v = .bl true) fun _ _ _ => False) :
    codeAny (model P w) callerA (.call (.ref fa) ⟨[.ref a], []⟩) (fun r s' => r = .ok (.ret (.bool true)) ∧ PySem.OldK s₁.heap s'.heap ∧ s'.os = s₁.os ∧ AllBare s'.gens) s₁ := by
  have lenV := hi.length
  -- from a picture of the heap that tracks the script alone, or nothing
  have go : ∀ H : Hp, (∀ b u, H b = some u → b = a ∧ K.lookup a = none ∧ ∃ o xs, u = .frz o (.lst xs)) → SqL K H a (ns.map V.int) → HOk P w H s₁.heap →
      codeAny (model P w) callerA (.call (.ref fa) ⟨[.ref a], []⟩) (fun r s' => r = .ok (.ret (.bool true)) ∧ PySem.OldK s₁.heap s'.heap ∧ s'.os = s₁.os ∧ AllBare s'.gens) s₁ := by
    intro H hO hS hok
    have offK : ∀ b o, K.lookup b = some o → H b = none := fun b o e => by
      cases q : H b with
      | none => rfl
      | some u =>
        obtain ⟨z1, z2, _⟩ := hO b u q
        rw [z1, z2] at e
        cases e
    have offD : ∀ (b : Addr) (o : Obj) (es : Array DictEntry) (ep : Nat), s₁.heap.get? b = some o → o.data = .dict es ep → H b = none := fun b o es ep e d => by
      cases q : H b with
      | none => rfl
      | some u =>
        obtain ⟨z1, _⟩ := hO b u q
        rw [z1, ha] at e
        cases e
        cases (show Data.seq vs.toArray _ = Data.dict es ep from d)
    have ns' : ∀ {b : Addr} {m : Str → Option Value}, s₁.heap.Ns b m → (hidT s₁.heap H).Ns b m := fun {b m} z => by
      obtain ⟨o, es, ep, e, d, r⟩ := z
      exact ⟨o, es, ep, hidT_get e (offD b o es ep e d), d, r⟩
    have hKb : K.In (hidT s₁.heap H) := fun b o e => hidT_get (KX b o e) (offK b o e)
    have hM : Mod K mg (hidT s₁.heap H) := by
      obtain ⟨mc, h1, h2⟩ := hlim
      exact ⟨hKb, ns' hns, ⟨mb, ns' hb, hbb⟩, ⟨mc, ns' h1, h2⟩⟩
    have e0 : Env0 P w K mg (hidT s₁.heap H) callerA [] s₁ H := ⟨rfl, hM, fun b o e => of_hidT e, Nat.le_of_eq (hidT_size _ _), trivial, fun b z => absurd (show b ∈ ([] : List Addr) from z) (by simp), hok, .of_eq hg⟩
    refine codeAny_mono ((F _ hKb (ns' hns)).run callerA [] s₁ H ⟨[.ref a], []⟩ [.ref a] [.ref a] _ _ hn hr e0 (hbind s₁ (.ref a)) (.cons rfl .nil) (hsp H hS)) fun r s' h => ?_
    match r, h with
    | .ok (.ret u), h =>
      obtain ⟨v, H', os, bare, un, hok', r', q⟩ := h
      have ev : v = V.bl true := q
      subst ev
      have eu : u = Value.bool true := r'
      subst eu
      refine ⟨rfl, PySem.OldK.of_keep fun b o e => ?_, os, bare⟩
      cases z : H b with
      | none => exact un.keep b o e z (fun y => absurd (show b ∈ ([] : List Addr) from y) (by simp)) (by simp)
      | some u =>
        obtain ⟨_, _, ob, xs, eu⟩ := hO b u z
        rw [eu] at z
        have g1 := (hok b _ z).1
        have g2 := (hok' b _ (un.frzs b ob _ z)).1
        rw [e] at g1
        cases g1
        exact g2
  cases hk : K.lookup a with
  | some o =>
    have e := KX a o hk
    rw [ha] at e
    cases e
    exact go (fun _ => none) (fun b u z => by cases (show (none : Option HO) = some u from z)) (.inr ⟨_, vs.toArray, _, hk, rfl, rfl, rfl, by rw [List.size_toArray, lenV]; exact hl, by simpa using vals_ints hi⟩) (fun b u z => by cases (show (none : Option HO) = some u from z))
  | none =>
    refine go (fun b => if b = a then some (.frz { cls := .type "list", data := .seq vs.toArray } (.lst (ns.map V.int))) else none) (fun b u z => ?_) (.inl (.inr ⟨{ cls := .type "list", data := .seq vs.toArray }, if_pos rfl⟩)) (fun b u z => ?_)
    · by_cases e : b = a
      · cases (if_pos e).symm.trans z
        exact ⟨e, hk, _, _, rfl⟩
      · cases (if_neg e).symm.trans z
    · by_cases e : b = a
      · cases (if_pos e).symm.trans z
        subst e
        exact ⟨ha, by rw [List.length_map]; exact hl, vs, _, vals_ints hi, ha⟩
      · cases (if_neg e).symm.trans z
end Ky
namespace Ky
open PySem PySem.Spec PyProof.Rows L2 TL
set_option autoImplicit false
section
variable {P : Program} {w : World} {K : PySem.W.Frag} {mg : Str → Option Value} {base : Heap} {A : Ad}
/-- a fault is raised -/
theorem fault_out {H : Hp} {E : XK} {p : Nat} {r : Str} (hE : ∀ (d : Addr) (H' : Hp), Same H H' → H' d = some (.xd (fFault p r)) → E (.ref A.C_Fault) (some d) H') :
    ([V.int (p : Int), V.str r] : List V).length ≤ 1000 ∧ ∀ a, H a = none → spFI A.C_Fault (.ref a :: ([V.int (p : Int), V.str r] ++ [])) (upd H a (exo a A.C_Fault none))
      (fun v H2 => v = .non ∧ ∃ (d : Addr) (fs : List (Str × V)), H2 a = some (exo a A.C_Fault (some d)) ∧ H2 d = some (exd d fs) ∧ H d = none ∧ E (.ref A.C_Fault) (some d) (upd (del H2 a) d (.xd fs))) (fun _ _ _ => False) :=
  ⟨(by show 2 ≤ 1000; decide), fun a ha => ⟨a, _, _, rfl, upd_same, fun d hd hda => ⟨rfl, d, _, (upd_ne hda.symm).trans upd_same, upd_same, (upd_ne hda).symm.trans hd,
    hE d _ (made_fault ha ((upd_ne hda).symm.trans hd) hda) upd_same⟩⟩⟩
theorem sc_Fault___init__ : FnScope ["self", "place", "reason"] ["self", "place", "reason"] (defScope (inClass (topS 2) 0)) := ⟨rfl, rfl, rfl, by decide +kernel, rfl, by decide +kernel, by decide +kernel⟩
theorem ok_Fault___init__ (T : Txt K mg A) : FnOk P w K mg base CX0 1 A.f_Fault___init__ A.fd_Fault___init__ ["self", "place", "reason"] (spFI A.C_Fault) := by
  refine T.F_Fault___init__.ok sc_Fault___init__ (fun vs H Q E h => ?_) (fun cdv Ar outer s H vs Q E hr h => ?_)
  · obtain ⟨a, x, y, rfl, _⟩ := h
    rfl
  · obtain ⟨a, x, y, rfl, ha, q⟩ := h
    refine ⟨_, pss_cons (ps_ost (pv 0) (pv 1)) (pss_one (ps_ost (pv 0) (pv 2))), ?_⟩
    exact ⟨_, rfl, _, rfl, a, _, rfl, T.oex, T.np_Fault, .inl ⟨ha, fun d hd hda => ⟨_, rfl, _, rfl, a, _, rfl, T.oex, T.nr_Fault, .inr ⟨d, _, upd_same, (upd_ne hda).trans upd_same, (by show 1 ≤ 900; decide), q d hd hda⟩⟩⟩⟩
theorem sc_Token___init__ : FnScope ["self", "role", "text", "place"] ["self", "role", "text", "place"] (defScope (inClass (topS 12) 0)) := ⟨rfl, rfl, rfl, by decide +kernel, rfl, by decide +kernel, by decide +kernel⟩
theorem ok_Token___init__ (T : Txt K mg A) : FnOk P w K mg base CX0 1 A.f_Token___init__ A.fd_Token___init__ ["self", "role", "text", "place"] (spTI A.C_Token) := by
  refine T.F_Token___init__.ok sc_Token___init__ (fun vs H Q E h => ?_) (fun cdv Ar outer s H vs Q E hr h => ?_)
  · obtain ⟨p, dx, x, y, z, rfl, _⟩ := h
    rfl
  · obtain ⟨p, dx, x, y, z, rfl, hp, q⟩ := h
    refine ⟨_, (pss_cons (ps_fld (pv 0) (pv 1) rfl)
 (pss_cons (ps_fld (pv 0) (pv 2) rfl)
 (pss_one (ps_fld (pv 0) (pv 3) rfl)))), ?_⟩
    refine ⟨_, rfl, _, rfl, p, _, dx, [], rfl, hp, T.cl_Token, T.na_Token_role, (by show 0 < 1000; decide), ?_⟩
    refine ⟨_, rfl, _, rfl, p, _, dx, _, rfl, upd_same, T.cl_Token, T.na_Token_text, (by show 1 < 1000; decide), ?_⟩
    refine ⟨_, rfl, _, rfl, p, _, dx, _, rfl, upd_same, T.cl_Token, T.na_Token_place, ?_, ?_⟩
    · have h1 := length_putF "text" y (putF "role" x [])
      have h2 := length_putF "role" x []
      exact Nat.lt_of_le_of_lt (Nat.le_trans h1 (Nat.succ_le_succ h2)) (by decide)
    · rw [upd_upd, upd_upd]
      exact q
theorem sc_behind_blanks : FnScope ["text", "at"] ["text", "at"] (defScope (topS 15)) := ⟨rfl, rfl, rfl, by decide +kernel, rfl, by decide +kernel, by decide +kernel⟩
theorem ok_behind_blanks (T : Txt K mg A) : FnOk P w K mg base CX0 1 A.f_behind_blanks A.fd_behind_blanks ["text", "at"] spBlanks := by
  refine T.F_behind_blanks.ok sc_behind_blanks (fun vs H Q E h => ?_) (fun cdv Ar outer s H vs Q E hr h => ?_)
  · obtain ⟨z, i, rfl, _⟩ := h
    rfl
  · obtain ⟨z, i, rfl, hz, q⟩ := h
    have hzl : z.length ≤ sizeLine := Nat.le_trans hz (by decide)
    refine ⟨_, (pss_cons (ps_while PassesOwn.never (PW.pt (pw_and (pt_cmpR op_lt (pv 1) (pe_callB call_len_str rfl T.b_len PySem.boot_len (pa_cons (pv 0) pa_nil)) (nomark _)) (pw_and1 (pt_cmpR op_eq (pe_ix ix_str (pv 0) (pv 1) (fun _ _ => rfl)) pe_str (nomark _)))))
 (pss_one (ps_aug (i := 1) sc_behind_blanks.nd rfl (.inl rfl) pe_int ip_add)))
 (pss_one (ps_ret (pv 1)))), ?_⟩
    refine ⟨fun m σ H' => ∃ j : Nat, σ = [some (.str z), some (.int (j : Int))] ∧ H' = H ∧ m = (tl z).length - j ∧ skip (tl z) j = skip (tl z) i, ⟨_, i, rfl, rfl, rfl, rfl⟩, ?_⟩
    rintro m σ H' ⟨j, rfl, rfl, rfl, es⟩
    refine ⟨_, rfl, _, rfl, z, rfl, hzl, _, _, rfl, rfl, _, rfl, ite2 (fun h => ?_) (fun h => ?_)⟩
    · have hlt : j < (tl z).length := by
        have := of_decide_eq_true h
        rw [len_tl] at this
        omega
      refine ⟨_, rfl, _, rfl, z, _, _, rfl, rfl, hzl, sign_at_list hlt, rfl, _, rfl, ?_⟩
      rw [sign_is (s := " ") (d := 32) (by decide +kernel), str1_eq]
      refine ite2 (fun h2 => ?_) (fun h2 => ?_)
      · have e2 := of_decide_eq_true h2
        refine ⟨fun σ' H'' => σ' = [some (.str z), some (.int ((j + 1 : Nat) : Int))] ∧ H'' = H', ?_, ?_⟩
        · rintro σ' H'' ⟨rfl, rfl⟩
          exact ⟨_, by omega, j + 1, rfl, rfl, rfl, (skip_hit hlt e2).symm.trans es⟩
        · exact ⟨_, rfl, _, _, rfl, rfl, rfl, rfl⟩
      · refine ⟨_, rfl, ?_⟩
        rw [← es, skip_miss hlt (fun e => h2 (decide_eq_true e))] at q
        exact q
    · have hge : (tl z).length ≤ j := by
        have := of_decide_eq_false (Bool.eq_false_iff.mpr h)
        rw [len_tl] at this
        omega
      refine iteF ⟨_, rfl, ?_⟩
      rw [← es, skip_end hge] at q
      exact q
theorem sc_behind_run : FnScope ["text", "at", "allowed"] ["text", "at", "allowed"] (defScope (topS 17)) := ⟨rfl, rfl, rfl, by decide +kernel, rfl, by decide +kernel, by decide +kernel⟩
theorem ok_behind_run (T : Txt K mg A) : FnOk P w K mg base CX0 1 A.f_behind_run A.fd_behind_run ["text", "at", "allowed"] spRun := by
  refine T.F_behind_run.ok sc_behind_run (fun vs H Q E h => ?_) (fun cdv Ar outer s H vs Q E hr h => ?_)
  · obtain ⟨z, al, i, rfl, _⟩ := h
    rfl
  · obtain ⟨z, al, i, rfl, hz, hi, q⟩ := h
    have hzl : z.length ≤ sizeLine := Nat.le_trans hz (by decide)
    refine ⟨_, (pss_cons (ps_while PassesOwn.never (PW.pt (pw_and (pt_cmpR op_lt (pv 1) (pe_callB call_len_str rfl T.b_len PySem.boot_len (pa_cons (pv 0) pa_nil)) (nomark _)) (pw_and1 (pt_cmpR op_in_sign (pe_ix ix_str (pv 0) (pv 1) (fun _ _ => rfl)) (pv 2) (by rfl)))))
 (pss_one (ps_aug (i := 1) sc_behind_run.nd rfl (.inl rfl) pe_int ip_add)))
 (pss_one (ps_ret (pv 1)))), ?_⟩
    refine ⟨fun m σ H' => ∃ j : Nat, σ = [some (.str z), some (.int (j : Int)), some (.str al)] ∧ H' = H ∧ j ≤ (tl z).length ∧ m = (tl z).length - j ∧
      j + runp (fun c => decide (c ∈ tl al)) ((tl z).drop j) = i + runp (fun c => decide (c ∈ tl al)) ((tl z).drop i), ⟨_, i, rfl, rfl, hi, rfl, rfl⟩, ?_⟩
    rintro m σ H' ⟨j, rfl, rfl, hj, rfl, es⟩
    refine ⟨_, rfl, _, rfl, z, rfl, hzl, _, _, rfl, rfl, _, rfl, ite2 (fun h => ?_) (fun h => ?_)⟩
    · have hlt : j < (tl z).length := by
        have := of_decide_eq_true h
        rw [len_tl] at this
        omega
      refine ⟨_, rfl, _, rfl, z, _, _, rfl, rfl, hzl, sign_at_list hlt, _, rfl, _, al, rfl, rfl, _, rfl, ?_⟩
      refine ite2 (fun h2 => ?_) (fun h2 => ?_)
      · refine ⟨fun σ' H'' => σ' = [some (.str z), some (.int ((j + 1 : Nat) : Int)), some (.str al)] ∧ H'' = H', ?_, ?_⟩
        · rintro σ' H'' ⟨rfl, rfl⟩
          refine ⟨_, by omega, j + 1, rfl, rfl, hlt, rfl, ?_⟩
          rw [← es, drop_at hlt, runp_hit h2]
          omega
        · exact ⟨_, rfl, _, _, rfl, rfl, rfl, rfl⟩
      · refine ⟨_, rfl, ?_⟩
        rw [← es, drop_at hlt, runp_miss (Bool.eq_false_iff.mpr h2)] at q
        exact q
    · have hge : (tl z).length ≤ j := by
        have := of_decide_eq_false (Bool.eq_false_iff.mpr h)
        rw [len_tl] at this
        omega
      refine iteF ⟨_, rfl, ?_⟩
      rw [← es, drop_end hge] at q
      exact q
theorem sc_word_at : FnScope ["text", "at", "behind"] ["text", "at"] (defScope (topS 18)) := ⟨rfl, rfl, rfl, by decide +kernel, rfl, by decide +kernel, by decide +kernel⟩
theorem ok_word_at (T : Txt K mg A) : FnOk P w K mg base (L2.CX P w) 3 A.f_word_at A.fd_word_at ["text", "at"] (spAt A resWord) := by
  refine T.F_word_at.okX sc_word_at (fun vs H Q E h => ?_) (fun cdv Ar outer s H vs Q E hr h => ?_)
  · obtain ⟨z, i, rfl, _⟩ := h
    rfl
  · obtain ⟨z, i, rfl, hz, hi, q⟩ := h
    have hzl : z.length ≤ sizeLine := Nat.le_trans hz (by decide)
    refine ⟨_, (pss_cons (ps_set (i := 2) sc_word_at.nd rfl (.inl rfl) (pe_call (ok_behind_run T) (hr.mono (by decide)) (by rfl) T.g_behind_run T.F_behind_run.kp T.b_behind_run .nil pass0 (pa_cons (pv 0) (pa_cons (pv 1) (pa_cons (pe_glob (v := (.str "abcdefghijklmnopqrstuvwxyzABCDEFGHIJKLMNOPQRSTUVWXYZ0123456789_")) rfl T.g_WORD_SIGNS.choose_spec ⟨_, rfl⟩) pa_nil)))))
 (pss_cons (ps_if (pt_cmpR op_gt (pe_op op_sub (pv 2) (pv 1)) (pe_glob (v := (.int 12)) rfl T.g_LONGEST_WORD.choose_spec ⟨_, rfl⟩) (nomark _))
 (pss_one (ps_raise rfl (takes_of rfl rfl rfl rfl) (pmk_oex T.oex T.ic_Fault T.ti_Fault (ok_Fault___init__ T) (hr.mono (by decide)) T.b_Fault___init__ .nil pass0 (by rfl) T.g_Fault (pa_cons (pv 1) (pa_cons pe_str pa_nil)))))
 pss_nil)
 (pss_one (ps_ret (pe_tup (pa_cons (pe_make T.mk_Token (ok_Token___init__ T) (hr.mono (by decide)) (by rfl) T.g_Token T.b_Token___init__ .nil pass0 (pa_cons pe_str (pa_cons (pe_slice sl_str (pv 0) (po_some (pv 1)) (po_some (pv 2))) (pa_cons (pv 1) pa_nil)))) (pa_cons (pv 2) pa_nil))))))), ?_⟩
    refine ⟨_, rfl, _, rfl, z, _, i, rfl, hz, Nat.le_of_lt hi, ?_⟩
    have er : runp (fun c => decide (c ∈ tl "abcdefghijklmnopqrstuvwxyzABCDEFGHIJKLMNOPQRSTUVWXYZ0123456789_")) ((tl z).drop i) = runp isWs ((tl z).drop i) := runp_congr in_word _
    rw [er]
    refine ⟨_, rfl, _, rfl, _, _, rfl, rfl, _, _, rfl, rfl, _, rfl, ite2 (fun h => ?_) (fun h => ?_)⟩
    · have h' : 12 < runp isWs ((tl z).drop i) := by
        have := of_decide_eq_true h
        omega
      rw [show resWord (tl z) i = .bad i "word too long" from if_pos h'] at q
      exact ⟨_, rfl, fault_out q⟩
    · have h' : ¬ 12 < runp isWs ((tl z).drop i) := fun h2 => h (decide_eq_true (by omega))
      rw [show resWord (tl z) i = .tok "word" (((tl z).drop i).take (runp isWs ((tl z).drop i))) (i + runp isWs ((tl z).drop i)) from if_neg h'] at q
      refine ⟨_, rfl, _, rfl, _, rfl, _, rfl, _, rfl, z, rfl, hzl, _, rfl, fun x dx hx hdx ne => ⟨x, dx, _, _, _, rfl, upd_same, rfl, _, rfl, (by show 2 ≤ sizeLine; decide), fun t ht => ?_⟩⟩
      refine q t x _ ((by rw [upd_upd]; exact (same_two hx hdx).trans (same_new (by rw [upd_upd] at ht; exact ht)))) upd_same ⟨dx, _, (upd_ne (ne_of_none upd_same ht)).trans upd_same, (tl_cut (Nat.le_of_lt hi)).trans (by rw [Nat.add_sub_cancel_left])⟩
theorem sc_number_at : FnScope ["text", "at", "behind"] ["text", "at"] (defScope (topS 19)) := ⟨rfl, rfl, rfl, by decide +kernel, rfl, by decide +kernel, by decide +kernel⟩
theorem ok_number_at (T : Txt K mg A) : FnOk P w K mg base (L2.CX P w) 3 A.f_number_at A.fd_number_at ["text", "at"] (spAt A resNum) := by
  refine T.F_number_at.okX sc_number_at (fun vs H Q E h => ?_) (fun cdv Ar outer s H vs Q E hr h => ?_)
  · obtain ⟨z, i, rfl, _⟩ := h
    rfl
  · obtain ⟨z, i, rfl, hz, hi, q⟩ := h
    have hzl : z.length ≤ sizeLine := Nat.le_trans hz (by decide)
    refine ⟨_, (pss_cons (ps_set (i := 2) sc_number_at.nd rfl (.inl rfl) (pe_call (ok_behind_run T) (hr.mono (by decide)) (by rfl) T.g_behind_run T.F_behind_run.kp T.b_behind_run .nil pass0 (pa_cons (pv 0) (pa_cons (pv 1) (pa_cons (pe_glob (v := (.str "0123456789")) rfl T.g_DIGITS.choose_spec ⟨_, rfl⟩) pa_nil)))))
 (C8.pss_cut (ps_if (PW.pt (pw_and (pt_cmpR op_eq (pe_ix ix_str (pv 0) (pv 1) (fun _ _ => rfl)) pe_str (nomark _)) (pw_and1 (pt_cmpR op_gt (pe_op op_sub (pv 2) (pv 1)) pe_int (nomark _)))))
 (pss_one (ps_raise rfl (takes_of rfl rfl rfl rfl) (pmk_oex T.oex T.ic_Fault T.ti_Fault (ok_Fault___init__ T) (hr.mono (by decide)) T.b_Fault___init__ .nil pass0 (by rfl) T.g_Fault (pa_cons (pv 1) (pa_cons pe_str pa_nil)))))
 pss_nil)
 (pss_cons (ps_if (pt_cmpR op_gt (pe_op op_sub (pv 2) (pv 1)) (pe_glob (v := (.int 18)) rfl T.g_LONGEST_NUMBER.choose_spec ⟨_, rfl⟩) (nomark _))
 (pss_one (ps_raise rfl (takes_of rfl rfl rfl rfl) (pmk_oex T.oex T.ic_Fault T.ti_Fault (ok_Fault___init__ T) (hr.mono (by decide)) T.b_Fault___init__ .nil pass0 (by rfl) T.g_Fault (pa_cons (pv 1) (pa_cons pe_str pa_nil)))))
 pss_nil)
 (pss_cons (ps_if (pt_cmpR op_gt (pe_call (ok_behind_run T) (hr.mono (by decide)) (by rfl) T.g_behind_run T.F_behind_run.kp T.b_behind_run .nil pass0 (pa_cons (pv 0) (pa_cons (pv 2) (pa_cons (pe_glob (v := (.str "abcdefghijklmnopqrstuvwxyzABCDEFGHIJKLMNOPQRSTUVWXYZ0123456789_")) rfl T.g_WORD_SIGNS.choose_spec ⟨_, rfl⟩) pa_nil)))) (pv 2) (nomark _))
 (pss_one (ps_raise rfl (takes_of rfl rfl rfl rfl) (pmk_oex T.oex T.ic_Fault T.ti_Fault (ok_Fault___init__ T) (hr.mono (by decide)) T.b_Fault___init__ .nil pass0 (by rfl) T.g_Fault (pa_cons (pv 2) (pa_cons pe_str pa_nil)))))
 pss_nil)
 (pss_one (ps_ret (pe_tup (pa_cons (pe_make T.mk_Token (ok_Token___init__ T) (hr.mono (by decide)) (by rfl) T.g_Token T.b_Token___init__ .nil pass0 (pa_cons pe_str (pa_cons (pe_slice sl_str (pv 0) (po_some (pv 1)) (po_some (pv 2))) (pa_cons (pv 1) pa_nil)))) (pa_cons (pv 2) pa_nil))))))))), ?_⟩
    refine ⟨_, rfl, _, rfl, z, _, i, rfl, hz, Nat.le_of_lt hi, ?_⟩
    have er : runp (fun c => decide (c ∈ tl "0123456789")) ((tl z).drop i) = runp isDig ((tl z).drop i) := runp_congr in_digits _
    rw [er]
    have hh : ((tl z).drop i).head? = some (tl z)[i] := by
      rw [drop_at hi]
      rfl
    have hle : i + runp isDig ((tl z).drop i) ≤ (tl z).length := by
      have h1 := runp_le isDig ((tl z).drop i)
      rw [List.length_drop] at h1
      omega
    refine ⟨fun σ' H' => σ' = [some (.str z), some (.int (i : Int)), some (.int ((i + runp isDig ((tl z).drop i) : Nat) : Int))] ∧ H' = H ∧ ¬ (((tl z).drop i).head? = some 48 ∧ 1 < runp isDig ((tl z).drop i)), ?_, ?_⟩
    · refine ⟨_, rfl, _, rfl, z, _, _, rfl, rfl, hzl, sign_at_list hi, rfl, _, rfl, ?_⟩
      rw [sign_is (s := "0") (d := 48) (by decide +kernel), str1_eq]
      refine ite2 (fun h => ?_) (fun h => iteF ⟨rfl, rfl, fun z => h (decide_eq_true (Option.some.inj (hh.symm.trans z.1)))⟩)
      refine ⟨_, rfl, _, rfl, _, _, rfl, rfl, _, _, rfl, rfl, _, rfl, ite2 (fun h2 => ?_) (fun h2 => ⟨rfl, rfl, fun z => h2 (decide_eq_true (by omega))⟩)⟩
      have e1 : ((tl z).drop i).head? = some 48 := hh.trans (congrArg some (of_decide_eq_true h))
      have e2 : 1 < runp isDig ((tl z).drop i) := by
        have := of_decide_eq_true h2
        omega
      rw [show resNum (tl z) i = .bad i "needless zero" from if_pos ⟨e1, e2⟩] at q
      exact ⟨_, rfl, fault_out q⟩
    · rintro σ' H' ⟨rfl, rfl, hn⟩
      refine ⟨_, rfl, _, rfl, _, _, rfl, rfl, _, _, rfl, rfl, _, rfl, ite2 (fun h => ?_) (fun h => ?_)⟩
      · have h' : 18 < runp isDig ((tl z).drop i) := by
          have := of_decide_eq_true h
          omega
        rw [show resNum (tl z) i = .bad i "number too long" from (if_neg hn).trans (if_pos h')] at q
        exact ⟨_, rfl, fault_out q⟩
      · have h' : ¬ 18 < runp isDig ((tl z).drop i) := fun h2 => h (decide_eq_true (by omega))
        refine ⟨_, rfl, _, rfl, z, _, _, rfl, hz, hle, ?_⟩
        rw [show runp (fun c => decide (c ∈ tl "abcdefghijklmnopqrstuvwxyzABCDEFGHIJKLMNOPQRSTUVWXYZ0123456789_")) ((tl z).drop (i + runp isDig ((tl z).drop i))) = runp isWs ((tl z).drop (i + runp isDig ((tl z).drop i))) from runp_congr in_word _]
        refine ⟨_, rfl, _, _, rfl, rfl, _, rfl, ite2 (fun h2 => ?_) (fun h2 => ?_)⟩
        · have h3 : 0 < runp isWs ((tl z).drop (i + runp isDig ((tl z).drop i))) := by
            have := of_decide_eq_true h2
            omega
          rw [show resNum (tl z) i = .bad (i + runp isDig ((tl z).drop i)) "unexpected sign" from (if_neg hn).trans ((if_neg h').trans (if_pos h3))] at q
          exact ⟨_, rfl, fault_out q⟩
        · have h3 : ¬ 0 < runp isWs ((tl z).drop (i + runp isDig ((tl z).drop i))) := fun h4 => h2 (decide_eq_true (by omega))
          rw [show resNum (tl z) i = .tok "number" (((tl z).drop i).take (runp isDig ((tl z).drop i))) (i + runp isDig ((tl z).drop i)) from (if_neg hn).trans ((if_neg h').trans (if_neg h3))] at q
          refine ⟨_, rfl, _, rfl, _, rfl, _, rfl, _, rfl, z, rfl, hzl, _, rfl, fun x dx hx hdx ne => ⟨x, dx, _, _, _, rfl, upd_same, rfl, _, rfl, (by show 2 ≤ sizeLine; decide), fun t ht => ?_⟩⟩
          refine q t x _ ((by rw [upd_upd]; exact (same_two hx hdx).trans (same_new (by rw [upd_upd] at ht; exact ht)))) upd_same ⟨dx, _, (upd_ne (ne_of_none upd_same ht)).trans upd_same, (tl_cut (Nat.le_of_lt hi)).trans (by rw [Nat.add_sub_cancel_left])⟩
theorem sc_may_stand : FnScope ["character", "escaped"] ["character", "escaped"] (defScope (topS 21)) := ⟨rfl, rfl, rfl, by decide +kernel, rfl, by decide +kernel, by decide +kernel⟩
theorem ok_may_stand (T : Txt K mg A) : FnOk P w K mg base CX0 1 A.f_may_stand A.fd_may_stand ["character", "escaped"] spMay := by
  refine T.F_may_stand.ok sc_may_stand (fun vs H Q E h => ?_) (fun cdv Ar outer s H vs Q E hr h => ?_)
  · obtain ⟨c, b, rfl, _⟩ := h
    rfl
  · obtain ⟨c, b, rfl, hc, q⟩ := h
    refine ⟨_, (pss_cons (ps_if (pt_val (pv 1))
 (pss_one (ps_ret (pe_or (pe_cmpR op_eq (pv 0) (pe_glob (v := (.str "\"")) rfl T.g_QUOTE.choose_spec ⟨_, rfl⟩) (nomark _)) (pe_one (pe_cmpR op_eq (pv 0) (pe_glob (v := (.str "\\")) rfl T.g_BACKSLASH.choose_spec ⟨_, rfl⟩) (nomark _))))))
 pss_nil)
 (pss_one (ps_ret (pe_and (pe_chain op_le_str op_le_str pe_str (pv 0) pe_str) (pe_one (pe_cmpR op_ne (pe_callB call_ord rfl T.b_ord (by decide +kernel) (pa_cons (pv 0) pa_nil)) (pe_glob (v := (.int 37)) rfl T.g_PERCENT_CODE.choose_spec ⟨_, rfl⟩) (nomark _))))))), ?_⟩
    refine ⟨_, rfl, b, rfl, ite2 (fun hb => ?_) (fun hb => ?_)⟩
    · rw [if_pos hb] at q
      refine ⟨_, rfl, rfl, ?_⟩
      rw [sign_is (s := "\"") (d := 34) (by decide +kernel), str1_eq, sign_is (s := "\\") (d := 92) (by decide +kernel)]
      refine ⟨_, rfl, ite2 (fun h => ?_) (fun h => ?_)⟩
      · rw [h, Bool.true_or] at q
        exact q
      · rw [Bool.eq_false_iff.mpr h, Bool.false_or, ← str1_eq] at q
        exact ⟨_, rfl, rfl, q⟩
    · rw [if_neg hb] at q
      obtain ⟨c1, c2, c3⟩ := hc
      refine ⟨_, rfl, _, _, rfl, rfl, _, rfl, ?_⟩
      rw [sign_is (s := " ") (d := 32) (by decide +kernel), sign_is (s := "~") (d := 126) (by decide +kernel)]
      show if (!decide (([c] : List Nat) < [32])) = true then _ else _
      rw [lex1, decide_eq_false (show ¬ c < 32 by omega)]
      refine iteT ⟨_, _, rfl, rfl, _, rfl, ?_⟩
      show if (!decide (([126] : List Nat) < [c])) = true then _ else _
      rw [lex1, decide_eq_false (show ¬ 126 < c by omega)]
      refine iteT ⟨_, rfl, _, rfl, rfl, rfl, ?_⟩
      show Q (.bl (!decide (V.int ((c : Nat) : Int) = V.int 37))) H
      rw [decide_eq_false (fun e => c3 (by have := V.int.inj e; omega))]
      exact q
theorem sc_quoted_at : FnScope ["text", "start", "inner", "at", "escaped"] ["text", "start"] (defScope (topS 20)) := ⟨rfl, rfl, rfl, by decide +kernel, rfl, by decide +kernel, by decide +kernel⟩
theorem ok_quoted_at (T : Txt K mg A) : FnOk P w K mg base (L2.CX P w) 3 A.f_quoted_at A.fd_quoted_at ["text", "start"] (spQuo A) := by
  refine T.F_quoted_at.okX sc_quoted_at (fun vs H Q E h => ?_) (fun cdv Ar outer s H vs Q E hr h => ?_)
  · obtain ⟨z, i, rfl, _⟩ := h
    rfl
  · obtain ⟨z, i, rfl, hz, hi, hf, q⟩ := h
    have hzl : z.length ≤ sizeLine := Nat.le_trans hz (by decide)
    have hlt0 : (tl z).length ≤ 1000 := by
      rw [← len_tl]
      exact hz
    refine ⟨_, (pss_cons (ps_set (i := 2) sc_quoted_at.nd rfl (.inl rfl) (pe_lst pa_nil))
 (pss_cons (ps_set (i := 3) sc_quoted_at.nd rfl (.inl rfl) (pe_op op_add (pv 1) pe_int))
 (pss_cons (ps_while (passes_of rfl) (PW.pt (pw_and (pt_cmpR op_lt (pv 3) (pe_callB call_len_str rfl T.b_len PySem.boot_len (pa_cons (pv 0) pa_nil)) (nomark _)) (pw_and1 (pt_cmpR op_ne (pe_ix ix_str (pv 0) (pv 3) (fun _ _ => rfl)) (pe_glob (v := (.str "\"")) rfl T.g_QUOTE.choose_spec ⟨_, rfl⟩) (nomark _)))))
 (pss_cons (ps_set (i := 4) sc_quoted_at.nd rfl (.inl rfl) (pe_cmpR op_eq (pe_ix ix_str (pv 0) (pv 3) (fun _ _ => rfl)) (pe_glob (v := (.str "\\")) rfl T.g_BACKSLASH.choose_spec ⟨_, rfl⟩) (nomark _)))
 (C8.pss_cut (ps_if (pt_val (pv 4))
 (pss_one (ps_aug (i := 3) sc_quoted_at.nd rfl (.inl rfl) pe_int ip_add))
 pss_nil)
 (pss_one (ps_if (pt_cmpR op_lt (pv 3) (pe_callB call_len_str rfl T.b_len PySem.boot_len (pa_cons (pv 0) pa_nil)) (nomark _))
 (pss_cons (ps_if (pt_not (pt_val (pe_call (ok_may_stand T) (hr.mono (by decide)) (by rfl) T.g_may_stand T.F_may_stand.kp T.b_may_stand .nil pass0 (pa_cons (pe_ix ix_str (pv 0) (pv 3) (fun _ _ => rfl)) (pa_cons (pv 4) pa_nil)))))
 (pss_one (ps_raise rfl (takes_of rfl rfl rfl rfl) (pmk_oex T.oex T.ic_Fault T.ti_Fault (ok_Fault___init__ T) (hr.mono (by decide)) T.b_Fault___init__ .nil pass0 (by rfl) T.g_Fault (pa_cons (pv 3) (pa_cons pe_str pa_nil)))))
 pss_nil)
 (pss_cons (ps_expr (pe_bm PySem.F.plainAttrs_list PySem.F.slot_list_append PySem.F.type_list_append mt_append (pv 2) (pa_cons (pe_ix ix_str (pv 0) (pv 3) (fun _ _ => rfl)) pa_nil)))
 (pss_one (ps_aug (i := 3) sc_quoted_at.nd rfl (.inl rfl) pe_int ip_add))))
 pss_nil)))))
 (pss_cons (ps_if (pt_cmpR op_eq (pv 3) (pe_callB call_len_str rfl T.b_len PySem.boot_len (pa_cons (pv 0) pa_nil)) (nomark _))
 (pss_one (ps_raise rfl (takes_of rfl rfl rfl rfl) (pmk_oex T.oex T.ic_Fault T.ti_Fault (ok_Fault___init__ T) (hr.mono (by decide)) T.b_Fault___init__ .nil pass0 (by rfl) T.g_Fault (pa_cons (pv 1) (pa_cons pe_str pa_nil)))))
 pss_nil)
 (pss_one (ps_ret (pe_tup (pa_cons (pe_make T.mk_Token (ok_Token___init__ T) (hr.mono (by decide)) (by rfl) T.g_Token T.b_Token___init__ .nil pass0 (pa_cons pe_str (pa_cons (pe_join pe_str (pv 2)) (pa_cons (pv 1) pa_nil)))) (pa_cons (pe_op op_add (pv 3) pe_int) pa_nil))))))))), ?_⟩
    refine ⟨Nat.zero_le _, fun o no => ?_⟩
    refine ⟨_, rfl, _, _, rfl, rfl, ?_⟩
    refine ⟨fun m σ H' => ∃ (j : Nat) (acc : List Nat) (y4 : Option V), σ = [some (.str z), some (.int (i : Int)), some (.ref o), some (.int (j : Int)), y4] ∧ Same H H' ∧ H' o = some (.lst (acc.map sg1)) ∧ j ≤ (tl z).length ∧ m = (tl z).length - j ∧
      acc.length ≤ j ∧ qgo i ((tl z).drop j) acc j = resQuo (tl z) i, ⟨_, i + 1, [], none, rfl, same_new no, upd_same, hi, rfl, Nat.zero_le _, rfl⟩, ?_⟩
    rintro m σ H' ⟨j, acc, y4, rfl, sm, ho, hj, rfl, hacc, eq⟩
    refine ⟨_, rfl, _, rfl, z, rfl, hzl, _, _, rfl, rfl, _, rfl, ite2 (fun h => ?_) (fun h => ?_)⟩
    · have hlt : j < (tl z).length := by
        have := of_decide_eq_true h
        rw [len_tl] at this
        omega
      refine ⟨_, rfl, _, rfl, z, _, _, rfl, rfl, hzl, sign_at_list hlt, rfl, _, rfl, ?_⟩
      rw [sign_is (s := "\"") (d := 34) (by decide +kernel), str1_eq]
      refine ite2 (fun h2 => ?_) (fun h2 => ?_)
      · have c1 : (tl z)[j] ≠ 34 := fun e => by
          rw [e] at h2
          exact absurd h2 (by decide)
        -- a turn
        refine ⟨fun σ' H'' => ∃ (j' : Nat) (acc' : List Nat) (y4 : Option V), σ' = [some (.str z), some (.int (i : Int)), some (.ref o), some (.int (j' : Int)), y4] ∧ Same H H'' ∧ H'' o = some (.lst (acc'.map sg1)) ∧ j < j' ∧ j' ≤ (tl z).length ∧
          acc'.length ≤ j' ∧ qgo i ((tl z).drop j') acc' j' = resQuo (tl z) i, ?_, ?_⟩
        · rintro σ' H'' ⟨j', acc', y4', rfl, s2, ho2, h3, h4, h5, h6⟩
          exact ⟨_, by omega, j', acc', y4', rfl, s2, ho2, h4, rfl, h5, h6⟩
        refine ⟨_, rfl, _, rfl, z, _, _, rfl, rfl, hzl, sign_at_list hlt, rfl, ?_⟩
        rw [sign_is (s := "\\") (d := 92) (by decide +kernel), str1_eq]
        -- if escaped: at += 1
        refine ⟨fun σ' H'' => ∃ j' : Nat, σ' = [some (.str z), some (.int (i : Int)), some (.ref o), some (.int (j' : Int)), some (.bl (decide ((tl z)[j] = 92)))] ∧ H'' = H' ∧ j' = (if (tl z)[j] = 92 then j + 1 else j), ?_, ?_⟩
        · refine ⟨_, rfl, _, rfl, ite2 (fun h3 => ?_) (fun h3 => ?_)⟩
          · refine ⟨_, rfl, _, _, rfl, rfl, j + 1, rfl, rfl, ?_⟩
            rw [if_pos (of_decide_eq_true h3)]
          · refine ⟨j, rfl, rfl, ?_⟩
            rw [if_neg (fun e => h3 (decide_eq_true e))]
        · rintro σ' H'' ⟨j', rfl, rfl, ej⟩
          refine ⟨_, rfl, _, rfl, z, rfl, hzl, _, _, rfl, rfl, _, rfl, ite2 (fun h3 => ?_) (fun h3 => ?_)⟩
          · have hlt' : j' < (tl z).length := by
              have := of_decide_eq_true h3
              rw [len_tl] at this
              omega
            refine ⟨_, rfl, _, rfl, z, _, _, rfl, rfl, hzl, sign_at_list hlt', _, rfl, _, _, rfl, hf _ (List.getElem_mem hlt'), _, rfl, ?_⟩
            by_cases he : (tl z)[j] = 92
            · rw [if_pos he] at ej
              subst ej
              rw [if_pos (decide_eq_true he)]
              have eqs : qgo i ((tl z).drop j) acc j = if (tl z)[j + 1] = 34 ∨ (tl z)[j + 1] = 92 then qgo i ((tl z).drop (j + 2)) (acc ++ [(tl z)[j + 1]]) (j + 2) else .bad (j + 1) "unexpected sign" := by
                rw [drop_at hlt, drop_at hlt']
                conv => lhs; unfold qgo
                rw [if_neg c1, if_pos he]
              by_cases hd : (tl z)[j + 1] = 34 ∨ (tl z)[j + 1] = 92
              · have e1 : (decide ((tl z)[j + 1] = 34) || decide ((tl z)[j + 1] = 92)) = true := by simpa using hd
                rw [e1]
                refine iteF ?_
                rw [if_pos hd] at eqs
                refine ⟨_, rfl, .inl ⟨rfl, _, SqL.of ho⟩, _, rfl, _, rfl, z, _, _, rfl, rfl, hzl, sign_at_list hlt', o, _, _, rfl, rfl, ho, small1000 (by rw [List.length_map]; omega), ?_⟩
                refine ⟨_, rfl, _, _, rfl, rfl, j + 2, acc ++ [(tl z)[j + 1]], _, rfl, fun b x e => (upd_ne (ne_of_none e no)).trans (sm b x e), ?_, by omega, by omega, ?_, eqs.symm.trans eq⟩
                · rw [upd_same, List.map_append]
                  rfl
                · rw [List.length_append]
                  show acc.length + 1 ≤ _
                  omega
              · have e1 : (decide ((tl z)[j + 1] = 34) || decide ((tl z)[j + 1] = 92)) = false := by simpa using hd
                rw [e1]
                refine iteT ?_
                rw [if_neg hd] at eqs
                rw [← eq, eqs] at q
                exact ⟨_, rfl, fault_out fun d H3 s3 e3 => q d H3 (sm.trans s3) e3⟩
            · rw [if_neg he] at ej
              subst ej
              rw [if_neg (fun e => he (of_decide_eq_true e))]
              refine iteF ?_
              have eqs : qgo i ((tl z).drop j') acc j' = qgo i ((tl z).drop (j' + 1)) (acc ++ [(tl z)[j']]) (j' + 1) := by
                rw [drop_at hlt]
                conv => lhs; unfold qgo
                rw [if_neg c1, if_neg he]
              refine ⟨_, rfl, .inl ⟨rfl, _, SqL.of ho⟩, _, rfl, _, rfl, z, _, _, rfl, rfl, hzl, sign_at_list hlt', o, _, _, rfl, rfl, ho, small1000 (by rw [List.length_map]; omega), ?_⟩
              refine ⟨_, rfl, _, _, rfl, rfl, j' + 1, acc ++ [(tl z)[j']], _, rfl, fun b x e => (upd_ne (ne_of_none e no)).trans (sm b x e), ?_, by omega, by omega, ?_, eqs.symm.trans eq⟩
              · rw [upd_same, List.map_append]
                rfl
              · rw [List.length_append]
                show acc.length + 1 ≤ _
                omega
          · have hge : (tl z).length ≤ j' := by
              have := of_decide_eq_false (Bool.eq_false_iff.mpr h3)
              rw [len_tl] at this
              omega
            have he : (tl z)[j] = 92 := by
              by_cases he : (tl z)[j] = 92
              · exact he
              · rw [if_neg he] at ej
                omega
            rw [if_pos he] at ej
            have ej2 : j' = (tl z).length := by omega
            refine ⟨j', acc, _, rfl, sm, ho, by omega, by omega, by omega, ?_⟩
            rw [← eq, drop_end hge, drop_at hlt, drop_end (show (tl z).length ≤ j + 1 by omega)]
            unfold qgo
            rw [if_neg c1, if_pos he]
      · -- the second quotation mark
        have c1 : (tl z)[j] = 34 := by
          by_cases e : (tl z)[j] = 34
          · exact e
          · rw [decide_eq_false e] at h2
            exact absurd rfl h2
        refine ⟨_, rfl, _, rfl, z, rfl, hzl, rfl, _, rfl, ite2 (fun h3 => ?_) (fun _ => ?_)⟩
        · have := V.int.inj (of_decide_eq_true h3)
          rw [len_tl] at this
          omega
        have er : resQuo (tl z) i = .tok "text" acc (j + 1) := by
          rw [← eq, drop_at hlt]
          unfold qgo
          rw [if_pos c1]
        rw [er] at q
        have hsum : ((acc.map fun c => (⟨#[c]⟩ : Str)).map (·.length)).sum + (acc.map fun c => (⟨#[c]⟩ : Str)).length * ("" : Str).length ≤ 16777216 := by
          rw [len_signs, show ("" : Str).length = 0 from by decide +kernel]
          omega
        refine ⟨⟨_, rfl⟩, _, rfl, "", o, acc.map (fun c => (⟨#[c]⟩ : Str)), rfl, rfl, .inl (SqL.of (by rw [← sg_map]; exact ho)), hsum, _, rfl, fun x dx hx hdx ne => ⟨x, dx, _, _, _, rfl, upd_same, rfl, _, rfl, _, _, rfl, rfl, (by show 2 ≤ sizeLine; decide), fun t ht => ?_⟩⟩
        refine q t x _ (sm.trans ((by rw [upd_upd]; exact (same_two hx hdx).trans (same_new (by rw [upd_upd] at ht; exact ht))))) upd_same ⟨dx, _, (upd_ne (ne_of_none upd_same ht)).trans upd_same, ?_⟩
        rw [join_eq, tl_join]
        exact join_signs acc
    · have hge : (tl z).length ≤ j := by
        have := of_decide_eq_false (Bool.eq_false_iff.mpr h)
        rw [len_tl] at this
        omega
      have ej : j = (tl z).length := by omega
      refine iteF ⟨_, rfl, _, rfl, z, rfl, hzl, rfl, _, rfl, ite2 (fun h3 => ?_) (fun h3 => ?_)⟩
      · have er : resQuo (tl z) i = .bad i "text is not closed" := by
          rw [← eq, drop_end hge]
          rfl
        rw [er] at q
        exact ⟨_, rfl, fault_out fun d H3 s3 e3 => q d H3 (sm.trans s3) e3⟩
      · exact absurd (decide_eq_true (by rw [ej, len_tl])) h3
theorem sc_sign_at : FnScope ["text", "at", "signs", "longest", "sign"] ["text", "at", "signs"] (defScope (topS 22)) := ⟨rfl, rfl, rfl, by decide +kernel, rfl, by decide +kernel, by decide +kernel⟩
theorem ok_sign_at (T : Txt K mg A) : FnOk P w K mg base (L2.CX P w) 3 A.f_sign_at A.fd_sign_at ["text", "at", "signs"] (spSign K A) := by
  refine T.F_sign_at.okX sc_sign_at (fun vs H Q E h => ?_) (fun cdv Ar outer s H vs Q E hr h => ?_)
  · obtain ⟨z, i, sg, sgs, rfl, _⟩ := h
    rfl
  · obtain ⟨z, i, sg, sgs, rfl, hz, hi, hS, hsl, q⟩ := h
    have hzl : z.length ≤ sizeLine := Nat.le_trans hz (by decide)
    refine ⟨_, (pss_cons (ps_set (i := 3) sc_sign_at.nd rfl (.inl rfl) pe_str)
 (pss_cons (ps_for (passes_of rfl) rfl (pi_tup (pv 2)) (pg_name (i := 4) sc_sign_at.nd rfl (.inl rfl))
 (pss_one (ps_if (PW.pt (pw_and (pt_cmpR op_gt (pe_callB call_len_str rfl T.b_len PySem.boot_len (pa_cons (pv 4) pa_nil)) (pe_callB call_len_str rfl T.b_len PySem.boot_len (pa_cons (pv 3) pa_nil)) (nomark _)) (pw_and1 (pt_cmpR op_eq (pe_slice sl_str (pv 0) (po_some (pv 1)) (po_some (pe_op op_add (pv 1) (pe_callB call_len_str rfl T.b_len PySem.boot_len (pa_cons (pv 4) pa_nil))))) (pv 4) (nomark _)))))
 (pss_one (ps_set (i := 3) sc_sign_at.nd rfl (.inl rfl) (pv 4)))
 pss_nil)))
 (pss_cons (ps_if (pt_cmpR op_eq (pv 3) pe_str (nomark _))
 (pss_one (ps_raise rfl (takes_of rfl rfl rfl rfl) (pmk_oex T.oex T.ic_Fault T.ti_Fault (ok_Fault___init__ T) (hr.mono (by decide)) T.b_Fault___init__ .nil pass0 (by rfl) T.g_Fault (pa_cons (pv 1) (pa_cons pe_str pa_nil)))))
 pss_nil)
 (pss_one (ps_ret (pe_tup (pa_cons (pe_make T.mk_Token (ok_Token___init__ T) (hr.mono (by decide)) (by rfl) T.g_Token T.b_Token___init__ .nil pass0 (pa_cons pe_str (pa_cons (pv 3) (pa_cons (pv 1) pa_nil)))) (pa_cons (pe_op op_add (pv 1) (pe_callB call_len_str rfl T.b_len PySem.boot_len (pa_cons (pv 3) pa_nil))) pa_nil)))))))), ?_⟩
    refine ⟨_, rfl, sg, rfl, ⟨_, hS⟩, for_tup (K := K) (a := sg) (xs := sgs.map V.str) (fun k σ H' => ∃ (b : Str) (y : Option V), σ = [some (.str z), some (.int (i : Int)), some (.ref sg), some (.str b), y] ∧ H' = H ∧ b.length ≤ 1000 ∧
      tl b = ((sgs.take k).map tl).foldl (better ((tl z).drop i)) []) ⟨"", none, rfl, rfl, (by decide +kernel), (show tl "" = [] by decide +kernel)⟩ (fun k σ H' _ ⟨_, _, _, e, _⟩ => by rw [e]; exact hS) ?_ ?_⟩
    · rintro k y σ H' hk ⟨b, y0, rfl, rfl, hb, eb⟩
      obtain ⟨s, hs, rfl⟩ : ∃ s, sgs[k]? = some s ∧ y = V.str s := by
        rw [List.getElem?_map] at hk
        cases e : sgs[k]? with
        | none =>
          rw [e] at hk
          cases hk
        | some s =>
          rw [e] at hk
          exact ⟨s, rfl, (Option.some.inj hk).symm⟩
      have hsz := hsl s (List.mem_of_getElem? hs)
      have hss : s.length ≤ sizeLine := Nat.le_trans hsz (by decide)
      have hbb : b.length ≤ sizeLine := Nat.le_trans hb (by decide)
      have step : ((sgs.take (k + 1)).map tl).foldl (better ((tl z).drop i)) [] = better ((tl z).drop i) (tl b) (tl s) := by
        rw [List.take_add_one, hs, List.map_append, List.foldl_append, ← eb]
        rfl
      refine ⟨_, rfl, s, rfl, hss, _, rfl, b, rfl, hbb, _, _, rfl, rfl, _, rfl, ite2 (fun h => ?_) (fun h => ?_)⟩
      · have hlt : (tl b).length < (tl s).length := by
          have := of_decide_eq_true h
          rw [← len_tl, ← len_tl]
          omega
        refine ⟨_, rfl, _, rfl, _, rfl, _, rfl, _, rfl, s, rfl, hss, _, _, rfl, rfl, _, rfl, z, rfl, hzl, _, rfl, rfl, _, rfl, ite2 (fun h2 => ?_) (fun h2 => ?_)⟩
        · have e2 := congrArg tl (V.str.inj (of_decide_eq_true h2))
          have e3 : ((i : Int) + (s.length : Int)) = ((i + s.length : Nat) : Int) := by omega
          rw [e3, tl_cut (Nat.le_of_lt hi), Nat.add_sub_cancel_left, len_tl s] at e2
          refine ⟨_, rfl, s, _, rfl, rfl, hsz, ?_⟩
          rw [step]
          exact (if_pos ⟨hlt, e2⟩).symm
        · refine ⟨b, _, rfl, rfl, hb, ?_⟩
          rw [step]
          refine (if_neg fun hh => h2 (decide_eq_true (congrArg V.str (ext_tl ?_)))).symm
          have e3 : ((i : Int) + (s.length : Int)) = ((i + s.length : Nat) : Int) := by omega
          rw [e3, tl_cut (Nat.le_of_lt hi), Nat.add_sub_cancel_left, len_tl s]
          exact hh.2
      · refine iteF ⟨b, _, rfl, rfl, hb, ?_⟩
        rw [step]
        refine (if_neg fun hh => h (decide_eq_true ?_)).symm
        have := hh.1
        rw [← len_tl, ← len_tl] at this
        omega
    · rintro σ H' ⟨b, y0, rfl, rfl, hb, eb⟩
      have hbb : b.length ≤ sizeLine := Nat.le_trans hb (by decide)
      have ebs : tl b = bestS ((tl z).drop i) (sgs.map tl) := by
        rw [eb, List.length_map, List.take_length]
        rfl
      refine ⟨_, rfl, rfl, _, rfl, ite2 (fun h => ?_) (fun h => ?_)⟩
      · have e0 : bestS ((tl z).drop i) (sgs.map tl) = [] := by
          rw [← ebs, V.str.inj (of_decide_eq_true h)]
          decide +kernel
        rw [show resSign (sgs.map tl) (tl z) i = .bad i "unexpected sign" from if_pos e0] at q
        exact ⟨_, rfl, fault_out q⟩
      · have e0 : ¬ bestS ((tl z).drop i) (sgs.map tl) = [] := fun e => h (decide_eq_true (congrArg V.str (ext_tl (by rw [ebs, e]; decide +kernel))))
        rw [show resSign (sgs.map tl) (tl z) i = .tok "sign" (bestS ((tl z).drop i) (sgs.map tl)) (i + (bestS ((tl z).drop i) (sgs.map tl)).length) from if_neg e0] at q
        refine ⟨_, rfl, _, rfl, fun x dx hx hdx ne => ⟨x, dx, _, _, _, rfl, upd_same, rfl, _, rfl, _, rfl, b, rfl, hbb, _, _, rfl, rfl, (by show 2 ≤ sizeLine; decide), fun t ht => ?_⟩⟩
        refine q t x _ ((by rw [upd_upd]; exact (same_two hx hdx).trans (same_new (by rw [upd_upd] at ht; exact ht)))) ?_ ⟨dx, _, (upd_ne (ne_of_none upd_same ht)).trans upd_same, ebs⟩
        rw [upd_same, ← ebs, ← len_tl, Int.natCast_add]
theorem sc_token_at : FnScope ["text", "at", "signs", "first"] ["text", "at", "signs"] (defScope (topS 16)) := ⟨rfl, rfl, rfl, by decide +kernel, rfl, by decide +kernel, by decide +kernel⟩
theorem ok_token_at (T : Txt K mg A) : FnOk P w K mg base (L2.CX P w) 4 A.f_token_at A.fd_token_at ["text", "at", "signs"] (spOne K A) := by
  refine T.F_token_at.okX sc_token_at (fun vs H Q E h => ?_) (fun cdv Ar outer s H vs Q E hr h => ?_)
  · obtain ⟨z, i, sg, sgs, rfl, _⟩ := h
    rfl
  · obtain ⟨z, i, sg, sgs, rfl, hz, hi, hS, hsl, hf, q⟩ := h
    have hzl : z.length ≤ sizeLine := Nat.le_trans hz (by decide)
    have hh : ((tl z).drop i).head? = some (tl z)[i] := by
      rw [drop_at hi]
      rfl
    have e1 : one (sgs.map tl) (tl z) i = if isLet (tl z)[i] = true then resWord (tl z) i else if isDig (tl z)[i] = true then resNum (tl z) i else if (tl z)[i] = 34 then resQuo (tl z) i else resSign (sgs.map tl) (tl z) i := by
      unfold one
      rw [hh]
    rw [e1] at q
    refine ⟨_, (pss_cons (ps_set (i := 3) sc_token_at.nd rfl (.inl rfl) (pe_ix ix_str (pv 0) (pv 1) (fun _ _ => rfl)))
 (pss_cons (ps_if (pt_cmpR op_in_sign (pv 3) (pe_glob (v := (.str "abcdefghijklmnopqrstuvwxyzABCDEFGHIJKLMNOPQRSTUVWXYZ")) rfl T.g_LETTERS.choose_spec ⟨_, rfl⟩) (by rfl))
 (pss_one (ps_ret (pe_call (ok_word_at T) (hr.mono (by decide)) (by rfl) T.g_word_at T.F_word_at.kp T.b_word_at .nil (passes_call (takes_of rfl rfl rfl rfl) (fun _ _ _ _ h => h)) (pa_cons (pv 0) (pa_cons (pv 1) pa_nil)))))
 pss_nil)
 (pss_cons (ps_if (pt_cmpR op_in_sign (pv 3) (pe_glob (v := (.str "0123456789")) rfl T.g_DIGITS.choose_spec ⟨_, rfl⟩) (by rfl))
 (pss_one (ps_ret (pe_call (ok_number_at T) (hr.mono (by decide)) (by rfl) T.g_number_at T.F_number_at.kp T.b_number_at .nil (passes_call (takes_of rfl rfl rfl rfl) (fun _ _ _ _ h => h)) (pa_cons (pv 0) (pa_cons (pv 1) pa_nil)))))
 pss_nil)
 (pss_cons (ps_if (pt_cmpR op_eq (pv 3) (pe_glob (v := (.str "\"")) rfl T.g_QUOTE.choose_spec ⟨_, rfl⟩) (nomark _))
 (pss_one (ps_ret (pe_call (ok_quoted_at T) (hr.mono (by decide)) (by rfl) T.g_quoted_at T.F_quoted_at.kp T.b_quoted_at .nil (passes_call (takes_of rfl rfl rfl rfl) (fun _ _ _ _ h => h)) (pa_cons (pv 0) (pa_cons (pv 1) pa_nil)))))
 pss_nil)
 (pss_one (ps_ret (pe_call (ok_sign_at T) (hr.mono (by decide)) (by rfl) T.g_sign_at T.F_sign_at.kp T.b_sign_at .nil (passes_call (takes_of rfl rfl rfl rfl) (fun _ _ _ _ h => h)) (pa_cons (pv 0) (pa_cons (pv 1) (pa_cons (pv 2) pa_nil)))))))))), ?_⟩
    refine ⟨_, rfl, _, rfl, z, _, _, rfl, rfl, hzl, sign_at_list hi, ?_⟩
    refine ⟨_, rfl, _, _, rfl, rfl, _, rfl, ?_⟩
    rw [in_letters]
    refine ite2 (fun h => ?_) (fun h => ?_)
    · rw [if_pos h] at q
      exact ⟨_, rfl, _, rfl, z, i, rfl, hz, hi, q⟩
    rw [if_neg h] at q
    refine ⟨_, rfl, _, _, rfl, rfl, _, rfl, ?_⟩
    rw [in_digits]
    refine ite2 (fun h2 => ?_) (fun h2 => ?_)
    · rw [if_pos h2] at q
      exact ⟨_, rfl, _, rfl, z, i, rfl, hz, hi, q⟩
    rw [if_neg h2] at q
    refine ⟨_, rfl, rfl, _, rfl, ?_⟩
    rw [sign_is (s := "\"") (d := 34) (by decide +kernel), str1_eq]
    refine ite2 (fun h3 => ?_) (fun h3 => ?_)
    · rw [if_pos (of_decide_eq_true h3)] at q
      exact ⟨_, rfl, _, rfl, z, i, rfl, hz, hi, hf, q⟩
    rw [if_neg (fun e => h3 (decide_eq_true e))] at q
    exact ⟨_, rfl, _, rfl, _, rfl, z, i, sg, sgs, rfl, hz, hi, hS, hsl, q⟩
theorem sc_tokens : FnScope ["text", "signs", "longest", "found", "at", "token"] ["text", "signs", "longest"] (defScope (topS 13)) := ⟨rfl, rfl, rfl, by decide +kernel, rfl, by decide +kernel, by decide +kernel⟩
theorem ok_tokens (T : Txt K mg A) : FnOk P w K mg base (L2.CX P w) 5 A.f_tokens A.fd_tokens ["text", "signs", "longest"] (spTokens K A) := by
  refine T.F_tokens.okX sc_tokens (fun vs H Q E h => ?_) (fun cdv Ar outer s H vs Q E hr h => ?_)
  · obtain ⟨z, lg, sg, sgs, rfl, _⟩ := h
    rfl
  · obtain ⟨z, lg, sg, sgs, rfl, hz, hS, hsl, hf, q1, q2⟩ := h
    have hzl : z.length ≤ sizeLine := Nat.le_trans hz (by decide)
    have hlt0 : (tl z).length ≤ 1000 := by
      rw [← len_tl]
      exact hz
    refine ⟨_, (pss_cons (ps_if (pt_cmpR op_gt (pe_callB call_len_str rfl T.b_len PySem.boot_len (pa_cons (pv 0) pa_nil)) (pv 2) (nomark _))
 (pss_one (ps_raise rfl (takes_of rfl rfl rfl rfl) (pmk_oex T.oex T.ic_Fault T.ti_Fault (ok_Fault___init__ T) (hr.mono (by decide)) T.b_Fault___init__ .nil pass0 (by rfl) T.g_Fault (pa_cons pe_int (pa_cons pe_str pa_nil)))))
 pss_nil)
 (pss_cons (ps_set (i := 3) sc_tokens.nd rfl (.inl rfl) (pe_lst pa_nil))
 (pss_cons (ps_set (i := 4) sc_tokens.nd rfl (.inl rfl) (pe_call (ok_behind_blanks T) (hr.mono (by decide)) (by rfl) T.g_behind_blanks T.F_behind_blanks.kp T.b_behind_blanks .nil pass0 (pa_cons (pv 0) (pa_cons pe_int pa_nil))))
 (pss_cons (ps_while (passes_of rfl) (pt_cmpR op_lt (pv 4) (pe_callB call_len_str rfl T.b_len PySem.boot_len (pa_cons (pv 0) pa_nil)) (nomark _))
 (pss_cons (ps_asg (pe_call (ok_token_at T) (hr.mono (by decide)) (by rfl) T.g_token_at T.F_token_at.kp T.b_token_at .nil (passes_call (takes_of rfl rfl rfl rfl) (fun _ _ _ _ h => h)) (pa_cons (pv 0) (pa_cons (pv 4) (pa_cons (pv 1) pa_nil)))) (pg_tup rfl (pgs_cons (pg_name (i := 5) sc_tokens.nd rfl (.inl rfl)) (pgs_cons (pg_name (i := 4) sc_tokens.nd rfl (.inl rfl)) pgs_nil))))
 (pss_cons (ps_expr (pe_bm PySem.F.plainAttrs_list PySem.F.slot_list_append PySem.F.type_list_append mt_append (pv 3) (pa_cons (pv 5) pa_nil)))
 (pss_one (ps_set (i := 4) sc_tokens.nd rfl (.inl rfl) (pe_call (ok_behind_blanks T) (hr.mono (by decide)) (by rfl) T.g_behind_blanks T.F_behind_blanks.kp T.b_behind_blanks .nil pass0 (pa_cons (pv 0) (pa_cons (pv 4) pa_nil))))))))
 (pss_cons (ps_expr (pe_bm PySem.F.plainAttrs_list PySem.F.slot_list_append PySem.F.type_list_append mt_append (pv 3) (pa_cons (pe_make T.mk_Token (ok_Token___init__ T) (hr.mono (by decide)) (by rfl) T.g_Token T.b_Token___init__ .nil pass0 (pa_cons pe_str (pa_cons pe_str (pa_cons (pe_callB call_len_str rfl T.b_len PySem.boot_len (pa_cons (pv 0) pa_nil)) pa_nil)))) pa_nil)))
 (pss_one (ps_ret (pv 3)))))))), ?_⟩
    refine ⟨_, rfl, z, rfl, hzl, _, rfl, _, _, rfl, rfl, _, rfl, ite2 (fun h => ?_) (fun h => ?_)⟩
    · have h' : lg < z.length := by
        have := of_decide_eq_true h
        omega
      exact fault_out (p := 0) (q1 h')
    obtain ⟨qa, qb⟩ := q2 (fun h2 => h (decide_eq_true (by omega)))
    refine ⟨Nat.zero_le _, fun o no => ?_⟩
    refine ⟨_, rfl, z, 0, rfl, hz, ?_⟩
    refine ⟨fun m σ H' => ∃ (j : Nat) (ks : List Addr) (ts : List Tk) (y5 : Option V), σ = [some (.str z), some (.ref sg), some (.int (lg : Int)), some (.ref o), some (.int (j : Int)), y5] ∧ Same H H' ∧ H' o = some (.lst (ks.map V.ref)) ∧ Toks A H' ks ts ∧
      m = (tl z).length - j ∧ ks.length ≤ j ∧ ks.length ≤ (tl z).length ∧ ∀ R, Lexes (sgs.map tl) (tl z) j R → Lexes (sgs.map tl) (tl z) (skip (tl z) 0) (appT ts R),
      ⟨_, skip (tl z) 0, [], [], none, rfl, same_new no, upd_same, ⟨rfl, fun i k t e => by cases e⟩, rfl, Nat.zero_le _, Nat.zero_le _, fun R r => r⟩, ?_⟩
    rintro m σ H' ⟨j, ks, ts, y5, rfl, sm, ho, hk, rfl, hkl, hkl2, lx⟩
    refine ⟨_, rfl, _, rfl, z, rfl, hzl, _, _, rfl, rfl, _, rfl, ite2 (fun h2 => ?_) (fun h2 => ?_)⟩
    · have hlt : j < (tl z).length := by
        have := of_decide_eq_true h2
        rw [len_tl] at this
        omega
      refine ⟨fun σ' H'' => ∃ (j' : Nat) (ks' : List Addr) (ts' : List Tk) (y5 : Option V), σ' = [some (.str z), some (.ref sg), some (.int (lg : Int)), some (.ref o), some (.int (j' : Int)), y5] ∧ Same H H'' ∧ H'' o = some (.lst (ks'.map V.ref)) ∧ Toks A H'' ks' ts' ∧
        j < j' ∧ ks'.length ≤ j' ∧ ks'.length ≤ (tl z).length ∧ ∀ R, Lexes (sgs.map tl) (tl z) j' R → Lexes (sgs.map tl) (tl z) (skip (tl z) 0) (appT ts' R), ?_, ?_⟩
      · rintro σ' H'' ⟨j', ks', ts', y, rfl, s2, ho2, hk2, h3, h4, h5, lx2⟩
        exact ⟨_, by omega, j', ks', ts', y, rfl, s2, ho2, hk2, rfl, h4, h5, lx2⟩
      refine ⟨_, rfl, _, rfl, _, rfl, z, j, sg, sgs, rfl, hz, hlt, same_sqt sm hS, hsl, hf, ?_⟩
      cases er : one (sgs.map tl) (tl z) j with
      | bad p r =>
        intro d H3 s3 e3
        have l2 := lx _ (.bad hlt er)
        rw [appT_inr] at l2
        exact qb d p r H3 (sm.trans s3) e3 l2
      | tok role txt stop =>
        intro t k H3 s3 et ek
        have hst := one_stop hlt er
        refine ⟨t, _, rfl, .inl (.inl et), rfl, _, _, rfl, _, _, rfl, rfl, ?_⟩
        have ho3 := s3 _ _ ho
        refine ⟨_, rfl, .inl ⟨rfl, _, SqL.of ho3⟩, _, rfl, o, _, _, rfl, rfl, ho3, small1000 (by rw [List.length_map]; omega), ?_⟩
        refine ⟨_, rfl, _, rfl, z, stop, rfl, hz, skip (tl z) stop, ks ++ [k], ts ++ [(role, txt, j)], _, rfl, fun b x e => (upd_ne (ne_of_none e no)).trans (s3 b x (sm b x e)), ?_, ?_, ?_, ?_, ?_, ?_⟩
        · rw [upd_same, List.map_append]
          rfl
        · exact Toks.snoc (fun i k' t' a1 a2 => TokAt.upd ((hk.2 i k' t' a1 a2).keep s3) ho3) hk.1 (ek.upd ho3)
        · exact Nat.lt_of_lt_of_le hst (le_skip _ _)
        · rw [List.length_append]
          have := le_skip (tl z) stop
          show ks.length + 1 ≤ _
          omega
        · rw [List.length_append]
          show ks.length + 1 ≤ _
          omega
        · intro R l
          rw [appT_snoc]
          exact lx _ (.tok hlt er l)
    · have hge : (tl z).length ≤ j := by
        have := of_decide_eq_false (Bool.eq_false_iff.mpr h2)
        rw [len_tl] at this
        omega
      refine ⟨_, rfl, .inl ⟨rfl, _, SqL.of ho⟩, _, rfl, z, rfl, hzl, fun x dx hx hdx ne => ⟨x, dx, _, _, _, rfl, upd_same, rfl, ?_⟩⟩
      have s3 : Same H' (upd (upd (upd H' dx (.own x)) x (.ins A.C_Token dx [])) x (.ins A.C_Token dx (f3 "role" "text" "place" (.str "end") (.str "") (.int (z.length : Int))))) := by
        rw [upd_upd]
        exact same_two hx hdx
      have ho3 := s3 _ _ ho
      refine ⟨o, _, _, rfl, rfl, ho3, small1000 (by rw [List.length_map]; omega), _, rfl, ?_⟩
      have l2 := lx _ (.fin hge)
      rw [appT_inl] at l2
      refine qa o (ks ++ [x]) _ _ (fun b y e => (upd_ne (ne_of_none e no)).trans (s3 b y (sm b y e))) ?_ ?_ l2
      · rw [upd_same, List.map_append]
        rfl
      · refine Toks.snoc (fun i k' t' a1 a2 => TokAt.upd ((hk.2 i k' t' a1 a2).keep s3) ho3) hk.1 (TokAt.upd ⟨dx, "", ?_, (show tl "" = [] by decide +kernel)⟩ ho3)
        rw [upd_same, len_tl]
end
open PySem.StrLaws
section
variable {P : Program} {w : World} {K : PySem.W.Frag} {mg : Str → Option Value} {base : Heap} {A : Ad}
theorem sc_quoted : FnScope ["text", "inner"] ["text"] (defScope (topS 14)) := ⟨rfl, rfl, rfl, by decide +kernel, rfl, by decide +kernel, by decide +kernel⟩
theorem fn_quoted (T : Txt K mg A) : FnN A.nt P w K mg base 1 A.f_quoted A.fd_quoted ["text"] spQd := by
  refine fnN_of T.F_quoted sc_quoted (fun vs H Q E h => ?_) (fun cdv Ar outer s H vs Q E hr h => ?_)
  · obtain ⟨z, rfl, _⟩ := h
    rfl
  · obtain ⟨z, rfl, hz, q⟩ := h
    obtain ⟨tB, mB, tB0, tB1⟩ := T.kB
    obtain ⟨tQ, mQ, tQ0, tQ1⟩ := T.kQ
    have lB : ("\\" : Str).length ≠ 0 := by decide +kernel
    have lQ : ("\"" : Str).length ≠ 0 := by decide +kernel
    refine ⟨_, psn_cons (psn_set (i := 1) sc_quoted.nd rfl (.inl rfl) (pen_repl (pen_repl (PEN.of (pv 0)) (by rfl) mB (by rfl) mB (by rfl) mB tB0 tB1 lB lB (by decide +kernel) (by decide +kernel)) (by rfl) mQ (by rfl) mB (by rfl) mQ tQ0 tQ1 lB lQ (by decide +kernel) (by decide +kernel)))
      (psn_one (PSN.of (ps_ret (pe_op op_add_str (pe_op op_add_str (pe_glob (v := (.str "\"")) (by rfl) mQ ⟨_, rfl⟩) (pv 1)) (pe_glob (v := (.str "\"")) (by rfl) mQ ⟨_, rfl⟩))))), ?_⟩
    have b2 : ("\\" ++ "\\" : Str).length = 2 := by decide +kernel
    have q2 : ("\\" ++ "\"" : Str).length = 2 := by decide +kernel
    have e1 : tl (Txt.replace z "\\" ("\\" ++ "\\")) = (tl z).flatMap (fun d => if d = 92 then [92, 92] else [d]) := by
      show (Txt.replace z "\\" ("\\" ++ "\\")).cps.toList = _
      rw [replace_list (by decide +kernel), show ("\\" : Str).cps.toList = [92] by decide +kernel, show ("\\" ++ "\\" : Str).cps.toList = [92, 92] by decide +kernel]
      exact repl_one _ _ _
    have l1 : (Txt.replace z "\\" ("\\" ++ "\\")).length ≤ 2000 := by
      rw [len_tl, e1]
      have h1 := two_len (fun d => if d = 92 then [92, 92] else [d]) (fun c => by by_cases h : c = 92 <;> simp [h]) (tl z)
      rw [← len_tl] at h1
      omega
    have e2 : tl (Txt.replace (Txt.replace z "\\" ("\\" ++ "\\")) "\"" ("\\" ++ "\"")) = (tl z).flatMap esc := by
      show (Txt.replace (Txt.replace z "\\" ("\\" ++ "\\")) "\"" ("\\" ++ "\"")).cps.toList = _
      rw [replace_list (by decide +kernel), show ("\"" : Str).cps.toList = [34] by decide +kernel, show ("\\" ++ "\"" : Str).cps.toList = [92, 34] by decide +kernel]
      rw [show (Txt.replace z "\\" ("\\" ++ "\\")).cps.toList = (tl z).flatMap (fun d => if d = 92 then [92, 92] else [d]) from e1, repl_one, esc_two]
    have l2 : (Txt.replace (Txt.replace z "\\" ("\\" ++ "\\")) "\"" ("\\" ++ "\"")).length ≤ 2000 := by
      rw [len_tl, e2]
      have h1 := two_len esc esc_len (tl z)
      rw [← len_tl] at h1
      omega
    refine ⟨_, rfl, z, rfl, ?_, _, rfl, ?_, ?_⟩
    · rw [b2]
      omega
    · rw [q2]
      omega
    · have hs : sizeLine = 16777216 := sizeLine_eq
      have s1 : ("\"" : Str).length = 1 := by decide +kernel
      refine ⟨_, rfl, _, _, rfl, rfl, ?_, _, _, rfl, rfl, ?_, q _ ?_⟩
      · rw [s1, hs]
        omega
      · rw [len_tl, tl_append, List.length_append, ← len_tl, ← len_tl, s1, hs]
        omega
      · rw [tl_append, tl_append, e2, show tl "\"" = [34] by decide +kernel]
        rfl
theorem sc__law_text : FnScope ["draws", "text", "_law_turn"] ["draws"] (defScope (topS 26)) := ⟨rfl, rfl, rfl, by decide +kernel, rfl, by decide +kernel, by decide +kernel⟩
theorem ok__law_text (T : Txt K mg A) : FnOk P w K mg base CX0 2 A.f__law_text A.fd__law_text ["draws"] spText := by
  refine T.F__law_text.ok sc__law_text (fun vs H Q E h => ?_) (fun cdv Ar outer s H vs Q E hr h => ?_)
  · obtain ⟨a, ms, rfl, _⟩ := h
    rfl
  · obtain ⟨a, ms, rfl, ha, hne, q⟩ := h
    refine ⟨_, (pss_cons (ps_set (i := 1) sc__law_text.nd rfl (.inl rfl) pe_str)
 (pss_cons (ps_for PassesOwn.never rfl (pi_range1 rfl T.b_range (pa_cons (pe_call (ok__law_draw T) (hr.mono (by decide)) (by rfl) T.g__law_draw T.F__law_draw.kp T.b__law_draw .nil pass0 (pa_cons (pv 0) (pa_cons pe_int pa_nil))) pa_nil)) (pg_name (i := 2) sc__law_text.nd rfl (.inl rfl))
 (pss_one (ps_set (i := 1) sc__law_text.nd rfl (.inl rfl) (pe_op op_add_str (pv 1) (pe_ix ix_str pe_str (pe_call (ok__law_draw T) (hr.mono (by decide)) (by rfl) T.g__law_draw T.F__law_draw.kp T.b__law_draw .nil pass0 (pa_cons (pv 0) (pa_cons pe_int pa_nil))) (fun _ _ => rfl))))))
 (pss_one (ps_ret (pv 1))))), ?_⟩
    refine ⟨_, rfl, a, ms, 13, rfl, ha, hne, by decide, by decide, fun n ms1 hn hne1 => ?_⟩
    refine ⟨(n : Int), rfl, by omega, by omega, for_range (lo := 0) (n := (n : Int).toNat) (fun i σ H' => ∃ (z : Str) (y : Option V) (ms' : List Int), σ = [some (.ref a), some (.str z), y] ∧ H' = upd H a (.lst (ms'.map V.int)) ∧ ms' ≠ [] ∧ (∀ c ∈ tl z, Fine c) ∧ z.length ≤ i)
      ⟨"", none, ms1, rfl, rfl, hne1, (by decide +kernel : ∀ c ∈ tl "", 32 ≤ c ∧ c ≤ 126 ∧ c ≠ 37), (by decide +kernel)⟩ ?_ ?_⟩
    · rintro i σ H1 hi ⟨z, y, ms2, rfl, rfl, hne2, hf, hz⟩
      have lit8 : (tl "a\"\\ Z9{~").length = 8 := by decide +kernel
      have litF := (by decide +kernel : ∀ c ∈ tl "a\"\\ Z9{~", 32 ≤ c ∧ c ≤ 126 ∧ c ≠ 37)
      refine ⟨_, rfl, _, rfl, a, ms2, 8, rfl, upd_same, hne2, by decide, by decide, fun v ms3 hv hne3 => ?_⟩
      have hv' : v < (tl "a\"\\ Z9{~").length := by omega
      refine ⟨_, _, _, rfl, rfl, (by decide +kernel), atI_nat (List.getElem?_eq_getElem hv'), _, _, rfl, rfl, ?_, ?_⟩
      · show z.length + 1 ≤ _
        exact Nat.le_of_lt (small1000 (by omega))
      · refine ⟨_, _, ms3, rfl, upd_upd, hne3, fun c hc => ?_, ?_⟩
        · rw [tl_append] at hc
          rcases List.mem_append.mp hc with hc | hc
          · exact hf c hc
          · rw [List.mem_singleton.mp hc]
            exact litF _ (List.getElem_mem hv')
        · rw [len_tl, tl_append, List.length_append, ← len_tl]
          show z.length + 1 ≤ _
          omega
    · rintro σ H1 ⟨z, y, ms2, rfl, rfl, hne2, hf, hz⟩
      exact ⟨_, rfl, q z ms2 hne2 hf (by omega)⟩
def spLaw (K : PySem.W.Frag) : Sp := fun vs H Q _ => ∃ (a : Addr) (ns : List Int), vs = [.ref a] ∧ SqL K H a (ns.map V.int) ∧ ns.length ≤ 63 ∧ ∀ H', Q (.bl true) H'
theorem sc_law : FnScope ["script", "draws", "one", "two", "told", "ahead", "row"] ["script"] (defScope (topS 27)) := ⟨rfl, rfl, rfl, by decide +kernel, rfl, by decide +kernel, by decide +kernel⟩
theorem fn_law (T : Txt K mg A) : FnN A.nt P w K mg base 6 A.f_law A.fd_law ["script"] (spLaw K) := by
  refine fnN_of T.F_law sc_law (fun vs H Q E h => ?_) (fun cdv Ar outer s H vs Q E hr h => ?_)
  · obtain ⟨a, ns, rfl, _⟩ := h
    rfl
  · obtain ⟨a, ns, rfl, hS, hlen, q⟩ := h
    refine ⟨_, (psn_cons (PSN.of (ps_set (i := 1) sc_law.nd rfl (.inl rfl) (pe_call (ok__law_cells T) (hr.mono (by decide)) (by rfl) T.g__law_cells T.F__law_cells.kp T.b__law_cells .nil pass0 (pa_cons (pv 0) (pa_cons pe_int pa_nil))))) (psn_cons (PSN.of (ps_set (i := 2) sc_law.nd rfl (.inl rfl) (pe_call (ok__law_text T) (hr.mono (by decide)) (by rfl) T.g__law_text T.F__law_text.kp T.b__law_text .nil pass0 (pa_cons (pv 1) pa_nil)))) (psn_cons (PSN.of (ps_set (i := 3) sc_law.nd rfl (.inl rfl) (pe_call (ok__law_text T) (hr.mono (by decide)) (by rfl) T.g__law_text T.F__law_text.kp T.b__law_text .nil pass0 (pa_cons (pv 1) pa_nil)))) (psn_cut (PSN.of (ps_if (pt_cmpR op_eq (pe_call (ok__law_draw T) (hr.mono (by decide)) (by rfl) T.g__law_draw T.F__law_draw.kp T.b__law_draw .nil pass0 (pa_cons (pv 1) (pa_cons pe_int pa_nil))) pe_int (nomark _))
 (pss_one (ps_set (i := 3) sc_law.nd rfl (.inl rfl) (pe_slice sl_str (pv 2) po_none (po_some (pe_op op_sub (pe_callB call_len_str rfl T.b_len PySem.boot_len (pa_cons (pv 2) pa_nil)) pe_int)))))
 pss_nil)) (psn_cons (psn_set (i := 4) sc_law.nd rfl (.inl rfl) (pen_call (fn_quoted T) (hr.mono (by decide)) (by rfl) T.g_quoted T.F_quoted.kp T.b_quoted (pa_cons (pv 2) pa_nil))) (psn_cons (psn_if (ptn_or (pt_not (pt_val (pe_callB call_isi rfl T.b_isinstance (by decide +kernel) (pa_cons (pv 4) (pa_cons (pe_bltn (v := .ty "str") (u := .type "str") rfl T.b_str (by decide +kernel) rfl) pa_nil))))) (ptn_cmp op_ne (pen_cmp op_eq (pv 4) (pen_call (fn_quoted T) (hr.mono (by decide)) (by rfl) T.g_quoted T.F_quoted.kp T.b_quoted (pa_cons (pv 3) pa_nil)) (nomark _)) (pe_cmpR op_eq (pv 2) (pv 3) (nomark _)) (nomark _)))
 (PSsN.of (pss_one (ps_ret pe_bl))) (PSsN.of pss_nil)) (PSsN.of (pss_cons (ps_set (i := 5) sc_law.nd rfl (.inl rfl) (pe_op op_mulS pe_str (pe_call (ok__law_draw T) (hr.mono (by decide)) (by rfl) T.g__law_draw T.F__law_draw.kp T.b__law_draw .nil pass0 (pa_cons (pv 1) (pa_cons pe_int pa_nil)))))
 (pss_cons (ps_set (i := 6) sc_law.nd rfl (.inl rfl) (pe_call (ok_tokens T) (hr.mono (by decide)) (by rfl) T.g_tokens T.F_tokens.kp T.b_tokens .nil passL (pa_cons (pe_op op_add_str (pe_op op_add_str (pv 5) (pv 4)) (pe_op op_mulS pe_str (pe_call (ok__law_draw T) (hr.mono (by decide)) (by rfl) T.g__law_draw T.F__law_draw.kp T.b__law_draw .nil pass0 (pa_cons (pv 1) (pa_cons pe_int pa_nil))))) (pa_cons (pe_tup (pa_cons pe_str pa_nil)) (pa_cons pe_int pa_nil)))))
 (pss_cons (ps_if (PW.pt (pw_or (pt_cmpR op_ne (pe_callB call_len_seq rfl T.b_len PySem.boot_len (pa_cons (pv 6) pa_nil)) pe_int (nomark _)) (pw_or (pt_cmpR op_ne (pe_fld (pe_ix ix_list (pv 6) pe_int (fun _ _ => rfl)) rfl) pe_str (nomark _)) (pw_or1 (pt_cmpR op_ne (pe_fld (pe_ix ix_list (pv 6) pe_int (fun _ _ => rfl)) rfl) pe_str (nomark _))))))
 (pss_one (ps_ret pe_bl))
 pss_nil)
 (pss_one (ps_ret (pe_and (pe_cmpR op_eq (pe_fld (pe_ix ix_list (pv 6) pe_int (fun _ _ => rfl)) rfl) (pv 2) (nomark _)) (pe_and (pe_cmpR op_eq (pe_fld (pe_ix ix_list (pv 6) pe_int (fun _ _ => rfl)) rfl) (pe_callB call_len_str rfl T.b_len PySem.boot_len (pa_cons (pv 5) pa_nil)) (nomark _)) (pe_one (pe_cmpR op_eq (pe_fld (pe_ix ix_list (pv 6) pe_int (fun _ _ => rfl)) rfl) pe_str (nomark _))))))))))))))))), ?_⟩
    refine ⟨_, rfl, a, ns, 8, rfl, hS, hlen, by decide, fun H1 d ms s1 _ h1 hms => ?_⟩
    refine ⟨_, rfl, d, ms, rfl, h1, (by intro z; rw [z] at hms; cases hms), fun z1 ms1 hn1 hf1 hz1 => ?_⟩
    refine ⟨_, rfl, d, ms1, rfl, upd_same, hn1, fun z2 ms2 hn2 hf2 hz2 => ?_⟩
    -- if draw == 0: two = one[:len(one) - 1]
    refine ⟨fun σ' H' => ∃ (z2 : Str) (ms3 : List Int) (y4 y5 y6 : Option V), σ' = [some (.ref a), some (.ref d), some (.str z1), some (.str z2), none, none, none] ∧ H' d = some (.lst (ms3.map V.int)) ∧ ms3 ≠ [] ∧ z2.length ≤ 1000, ?_, ?_⟩
    · refine ⟨_, rfl, d, ms2, 3, rfl, upd_same, hn2, by decide, by decide, fun v ms3 hv hn3 => ⟨rfl, _, rfl, ite2 (fun _ => ?_) (fun _ => ?_)⟩⟩
      · refine ⟨_, rfl, _, rfl, z1, rfl, Nat.le_of_lt (small1000 (by omega)), _, _, rfl, rfl, _, rfl, z1, rfl, Nat.le_of_lt (small1000 (by omega)), ?_⟩
        exact ⟨_, ms3, none, none, none, rfl, upd_same, hn3, Nat.le_trans (cutS_length _ _ _) (by omega)⟩
      · exact ⟨z2, ms3, none, none, none, rfl, upd_same, hn3, by omega⟩
    rintro σ' H2 ⟨z2, ms3, _, _, _, rfl, h2, hn3, hz2⟩
    refine ⟨_, rfl, z1, rfl, by omega, fun t1 ht1 => ?_⟩
    refine ⟨_, rfl, _, _, _, _, _, rfl, .ty "str", .base (.str t1), (kit_ty (by decide +kernel) : PySem.W.kitOne K (.type "str") (.type "str") = some true), _, rfl, iteF ?_⟩
    refine ⟨_, rfl, _, rfl, z2, rfl, hz2, fun t2 ht2 => ⟨rfl, _, rfl, _, rfl, rfl, rfl, _, rfl, iteNS ?_ ?_⟩⟩
    · congr 1
      by_cases e : z1 = z2
      · have e' : t1 = t2 := ext_tl (by rw [ht1, ht2, e])
        rw [decide_eq_true (congrArg V.str e), decide_eq_true (congrArg V.str e')]
      · have e' : ¬ t1 = t2 := fun z => e (ext_tl (esc_inj (by rw [← ht1, ← ht2, z])))
        rw [decide_eq_false (fun z => e (V.str.inj z)), decide_eq_false (fun z => e' (V.str.inj z))]
    -- ahead, row
    refine ⟨_, rfl, d, ms3, 4, rfl, h2, hn3, by decide, by decide, fun v ms4 hv hn4 => ⟨_, _, rfl, rfl, by omega, by omega, (by decide +kernel), ?_⟩⟩
    have blank : ∀ j : Nat, tl (repS " " j) = List.replicate j 32 := fun j => by
      rw [tl_repS, show tl " " = [32] by decide +kernel]
      induction j with
      | zero => rfl
      | succ j ih =>
        rw [List.replicate_succ, List.flatten_cons, ih]
        rfl
    have hv0 : ((v : Nat) : Int).toNat = v := by omega
    rw [hv0]
    have hsz : sizeLine = 16777216 := sizeLine_eq
    have l0 : (repS " " v).length = v := by
      rw [len_tl, blank, List.length_replicate]
    have l1 : t1.length ≤ 26 := by
      rw [len_tl, ht1]
      have h5 := two_len esc esc_len (tl z1)
      rw [← len_tl] at h5
      simp only [List.length_cons, List.length_append, List.length_nil]
      omega
    refine ⟨_, rfl, _, rfl, _, _, rfl, rfl, (by rw [l0, hsz]; omega), _, rfl, d, ms4, 4, rfl, upd_same, hn4, by decide, by decide, fun v2 ms5 hv2 hn5 => ⟨_, _, rfl, rfl, by omega, by omega, (by decide +kernel), ?_⟩⟩
    have hv20 : ((v2 : Nat) : Int).toNat = v2 := by omega
    rw [hv20]
    have l2 : (repS " " v2).length = v2 := by
      rw [len_tl, blank, List.length_replicate]
    have lA : (repS " " v ++ t1).length = v + t1.length := by
      rw [len_tl, tl_append, List.length_append, ← len_tl, ← len_tl, l0]
    have lT : (repS " " v ++ t1 ++ repS " " v2).length = v + t1.length + v2 := by
      rw [len_tl, tl_append, List.length_append, ← len_tl, ← len_tl, lA, l2]
    have eT : tl (repS " " v ++ t1 ++ repS " " v2) = List.replicate v 32 ++ (34 :: (tl z1).flatMap esc ++ [34]) ++ List.replicate v2 32 := by
      rw [tl_append, tl_append, blank, blank, ht1]
    refine ⟨_, _, rfl, rfl, (by rw [lA, l2, hsz]; omega), (by show 1 ≤ sizeLine; decide), fun sg hsg => ?_⟩
    refine ⟨_, 60, sg, ["{"], rfl, (by rw [lT]; omega), .inl (.inl upd_same), (by decide +kernel), ?_, fun hn => ?_, fun _ => ⟨fun l ks ts H4 s4 h4 hk lx => ?_, fun dd p r H4 s4 h4 lx => ?_⟩⟩
    · intro c hc
      rw [eT] at hc
      rcases List.mem_append.mp hc with hc | hc
      · rcases List.mem_append.mp hc with hc | hc
        · rw [(List.mem_replicate.mp hc).2]
          exact ⟨by decide, by decide, by decide⟩
        · rcases List.mem_append.mp hc with hc | hc
          · rcases List.mem_cons.mp hc with e | hc
            · rw [e]
              exact ⟨by decide, by decide, by decide⟩
            · obtain ⟨c2, hc2, hc⟩ := List.mem_flatMap.mp hc
              have f2 := hf1 c2 hc2
              unfold esc at hc
              split at hc
              · rcases List.mem_cons.mp hc with e | hc
                · rw [e]; exact ⟨by decide, by decide, by decide⟩
                · rw [List.mem_singleton.mp hc]; exact ⟨by decide, by decide, by decide⟩
              · split at hc
                · rcases List.mem_cons.mp hc with e | hc
                  · rw [e]; exact ⟨by decide, by decide, by decide⟩
                  · rw [List.mem_singleton.mp hc]; exact ⟨by decide, by decide, by decide⟩
                · rw [List.mem_singleton.mp hc]
                  exact f2
          · rw [List.mem_singleton.mp hc]
            exact ⟨by decide, by decide, by decide⟩
      · rw [(List.mem_replicate.mp hc).2]
        exact ⟨by decide, by decide, by decide⟩
    · rw [lT] at hn
      omega
    · -- the two tokens
      rw [eT] at lx
      have e2 := (lex_quoted v v2 (tl z1)).det lx
      have e3 := Sum.inl.inj e2
      rw [← e3] at hk
      obtain ⟨k0, k1, rfl⟩ : ∃ k0 k1, ks = [k0, k1] := by
        have hl := hk.1
        match ks, hl with
        | [k0, k1], _ => exact ⟨k0, k1, rfl⟩
      obtain ⟨dx0, y0, g0, w0⟩ := hk.2 0 k0 _ rfl rfl
      obtain ⟨dx1, y1, g1, w1⟩ := hk.2 1 k1 _ rfl rfl
      have n1 : ¬ ("role" : Str) = "place" := by decide +kernel
      have n2 : ¬ ("role" : Str) = "text" := by decide +kernel
      have n3 : ¬ ("text" : Str) = "place" := by decide +kernel
      have ey0 : y0 = z1 := ext_tl w0
      have ey1 : y1 = "" := ext_tl (w1.trans (show ([] : List Nat) = tl "" by decide +kernel))
      subst ey0
      subst ey1
      have lst : SqL K H4 l [V.ref k0, V.ref k1] := SqL.of h4
      refine ⟨_, rfl, l, _, rfl, .inl lst, rfl, _, rfl, iteNS rfl ?_⟩
      refine ⟨_, rfl, l, _, 0, _, rfl, rfl, lst, atI_nat (j := 0) rfl, k0, _, dx0, _, _, rfl, g0, T.cl_Token, T.na_Token_role, f3_1 _ _ _ n1 n2, rfl, _, rfl, iteNS rfl ?_⟩
      refine ⟨_, rfl, l, _, 1, _, rfl, rfl, lst, atI_nat (j := 1) rfl, k1, _, dx1, _, _, rfl, g1, T.cl_Token, T.na_Token_role, f3_1 _ _ _ n1 n2, rfl, _, rfl, iteNS rfl ?_⟩
      refine ⟨_, rfl, l, _, 0, _, rfl, rfl, lst, atI_nat (j := 0) rfl, k0, _, dx0, _, _, rfl, g0, T.cl_Token, T.na_Token_text, f3_2 _ _ _ n3, _, rfl, rfl, _, rfl, ite2 (fun _ => ?_) (fun e => absurd (decide_eq_true rfl) e)⟩
      refine ⟨_, rfl, l, _, 0, _, rfl, rfl, lst, atI_nat (j := 0) rfl, k0, _, dx0, _, _, rfl, g0, T.cl_Token, T.na_Token_place, f3_3 _ _ _, _, rfl, _, rfl, (by rw [l0]; omega), rfl, _, rfl, ite2 (fun _ => ?_) (fun e => absurd (decide_eq_true (by rw [l0])) e)⟩
      refine ⟨_, rfl, l, _, 1, _, rfl, rfl, lst, atI_nat (j := 1) rfl, k1, _, dx1, _, _, rfl, g1, T.cl_Token, T.na_Token_text, f3_2 _ _ _ n3, rfl, ?_⟩
      show Q (.bl (decide (V.str "" = V.str ""))) H4
      rw [decide_eq_true rfl]
      exact q _
    · rw [eT] at lx
      exact absurd ((lex_quoted v v2 (tl z1)).det lx) (by intro e; cases e)
end
open PySem.W in
theorem py_ints (ns : List Int) : ofPy (PyData.list (ns.map PyData.int)) = WData.list (ns.map WData.int) := by
  show WData.list (ofPys (ns.map PyData.int)) = WData.list (ns.map WData.int)
  rw [ofPys_eq, List.map_map]
  rfl
open PySem.W in
/-- the head's goal, where it tells the tokens: from the law's promise -/
theorem walkN {l : PySem.W.OpenLaw} {m k : Nat} {q : Program} {loose : List Str} {XP : (Str → Option Value) → Heap → Prop} {α : Type} {Yf : Shared → α} {Ya : World → α} {d : DefRec} (hm : l.most = some m) (hm2 : m ≤ sizeLine) (hdf : d.params.defaults = []) (hr : Room k callerA)
    (F : ∀ (w : World) (s₀ s₁ : Shared) (mg : Str → Option Value) (fa a : Addr) (ns : List Int) (as : List Addr), Yf s₀ = Ya w → Laid l.row.toRowW.records w s₀ s₁ [ofPy (PyData.list (ns.map PyData.int))] [.ref a] as → s₁.heap.Ns mainGlobals mg → mg d.name = some (.ref fa) →
      ∃ (K : Frag) (n : Nat) (fd : FuncData), K.In s₁.heap ∧ n ≤ s₁.toks ∧ (∀ (s : Shared) (u : Value), BindsTo s fd ⟨[u], []⟩ [("script", u)]) ∧ (∀ base : Heap, K.In base → base.Ns mainGlobals mg → FnN n l.prog w K mg base k fa fd ["script"] (spLaw K)) ∧ m ≤ 63) :
    PySem.W.WalkX q loose XP Yf Ya l.row.toRowW d [] (fun f vs => PySem.call f vs) := by
  intro w s₀ s₁ mg mb G y fa o pm cd doc dV kV ho hd hcd hD hmg hg args vals as L hpre hlay hrd hwl hlo
  cases Dflts.none hD hdf
  cases Dflts.noKw hD
  obtain ⟨a, vs, ns, ev, ea, hobj, hints, hlen⟩ := Att.script_of hm hpre hwl
  subst ev
  subst ea
  rw [← py_ints] at L
  obtain ⟨K, n, fd, KX, hn, hb, hF, h63⟩ := F w s₀ s₁ mg fa a ns as y L G.T.g hmg
  have run := endN KX G.T.g G.T.b G.T.builtins G.T.nolimit hg hn hobj hints (Nat.le_trans hlen hm2) hr hF hb fun H hS => ⟨a, ns, rfl, hS, Nat.le_trans hlen h63, fun _ => rfl⟩
  refine enter_call (codeAny_mono run fun r s' hq => ?_)
  obtain ⟨er, h2, h3, h4⟩ := hq
  subst er
  refine ⟨.inl ⟨.bool true, .bool true, [], rfl, ?_⟩, h2, h3, h4⟩
  exact ⟨fun _ => rfl, .bool true, Att.post_true l _, fun _ => ⟨List.Pairwise.nil, fun _ z => by cases z⟩⟩
section
theorem mk_txt {K : PySem.W.Frag} {h : Heap} {mg : Str → Option Value} (X : K.In h) (G : h.Ns mainGlobals mg) {C_HeapError C_Fault C_Token f_Fault___init__ f_Token___init__ f_tokens f_quoted f_behind_blanks f_token_at f_behind_run f_word_at f_number_at f_quoted_at f_may_stand f_sign_at f__law_cells f__law_draw f__law_text f_law : Addr}
    {od0 an0 od1 an1 od2 an2 od3 an3 od4 an4 od5 an5 od6 an6 od7 an7 od8 an8 od9 an9 od10 an10 od11 an11 od12 an12 od13 an13 od14 an14 od15 an15 : Option Addr} {sl0 sl1 sl2 sl3 sl4 sl5 sl6 sl7 sl8 sl9 sl10 sl11 sl12 sl13 sl14 sl15 : Array (Option Value)} {oc0 kV0 dc0 pm0 cd0 ct0 oc1 kV1 dc1 pm1 cd1 ct1 oc2 kV2 dc2 pm2 cd2 ct2 oc3 kV3 dc3 pm3 cd3 ct3 oc4 kV4 dc4 pm4 cd4 ct4 oc5 kV5 dc5 pm5 cd5 ct5 oc6 kV6 dc6 pm6 cd6 ct6 oc7 kV7 dc7 pm7 cd7 ct7 oc8 kV8 dc8 pm8 cd8 ct8 oc9 kV9 dc9 pm9 cd9 ct9 oc10 kV10 dc10 pm10 cd10 ct10 oc11 kV11 dc11 pm11 cd11 ct11 oc12 kV12 dc12 pm12 cd12 ct12 oc13 kV13 dc13 pm13 cd13 ct13 oc14 kV14 dc14 pm14 cd14 ct14 oc15 kV15 dc15 pm15 cd15 ct15 : Value} {xnm xq : Str} {xN : Addr} {xbs : List Value} {xsn : List Str} {xsub : List Value} {xab : Bool} {xcol : Option Bool} {xdd : Option Addr} {xm0 xm1 xm2 xm3 xm5 : Option Value} {nt : Nat} {tc_LETTERS tc_DIGITS tc_WORD_SIGNS tc_QUOTE tc_BACKSLASH tc_PERCENT_CODE tc_LONGEST_WORD tc_LONGEST_NUMBER : Tok}
    (a_HeapError : PySem.W.nsIn K mainGlobals "HeapError" = some (some (.ref C_HeapError)))
    (a_Fault : PySem.W.nsIn K mainGlobals "Fault" = some (some (.ref C_Fault)))
    (a_Token : PySem.W.nsIn K mainGlobals "Token" = some (some (.ref C_Token)))
    (a_Fault___init__ : PySem.W.findIn K (.ref C_Fault) "__init__" = some (some (.ref f_Fault___init__)))
    (i_Fault___init__ : PySem.W.isFn K (.ref f_Fault___init__) = true)
    (l_Fault___init__ : K.lookup f_Fault___init__ = some ⟨oc0, od0, .func (PySem.W.fnOf "__init__" "Fault.__init__" (defArgs (inClass (topS 2) 0)) (defBody (inClass (topS 2) 0)) (defScope (inClass (topS 2) 0)) .none kV0 dc0 pm0 an0 cd0 ct0), sl0⟩)
    (c_Fault___init__ : PySem.W.codeIn K cd0 "Fault.__init__" = true)
    (k_Fault___init__ : PySem.W.keepIn K (.ref f_Fault___init__) = true)
    (a_Token___init__ : PySem.W.findIn K (.ref C_Token) "__init__" = some (some (.ref f_Token___init__)))
    (i_Token___init__ : PySem.W.isFn K (.ref f_Token___init__) = true)
    (l_Token___init__ : K.lookup f_Token___init__ = some ⟨oc1, od1, .func (PySem.W.fnOf "__init__" "Token.__init__" (defArgs (inClass (topS 12) 0)) (defBody (inClass (topS 12) 0)) (defScope (inClass (topS 12) 0)) .none kV1 dc1 pm1 an1 cd1 ct1), sl1⟩)
    (c_Token___init__ : PySem.W.codeIn K cd1 "Token.__init__" = true)
    (k_Token___init__ : PySem.W.keepIn K (.ref f_Token___init__) = true)
    (a_tokens : PySem.W.nsIn K mainGlobals "tokens" = some (some (.ref f_tokens)))
    (l_tokens : K.lookup f_tokens = some ⟨oc2, od2, .func (PySem.W.fnOf "tokens" "tokens" (defArgs (topS 13)) (defBody (topS 13)) (defScope (topS 13)) .none kV2 dc2 pm2 an2 cd2 ct2), sl2⟩)
    (c_tokens : PySem.W.codeIn K cd2 "tokens" = true)
    (k_tokens : PySem.W.keepIn K (.ref f_tokens) = true)
    (a_quoted : PySem.W.nsIn K mainGlobals "quoted" = some (some (.ref f_quoted)))
    (l_quoted : K.lookup f_quoted = some ⟨oc3, od3, .func (PySem.W.fnOf "quoted" "quoted" (defArgs (topS 14)) (defBody (topS 14)) (defScope (topS 14)) .none kV3 dc3 pm3 an3 cd3 ct3), sl3⟩)
    (c_quoted : PySem.W.codeIn K cd3 "quoted" = true)
    (k_quoted : PySem.W.keepIn K (.ref f_quoted) = true)
    (a_behind_blanks : PySem.W.nsIn K mainGlobals "behind_blanks" = some (some (.ref f_behind_blanks)))
    (l_behind_blanks : K.lookup f_behind_blanks = some ⟨oc4, od4, .func (PySem.W.fnOf "behind_blanks" "behind_blanks" (defArgs (topS 15)) (defBody (topS 15)) (defScope (topS 15)) .none kV4 dc4 pm4 an4 cd4 ct4), sl4⟩)
    (c_behind_blanks : PySem.W.codeIn K cd4 "behind_blanks" = true)
    (k_behind_blanks : PySem.W.keepIn K (.ref f_behind_blanks) = true)
    (a_token_at : PySem.W.nsIn K mainGlobals "token_at" = some (some (.ref f_token_at)))
    (l_token_at : K.lookup f_token_at = some ⟨oc5, od5, .func (PySem.W.fnOf "token_at" "token_at" (defArgs (topS 16)) (defBody (topS 16)) (defScope (topS 16)) .none kV5 dc5 pm5 an5 cd5 ct5), sl5⟩)
    (c_token_at : PySem.W.codeIn K cd5 "token_at" = true)
    (k_token_at : PySem.W.keepIn K (.ref f_token_at) = true)
    (a_behind_run : PySem.W.nsIn K mainGlobals "behind_run" = some (some (.ref f_behind_run)))
    (l_behind_run : K.lookup f_behind_run = some ⟨oc6, od6, .func (PySem.W.fnOf "behind_run" "behind_run" (defArgs (topS 17)) (defBody (topS 17)) (defScope (topS 17)) .none kV6 dc6 pm6 an6 cd6 ct6), sl6⟩)
    (c_behind_run : PySem.W.codeIn K cd6 "behind_run" = true)
    (k_behind_run : PySem.W.keepIn K (.ref f_behind_run) = true)
    (a_word_at : PySem.W.nsIn K mainGlobals "word_at" = some (some (.ref f_word_at)))
    (l_word_at : K.lookup f_word_at = some ⟨oc7, od7, .func (PySem.W.fnOf "word_at" "word_at" (defArgs (topS 18)) (defBody (topS 18)) (defScope (topS 18)) .none kV7 dc7 pm7 an7 cd7 ct7), sl7⟩)
    (c_word_at : PySem.W.codeIn K cd7 "word_at" = true)
    (k_word_at : PySem.W.keepIn K (.ref f_word_at) = true)
    (a_number_at : PySem.W.nsIn K mainGlobals "number_at" = some (some (.ref f_number_at)))
    (l_number_at : K.lookup f_number_at = some ⟨oc8, od8, .func (PySem.W.fnOf "number_at" "number_at" (defArgs (topS 19)) (defBody (topS 19)) (defScope (topS 19)) .none kV8 dc8 pm8 an8 cd8 ct8), sl8⟩)
    (c_number_at : PySem.W.codeIn K cd8 "number_at" = true)
    (k_number_at : PySem.W.keepIn K (.ref f_number_at) = true)
    (a_quoted_at : PySem.W.nsIn K mainGlobals "quoted_at" = some (some (.ref f_quoted_at)))
    (l_quoted_at : K.lookup f_quoted_at = some ⟨oc9, od9, .func (PySem.W.fnOf "quoted_at" "quoted_at" (defArgs (topS 20)) (defBody (topS 20)) (defScope (topS 20)) .none kV9 dc9 pm9 an9 cd9 ct9), sl9⟩)
    (c_quoted_at : PySem.W.codeIn K cd9 "quoted_at" = true)
    (k_quoted_at : PySem.W.keepIn K (.ref f_quoted_at) = true)
    (a_may_stand : PySem.W.nsIn K mainGlobals "may_stand" = some (some (.ref f_may_stand)))
    (l_may_stand : K.lookup f_may_stand = some ⟨oc10, od10, .func (PySem.W.fnOf "may_stand" "may_stand" (defArgs (topS 21)) (defBody (topS 21)) (defScope (topS 21)) .none kV10 dc10 pm10 an10 cd10 ct10), sl10⟩)
    (c_may_stand : PySem.W.codeIn K cd10 "may_stand" = true)
    (k_may_stand : PySem.W.keepIn K (.ref f_may_stand) = true)
    (a_sign_at : PySem.W.nsIn K mainGlobals "sign_at" = some (some (.ref f_sign_at)))
    (l_sign_at : K.lookup f_sign_at = some ⟨oc11, od11, .func (PySem.W.fnOf "sign_at" "sign_at" (defArgs (topS 22)) (defBody (topS 22)) (defScope (topS 22)) .none kV11 dc11 pm11 an11 cd11 ct11), sl11⟩)
    (c_sign_at : PySem.W.codeIn K cd11 "sign_at" = true)
    (k_sign_at : PySem.W.keepIn K (.ref f_sign_at) = true)
    (a__law_cells : PySem.W.nsIn K mainGlobals "_law_cells" = some (some (.ref f__law_cells)))
    (l__law_cells : K.lookup f__law_cells = some ⟨oc12, od12, .func (PySem.W.fnOf "_law_cells" "_law_cells" (defArgs (topS 24)) (defBody (topS 24)) (defScope (topS 24)) .none kV12 dc12 pm12 an12 cd12 ct12), sl12⟩)
    (c__law_cells : PySem.W.codeIn K cd12 "_law_cells" = true)
    (k__law_cells : PySem.W.keepIn K (.ref f__law_cells) = true)
    (a__law_draw : PySem.W.nsIn K mainGlobals "_law_draw" = some (some (.ref f__law_draw)))
    (l__law_draw : K.lookup f__law_draw = some ⟨oc13, od13, .func (PySem.W.fnOf "_law_draw" "_law_draw" (defArgs (topS 25)) (defBody (topS 25)) (defScope (topS 25)) .none kV13 dc13 pm13 an13 cd13 ct13), sl13⟩)
    (c__law_draw : PySem.W.codeIn K cd13 "_law_draw" = true)
    (k__law_draw : PySem.W.keepIn K (.ref f__law_draw) = true)
    (a__law_text : PySem.W.nsIn K mainGlobals "_law_text" = some (some (.ref f__law_text)))
    (l__law_text : K.lookup f__law_text = some ⟨oc14, od14, .func (PySem.W.fnOf "_law_text" "_law_text" (defArgs (topS 26)) (defBody (topS 26)) (defScope (topS 26)) .none kV14 dc14 pm14 an14 cd14 ct14), sl14⟩)
    (c__law_text : PySem.W.codeIn K cd14 "_law_text" = true)
    (k__law_text : PySem.W.keepIn K (.ref f__law_text) = true)
    (a_law : PySem.W.nsIn K mainGlobals "law" = some (some (.ref f_law)))
    (l_law : K.lookup f_law = some ⟨oc15, od15, .func (PySem.W.fnOf "law" "law" (defArgs (topS 27)) (defBody (topS 27)) (defScope (topS 27)) .none kV15 dc15 pm15 an15 cd15 ct15), sl15⟩)
    (c_law : PySem.W.codeIn K cd15 "law" = true)
    (k_law : PySem.W.keepIn K (.ref f_law) = true)
    (pg_Token : PySem.W.plainGet K C_Token Str.empty = true)
    (hd_Token : PySem.W.hasDictIn K C_Token = true)
    (po_Token : PySem.W.plainOver K C_Token = true)
    (sa_Token : PySem.W.findIn K (.ref C_Token) "__setattr__" = some (some (.builtin "object.__setattr__")))
    (mk_Token : PySem.W.makesIn K C_Token = true)
    (kc_Token : PySem.W.keepIn K (.ref C_Token) = true)
    (na_Token_role : PySem.W.findIn K (.ref C_Token) "role" = some none)
    (na_Token_text : PySem.W.findIn K (.ref C_Token) "text" = some none)
    (na_Token_place : PySem.W.findIn K (.ref C_Token) "place" = some none)
    (z_len : PySem.W.nsIn K mainGlobals "len" = some none)
    (z_int : PySem.W.nsIn K mainGlobals "int" = some none)
    (z_range : PySem.W.nsIn K mainGlobals "range" = some none)
    (z_list : PySem.W.nsIn K mainGlobals "list" = some none)
    (z_str : PySem.W.nsIn K mainGlobals "str" = some none)
    (z_ord : PySem.W.nsIn K mainGlobals "ord" = some none)
    (z_isinstance : PySem.W.nsIn K mainGlobals "isinstance" = some none)
    (z_ValueError : PySem.W.nsIn K mainGlobals "ValueError" = some none)
    (zc_LETTERS : PySem.W.nsIn K mainGlobals "LETTERS" = some (some (.str "abcdefghijklmnopqrstuvwxyzABCDEFGHIJKLMNOPQRSTUVWXYZ" tc_LETTERS)))
    (zc_DIGITS : PySem.W.nsIn K mainGlobals "DIGITS" = some (some (.str "0123456789" tc_DIGITS)))
    (zc_WORD_SIGNS : PySem.W.nsIn K mainGlobals "WORD_SIGNS" = some (some (.str "abcdefghijklmnopqrstuvwxyzABCDEFGHIJKLMNOPQRSTUVWXYZ0123456789_" tc_WORD_SIGNS)))
    (zc_QUOTE : PySem.W.nsIn K mainGlobals "QUOTE" = some (some (.str "\"" tc_QUOTE)))
    (zc_BACKSLASH : PySem.W.nsIn K mainGlobals "BACKSLASH" = some (some (.str "\\" tc_BACKSLASH)))
    (zc_PERCENT_CODE : PySem.W.nsIn K mainGlobals "PERCENT_CODE" = some (some (.int 37 tc_PERCENT_CODE)))
    (zc_LONGEST_WORD : PySem.W.nsIn K mainGlobals "LONGEST_WORD" = some (some (.int 12 tc_LONGEST_WORD)))
    (zc_LONGEST_NUMBER : PySem.W.nsIn K mainGlobals "LONGEST_NUMBER" = some (some (.int 18 tc_LONGEST_NUMBER)))
    (xL : K.lookup C_Fault = some (excClassObj xnm xq C_Fault xN xbs [.ref C_HeapError, .type "ValueError", .type "Exception", .type "BaseException", .type "object"] true xsn xsub xab xcol xdd xm0 xm1 xm2 xm3 xm5 "ValueError.__new__"))
    (xsa : PySem.W.findIn K (.ref C_Fault) "__setattr__" = some (some (.builtin "object.__setattr__")))
    (xga : PySem.W.findIn K (.ref C_Fault) "__getattribute__" = some (some (.builtin "BaseException.__getattribute__")))
    (xgg : PySem.W.findIn K (.ref C_Fault) "__getattr__" = some none)
    (xnp : PySem.W.findIn K (.ref C_Fault) "place" = some none)
    (xnr : PySem.W.findIn K (.ref C_Fault) "reason" = some none)
    (xti : PySem.W.typeIn K (.ref f_Fault___init__) = some (.type "function"))
    (xkC : PySem.W.keepIn K (.ref C_Fault) = true)
    (xeC : PySem.W.subIn K (.ref C_Fault) (.type "BaseException") = some true)
    (xtC : PySem.W.typeIn K (.ref C_Fault) = some (.type "type"))
    (xhC : PySem.W.hasDictIn K C_Fault = true)
    (xiC : PySem.W.isClsIn K C_Fault = true)
    (xsC : PySem.W.subIn K (.ref C_Fault) (.ref C_Fault) = some true)
    (xac : PySem.W.findIn K (.ref C_Fault) "__class__" = some (some (.builtin "object.__class__")))
    (xmr : PySem.W.mroIn K C_Fault (.type "object") = some true)
    (xon : PySem.W.specialIn K (.builtin "object.__class__") "__get__" = some (some (.builtin "getset_descriptor.__get__")))
    (xot : PySem.W.takesIn K (.builtin "object.__class__") = some true)
    (xiH : PySem.W.isClsIn K C_HeapError = true)
    (xtH : PySem.W.typeIn K (.ref C_HeapError) = some (.type "type"))
    (xsH : PySem.W.subIn K (.ref C_Fault) (.ref C_HeapError) = some true)
    (ne_FH : (Value.ref C_Fault == Value.ref C_HeapError) = false)
    (xsV : PySem.W.subIn K (.ref C_Fault) (.type "ValueError") = some true)
    (tB0 : tc_BACKSLASH ≠ 0)
    (tB1 : tc_BACKSLASH < nt)
    (tQ0 : tc_QUOTE ≠ 0)
    (tQ1 : tc_QUOTE < nt)
    : Txt K mg ⟨C_HeapError, C_Fault, C_Token, f_Fault___init__, (PySem.W.fnOf "__init__" "Fault.__init__" (defArgs (inClass (topS 2) 0)) (defBody (inClass (topS 2) 0)) (defScope (inClass (topS 2) 0)) .none kV0 dc0 pm0 an0 cd0 ct0), f_Token___init__, (PySem.W.fnOf "__init__" "Token.__init__" (defArgs (inClass (topS 12) 0)) (defBody (inClass (topS 12) 0)) (defScope (inClass (topS 12) 0)) .none kV1 dc1 pm1 an1 cd1 ct1), f_tokens, (PySem.W.fnOf "tokens" "tokens" (defArgs (topS 13)) (defBody (topS 13)) (defScope (topS 13)) .none kV2 dc2 pm2 an2 cd2 ct2), f_quoted, (PySem.W.fnOf "quoted" "quoted" (defArgs (topS 14)) (defBody (topS 14)) (defScope (topS 14)) .none kV3 dc3 pm3 an3 cd3 ct3), f_behind_blanks, (PySem.W.fnOf "behind_blanks" "behind_blanks" (defArgs (topS 15)) (defBody (topS 15)) (defScope (topS 15)) .none kV4 dc4 pm4 an4 cd4 ct4), f_token_at, (PySem.W.fnOf "token_at" "token_at" (defArgs (topS 16)) (defBody (topS 16)) (defScope (topS 16)) .none kV5 dc5 pm5 an5 cd5 ct5), f_behind_run, (PySem.W.fnOf "behind_run" "behind_run" (defArgs (topS 17)) (defBody (topS 17)) (defScope (topS 17)) .none kV6 dc6 pm6 an6 cd6 ct6), f_word_at, (PySem.W.fnOf "word_at" "word_at" (defArgs (topS 18)) (defBody (topS 18)) (defScope (topS 18)) .none kV7 dc7 pm7 an7 cd7 ct7), f_number_at, (PySem.W.fnOf "number_at" "number_at" (defArgs (topS 19)) (defBody (topS 19)) (defScope (topS 19)) .none kV8 dc8 pm8 an8 cd8 ct8), f_quoted_at, (PySem.W.fnOf "quoted_at" "quoted_at" (defArgs (topS 20)) (defBody (topS 20)) (defScope (topS 20)) .none kV9 dc9 pm9 an9 cd9 ct9), f_may_stand, (PySem.W.fnOf "may_stand" "may_stand" (defArgs (topS 21)) (defBody (topS 21)) (defScope (topS 21)) .none kV10 dc10 pm10 an10 cd10 ct10), f_sign_at, (PySem.W.fnOf "sign_at" "sign_at" (defArgs (topS 22)) (defBody (topS 22)) (defScope (topS 22)) .none kV11 dc11 pm11 an11 cd11 ct11), f__law_cells, (PySem.W.fnOf "_law_cells" "_law_cells" (defArgs (topS 24)) (defBody (topS 24)) (defScope (topS 24)) .none kV12 dc12 pm12 an12 cd12 ct12), f__law_draw, (PySem.W.fnOf "_law_draw" "_law_draw" (defArgs (topS 25)) (defBody (topS 25)) (defScope (topS 25)) .none kV13 dc13 pm13 an13 cd13 ct13), f__law_text, (PySem.W.fnOf "_law_text" "_law_text" (defArgs (topS 26)) (defBody (topS 26)) (defScope (topS 26)) .none kV14 dc14 pm14 an14 cd14 ct14), f_law, (PySem.W.fnOf "law" "law" (defArgs (topS 27)) (defBody (topS 27)) (defScope (topS 27)) .none kV15 dc15 pm15 an15 cd15 ct15), nt⟩ := by
  have F0 := fun_mk (st := (inClass (topS 2) 0)) l_Fault___init__ c_Fault___init__ k_Fault___init__
  have b0 := F0.binds (ps := ["self", "place", "reason"]) fun _ _ _ _ _ _ us hl => match us, hl with | [_, _, _], _ => rfl
  have F1 := fun_mk (st := (inClass (topS 12) 0)) l_Token___init__ c_Token___init__ k_Token___init__
  have b1 := F1.binds (ps := ["self", "role", "text", "place"]) fun _ _ _ _ _ _ us hl => match us, hl with | [_, _, _, _], _ => rfl
  have F2 := fun_mk (st := (topS 13)) l_tokens c_tokens k_tokens
  have b2 := F2.binds (ps := ["text", "signs", "longest"]) fun _ _ _ _ _ _ us hl => match us, hl with | [_, _, _], _ => rfl
  have F3 := fun_mk (st := (topS 14)) l_quoted c_quoted k_quoted
  have b3 := F3.binds (ps := ["text"]) fun _ _ _ _ _ _ us hl => match us, hl with | [_], _ => rfl
  have F4 := fun_mk (st := (topS 15)) l_behind_blanks c_behind_blanks k_behind_blanks
  have b4 := F4.binds (ps := ["text", "at"]) fun _ _ _ _ _ _ us hl => match us, hl with | [_, _], _ => rfl
  have F5 := fun_mk (st := (topS 16)) l_token_at c_token_at k_token_at
  have b5 := F5.binds (ps := ["text", "at", "signs"]) fun _ _ _ _ _ _ us hl => match us, hl with | [_, _, _], _ => rfl
  have F6 := fun_mk (st := (topS 17)) l_behind_run c_behind_run k_behind_run
  have b6 := F6.binds (ps := ["text", "at", "allowed"]) fun _ _ _ _ _ _ us hl => match us, hl with | [_, _, _], _ => rfl
  have F7 := fun_mk (st := (topS 18)) l_word_at c_word_at k_word_at
  have b7 := F7.binds (ps := ["text", "at"]) fun _ _ _ _ _ _ us hl => match us, hl with | [_, _], _ => rfl
  have F8 := fun_mk (st := (topS 19)) l_number_at c_number_at k_number_at
  have b8 := F8.binds (ps := ["text", "at"]) fun _ _ _ _ _ _ us hl => match us, hl with | [_, _], _ => rfl
  have F9 := fun_mk (st := (topS 20)) l_quoted_at c_quoted_at k_quoted_at
  have b9 := F9.binds (ps := ["text", "start"]) fun _ _ _ _ _ _ us hl => match us, hl with | [_, _], _ => rfl
  have F10 := fun_mk (st := (topS 21)) l_may_stand c_may_stand k_may_stand
  have b10 := F10.binds (ps := ["character", "escaped"]) fun _ _ _ _ _ _ us hl => match us, hl with | [_, _], _ => rfl
  have F11 := fun_mk (st := (topS 22)) l_sign_at c_sign_at k_sign_at
  have b11 := F11.binds (ps := ["text", "at", "signs"]) fun _ _ _ _ _ _ us hl => match us, hl with | [_, _, _], _ => rfl
  have F12 := fun_mk (st := (topS 24)) l__law_cells c__law_cells k__law_cells
  have b12 := F12.binds (ps := ["script", "count"]) fun _ _ _ _ _ _ us hl => match us, hl with | [_, _], _ => rfl
  have F13 := fun_mk (st := (topS 25)) l__law_draw c__law_draw k__law_draw
  have b13 := F13.binds (ps := ["draws", "bound"]) fun _ _ _ _ _ _ us hl => match us, hl with | [_, _], _ => rfl
  have F14 := fun_mk (st := (topS 26)) l__law_text c__law_text k__law_text
  have b14 := F14.binds (ps := ["draws"]) fun _ _ _ _ _ _ us hl => match us, hl with | [_], _ => rfl
  have F15 := fun_mk (st := (topS 27)) l_law c_law k_law
  have b15 := F15.binds (ps := ["script"]) fun _ _ _ _ _ _ us hl => match us, hl with | [_], _ => rfl
  exact {
    b_len := PySem.W.mg_none_of X G z_len,
    b_int := PySem.W.mg_none_of X G z_int,
    b_range := PySem.W.mg_none_of X G z_range,
    b_list := PySem.W.mg_none_of X G z_list,
    b_str := PySem.W.mg_none_of X G z_str,
    b_ord := PySem.W.mg_none_of X G z_ord,
    b_isinstance := PySem.W.mg_none_of X G z_isinstance,
    b_ValueError := PySem.W.mg_none_of X G z_ValueError,
    g_LETTERS := ⟨_, PySem.W.mg_of X G zc_LETTERS⟩,
    g_DIGITS := ⟨_, PySem.W.mg_of X G zc_DIGITS⟩,
    g_WORD_SIGNS := ⟨_, PySem.W.mg_of X G zc_WORD_SIGNS⟩,
    g_QUOTE := ⟨_, PySem.W.mg_of X G zc_QUOTE⟩,
    g_BACKSLASH := ⟨_, PySem.W.mg_of X G zc_BACKSLASH⟩,
    g_PERCENT_CODE := ⟨_, PySem.W.mg_of X G zc_PERCENT_CODE⟩,
    g_LONGEST_WORD := ⟨_, PySem.W.mg_of X G zc_LONGEST_WORD⟩,
    g_LONGEST_NUMBER := ⟨_, PySem.W.mg_of X G zc_LONGEST_NUMBER⟩,
    g_HeapError := PySem.W.mg_of X G a_HeapError,
    g_Fault := PySem.W.mg_of X G a_Fault,
    g_Token := PySem.W.mg_of X G a_Token,
    cl_Token := ⟨pg_Token, hd_Token, po_Token, sa_Token⟩,
    mk_Token := ⟨mk_Token, a_Token___init__, i_Token___init__, kc_Token⟩,
    na_Token_role := na_Token_role,
    na_Token_text := na_Token_text,
    na_Token_place := na_Token_place,
    F_Fault___init__ := F0,
    b_Fault___init__ := b0,
    F_Token___init__ := F1,
    b_Token___init__ := b1,
    F_tokens := F2,
    b_tokens := b2,
    g_tokens := PySem.W.mg_of X G a_tokens,
    F_quoted := F3,
    b_quoted := b3,
    g_quoted := PySem.W.mg_of X G a_quoted,
    F_behind_blanks := F4,
    b_behind_blanks := b4,
    g_behind_blanks := PySem.W.mg_of X G a_behind_blanks,
    F_token_at := F5,
    b_token_at := b5,
    g_token_at := PySem.W.mg_of X G a_token_at,
    F_behind_run := F6,
    b_behind_run := b6,
    g_behind_run := PySem.W.mg_of X G a_behind_run,
    F_word_at := F7,
    b_word_at := b7,
    g_word_at := PySem.W.mg_of X G a_word_at,
    F_number_at := F8,
    b_number_at := b8,
    g_number_at := PySem.W.mg_of X G a_number_at,
    F_quoted_at := F9,
    b_quoted_at := b9,
    g_quoted_at := PySem.W.mg_of X G a_quoted_at,
    F_may_stand := F10,
    b_may_stand := b10,
    g_may_stand := PySem.W.mg_of X G a_may_stand,
    F_sign_at := F11,
    b_sign_at := b11,
    g_sign_at := PySem.W.mg_of X G a_sign_at,
    F__law_cells := F12,
    b__law_cells := b12,
    g__law_cells := PySem.W.mg_of X G a__law_cells,
    F__law_draw := F13,
    b__law_draw := b13,
    g__law_draw := PySem.W.mg_of X G a__law_draw,
    F__law_text := F14,
    b__law_text := b14,
    g__law_text := PySem.W.mg_of X G a__law_text,
    F_law := F15,
    b_law := b15,
    oex := ⟨⟨_, _, _, _, _, _, _, _, _, _, _, _, _, _, _, xL, by rfl⟩, xsa, xeC, xtC, xkC⟩,
    ic_Fault := a_Fault___init__,
    ti_Fault := xti,
    np_Fault := xnp,
    nr_Fault := xnr,
    xf_Fault := ⟨xga, xgg, xeC, xhC⟩,
    ec_Fault := ⟨xga, xgg, xeC, xhC, xac, xon, xot, xmr⟩,
    em_Fault := exm_own xeC xiC xtC xsC,
    cs_Fault := xiC,
    ih_Fault := kit_own xiH xtH xsH ne_FH,
    iv_Fault := kit_typ xsV,
    kB := ⟨_, PySem.W.mg_of X G zc_BACKSLASH, tB0, tB1⟩,
    kQ := ⟨_, PySem.W.mg_of X G zc_QUOTE, tQ0, tQ1⟩ }
theorem fin {K : PySem.W.Frag} {h : Heap} {mg : Str → Option Value} {l : PySem.W.OpenLaw} {w : World} {fa : Addr} (X : K.In h) (G : h.Ns mainGlobals mg) (hfa : mg "law" = some (.ref fa)) {C_HeapError C_Fault C_Token f_Fault___init__ f_Token___init__ f_tokens f_quoted f_behind_blanks f_token_at f_behind_run f_word_at f_number_at f_quoted_at f_may_stand f_sign_at f__law_cells f__law_draw f__law_text f_law : Addr}
    {od0 an0 od1 an1 od2 an2 od3 an3 od4 an4 od5 an5 od6 an6 od7 an7 od8 an8 od9 an9 od10 an10 od11 an11 od12 an12 od13 an13 od14 an14 od15 an15 : Option Addr} {sl0 sl1 sl2 sl3 sl4 sl5 sl6 sl7 sl8 sl9 sl10 sl11 sl12 sl13 sl14 sl15 : Array (Option Value)} {oc0 kV0 dc0 pm0 cd0 ct0 oc1 kV1 dc1 pm1 cd1 ct1 oc2 kV2 dc2 pm2 cd2 ct2 oc3 kV3 dc3 pm3 cd3 ct3 oc4 kV4 dc4 pm4 cd4 ct4 oc5 kV5 dc5 pm5 cd5 ct5 oc6 kV6 dc6 pm6 cd6 ct6 oc7 kV7 dc7 pm7 cd7 ct7 oc8 kV8 dc8 pm8 cd8 ct8 oc9 kV9 dc9 pm9 cd9 ct9 oc10 kV10 dc10 pm10 cd10 ct10 oc11 kV11 dc11 pm11 cd11 ct11 oc12 kV12 dc12 pm12 cd12 ct12 oc13 kV13 dc13 pm13 cd13 ct13 oc14 kV14 dc14 pm14 cd14 ct14 oc15 kV15 dc15 pm15 cd15 ct15 : Value} {xnm xq : Str} {xN : Addr} {xbs : List Value} {xsn : List Str} {xsub : List Value} {xab : Bool} {xcol : Option Bool} {xdd : Option Addr} {xm0 xm1 xm2 xm3 xm5 : Option Value} {nt : Nat} {tc_LETTERS tc_DIGITS tc_WORD_SIGNS tc_QUOTE tc_BACKSLASH tc_PERCENT_CODE tc_LONGEST_WORD tc_LONGEST_NUMBER : Tok}
    (a_HeapError : PySem.W.nsIn K mainGlobals "HeapError" = some (some (.ref C_HeapError)))
    (a_Fault : PySem.W.nsIn K mainGlobals "Fault" = some (some (.ref C_Fault)))
    (a_Token : PySem.W.nsIn K mainGlobals "Token" = some (some (.ref C_Token)))
    (a_Fault___init__ : PySem.W.findIn K (.ref C_Fault) "__init__" = some (some (.ref f_Fault___init__)))
    (i_Fault___init__ : PySem.W.isFn K (.ref f_Fault___init__) = true)
    (l_Fault___init__ : K.lookup f_Fault___init__ = some ⟨oc0, od0, .func (PySem.W.fnOf "__init__" "Fault.__init__" (defArgs (inClass (topS 2) 0)) (defBody (inClass (topS 2) 0)) (defScope (inClass (topS 2) 0)) .none kV0 dc0 pm0 an0 cd0 ct0), sl0⟩)
    (c_Fault___init__ : PySem.W.codeIn K cd0 "Fault.__init__" = true)
    (k_Fault___init__ : PySem.W.keepIn K (.ref f_Fault___init__) = true)
    (a_Token___init__ : PySem.W.findIn K (.ref C_Token) "__init__" = some (some (.ref f_Token___init__)))
    (i_Token___init__ : PySem.W.isFn K (.ref f_Token___init__) = true)
    (l_Token___init__ : K.lookup f_Token___init__ = some ⟨oc1, od1, .func (PySem.W.fnOf "__init__" "Token.__init__" (defArgs (inClass (topS 12) 0)) (defBody (inClass (topS 12) 0)) (defScope (inClass (topS 12) 0)) .none kV1 dc1 pm1 an1 cd1 ct1), sl1⟩)
    (c_Token___init__ : PySem.W.codeIn K cd1 "Token.__init__" = true)
    (k_Token___init__ : PySem.W.keepIn K (.ref f_Token___init__) = true)
    (a_tokens : PySem.W.nsIn K mainGlobals "tokens" = some (some (.ref f_tokens)))
    (l_tokens : K.lookup f_tokens = some ⟨oc2, od2, .func (PySem.W.fnOf "tokens" "tokens" (defArgs (topS 13)) (defBody (topS 13)) (defScope (topS 13)) .none kV2 dc2 pm2 an2 cd2 ct2), sl2⟩)
    (c_tokens : PySem.W.codeIn K cd2 "tokens" = true)
    (k_tokens : PySem.W.keepIn K (.ref f_tokens) = true)
    (a_quoted : PySem.W.nsIn K mainGlobals "quoted" = some (some (.ref f_quoted)))
    (l_quoted : K.lookup f_quoted = some ⟨oc3, od3, .func (PySem.W.fnOf "quoted" "quoted" (defArgs (topS 14)) (defBody (topS 14)) (defScope (topS 14)) .none kV3 dc3 pm3 an3 cd3 ct3), sl3⟩)
    (c_quoted : PySem.W.codeIn K cd3 "quoted" = true)
    (k_quoted : PySem.W.keepIn K (.ref f_quoted) = true)
    (a_behind_blanks : PySem.W.nsIn K mainGlobals "behind_blanks" = some (some (.ref f_behind_blanks)))
    (l_behind_blanks : K.lookup f_behind_blanks = some ⟨oc4, od4, .func (PySem.W.fnOf "behind_blanks" "behind_blanks" (defArgs (topS 15)) (defBody (topS 15)) (defScope (topS 15)) .none kV4 dc4 pm4 an4 cd4 ct4), sl4⟩)
    (c_behind_blanks : PySem.W.codeIn K cd4 "behind_blanks" = true)
    (k_behind_blanks : PySem.W.keepIn K (.ref f_behind_blanks) = true)
    (a_token_at : PySem.W.nsIn K mainGlobals "token_at" = some (some (.ref f_token_at)))
    (l_token_at : K.lookup f_token_at = some ⟨oc5, od5, .func (PySem.W.fnOf "token_at" "token_at" (defArgs (topS 16)) (defBody (topS 16)) (defScope (topS 16)) .none kV5 dc5 pm5 an5 cd5 ct5), sl5⟩)
    (c_token_at : PySem.W.codeIn K cd5 "token_at" = true)
    (k_token_at : PySem.W.keepIn K (.ref f_token_at) = true)
    (a_behind_run : PySem.W.nsIn K mainGlobals "behind_run" = some (some (.ref f_behind_run)))
    (l_behind_run : K.lookup f_behind_run = some ⟨oc6, od6, .func (PySem.W.fnOf "behind_run" "behind_run" (defArgs (topS 17)) (defBody (topS 17)) (defScope (topS 17)) .none kV6 dc6 pm6 an6 cd6 ct6), sl6⟩)
    (c_behind_run : PySem.W.codeIn K cd6 "behind_run" = true)
    (k_behind_run : PySem.W.keepIn K (.ref f_behind_run) = true)
    (a_word_at : PySem.W.nsIn K mainGlobals "word_at" = some (some (.ref f_word_at)))
    (l_word_at : K.lookup f_word_at = some ⟨oc7, od7, .func (PySem.W.fnOf "word_at" "word_at" (defArgs (topS 18)) (defBody (topS 18)) (defScope (topS 18)) .none kV7 dc7 pm7 an7 cd7 ct7), sl7⟩)
    (c_word_at : PySem.W.codeIn K cd7 "word_at" = true)
    (k_word_at : PySem.W.keepIn K (.ref f_word_at) = true)
    (a_number_at : PySem.W.nsIn K mainGlobals "number_at" = some (some (.ref f_number_at)))
    (l_number_at : K.lookup f_number_at = some ⟨oc8, od8, .func (PySem.W.fnOf "number_at" "number_at" (defArgs (topS 19)) (defBody (topS 19)) (defScope (topS 19)) .none kV8 dc8 pm8 an8 cd8 ct8), sl8⟩)
    (c_number_at : PySem.W.codeIn K cd8 "number_at" = true)
    (k_number_at : PySem.W.keepIn K (.ref f_number_at) = true)
    (a_quoted_at : PySem.W.nsIn K mainGlobals "quoted_at" = some (some (.ref f_quoted_at)))
    (l_quoted_at : K.lookup f_quoted_at = some ⟨oc9, od9, .func (PySem.W.fnOf "quoted_at" "quoted_at" (defArgs (topS 20)) (defBody (topS 20)) (defScope (topS 20)) .none kV9 dc9 pm9 an9 cd9 ct9), sl9⟩)
    (c_quoted_at : PySem.W.codeIn K cd9 "quoted_at" = true)
    (k_quoted_at : PySem.W.keepIn K (.ref f_quoted_at) = true)
    (a_may_stand : PySem.W.nsIn K mainGlobals "may_stand" = some (some (.ref f_may_stand)))
    (l_may_stand : K.lookup f_may_stand = some ⟨oc10, od10, .func (PySem.W.fnOf "may_stand" "may_stand" (defArgs (topS 21)) (defBody (topS 21)) (defScope (topS 21)) .none kV10 dc10 pm10 an10 cd10 ct10), sl10⟩)
    (c_may_stand : PySem.W.codeIn K cd10 "may_stand" = true)
    (k_may_stand : PySem.W.keepIn K (.ref f_may_stand) = true)
    (a_sign_at : PySem.W.nsIn K mainGlobals "sign_at" = some (some (.ref f_sign_at)))
    (l_sign_at : K.lookup f_sign_at = some ⟨oc11, od11, .func (PySem.W.fnOf "sign_at" "sign_at" (defArgs (topS 22)) (defBody (topS 22)) (defScope (topS 22)) .none kV11 dc11 pm11 an11 cd11 ct11), sl11⟩)
    (c_sign_at : PySem.W.codeIn K cd11 "sign_at" = true)
    (k_sign_at : PySem.W.keepIn K (.ref f_sign_at) = true)
    (a__law_cells : PySem.W.nsIn K mainGlobals "_law_cells" = some (some (.ref f__law_cells)))
    (l__law_cells : K.lookup f__law_cells = some ⟨oc12, od12, .func (PySem.W.fnOf "_law_cells" "_law_cells" (defArgs (topS 24)) (defBody (topS 24)) (defScope (topS 24)) .none kV12 dc12 pm12 an12 cd12 ct12), sl12⟩)
    (c__law_cells : PySem.W.codeIn K cd12 "_law_cells" = true)
    (k__law_cells : PySem.W.keepIn K (.ref f__law_cells) = true)
    (a__law_draw : PySem.W.nsIn K mainGlobals "_law_draw" = some (some (.ref f__law_draw)))
    (l__law_draw : K.lookup f__law_draw = some ⟨oc13, od13, .func (PySem.W.fnOf "_law_draw" "_law_draw" (defArgs (topS 25)) (defBody (topS 25)) (defScope (topS 25)) .none kV13 dc13 pm13 an13 cd13 ct13), sl13⟩)
    (c__law_draw : PySem.W.codeIn K cd13 "_law_draw" = true)
    (k__law_draw : PySem.W.keepIn K (.ref f__law_draw) = true)
    (a__law_text : PySem.W.nsIn K mainGlobals "_law_text" = some (some (.ref f__law_text)))
    (l__law_text : K.lookup f__law_text = some ⟨oc14, od14, .func (PySem.W.fnOf "_law_text" "_law_text" (defArgs (topS 26)) (defBody (topS 26)) (defScope (topS 26)) .none kV14 dc14 pm14 an14 cd14 ct14), sl14⟩)
    (c__law_text : PySem.W.codeIn K cd14 "_law_text" = true)
    (k__law_text : PySem.W.keepIn K (.ref f__law_text) = true)
    (a_law : PySem.W.nsIn K mainGlobals "law" = some (some (.ref f_law)))
    (l_law : K.lookup f_law = some ⟨oc15, od15, .func (PySem.W.fnOf "law" "law" (defArgs (topS 27)) (defBody (topS 27)) (defScope (topS 27)) .none kV15 dc15 pm15 an15 cd15 ct15), sl15⟩)
    (c_law : PySem.W.codeIn K cd15 "law" = true)
    (k_law : PySem.W.keepIn K (.ref f_law) = true)
    (pg_Token : PySem.W.plainGet K C_Token Str.empty = true)
    (hd_Token : PySem.W.hasDictIn K C_Token = true)
    (po_Token : PySem.W.plainOver K C_Token = true)
    (sa_Token : PySem.W.findIn K (.ref C_Token) "__setattr__" = some (some (.builtin "object.__setattr__")))
    (mk_Token : PySem.W.makesIn K C_Token = true)
    (kc_Token : PySem.W.keepIn K (.ref C_Token) = true)
    (na_Token_role : PySem.W.findIn K (.ref C_Token) "role" = some none)
    (na_Token_text : PySem.W.findIn K (.ref C_Token) "text" = some none)
    (na_Token_place : PySem.W.findIn K (.ref C_Token) "place" = some none)
    (z_len : PySem.W.nsIn K mainGlobals "len" = some none)
    (z_int : PySem.W.nsIn K mainGlobals "int" = some none)
    (z_range : PySem.W.nsIn K mainGlobals "range" = some none)
    (z_list : PySem.W.nsIn K mainGlobals "list" = some none)
    (z_str : PySem.W.nsIn K mainGlobals "str" = some none)
    (z_ord : PySem.W.nsIn K mainGlobals "ord" = some none)
    (z_isinstance : PySem.W.nsIn K mainGlobals "isinstance" = some none)
    (z_ValueError : PySem.W.nsIn K mainGlobals "ValueError" = some none)
    (zc_LETTERS : PySem.W.nsIn K mainGlobals "LETTERS" = some (some (.str "abcdefghijklmnopqrstuvwxyzABCDEFGHIJKLMNOPQRSTUVWXYZ" tc_LETTERS)))
    (zc_DIGITS : PySem.W.nsIn K mainGlobals "DIGITS" = some (some (.str "0123456789" tc_DIGITS)))
    (zc_WORD_SIGNS : PySem.W.nsIn K mainGlobals "WORD_SIGNS" = some (some (.str "abcdefghijklmnopqrstuvwxyzABCDEFGHIJKLMNOPQRSTUVWXYZ0123456789_" tc_WORD_SIGNS)))
    (zc_QUOTE : PySem.W.nsIn K mainGlobals "QUOTE" = some (some (.str "\"" tc_QUOTE)))
    (zc_BACKSLASH : PySem.W.nsIn K mainGlobals "BACKSLASH" = some (some (.str "\\" tc_BACKSLASH)))
    (zc_PERCENT_CODE : PySem.W.nsIn K mainGlobals "PERCENT_CODE" = some (some (.int 37 tc_PERCENT_CODE)))
    (zc_LONGEST_WORD : PySem.W.nsIn K mainGlobals "LONGEST_WORD" = some (some (.int 12 tc_LONGEST_WORD)))
    (zc_LONGEST_NUMBER : PySem.W.nsIn K mainGlobals "LONGEST_NUMBER" = some (some (.int 18 tc_LONGEST_NUMBER)))
    (xL : K.lookup C_Fault = some (excClassObj xnm xq C_Fault xN xbs [.ref C_HeapError, .type "ValueError", .type "Exception", .type "BaseException", .type "object"] true xsn xsub xab xcol xdd xm0 xm1 xm2 xm3 xm5 "ValueError.__new__"))
    (xsa : PySem.W.findIn K (.ref C_Fault) "__setattr__" = some (some (.builtin "object.__setattr__")))
    (xga : PySem.W.findIn K (.ref C_Fault) "__getattribute__" = some (some (.builtin "BaseException.__getattribute__")))
    (xgg : PySem.W.findIn K (.ref C_Fault) "__getattr__" = some none)
    (xnp : PySem.W.findIn K (.ref C_Fault) "place" = some none)
    (xnr : PySem.W.findIn K (.ref C_Fault) "reason" = some none)
    (xti : PySem.W.typeIn K (.ref f_Fault___init__) = some (.type "function"))
    (xkC : PySem.W.keepIn K (.ref C_Fault) = true)
    (xeC : PySem.W.subIn K (.ref C_Fault) (.type "BaseException") = some true)
    (xtC : PySem.W.typeIn K (.ref C_Fault) = some (.type "type"))
    (xhC : PySem.W.hasDictIn K C_Fault = true)
    (xiC : PySem.W.isClsIn K C_Fault = true)
    (xsC : PySem.W.subIn K (.ref C_Fault) (.ref C_Fault) = some true)
    (xac : PySem.W.findIn K (.ref C_Fault) "__class__" = some (some (.builtin "object.__class__")))
    (xmr : PySem.W.mroIn K C_Fault (.type "object") = some true)
    (xon : PySem.W.specialIn K (.builtin "object.__class__") "__get__" = some (some (.builtin "getset_descriptor.__get__")))
    (xot : PySem.W.takesIn K (.builtin "object.__class__") = some true)
    (xiH : PySem.W.isClsIn K C_HeapError = true)
    (xtH : PySem.W.typeIn K (.ref C_HeapError) = some (.type "type"))
    (xsH : PySem.W.subIn K (.ref C_Fault) (.ref C_HeapError) = some true)
    (ne_FH : (Value.ref C_Fault == Value.ref C_HeapError) = false)
    (xsV : PySem.W.subIn K (.ref C_Fault) (.type "ValueError") = some true)
    (tB0 : tc_BACKSLASH ≠ 0)
    (tB1 : tc_BACKSLASH < nt)
    (tQ0 : tc_QUOTE ≠ 0)
    (tQ1 : tc_QUOTE < nt) :
    ∃ fd : FuncData, (∀ (s : Shared) (v : Value), BindsTo s fd ⟨[v], []⟩ [("script", v)]) ∧ ∀ base : Heap, K.In base → base.Ns mainGlobals mg → FnN nt l.prog w K mg base 6 fa fd ["script"] (spLaw K) := by
  have e := hfa.symm.trans (PySem.W.mg_of X G a_law)
  cases e
  have T := mk_txt X G (nt := nt) a_HeapError a_Fault a_Token a_Fault___init__ i_Fault___init__ l_Fault___init__ c_Fault___init__ k_Fault___init__ a_Token___init__ i_Token___init__ l_Token___init__ c_Token___init__ k_Token___init__ a_tokens l_tokens c_tokens k_tokens a_quoted l_quoted c_quoted k_quoted a_behind_blanks l_behind_blanks c_behind_blanks k_behind_blanks a_token_at l_token_at c_token_at k_token_at a_behind_run l_behind_run c_behind_run k_behind_run a_word_at l_word_at c_word_at k_word_at a_number_at l_number_at c_number_at k_number_at a_quoted_at l_quoted_at c_quoted_at k_quoted_at a_may_stand l_may_stand c_may_stand k_may_stand a_sign_at l_sign_at c_sign_at k_sign_at a__law_cells l__law_cells c__law_cells k__law_cells a__law_draw l__law_draw c__law_draw k__law_draw a__law_text l__law_text c__law_text k__law_text a_law l_law c_law k_law pg_Token hd_Token po_Token sa_Token mk_Token kc_Token na_Token_role na_Token_text na_Token_place z_len z_int z_range z_list z_str z_ord z_isinstance z_ValueError zc_LETTERS zc_DIGITS zc_WORD_SIGNS zc_QUOTE zc_BACKSLASH zc_PERCENT_CODE zc_LONGEST_WORD zc_LONGEST_NUMBER xL xsa xga xgg xnp xnr xti xkC xeC xtC xhC xiC xsC xac xmr xon xot xiH xtH xsH ne_FH xsV tB0 tB1 tQ0 tQ1
  exact ⟨PySem.W.fnOf "law" "law" (defArgs (topS 27)) (defBody (topS 27)) (defScope (topS 27)) .none kV15 dc15 pm15 an15 cd15 ct15, fun s v => .of_eq rfl, fun base _ _ => fn_law T⟩
end
end Ky
open PySem PySem.W PySem.W.X PySem.W.ZRun PyProof.Rows in
set_option maxRecDepth 100000 in
set_option maxHeartbeats 0 in
theorem PySem.Challenge.cw_oneheap_k01_quoted_texts_holds : PySem.Challenge.rw_oneheap_k01_quoted_texts.Holds := by
  w_on; o_law; z_head; (case hw => w_witness2)
  k_fill
  refine Ky.walkN (l := PySem.Challenge.rw_oneheap_k01_quoted_texts) (m := 63) (k := 6) rfl (by decide) rfl ⟨rfl, by decide, by decide⟩ ?F
  case F =>
    intro w s₀ s₁ mg fa a ns as y L G hmg
    z_open y L KX ZH ZN ZT
    have htk := PySem.W.X.script_toks L ZT
    obtain ⟨fd, h1, h2⟩ : ∃ fd : FuncData, (∀ (s : Shared) (v : Value), BindsTo s fd ⟨[v], []⟩ [("script", v)]) ∧ ∀ base : Heap, (L2.KOf KX).In base → base.Ns mainGlobals mg → Ky.FnN s₁.toks _ w (L2.KOf KX) mg base 6 fa fd ["script"] (Ky.spLaw (L2.KOf KX)) := by
      refine' Ky.fin (l := PySem.Challenge.rw_oneheap_k01_quoted_texts) (nt := s₁.toks) KX G hmg ?a_HeapError ?a_Fault ?a_Token ?a_Fault___init__ ?i_Fault___init__ ?l_Fault___init__ ?c_Fault___init__ ?k_Fault___init__ ?a_Token___init__ ?i_Token___init__ ?l_Token___init__ ?c_Token___init__ ?k_Token___init__ ?a_tokens ?l_tokens ?c_tokens ?k_tokens ?a_quoted ?l_quoted ?c_quoted ?k_quoted ?a_behind_blanks ?l_behind_blanks ?c_behind_blanks ?k_behind_blanks ?a_token_at ?l_token_at ?c_token_at ?k_token_at ?a_behind_run ?l_behind_run ?c_behind_run ?k_behind_run ?a_word_at ?l_word_at ?c_word_at ?k_word_at ?a_number_at ?l_number_at ?c_number_at ?k_number_at ?a_quoted_at ?l_quoted_at ?c_quoted_at ?k_quoted_at ?a_may_stand ?l_may_stand ?c_may_stand ?k_may_stand ?a_sign_at ?l_sign_at ?c_sign_at ?k_sign_at ?a__law_cells ?l__law_cells ?c__law_cells ?k__law_cells ?a__law_draw ?l__law_draw ?c__law_draw ?k__law_draw ?a__law_text ?l__law_text ?c__law_text ?k__law_text ?a_law ?l_law ?c_law ?k_law ?pg_Token ?hd_Token ?po_Token ?sa_Token ?mk_Token ?kc_Token ?na_Token_role ?na_Token_text ?na_Token_place ?z_len ?z_int ?z_range ?z_list ?z_str ?z_ord ?z_isinstance ?z_ValueError ?zc_LETTERS ?zc_DIGITS ?zc_WORD_SIGNS ?zc_QUOTE ?zc_BACKSLASH ?zc_PERCENT_CODE ?zc_LONGEST_WORD ?zc_LONGEST_NUMBER ?xL ?xsa ?xga ?xgg ?xnp ?xnr ?xti ?xkC ?xeC ?xtC ?xhC ?xiC ?xsC ?xac ?xmr ?xon ?xot ?xiH ?xtH ?xsH ?ne_FH ?xsV ?tB0 ?tB1 ?tQ0 ?tQ1
      (case a_HeapError => k_is)
      (case a_Fault => k_is)
      (case a_Token => k_is)
      (case a_Fault___init__ => k_is)
      (case i_Fault___init__ => k_is)
      (case l_Fault___init__ => k_is)
      (case c_Fault___init__ => k_is)
      (case k_Fault___init__ => k_is)
      (case a_Token___init__ => k_is)
      (case i_Token___init__ => k_is)
      (case l_Token___init__ => k_is)
      (case c_Token___init__ => k_is)
      (case k_Token___init__ => k_is)
      (case a_tokens => k_is)
      (case l_tokens => k_is)
      (case c_tokens => k_is)
      (case k_tokens => k_is)
      (case a_quoted => k_is)
      (case l_quoted => k_is)
      (case c_quoted => k_is)
      (case k_quoted => k_is)
      (case a_behind_blanks => k_is)
      (case l_behind_blanks => k_is)
      (case c_behind_blanks => k_is)
      (case k_behind_blanks => k_is)
      (case a_token_at => k_is)
      (case l_token_at => k_is)
      (case c_token_at => k_is)
      (case k_token_at => k_is)
      (case a_behind_run => k_is)
      (case l_behind_run => k_is)
      (case c_behind_run => k_is)
      (case k_behind_run => k_is)
      (case a_word_at => k_is)
      (case l_word_at => k_is)
      (case c_word_at => k_is)
      (case k_word_at => k_is)
      (case a_number_at => k_is)
      (case l_number_at => k_is)
      (case c_number_at => k_is)
      (case k_number_at => k_is)
      (case a_quoted_at => k_is)
      (case l_quoted_at => k_is)
      (case c_quoted_at => k_is)
      (case k_quoted_at => k_is)
      (case a_may_stand => k_is)
      (case l_may_stand => k_is)
      (case c_may_stand => k_is)
      (case k_may_stand => k_is)
      (case a_sign_at => k_is)
      (case l_sign_at => k_is)
      (case c_sign_at => k_is)
      (case k_sign_at => k_is)
      (case a__law_cells => k_is)
      (case l__law_cells => k_is)
      (case c__law_cells => k_is)
      (case k__law_cells => k_is)
      (case a__law_draw => k_is)
      (case l__law_draw => k_is)
      (case c__law_draw => k_is)
      (case k__law_draw => k_is)
      (case a__law_text => k_is)
      (case l__law_text => k_is)
      (case c__law_text => k_is)
      (case k__law_text => k_is)
      (case a_law => k_is)
      (case l_law => k_is)
      (case c_law => k_is)
      (case k_law => k_is)
      (case pg_Token => k_is)
      (case hd_Token => k_is)
      (case po_Token => k_is)
      (case sa_Token => k_is)
      (case mk_Token => k_is)
      (case kc_Token => k_is)
      (case na_Token_role => k_is)
      (case na_Token_text => k_is)
      (case na_Token_place => k_is)
      (case z_len => k_is)
      (case z_int => k_is)
      (case z_range => k_is)
      (case z_list => k_is)
      (case z_str => k_is)
      (case z_ord => k_is)
      (case z_isinstance => k_is)
      (case z_ValueError => k_is)
      (case zc_LETTERS => k_is)
      (case zc_DIGITS => k_is)
      (case zc_WORD_SIGNS => k_is)
      (case zc_QUOTE => k_is)
      (case zc_BACKSLASH => k_is)
      (case zc_PERCENT_CODE => k_is)
      (case zc_LONGEST_WORD => k_is)
      (case zc_LONGEST_NUMBER => k_is)
      (case xL => k_is)
      (case xsa => k_is)
      (case xga => k_is)
      (case xgg => k_is)
      (case xnp => k_is)
      (case xnr => k_is)
      (case xti => k_is)
      (case xkC => k_is)
      (case xeC => k_is)
      (case xtC => k_is)
      (case xhC => k_is)
      (case xiC => k_is)
      (case xsC => k_is)
      (case xac => k_is)
      (case xmr => k_is)
      (case xon => k_is)
      (case xot => k_is)
      (case xiH => k_is)
      (case xtH => k_is)
      (case xsH => k_is)
      (case ne_FH => first | rfl | k_is)
      (case xsV => k_is)
      (case tB0 => first | decide | (exact Nat.lt_of_lt_of_le (by decide) htk) | (show _ < s₁.toks; have h := htk; simp at h; omega))
      (case tB1 => first | decide | (exact Nat.lt_of_lt_of_le (by decide) htk) | (show _ < s₁.toks; have h := htk; simp at h; omega))
      (case tQ0 => first | decide | (exact Nat.lt_of_lt_of_le (by decide) htk) | (show _ < s₁.toks; have h := htk; simp at h; omega))
      (case tQ1 => first | decide | (exact Nat.lt_of_lt_of_le (by decide) htk) | (show _ < s₁.toks; have h := htk; simp at h; omega))
    exact ⟨_, _, fd, KX, Nat.le_refl _, h1, h2, by decide⟩
