import PyProof.Rows.All
import Wide.All
import OpenK.AllK
import Wide.FinOn
import HandS.ForMost
import HandS.Codes
import HandS.Exc
import HandS.ExcOwn
import HandS.ExcInit
import HandS.ExcField
import HandS.ExcIs
import HandS.WordsExc
import HandS.IsInst
import KE.KExcIs
import PySem.Challenge.RW_oneheap_k00_tokens_of_texts
set_option Elab.async false
set_option linter.all false
set_option maxRecDepth 100000
namespace Ky
open PySem PySem.Spec PyProof.Rows L2 TL
set_option autoImplicit false
/-! ### the mathematics: what stands at a place of a text -/
/-- how many signs of a kind stand at the head -/
def runp (p : Nat → Bool) (l : List Nat) : Nat := (l.takeWhile p).length
theorem runp_nil (p : Nat → Bool) : runp p [] = 0 := rfl
theorem runp_hit {p : Nat → Bool} {c : Nat} {r : List Nat} (h : p c = true) : runp p (c :: r) = 1 + runp p r := by
  unfold runp
  rw [List.takeWhile_cons_of_pos h, List.length_cons]
  omega
theorem runp_miss {p : Nat → Bool} {c : Nat} {r : List Nat} (h : p c = false) : runp p (c :: r) = 0 := by
  unfold runp
  rw [List.takeWhile_cons_of_neg (by rw [h]; exact Bool.false_ne_true)]
  rfl
theorem runp_le (p : Nat → Bool) : ∀ l : List Nat, runp p l ≤ l.length
  | [] => Nat.le_refl _
  | c :: r => by
    cases h : p c with
    | true =>
      rw [runp_hit h, List.length_cons]
      have := runp_le p r
      omega
    | false =>
      rw [runp_miss h]
      exact Nat.zero_le _
theorem runp_congr {p q : Nat → Bool} (h : ∀ c, p c = q c) (l : List Nat) : runp p l = runp q l := by
  rw [show p = q from funext h]
theorem drop_at {L : List Nat} {i : Nat} (h : i < L.length) : L.drop i = L[i] :: L.drop (i + 1) := List.drop_eq_getElem_cons h
theorem drop_end {L : List Nat} {i : Nat} (h : L.length ≤ i) : L.drop i = [] := List.drop_eq_nil_of_le h
/-- what one place gives: a token of some role, its text, and where the next one may begin; or a fault -/
inductive Res where
  | tok (role : Str) (txt : List Nat) (stop : Nat)
  | bad (place : Nat) (reason : Str)
def isLet (c : Nat) : Bool := (decide (97 ≤ c) && decide (c ≤ 122)) || (decide (65 ≤ c) && decide (c ≤ 90))
def isDig (c : Nat) : Bool := decide (48 ≤ c) && decide (c ≤ 57)
def isWs (c : Nat) : Bool := isDig c || (isLet c || c == 95)
def isBl (c : Nat) : Bool := c == 32
theorem mem_by {S : List Nat} {p : Nat → Bool} (h1 : ∀ x ∈ S, x < 128) (h2 : ∀ c, 128 ≤ c → p c = false) (h3 : ∀ c : Nat, c < 128 → decide (c ∈ S) = p c) (c : Nat) : decide (c ∈ S) = p c := by
  by_cases h : c < 128
  · exact h3 c h
  · rw [h2 c (by omega)]
    exact decide_eq_false fun m => h (h1 c m)
theorem isLet_big {c : Nat} (h : 128 ≤ c) : isLet c = false := by
  unfold isLet
  rw [decide_eq_false (show ¬ c ≤ 122 by omega), decide_eq_false (show ¬ c ≤ 90 by omega)]
  simp
theorem isDig_big {c : Nat} (h : 128 ≤ c) : isDig c = false := by
  unfold isDig
  rw [decide_eq_false (show ¬ c ≤ 57 by omega)]
  simp
theorem isWs_big {c : Nat} (h : 128 ≤ c) : isWs c = false := by
  unfold isWs
  rw [isLet_big h, isDig_big h, beq_eq_false_iff_ne.mpr (by omega)]
  rfl
theorem in_letters (c : Nat) : decide (c ∈ tl "abcdefghijklmnopqrstuvwxyzABCDEFGHIJKLMNOPQRSTUVWXYZ") = isLet c := mem_by (by decide +kernel) (fun _ h => isLet_big h) (by decide +kernel) c
theorem in_digits (c : Nat) : decide (c ∈ tl "0123456789") = isDig c := mem_by (by decide +kernel) (fun _ h => isDig_big h) (by decide +kernel) c
theorem in_word (c : Nat) : decide (c ∈ tl "abcdefghijklmnopqrstuvwxyzABCDEFGHIJKLMNOPQRSTUVWXYZ0123456789_") = isWs c := mem_by (by decide +kernel) (fun _ h => isWs_big h) (by decide +kernel) c
theorem ws_of_let {c : Nat} (h : isLet c = true) : isWs c = true := by
  unfold isWs
  rw [h]
  simp
theorem ws_of_dig {c : Nat} (h : isDig c = true) : isWs c = true := by
  unfold isWs
  rw [h]
  rfl
def resWord (L : List Nat) (i : Nat) : Res :=
  if 12 < runp isWs (L.drop i) then .bad i "word too long" else .tok "word" ((L.drop i).take (runp isWs (L.drop i))) (i + runp isWs (L.drop i))
def resNum (L : List Nat) (i : Nat) : Res :=
  if (L.drop i).head? = some 48 ∧ 1 < runp isDig (L.drop i) then .bad i "needless zero"
  else if 18 < runp isDig (L.drop i) then .bad i "number too long"
  else if 0 < runp isWs (L.drop (i + runp isDig (L.drop i))) then .bad (i + runp isDig (L.drop i)) "unexpected sign"
  else .tok "number" ((L.drop i).take (runp isDig (L.drop i))) (i + runp isDig (L.drop i))
/-- from behind the first quotation mark, which stands at st -/
def qgo (st : Nat) : List Nat → List Nat → Nat → Res
  | [], _, _ => .bad st "text is not closed"
  | c :: r, acc, i =>
    if c = 34 then .tok "text" acc (i + 1)
    else if c = 92 then (match r with
      | [] => .bad st "text is not closed"
      | d :: r' => if d = 34 ∨ d = 92 then qgo st r' (acc ++ [d]) (i + 2) else .bad (i + 1) "unexpected sign")
    else qgo st r (acc ++ [c]) (i + 1)
def resQuo (L : List Nat) (i : Nat) : Res := qgo i (L.drop (i + 1)) [] (i + 1)
def better (l : List Nat) (b s : List Nat) : List Nat := if b.length < s.length ∧ l.take s.length = s then s else b
def bestS (l : List Nat) (sgs : List (List Nat)) : List Nat := sgs.foldl (better l) []
def resSign (sgs : List (List Nat)) (L : List Nat) (i : Nat) : Res :=
  if bestS (L.drop i) sgs = [] then .bad i "unexpected sign" else .tok "sign" (bestS (L.drop i) sgs) (i + (bestS (L.drop i) sgs).length)
/-- one token of the package -/
def one (sgs : List (List Nat)) (L : List Nat) (i : Nat) : Res :=
  match (L.drop i).head? with
  | none => .bad i "unexpected sign"
  | some c => if isLet c = true then resWord L i else if isDig c = true then resNum L i else if c = 34 then resQuo L i else resSign sgs L i
theorem qgo_stop {st : Nat} : ∀ (l acc : List Nat) (i : Nat) {role : Str} {txt : List Nat} {stop : Nat}, qgo st l acc i = .tok role txt stop → i < stop
  | [], _, _, _, _, _, h => by
    unfold qgo at h
    cases h
  | [c], acc, i, _, _, _, h => by
    unfold qgo at h
    split at h
    · cases h; omega
    · split at h
      · cases h
      · have := qgo_stop [] _ _ h; omega
  | c :: d :: r, acc, i, _, _, _, h => by
    unfold qgo at h
    split at h
    · cases h; omega
    · split at h
      · simp only at h
        split at h
        · have := qgo_stop r _ _ h; omega
        · cases h
      · have := qgo_stop (d :: r) _ _ h; omega
theorem one_stop {sgs : List (List Nat)} {L : List Nat} {i : Nat} {role : Str} {txt : List Nat} {stop : Nat} (hi : i < L.length) (h : one sgs L i = .tok role txt stop) : i < stop := by
  have hd := drop_at hi
  unfold one at h
  rw [hd] at h
  simp only [List.head?_cons] at h
  split at h
  · rename_i hl
    unfold resWord at h
    split at h
    · cases h
    · cases h
      rw [hd, runp_hit (ws_of_let hl)]
      omega
  · split at h
    · rename_i hl
      unfold resNum at h
      split at h
      · cases h
      · split at h
        · cases h
        · split at h
          · cases h
          · cases h
            rw [hd, runp_hit hl]
            omega
    · split at h
      · unfold resQuo at h
        have := qgo_stop _ _ _ h
        omega
      · unfold resSign at h
        split at h
        · cases h
        · rename_i hb
          cases h
          have : 0 < (bestS (L.drop i) sgs).length := List.length_pos_iff.mpr hb
          omega
def skip (L : List Nat) (i : Nat) : Nat := i + runp isBl (L.drop i)
theorem le_skip (L : List Nat) (i : Nat) : i ≤ skip L i := Nat.le_add_right _ _
theorem skip_end {L : List Nat} {i : Nat} (h : L.length ≤ i) : skip L i = i := by
  unfold skip
  rw [drop_end h]
  rfl
theorem skip_hit {L : List Nat} {i : Nat} (h : i < L.length) (hc : L[i] = 32) : skip L i = skip L (i + 1) := by
  unfold skip
  rw [drop_at h, runp_hit (by rw [hc]; rfl)]
  omega
theorem skip_miss {L : List Nat} {i : Nat} (h : i < L.length) (hc : L[i] ≠ 32) : skip L i = i := by
  unfold skip
  rw [drop_at h, runp_miss (show isBl L[i] = false from beq_eq_false_iff_ne.mpr hc)]
  rfl
/-- a token as it is told: role, text, place -/
abbrev Tk := Str × List Nat × Nat
def out (sgs : List (List Nat)) : Type := List Tk ⊕ (Nat × Str)
def consT (t : Tk) : List Tk ⊕ (Nat × Str) → List Tk ⊕ (Nat × Str)
  | .inl ts => .inl (t :: ts)
  | .inr e => .inr e
/-- what the rest of a text from a place on is read as: its tokens, or its first fault -/
inductive Lexes (sgs : List (List Nat)) (L : List Nat) : Nat → List Tk ⊕ (Nat × Str) → Prop where
  | fin {i : Nat} (h : L.length ≤ i) : Lexes sgs L i (.inl [("end", [], L.length)])
  | bad {i p : Nat} {r : Str} (h : i < L.length) (e : one sgs L i = .bad p r) : Lexes sgs L i (.inr (p, r))
  | tok {i stop : Nat} {role : Str} {txt : List Nat} {R : List Tk ⊕ (Nat × Str)} (h : i < L.length) (e : one sgs L i = .tok role txt stop) (t : Lexes sgs L (skip L stop) R) : Lexes sgs L i (consT (role, txt, i) R)
theorem Lexes.det {sgs : List (List Nat)} {L : List Nat} {i : Nat} {R R' : List Tk ⊕ (Nat × Str)} (a : Lexes sgs L i R) : Lexes sgs L i R' → R = R' := by
  induction a generalizing R' with
  | fin h =>
    intro b
    cases b with
    | fin _ => rfl
    | bad h' _ => omega
    | tok h' _ _ => omega
  | bad h e =>
    intro b
    cases b with
    | fin _ => omega
    | bad _ e' =>
      rw [e] at e'
      cases e'
      rfl
    | tok _ e' _ =>
      rw [e] at e'
      cases e'
  | tok h e t ih =>
    intro b
    cases b with
    | fin _ => omega
    | bad _ e' =>
      rw [e] at e'
      cases e'
    | tok _ e' t' =>
      rw [e] at e'
      cases e'
      rw [ih t']
def appT (ts : List Tk) (R : List Tk ⊕ (Nat × Str)) : List Tk ⊕ (Nat × Str) := ts.foldr consT R
theorem appT_snoc (ts : List Tk) (t : Tk) (R : List Tk ⊕ (Nat × Str)) : appT (ts ++ [t]) R = appT ts (consT t R) := by
  unfold appT
  rw [List.foldr_append]
  rfl
theorem appT_inl : ∀ (ts us : List Tk), appT ts (.inl us) = .inl (ts ++ us)
  | [], _ => rfl
  | t :: ts, us => by
    show consT t (appT ts (.inl us)) = _
    rw [appT_inl ts us]
    rfl
theorem appT_inr : ∀ (ts : List Tk) (e : Nat × Str), appT ts (.inr e) = .inr e
  | [], _ => rfl
  | t :: ts, e => by
    show consT t (appT ts (.inr e)) = _
    rw [appT_inr ts e]
    rfl
theorem kit_self {K : PySem.W.Frag} {C : Addr} : PySem.W.kitOne K (.ref C) (.ref C) = some true := if_pos (beq_self_eq_true _)
theorem kit_own {K : PySem.W.Frag} {C D : Addr} {r : Bool} (h1 : PySem.W.isClsIn K D = true) (h2 : PySem.W.typeIn K (.ref D) = some (.type "type")) (h3 : PySem.W.subIn K (.ref C) (.ref D) = some r) (h4 : (Value.ref C == Value.ref D) = false) :
    PySem.W.kitOne K (.ref C) (.ref D) = some r := by
  have a1 : ((PySem.W.clsIn K D).isSome && PySem.W.typeIn K (.ref D) == some (.type "type")) = true := by
    rw [h2, show (PySem.W.clsIn K D).isSome = true from h1] <;> rfl
  have a2 : PySem.W.kitCls K (.ref C) (.ref D) = some r := Eq.trans (if_pos a1) h3
  exact Eq.trans (if_neg (by rw [h4] <;> decide)) a2
theorem exm_own {K : PySem.W.Frag} {S D : Addr} (h1 : PySem.W.subIn K (.ref D) (.type "BaseException") = some true) (h2 : PySem.W.isClsIn K D = true) (h3 : PySem.W.typeIn K (.ref D) = some (.type "type")) (h4 : PySem.W.subIn K (.ref S) (.ref D) = some true) :
    PySem.W.exmOne K (.ref S) (.ref D) = some true := by
  have a1 : (PySem.W.subIn K (.ref D) (.type "BaseException") == some true) = true := by
    rw [h1] <;> rfl
  have a2 : ((PySem.W.clsIn K D).isSome && PySem.W.typeIn K (.ref D) == some (.type "type")) = true := by
    rw [h3, show (PySem.W.clsIn K D).isSome = true from h2] <;> rfl
  exact Eq.trans (if_pos a1) (Eq.trans (if_pos a2) h4)
theorem kit_typ {K : PySem.W.Frag} {C : Addr} (h : PySem.W.subIn K (.ref C) (.type "ValueError") = some true) : PySem.W.kitOne K (.ref C) (.type "ValueError") = some true := by
  have a : PySem.W.kitCls K (.ref C) (.type "ValueError") = some true := by
    show (if PySem.W.kitMeta "ValueError" = true then PySem.W.subIn K (.ref C) (.type "ValueError") else none) = some true
    rw [if_pos (by decide +kernel)]
    exact h
  exact Eq.trans (if_neg (by simp)) a
def topS (i : Nat) : Stmt := PySem.Challenge.pw_oneheap_k00_tokens_of_texts.main.body.getD i (.Pass ⟨0, 0, 0, 0⟩)
structure Ad where
  C_HeapError : Addr
  C_Fault : Addr
  C_Token : Addr
  f_Fault___init__ : Addr
  fd_Fault___init__ : FuncData
  f_Token___init__ : Addr
  fd_Token___init__ : FuncData
  f_tokens : Addr
  fd_tokens : FuncData
  f_behind_blanks : Addr
  fd_behind_blanks : FuncData
  f_token_at : Addr
  fd_token_at : FuncData
  f_behind_run : Addr
  fd_behind_run : FuncData
  f_word_at : Addr
  fd_word_at : FuncData
  f_number_at : Addr
  fd_number_at : FuncData
  f_quoted_at : Addr
  fd_quoted_at : FuncData
  f_may_stand : Addr
  fd_may_stand : FuncData
  f_sign_at : Addr
  fd_sign_at : FuncData
  f__law_cells : Addr
  fd__law_cells : FuncData
  f__law_draw : Addr
  fd__law_draw : FuncData
  f__law_pick : Addr
  fd__law_pick : FuncData
  f__law_text : Addr
  fd__law_text : FuncData
  f__law_is_letter : Addr
  fd__law_is_letter : FuncData
  f__law_is_digit : Addr
  fd__law_is_digit : FuncData
  f__law_run : Addr
  fd__law_run : FuncData
  f__law_quoted : Addr
  fd__law_quoted : FuncData
  f__law_one : Addr
  fd__law_one : FuncData
  f__law_due : Addr
  fd__law_due : FuncData
  f_law : Addr
  fd_law : FuncData
/-- what the top leaves, as the proofs of the defs ask it -/
structure Txt (K : PySem.W.Frag) (mg : Str → Option Value) (A : Ad) : Prop where
  b_len : mg "len" = none
  b_int : mg "int" = none
  b_range : mg "range" = none
  b_list : mg "list" = none
  b_ord : mg "ord" = none
  b_isinstance : mg "isinstance" = none
  b_ValueError : mg "ValueError" = none
  g_LETTERS : ∃ t, mg "LETTERS" = some (.str "abcdefghijklmnopqrstuvwxyzABCDEFGHIJKLMNOPQRSTUVWXYZ" t)
  g_DIGITS : ∃ t, mg "DIGITS" = some (.str "0123456789" t)
  g_WORD_SIGNS : ∃ t, mg "WORD_SIGNS" = some (.str "abcdefghijklmnopqrstuvwxyzABCDEFGHIJKLMNOPQRSTUVWXYZ0123456789_" t)
  g_QUOTE : ∃ t, mg "QUOTE" = some (.str "\"" t)
  g_BACKSLASH : ∃ t, mg "BACKSLASH" = some (.str "\\" t)
  g_PERCENT_CODE : ∃ t, mg "PERCENT_CODE" = some (.int 37 t)
  g_LONGEST_WORD : ∃ t, mg "LONGEST_WORD" = some (.int 12 t)
  g_LONGEST_NUMBER : ∃ t, mg "LONGEST_NUMBER" = some (.int 18 t)
  g_HeapError : mg "HeapError" = some (.ref A.C_HeapError)
  g_Fault : mg "Fault" = some (.ref A.C_Fault)
  g_Token : mg "Token" = some (.ref A.C_Token)
  cl_Token : Cls K A.C_Token
  mk_Token : Mk K A.C_Token A.f_Token___init__
  na_Token_role : NoAttr K A.C_Token "role"
  na_Token_text : NoAttr K A.C_Token "text"
  na_Token_place : NoAttr K A.C_Token "place"
  F_Fault___init__ : Fun K "__init__" "Fault.__init__" (inClass (topS 2) 0) A.f_Fault___init__ A.fd_Fault___init__
  b_Fault___init__ : Binds K A.fd_Fault___init__ ["self", "place", "reason"] []
  F_Token___init__ : Fun K "__init__" "Token.__init__" (inClass (topS 12) 0) A.f_Token___init__ A.fd_Token___init__
  b_Token___init__ : Binds K A.fd_Token___init__ ["self", "role", "text", "place"] []
  F_tokens : Fun K "tokens" "tokens" (topS 13) A.f_tokens A.fd_tokens
  b_tokens : Binds K A.fd_tokens ["text", "signs", "longest"] []
  g_tokens : mg "tokens" = some (.ref A.f_tokens)
  F_behind_blanks : Fun K "behind_blanks" "behind_blanks" (topS 14) A.f_behind_blanks A.fd_behind_blanks
  b_behind_blanks : Binds K A.fd_behind_blanks ["text", "at"] []
  g_behind_blanks : mg "behind_blanks" = some (.ref A.f_behind_blanks)
  F_token_at : Fun K "token_at" "token_at" (topS 15) A.f_token_at A.fd_token_at
  b_token_at : Binds K A.fd_token_at ["text", "at", "signs"] []
  g_token_at : mg "token_at" = some (.ref A.f_token_at)
  F_behind_run : Fun K "behind_run" "behind_run" (topS 16) A.f_behind_run A.fd_behind_run
  b_behind_run : Binds K A.fd_behind_run ["text", "at", "allowed"] []
  g_behind_run : mg "behind_run" = some (.ref A.f_behind_run)
  F_word_at : Fun K "word_at" "word_at" (topS 17) A.f_word_at A.fd_word_at
  b_word_at : Binds K A.fd_word_at ["text", "at"] []
  g_word_at : mg "word_at" = some (.ref A.f_word_at)
  F_number_at : Fun K "number_at" "number_at" (topS 18) A.f_number_at A.fd_number_at
  b_number_at : Binds K A.fd_number_at ["text", "at"] []
  g_number_at : mg "number_at" = some (.ref A.f_number_at)
  F_quoted_at : Fun K "quoted_at" "quoted_at" (topS 19) A.f_quoted_at A.fd_quoted_at
  b_quoted_at : Binds K A.fd_quoted_at ["text", "start"] []
  g_quoted_at : mg "quoted_at" = some (.ref A.f_quoted_at)
  F_may_stand : Fun K "may_stand" "may_stand" (topS 20) A.f_may_stand A.fd_may_stand
  b_may_stand : Binds K A.fd_may_stand ["character", "escaped"] []
  g_may_stand : mg "may_stand" = some (.ref A.f_may_stand)
  F_sign_at : Fun K "sign_at" "sign_at" (topS 21) A.f_sign_at A.fd_sign_at
  b_sign_at : Binds K A.fd_sign_at ["text", "at", "signs"] []
  g_sign_at : mg "sign_at" = some (.ref A.f_sign_at)
  F__law_cells : Fun K "_law_cells" "_law_cells" (topS 23) A.f__law_cells A.fd__law_cells
  b__law_cells : Binds K A.fd__law_cells ["script", "count"] []
  g__law_cells : mg "_law_cells" = some (.ref A.f__law_cells)
  F__law_draw : Fun K "_law_draw" "_law_draw" (topS 24) A.f__law_draw A.fd__law_draw
  b__law_draw : Binds K A.fd__law_draw ["draws", "bound"] []
  g__law_draw : mg "_law_draw" = some (.ref A.f__law_draw)
  F__law_pick : Fun K "_law_pick" "_law_pick" (topS 25) A.f__law_pick A.fd__law_pick
  b__law_pick : Binds K A.fd__law_pick ["draws", "row"] []
  g__law_pick : mg "_law_pick" = some (.ref A.f__law_pick)
  F__law_text : Fun K "_law_text" "_law_text" (topS 26) A.f__law_text A.fd__law_text
  b__law_text : Binds K A.fd__law_text ["draws"] []
  g__law_text : mg "_law_text" = some (.ref A.f__law_text)
  F__law_is_letter : Fun K "_law_is_letter" "_law_is_letter" (topS 27) A.f__law_is_letter A.fd__law_is_letter
  b__law_is_letter : Binds K A.fd__law_is_letter ["sign"] []
  g__law_is_letter : mg "_law_is_letter" = some (.ref A.f__law_is_letter)
  F__law_is_digit : Fun K "_law_is_digit" "_law_is_digit" (topS 28) A.f__law_is_digit A.fd__law_is_digit
  b__law_is_digit : Binds K A.fd__law_is_digit ["sign"] []
  g__law_is_digit : mg "_law_is_digit" = some (.ref A.f__law_is_digit)
  F__law_run : Fun K "_law_run" "_law_run" (topS 29) A.f__law_run A.fd__law_run
  b__law_run : Binds K A.fd__law_run ["text", "at", "letters"] []
  g__law_run : mg "_law_run" = some (.ref A.f__law_run)
  F__law_quoted : Fun K "_law_quoted" "_law_quoted" (topS 30) A.f__law_quoted A.fd__law_quoted
  b__law_quoted : Binds K A.fd__law_quoted ["text", "at"] []
  g__law_quoted : mg "_law_quoted" = some (.ref A.f__law_quoted)
  F__law_one : Fun K "_law_one" "_law_one" (topS 31) A.f__law_one A.fd__law_one
  b__law_one : Binds K A.fd__law_one ["text", "at"] []
  g__law_one : mg "_law_one" = some (.ref A.f__law_one)
  F__law_due : Fun K "_law_due" "_law_due" (topS 32) A.f__law_due A.fd__law_due
  b__law_due : Binds K A.fd__law_due ["text", "longest"] []
  g__law_due : mg "_law_due" = some (.ref A.f__law_due)
  F_law : Fun K "law" "law" (topS 33) A.f_law A.fd_law
  b_law : Binds K A.fd_law ["script"] []
  oex : OexC K A.C_Fault
  ic_Fault : PySem.W.findIn K (.ref A.C_Fault) "__init__" = some (some (.ref A.f_Fault___init__))
  ti_Fault : PySem.W.typeIn K (.ref A.f_Fault___init__) = some (.type "function")
  np_Fault : PySem.W.findIn K (.ref A.C_Fault) "place" = some none
  nr_Fault : PySem.W.findIn K (.ref A.C_Fault) "reason" = some none
  xf_Fault : XfC K A.C_Fault
  ec_Fault : ExcC K A.C_Fault
  em_Fault : PySem.W.exmOne K (.ref A.C_Fault) (.ref A.C_Fault) = some true
  cs_Fault : PySem.W.isClsIn K A.C_Fault = true
  ih_Fault : PySem.W.kitOne K (.ref A.C_Fault) (.ref A.C_HeapError) = some true
  iv_Fault : PySem.W.kitOne K (.ref A.C_Fault) (.type "ValueError") = some true
/-! ### the promises -/
theorem same_new {H : Hp} {p : Addr} {o : HO} (h : H p = none) : Same H (upd H p o) := fun b x e => by
  rw [upd_ne (ne_of_none e h)]
  exact e
theorem same_two {H : Hp} {x dx : Addr} {o1 o2 : HO} (hx : H x = none) (hdx : H dx = none) : Same H (upd (upd H dx o1) x o2) := fun b o e => by
  rw [upd_ne (ne_of_none e hx), upd_ne (ne_of_none e hdx)]
  exact e
/-- the fields of a token, of a fault -/
def f3 (f g k : Str) (x y z : V) : List (Str × V) := putF k z (putF g y (putF f x []))
theorem f3_1 {f g k : Str} (x y z : V) (h : ¬ f = k) (h' : ¬ f = g) : (f3 f g k x y z).lookup f = some x := by
  unfold f3
  rw [lookup_putF, if_neg h, lookup_putF, if_neg h', lookup_putF, if_pos rfl]
theorem f3_2 {f g k : Str} (x y z : V) (h : ¬ g = k) : (f3 f g k x y z).lookup g = some y := by
  unfold f3
  rw [lookup_putF, if_neg h, lookup_putF, if_pos rfl]
theorem f3_3 {f g k : Str} (x y z : V) : (f3 f g k x y z).lookup k = some z := by
  unfold f3
  rw [lookup_putF, if_pos rfl]
def fFault (p : Nat) (r : Str) : List (Str × V) := [("reason", .str r), ("place", .int (p : Int))]
theorem fF_place (p : Nat) (r : Str) : (fFault p r).lookup ("place" : Str) = some (V.int (p : Int)) := by
  unfold fFault
  rw [lookup_put, if_neg (by decide +kernel), lookup_put, if_pos rfl]
theorem fF_reason (p : Nat) (r : Str) : (fFault p r).lookup ("reason" : Str) = some (V.str r) := by
  unfold fFault
  rw [lookup_put, if_pos rfl]
/-- at k: a token -/
def TokAt (A : Ad) (H : Hp) (k : Addr) (t : Tk) : Prop := ∃ (dx : Addr) (z : Str), H k = some (.ins A.C_Token dx (f3 "role" "text" "place" (.str t.1) (.str z) (.int (t.2.2 : Int)))) ∧ tl z = t.2.1
theorem TokAt.keep {A : Ad} {H H' : Hp} {k : Addr} {t : Tk} (h : TokAt A H k t) (s : Same H H') : TokAt A H' k t := by
  obtain ⟨dx, z, a, b⟩ := h
  exact ⟨dx, z, s _ _ a, b⟩
/-- how a def ends that reads one token at i: it hands back the pair of the token and its end, or raises the fault -/
def Out (A : Ad) (H : Hp) (Q : VK) (E : XK) (i : Nat) : Res → Prop
  | .tok role txt stop => ∀ (t k : Addr) (H' : Hp), Same H H' → H' t = some (.tup [.ref k, .int (stop : Int)]) → TokAt A H' k (role, txt, i) → Q (.ref t) H'
  | .bad p r => ∀ (d : Addr) (H' : Hp), Same H H' → H' d = some (.xd (fFault p r)) → E (.ref A.C_Fault) (some d) H'
def spFI (C : Addr) : Sp := fun vs H Q _ => ∃ (a : Addr) (x y : V), vs = [.ref a, x, y] ∧ H a = some (exo a C none) ∧ ∀ d, H d = none → d ≠ a → Q .non (upd (upd (upd H d (exd d [(("place" : Str), x)])) a (exo a C (some d))) d (exd d [(("reason" : Str), y), (("place" : Str), x)]))
def spTI (C : Addr) : Sp := fun vs H Q _ => ∃ (p dx : Addr) (x y z : V), vs = [.ref p, x, y, z] ∧ H p = some (.ins C dx []) ∧ Q .non (upd H p (.ins C dx (f3 "role" "text" "place" x y z)))
def spBlanks : Sp := fun vs H Q _ => ∃ (z : Str) (i : Nat), vs = [.str z, .int (i : Int)] ∧ z.length ≤ 1000 ∧ Q (.int ((skip (tl z) i : Nat) : Int)) H
def spRun : Sp := fun vs H Q _ => ∃ (z al : Str) (i : Nat), vs = [.str z, .int (i : Int), .str al] ∧ z.length ≤ 1000 ∧ i ≤ (tl z).length ∧ Q (.int ((i + runp (fun c => decide (c ∈ tl al)) ((tl z).drop i) : Nat) : Int)) H
def spAt (A : Ad) (res : List Nat → Nat → Res) : Sp := fun vs H Q E => ∃ (z : Str) (i : Nat), vs = [.str z, .int (i : Int)] ∧ z.length ≤ 1000 ∧ i < (tl z).length ∧ Out A H Q E i (res (tl z) i)
/-- signs as a package's place may hold them: of the printable ones, no percent sign -/
def Fine (c : Nat) : Prop := 32 ≤ c ∧ c ≤ 126 ∧ c ≠ 37
def spQuo (A : Ad) : Sp := fun vs H Q E => ∃ (z : Str) (i : Nat), vs = [.str z, .int (i : Int)] ∧ z.length ≤ 1000 ∧ i < (tl z).length ∧ (∀ c ∈ tl z, Fine c) ∧ Out A H Q E i (resQuo (tl z) i)
def spMay : Sp := fun vs H Q _ => ∃ (c : Nat) (b : Bool), vs = [.str ⟨#[c]⟩, .bl b] ∧ Fine c ∧ Q (.bl (if b = true then decide (c = 34) || decide (c = 92) else true)) H
def spSign (K : PySem.W.Frag) (A : Ad) : Sp := fun vs H Q E => ∃ (z : Str) (i : Nat) (sg : Addr) (sgs : List Str), vs = [.str z, .int (i : Int), .ref sg] ∧ z.length ≤ 1000 ∧ i < (tl z).length ∧ SqT K H sg (sgs.map V.str) ∧ (∀ s ∈ sgs, s.length ≤ 1000) ∧ Out A H Q E i (resSign (sgs.map tl) (tl z) i)
def spOne (K : PySem.W.Frag) (A : Ad) : Sp := fun vs H Q E => ∃ (z : Str) (i : Nat) (sg : Addr) (sgs : List Str), vs = [.str z, .int (i : Int), .ref sg] ∧ z.length ≤ 1000 ∧ i < (tl z).length ∧ SqT K H sg (sgs.map V.str) ∧ (∀ s ∈ sgs, s.length ≤ 1000) ∧ (∀ c ∈ tl z, Fine c) ∧ Out A H Q E i (one (sgs.map tl) (tl z) i)
/-- a list of tokens, each at its address -/
def Toks (A : Ad) (H : Hp) (ks : List Addr) (ts : List Tk) : Prop := ks.length = ts.length ∧ ∀ (i : Nat) (k : Addr) (t : Tk), ks[i]? = some k → ts[i]? = some t → TokAt A H k t
theorem TokAt.upd {A : Ad} {H : Hp} {o k : Addr} {t : Tk} {xs ys : List V} (h : TokAt A H k t) (ho : H o = some (.lst xs)) : TokAt A (upd H o (.lst ys)) k t := by
  obtain ⟨dx, z, a, b⟩ := h
  exact ⟨dx, z, (upd_ne (ne_of a ho (by intro e; cases e))).trans a, b⟩
theorem Toks.snoc {A : Ad} {H : Hp} {ks : List Addr} {ts : List Tk} {k : Addr} {t : Tk} (h : ∀ (i : Nat) (k : Addr) (t : Tk), ks[i]? = some k → ts[i]? = some t → TokAt A H k t) (hl : ks.length = ts.length) (hk : TokAt A H k t) : Toks A H (ks ++ [k]) (ts ++ [t]) := by
  refine ⟨by rw [List.length_append, List.length_append, hl]; rfl, fun i k' t' a b => ?_⟩
  by_cases hi : i < ks.length
  · rw [List.getElem?_append_left hi] at a
    rw [List.getElem?_append_left (by omega)] at b
    exact h i k' t' a b
  · rw [List.getElem?_append_right (by omega)] at a
    rw [List.getElem?_append_right (by omega)] at b
    have e : i - ks.length = 0 := by
      cases q : i - ks.length with
      | zero => rfl
      | succ n =>
        rw [q] at a
        cases a
    rw [e] at a
    rw [show i - ts.length = 0 by omega] at b
    cases a
    cases b
    exact hk
def spTokens (K : PySem.W.Frag) (A : Ad) : Sp := fun vs H Q E => ∃ (z : Str) (lg : Nat) (sg : Addr) (sgs : List Str), vs = [.str z, .ref sg, .int (lg : Int)] ∧ z.length ≤ 1000 ∧ SqT K H sg (sgs.map V.str) ∧ (∀ s ∈ sgs, s.length ≤ 1000) ∧ (∀ c ∈ tl z, Fine c) ∧
  (lg < z.length → ∀ (d : Addr) (H' : Hp), Same H H' → H' d = some (.xd (fFault 0 "text too long")) → E (.ref A.C_Fault) (some d) H') ∧
  (¬ lg < z.length → (∀ (l : Addr) (ks : List Addr) (ts : List Tk) (H' : Hp), Same H H' → H' l = some (.lst (ks.map V.ref)) → Toks A H' ks ts → Lexes (sgs.map tl) (tl z) (skip (tl z) 0) (.inl ts) → Q (.ref l) H') ∧
    (∀ (d : Addr) (p : Nat) (r : Str) (H' : Hp), Same H H' → H' d = some (.xd (fFault p r)) → Lexes (sgs.map tl) (tl z) (skip (tl z) 0) (.inr (p, r)) → E (.ref A.C_Fault) (some d) H'))
theorem same_sqt {K : PySem.W.Frag} {H H' : Hp} {a : Addr} {xs : List V} (e : Same H H') (h : SqT K H a xs) : SqT K H' a xs := by
  rcases h with (h | ⟨o, h⟩) | h
  · exact .inl (.inl (e _ _ h))
  · exact .inl (.inr ⟨o, e _ _ h⟩)
  · exact .inr h
theorem sign_at_list {z : Str} {i : Nat} (h : i < (tl z).length) : atI z.cps.toList (i : Int) = some ((tl z)[i]) := atI_nat (List.getElem?_eq_getElem h)
theorem str1_eq (c d : Nat) : decide (V.str ⟨#[c]⟩ = V.str ⟨#[d]⟩) = decide (c = d) := by
  by_cases h : c = d
  · rw [decide_eq_true h, decide_eq_true (by rw [h])]
  · rw [decide_eq_false h, decide_eq_false]
    intro e
    have e2 := congrArg tl (V.str.inj e)
    rw [tl, tl] at e2
    exact h (List.cons.inj e2).1
theorem lex1 (c d : Nat) : decide (([c] : List Nat) < [d]) = decide (c < d) := by
  by_cases h : c < d
  · rw [decide_eq_true h]
    exact decide_eq_true (List.Lex.rel h)
  · rw [decide_eq_false h]
    refine decide_eq_false fun q => ?_
    cases q with
    | rel q => exact h q
    | cons q => cases q
/-- the text of one sign -/
abbrev sg1 (c : Nat) : V := .str ⟨#[c]⟩
theorem sg_map (acc : List Nat) : acc.map sg1 = (acc.map fun c => (⟨#[c]⟩ : Str)).map V.str := by
  rw [List.map_map]
  rfl
theorem join_signs : ∀ acc : List Nat, joinL [] ((acc.map fun c => (⟨#[c]⟩ : Str)).map tl) = acc
  | [] => rfl
  | [c] => rfl
  | c :: d :: r => by
    show [c] ++ ([] ++ joinL [] (((d :: r).map fun c => (⟨#[c]⟩ : Str)).map tl)) = c :: d :: r
    rw [join_signs (d :: r)]
    rfl
theorem len_signs : ∀ acc : List Nat, ((acc.map fun c => (⟨#[c]⟩ : Str)).map (·.length)).sum = acc.length
  | [] => rfl
  | c :: r => by
    rw [List.map_cons, List.map_cons, List.sum_cons, len_signs r, List.length_cons]
    show 1 + r.length = _
    omega
theorem sign_is {s : Str} {d : Nat} (h : tl s = [d]) : s = ⟨#[d]⟩ := ext_tl h
theorem made_fault {A : Ad} {H : Hp} {a d : Addr} {p : Nat} {r : Str} (ha : H a = none) (hd : H d = none) (hda : d ≠ a) :
    Same H (upd (del (upd (upd (upd (upd H a (exo a A.C_Fault none)) d (exd d [(("place" : Str), .int (p : Int))])) a (exo a A.C_Fault (some d))) d (exd d [(("reason" : Str), .str r), (("place" : Str), .int (p : Int))])) a) d (.xd (fFault p r))) := fun b o e => by
  have n1 := ne_of_none e ha
  have n2 := ne_of_none e hd
  rw [upd_ne n2, del_ne n1, upd_ne n2, upd_ne n1, upd_ne n2, upd_ne n1]
  exact e
/-- slices by natural places -/
theorem tl_cut {z : Str} {i j : Nat} (hi : i ≤ (tl z).length) : tl (cutS z (some (i : Int)) (some (j : Int))) = ((tl z).drop i).take (j - i) := by
  have hz : z.length = (tl z).length := len_tl z
  show (z.cps.toList.drop (HT.sIx z.length 0 (some (i : Int)))).take (HT.sIx z.length z.length (some (j : Int)) - HT.sIx z.length 0 (some (i : Int))) = _
  rw [HT.sIx_nat, HT.sIx_nat, hz, Nat.min_eq_left hi]
  by_cases hj : j ≤ (tl z).length
  · rw [Nat.min_eq_left hj]
  · have hl : ((tl z).drop i).length = (tl z).length - i := List.length_drop
    rw [Nat.min_eq_right (by omega), List.take_of_length_le (by rw [hl]; exact Nat.le_refl _), List.take_of_length_le (by rw [hl]; omega)]
/-- the cells: a new list of so many ints; which ones does not matter -/
def spCells (K : PySem.W.Frag) : Sp := fun vs H Q _ => ∃ (a : Addr) (ns : List Int) (n : Nat), vs = [.ref a, .int (n : Int)] ∧ SqL K H a (ns.map V.int) ∧ ns.length ≤ 63 ∧ n ≤ 64 ∧
  ∀ H' p (ms : List Int), Same H H' → H p = none → H' p = some (.lst (ms.map V.int)) → ms.length = n → Q (.ref p) H'
/-- a draw: the list of ints at a stays one, not empty; the value lies below the bound -/
def spDraw : Sp := fun vs H Q _ => ∃ (a : Addr) (ms : List Int) (n : Nat), vs = [.ref a, .int (n : Int)] ∧ H a = some (.lst (ms.map V.int)) ∧ ms ≠ [] ∧ 0 < n ∧ n < 1000 ∧
  ∀ (v : Nat) (ms' : List Int), v < n → ms' ≠ [] → Q (.int (v : Int)) (upd H a (.lst (ms'.map V.int)))
theorem int_at {ns : List Int} {i : Nat} (h : i < ns.length) : (ns.map V.int)[i]? = some (.int ns[i]) := by
  rw [List.getElem?_map, List.getElem?_eq_getElem h]
  rfl
section
variable {P : Program} {w : World} {K : PySem.W.Frag} {mg : Str → Option Value} {base : Heap} {A : Ad}
theorem sc__law_cells : FnScope ["script", "count", "cells", "k", "cell"] ["script", "count"] (defScope (topS 23)) := ⟨rfl, rfl, rfl, by decide +kernel, rfl, by decide +kernel, by decide +kernel⟩
theorem sc__law_draw : FnScope ["draws", "bound", "value"] ["draws", "bound"] (defScope (topS 24)) := ⟨rfl, rfl, rfl, by decide +kernel, rfl, by decide +kernel, by decide +kernel⟩
theorem ok__law_cells (T : Txt K mg A) : FnOk P w K mg base CX0 1 A.f__law_cells A.fd__law_cells ["script", "count"] (spCells K) := by
  refine T.F__law_cells.ok sc__law_cells (fun vs H Q E h => ?_) (fun cdv Ar outer s H vs Q E hr h => ?_)
  · obtain ⟨a, ns, n, rfl, _⟩ := h
    rfl
  · obtain ⟨a, ns, n, rfl, hS, hlen, hn, q⟩ := h
    refine ⟨_, (pss_cons (ps_set (i := 2) sc__law_cells.nd rfl (.inl rfl) (pe_lst pa_nil))
 (pss_cons (ps_for PassesOwn.never rfl (pi_range1 rfl T.b_range (pa_cons (pv 1) pa_nil)) (pg_name (i := 3) sc__law_cells.nd rfl (.inl rfl))
 (pss_cons (ps_set (i := 4) sc__law_cells.nd rfl (.inl rfl) (pe_op op_add (pe_op op_mul pe_int (pv 3)) pe_int))
 (C8.pss_cut (ps_if (pt_cmpR op_lt (pv 3) (pe_callB call_len_seq rfl T.b_len PySem.boot_len (pa_cons (pv 0) pa_nil)) (nomark _))
 (pss_cons (ps_set (i := 4) sc__law_cells.nd rfl (.inl rfl) (pe_callTy call_int1 rfl T.b_int (by decide +kernel) (pa_cons (pe_ix ix_list (pv 0) (pv 3) (fun _ _ => rfl)) pa_nil)))
 (pss_one (ps_if (pt_cmpR op_lt (pv 4) pe_int (nomark _))
 (pss_one (ps_set (i := 4) sc__law_cells.nd rfl (.inl rfl) (pe_op op_sub pe_int (pe_op op_mul pe_int (pv 4)))))
 pss_nil)))
 pss_nil)
 (C8.pss_cut (ps_if (pt_cmpR op_lt (pv 4) pe_int (nomark _))
 (pss_cons (ps_set (i := 4) sc__law_cells.nd rfl (.inl rfl) (pe_op op_mod (pe_op op_add (pe_op op_add (pe_op op_mul (pe_callTy call_int1 rfl T.b_int (by decide +kernel) (pa_cons (pv 4) pa_nil)) pe_int) pe_int) (pe_op op_mul pe_int (pv 3))) pe_int))
 (pss_one (ps_set (i := 4) sc__law_cells.nd rfl (.inl rfl) (pe_op op_mod (pe_op op_add (pe_op op_mul (pe_callTy call_int1 rfl T.b_int (by decide +kernel) (pa_cons (pv 4) pa_nil)) pe_int) pe_int) pe_int))))
 pss_nil)
 (pss_one (ps_expr (pe_bm PySem.F.plainAttrs_list PySem.F.slot_list_append PySem.F.type_list_append mt_append (pv 2) (pa_cons (pv 4) pa_nil))))))))
 (pss_one (ps_ret (pv 2))))), ?_⟩
    refine ⟨Nat.zero_le _, fun o no => ?_⟩
    refine ⟨_, rfl, (n : Int), rfl, by omega, by omega, for_range (lo := 0) (n := (n : Int).toNat) (fun i σ H' => ∃ (ms : List Int) (y3 y4 : Option V), σ = [some (.ref a), some (.int (n : Int)), some (.ref o), y3, y4] ∧ Same H H' ∧ H' o = some (.lst (ms.map V.int)) ∧ ms.length = i)
      ⟨[], none, none, rfl, fun b z e => (upd_ne (ne_of_none e no)).trans e, upd_same, rfl⟩ ?_ ?_⟩
    · rintro i σ H2 hi ⟨ms, y3, y4, rfl, sm, eo, hl⟩
      -- cell = 7 * k + 3
      refine ⟨_, rfl, _, _, rfl, rfl, .inl ⟨by decide, by decide⟩, _, _, rfl, rfl, ?_⟩
      -- if k < len(script): ..
      refine ⟨fun σ' H' => H' = H2 ∧ ∃ c : Int, σ' = [some (.ref a), some (.int (n : Int)), some (.ref o), some (.int (0 + (i : Int))), some (.int c)], ?_, ?_⟩
      · refine ⟨_, rfl, _, rfl, a, _, rfl, .inl (sm.seq hS), _, _, rfl, rfl, _, rfl, ite2 (fun h => ?_) (fun h => ⟨rfl, _, rfl⟩)⟩
        have hi2 : i < ns.length := by
          have h' := of_decide_eq_true h
          rw [List.length_map] at h'
          omega
        refine ⟨_, rfl, _, rfl, a, _, 0 + (i : Int), _, rfl, rfl, sm.seq hS, at_of (j := i) (by omega) (int_at hi2), .inl ⟨_, rfl, ?_⟩⟩
        refine ⟨_, rfl, _, _, rfl, rfl, _, rfl, ite2 (fun h => ?_) (fun h => ⟨rfl, _, rfl⟩)⟩
        refine ⟨_, rfl, _, _, rfl, rfl, .inl ⟨by decide, by decide⟩, _, _, rfl, rfl, rfl, _, rfl⟩
      · rintro σ' H' ⟨rfl, c, rfl⟩
        -- if cell < 1000000000: ..
        refine ⟨fun σ' H'' => H'' = H' ∧ ∃ c : Int, σ' = [some (.ref a), some (.int (n : Int)), some (.ref o), some (.int (0 + (i : Int))), some (.int c)], ?_, ?_⟩
        · refine ⟨_, rfl, _, _, rfl, rfl, _, rfl, ite2 (fun h => ?_) (fun h => ⟨rfl, _, rfl⟩)⟩
          refine ⟨_, rfl, .inl ⟨_, rfl, ?_⟩⟩
          refine ⟨_, _, rfl, rfl, .inr ⟨by decide, by decide⟩, _, _, rfl, rfl, _, rfl, _, _, rfl, rfl, .inl ⟨by decide, by decide⟩, _, _, rfl, rfl, _, _, rfl, rfl, (by decide : (0 : Int) < 2147483647), ?_⟩
          refine ⟨_, rfl, .inl ⟨_, rfl, ?_⟩⟩
          refine ⟨_, _, rfl, rfl, .inr ⟨by decide, by decide⟩, _, _, rfl, rfl, _, _, rfl, rfl, (by decide : (0 : Int) < 18446744073709551557), rfl, _, rfl⟩
        · rintro σ' H'' ⟨rfl, c', rfl⟩
          -- cells.append(cell)
          refine ⟨_, rfl, .inl ⟨rfl, _, SqL.of eo⟩, _, rfl, o, _, _, rfl, rfl, eo, ?_, ?_⟩
          · rw [List.length_map, hl]
            exact small1000 (by omega)
          · refine ⟨ms ++ [c'], _, _, rfl, fun b z e => (upd_ne (ne_of_none e no)).trans (sm b z e), ?_, ?_⟩
            · rw [upd_same, List.map_append]
              rfl
            · rw [List.length_append, hl]
              rfl
    · rintro σ H2 ⟨ms, y3, y4, rfl, sm, eo, hl⟩
      exact ⟨_, rfl, q H2 o ms sm no eo (by omega)⟩
theorem ok__law_draw (T : Txt K mg A) : FnOk P w K mg base CX0 1 A.f__law_draw A.fd__law_draw ["draws", "bound"] spDraw := by
  refine T.F__law_draw.ok sc__law_draw (fun vs H Q E h => ?_) (fun cdv Ar outer s H vs Q E hr h => ?_)
  · obtain ⟨a, ms, n, rfl, _⟩ := h
    rfl
  · obtain ⟨a, ms, n, rfl, ha, hne, hn, hn2, q⟩ := h
    refine ⟨_, (C8.pss_cut (ps_if (PW.pt (pw_and (pt_cmpR op_eq (pe_ix ix_list (pv 0) pe_int (fun _ _ => rfl)) pe_int (nomark _)) (pw_and1 (pt_cmpR op_gt (pe_callB call_len_seq rfl T.b_len PySem.boot_len (pa_cons (pv 0) pa_nil)) pe_int (nomark _)))))
 (pss_one (ps_expr (pe_bm PySem.F.plainAttrs_list PySem.F.slot_list_pop PySem.F.type_list_pop mt_popAt (pv 0) (pa_cons pe_int pa_nil))))
 pss_nil)
 (pss_cons (ps_set (i := 2) sc__law_draw.nd rfl (.inl rfl) (pe_op op_modN (pe_callTy call_int1 rfl T.b_int (by decide +kernel) (pa_cons (pe_ix ix_list (pv 0) pe_int (fun _ _ => rfl)) pa_nil)) (pv 1)))
 (pss_cons (ps_asg (pe_op op_fdivN (pe_ix ix_list (pv 0) pe_int (fun _ _ => rfl)) (pv 1)) (pg_sub (pv 0) pe_int set_list))
 (pss_one (ps_ret (pv 2)))))), ?_⟩
    obtain ⟨m, r, rfl⟩ : ∃ m r, ms = m :: r := by
      cases ms with
      | nil => exact absurd rfl hne
      | cons m r => exact ⟨m, r, rfl⟩
    -- if draws[0] == 0 and len(draws) > 1: draws.pop(0)
    refine ⟨fun σ' H' => ∃ (m' : Int) (r' : List Int), σ' = [some (.ref a), some (.int (n : Int)), none] ∧ H' = upd H a (.lst ((m' :: r').map V.int)), ?_, ?_⟩
    · have e0 : upd H a (.lst ((m :: r).map V.int)) = H := by
        funext b
        by_cases hb : b = a
        · rw [hb, upd_same, ha]
        · rw [upd_ne hb]
      refine ⟨_, rfl, a, _, 0, _, rfl, rfl, SqL.of ha, atI_nat (j := 0) rfl, rfl, _, rfl, ite2 (fun h0 => ?_) (fun _ => iteF ⟨m, r, rfl, e0.symm⟩)⟩
      refine ⟨_, rfl, a, _, rfl, .inl (SqL.of ha), _, _, rfl, rfl, _, rfl, ite2 (fun h => ?_) (fun _ => ⟨m, r, rfl, e0.symm⟩)⟩
      have h' := of_decide_eq_true h
      obtain ⟨m2, r2, rfl⟩ : ∃ m2 r2, r = m2 :: r2 := by
        cases r with
        | nil => exact absurd h' (by simp)
        | cons m2 r2 => exact ⟨m2, r2, rfl⟩
      refine ⟨_, rfl, .inl ⟨rfl, _, SqL.of ha⟩, a, _, 0, 0, .int m, rfl, rfl, ha, by decide, by decide, ?_, rfl, m2, r2, rfl, rfl⟩
      unfold seqIndex?
      simp
      omega
    · rintro σ' H' ⟨m', r', rfl, rfl⟩
      refine ⟨_, rfl, a, _, 0, _, rfl, rfl, SqL.of upd_same, atI_nat (j := 0) rfl, .inl ⟨_, rfl, ?_⟩⟩
      refine ⟨_, rfl, _, _, rfl, rfl, (by omega), ?_⟩
      refine ⟨_, rfl, a, _, 0, _, rfl, rfl, SqL.of upd_same, atI_nat (j := 0) rfl, _, rfl, _, _, rfl, rfl, ⟨by omega, by omega⟩, ?_⟩
      refine ⟨_, rfl, a, _, 0, 0, rfl, rfl, upd_same, ?_, ?_⟩
      · unfold ixN
        rw [if_pos (by decide), if_pos (by simp)]
        rfl
      · rw [upd_upd]
        have hm : m'.fmod (n : Int) = ((m'.fmod (n : Int)).toNat : Int) := by
          have := Int.fmod_nonneg_of_pos m' (b := (n : Int)) (by omega)
          omega
        have hlt : (m'.fmod (n : Int)).toNat < n := by
          have := Int.fmod_lt_of_pos m' (b := (n : Int)) (by omega)
          omega
        refine ⟨_, rfl, ?_⟩
        show Q (.int (m'.fmod (n : Int))) _
        rw [hm]
        exact q _ ((m'.fdiv (n : Int)) :: r') hlt (by simp)
end
end Ky
namespace Ky
open PySem PySem.Spec PyProof.Rows L2 TL
set_option autoImplicit false
section
variable {P : Program} {w : World} {K : PySem.W.Frag} {mg : Str → Option Value} {base : Heap} {A : Ad}
/-- a fault is raised -/
theorem fault_out {H : Hp} {E : XK} {p : Nat} {r : Str} (hE : ∀ (d : Addr) (H' : Hp), Same H H' → H' d = some (.xd (fFault p r)) → E (.ref A.C_Fault) (some d) H') :
    ([V.int (p : Int), V.str r] : List V).length ≤ 1000 ∧ ∀ a, H a = none → spFI A.C_Fault (.ref a :: ([V.int (p : Int), V.str r] ++ [])) (upd H a (exo a A.C_Fault none))
      (fun v H2 => v = .non ∧ ∃ (d : Addr) (fs : List (Str × V)), H2 a = some (exo a A.C_Fault (some d)) ∧ H2 d = some (exd d fs) ∧ H d = none ∧ E (.ref A.C_Fault) (some d) (upd (del H2 a) d (.xd fs))) (fun _ _ _ => False) :=
  ⟨(by show 2 ≤ 1000; decide), fun a ha => ⟨a, _, _, rfl, upd_same, fun d hd hda => ⟨rfl, d, _, (upd_ne hda.symm).trans upd_same, upd_same, (upd_ne hda).symm.trans hd,
    hE d _ (made_fault ha ((upd_ne hda).symm.trans hd) hda) upd_same⟩⟩⟩
theorem sc_Fault___init__ : FnScope ["self", "place", "reason"] ["self", "place", "reason"] (defScope (inClass (topS 2) 0)) := ⟨rfl, rfl, rfl, by decide +kernel, rfl, by decide +kernel, by decide +kernel⟩
theorem ok_Fault___init__ (T : Txt K mg A) : FnOk P w K mg base CX0 1 A.f_Fault___init__ A.fd_Fault___init__ ["self", "place", "reason"] (spFI A.C_Fault) := by
  refine T.F_Fault___init__.ok sc_Fault___init__ (fun vs H Q E h => ?_) (fun cdv Ar outer s H vs Q E hr h => ?_)
  · obtain ⟨a, x, y, rfl, _⟩ := h
    rfl
  · obtain ⟨a, x, y, rfl, ha, q⟩ := h
    refine ⟨_, pss_cons (ps_ost (pv 0) (pv 1)) (pss_one (ps_ost (pv 0) (pv 2))), ?_⟩
    exact ⟨_, rfl, _, rfl, a, _, rfl, T.oex, T.np_Fault, .inl ⟨ha, fun d hd hda => ⟨_, rfl, _, rfl, a, _, rfl, T.oex, T.nr_Fault, .inr ⟨d, _, upd_same, (upd_ne hda).trans upd_same, (by show 1 ≤ 900; decide), q d hd hda⟩⟩⟩⟩
theorem sc_Token___init__ : FnScope ["self", "role", "text", "place"] ["self", "role", "text", "place"] (defScope (inClass (topS 12) 0)) := ⟨rfl, rfl, rfl, by decide +kernel, rfl, by decide +kernel, by decide +kernel⟩
theorem ok_Token___init__ (T : Txt K mg A) : FnOk P w K mg base CX0 1 A.f_Token___init__ A.fd_Token___init__ ["self", "role", "text", "place"] (spTI A.C_Token) := by
  refine T.F_Token___init__.ok sc_Token___init__ (fun vs H Q E h => ?_) (fun cdv Ar outer s H vs Q E hr h => ?_)
  · obtain ⟨p, dx, x, y, z, rfl, _⟩ := h
    rfl
  · obtain ⟨p, dx, x, y, z, rfl, hp, q⟩ := h
    refine ⟨_, (pss_cons (ps_fld (pv 0) (pv 1) rfl)
 (pss_cons (ps_fld (pv 0) (pv 2) rfl)
 (pss_one (ps_fld (pv 0) (pv 3) rfl)))), ?_⟩
    refine ⟨_, rfl, _, rfl, p, _, dx, [], rfl, hp, T.cl_Token, T.na_Token_role, (by show 0 < 1000; decide), ?_⟩
    refine ⟨_, rfl, _, rfl, p, _, dx, _, rfl, upd_same, T.cl_Token, T.na_Token_text, (by show 1 < 1000; decide), ?_⟩
    refine ⟨_, rfl, _, rfl, p, _, dx, _, rfl, upd_same, T.cl_Token, T.na_Token_place, ?_, ?_⟩
    · have h1 := length_putF "text" y (putF "role" x [])
      have h2 := length_putF "role" x []
      exact Nat.lt_of_le_of_lt (Nat.le_trans h1 (Nat.succ_le_succ h2)) (by decide)
    · rw [upd_upd, upd_upd]
      exact q
theorem sc_behind_blanks : FnScope ["text", "at"] ["text", "at"] (defScope (topS 14)) := ⟨rfl, rfl, rfl, by decide +kernel, rfl, by decide +kernel, by decide +kernel⟩
theorem ok_behind_blanks (T : Txt K mg A) : FnOk P w K mg base CX0 1 A.f_behind_blanks A.fd_behind_blanks ["text", "at"] spBlanks := by
  refine T.F_behind_blanks.ok sc_behind_blanks (fun vs H Q E h => ?_) (fun cdv Ar outer s H vs Q E hr h => ?_)
  · obtain ⟨z, i, rfl, _⟩ := h
    rfl
  · obtain ⟨z, i, rfl, hz, q⟩ := h
    have hzl : z.length ≤ sizeLine := Nat.le_trans hz (by decide)
    refine ⟨_, (pss_cons (ps_while PassesOwn.never (PW.pt (pw_and (pt_cmpR op_lt (pv 1) (pe_callB call_len_str rfl T.b_len PySem.boot_len (pa_cons (pv 0) pa_nil)) (nomark _)) (pw_and1 (pt_cmpR op_eq (pe_ix ix_str (pv 0) (pv 1) (fun _ _ => rfl)) pe_str (nomark _)))))
 (pss_one (ps_aug (i := 1) sc_behind_blanks.nd rfl (.inl rfl) pe_int ip_add)))
 (pss_one (ps_ret (pv 1)))), ?_⟩
    refine ⟨fun m σ H' => ∃ j : Nat, σ = [some (.str z), some (.int (j : Int))] ∧ H' = H ∧ m = (tl z).length - j ∧ skip (tl z) j = skip (tl z) i, ⟨_, i, rfl, rfl, rfl, rfl⟩, ?_⟩
    rintro m σ H' ⟨j, rfl, rfl, rfl, es⟩
    refine ⟨_, rfl, _, rfl, z, rfl, hzl, _, _, rfl, rfl, _, rfl, ite2 (fun h => ?_) (fun h => ?_)⟩
    · have hlt : j < (tl z).length := by
        have := of_decide_eq_true h
        rw [len_tl] at this
        omega
      refine ⟨_, rfl, _, rfl, z, _, _, rfl, rfl, hzl, sign_at_list hlt, rfl, _, rfl, ?_⟩
      rw [sign_is (s := " ") (d := 32) (by decide +kernel), str1_eq]
      refine ite2 (fun h2 => ?_) (fun h2 => ?_)
      · have e2 := of_decide_eq_true h2
        refine ⟨fun σ' H'' => σ' = [some (.str z), some (.int ((j + 1 : Nat) : Int))] ∧ H'' = H', ?_, ?_⟩
        · rintro σ' H'' ⟨rfl, rfl⟩
          exact ⟨_, by omega, j + 1, rfl, rfl, rfl, (skip_hit hlt e2).symm.trans es⟩
        · exact ⟨_, rfl, _, _, rfl, rfl, rfl, rfl⟩
      · refine ⟨_, rfl, ?_⟩
        rw [← es, skip_miss hlt (fun e => h2 (decide_eq_true e))] at q
        exact q
    · have hge : (tl z).length ≤ j := by
        have := of_decide_eq_false (Bool.eq_false_iff.mpr h)
        rw [len_tl] at this
        omega
      refine iteF ⟨_, rfl, ?_⟩
      rw [← es, skip_end hge] at q
      exact q
theorem sc_behind_run : FnScope ["text", "at", "allowed"] ["text", "at", "allowed"] (defScope (topS 16)) := ⟨rfl, rfl, rfl, by decide +kernel, rfl, by decide +kernel, by decide +kernel⟩
theorem ok_behind_run (T : Txt K mg A) : FnOk P w K mg base CX0 1 A.f_behind_run A.fd_behind_run ["text", "at", "allowed"] spRun := by
  refine T.F_behind_run.ok sc_behind_run (fun vs H Q E h => ?_) (fun cdv Ar outer s H vs Q E hr h => ?_)
  · obtain ⟨z, al, i, rfl, _⟩ := h
    rfl
  · obtain ⟨z, al, i, rfl, hz, hi, q⟩ := h
    have hzl : z.length ≤ sizeLine := Nat.le_trans hz (by decide)
    refine ⟨_, (pss_cons (ps_while PassesOwn.never (PW.pt (pw_and (pt_cmpR op_lt (pv 1) (pe_callB call_len_str rfl T.b_len PySem.boot_len (pa_cons (pv 0) pa_nil)) (nomark _)) (pw_and1 (pt_cmpR op_in_sign (pe_ix ix_str (pv 0) (pv 1) (fun _ _ => rfl)) (pv 2) (by rfl)))))
 (pss_one (ps_aug (i := 1) sc_behind_run.nd rfl (.inl rfl) pe_int ip_add)))
 (pss_one (ps_ret (pv 1)))), ?_⟩
    refine ⟨fun m σ H' => ∃ j : Nat, σ = [some (.str z), some (.int (j : Int)), some (.str al)] ∧ H' = H ∧ j ≤ (tl z).length ∧ m = (tl z).length - j ∧
      j + runp (fun c => decide (c ∈ tl al)) ((tl z).drop j) = i + runp (fun c => decide (c ∈ tl al)) ((tl z).drop i), ⟨_, i, rfl, rfl, hi, rfl, rfl⟩, ?_⟩
    rintro m σ H' ⟨j, rfl, rfl, hj, rfl, es⟩
    refine ⟨_, rfl, _, rfl, z, rfl, hzl, _, _, rfl, rfl, _, rfl, ite2 (fun h => ?_) (fun h => ?_)⟩
    · have hlt : j < (tl z).length := by
        have := of_decide_eq_true h
        rw [len_tl] at this
        omega
      refine ⟨_, rfl, _, rfl, z, _, _, rfl, rfl, hzl, sign_at_list hlt, _, rfl, _, al, rfl, rfl, _, rfl, ?_⟩
      refine ite2 (fun h2 => ?_) (fun h2 => ?_)
      · refine ⟨fun σ' H'' => σ' = [some (.str z), some (.int ((j + 1 : Nat) : Int)), some (.str al)] ∧ H'' = H', ?_, ?_⟩
        · rintro σ' H'' ⟨rfl, rfl⟩
          refine ⟨_, by omega, j + 1, rfl, rfl, hlt, rfl, ?_⟩
          rw [← es, drop_at hlt, runp_hit h2]
          omega
        · exact ⟨_, rfl, _, _, rfl, rfl, rfl, rfl⟩
      · refine ⟨_, rfl, ?_⟩
        rw [← es, drop_at hlt, runp_miss (Bool.eq_false_iff.mpr h2)] at q
        exact q
    · have hge : (tl z).length ≤ j := by
        have := of_decide_eq_false (Bool.eq_false_iff.mpr h)
        rw [len_tl] at this
        omega
      refine iteF ⟨_, rfl, ?_⟩
      rw [← es, drop_end hge] at q
      exact q
theorem sc_word_at : FnScope ["text", "at", "behind"] ["text", "at"] (defScope (topS 17)) := ⟨rfl, rfl, rfl, by decide +kernel, rfl, by decide +kernel, by decide +kernel⟩
theorem ok_word_at (T : Txt K mg A) : FnOk P w K mg base (L2.CX P w) 3 A.f_word_at A.fd_word_at ["text", "at"] (spAt A resWord) := by
  refine T.F_word_at.okX sc_word_at (fun vs H Q E h => ?_) (fun cdv Ar outer s H vs Q E hr h => ?_)
  · obtain ⟨z, i, rfl, _⟩ := h
    rfl
  · obtain ⟨z, i, rfl, hz, hi, q⟩ := h
    have hzl : z.length ≤ sizeLine := Nat.le_trans hz (by decide)
    refine ⟨_, (pss_cons (ps_set (i := 2) sc_word_at.nd rfl (.inl rfl) (pe_call (ok_behind_run T) (hr.mono (by decide)) (by rfl) T.g_behind_run T.F_behind_run.kp T.b_behind_run .nil pass0 (pa_cons (pv 0) (pa_cons (pv 1) (pa_cons (pe_glob (v := (.str "abcdefghijklmnopqrstuvwxyzABCDEFGHIJKLMNOPQRSTUVWXYZ0123456789_")) rfl T.g_WORD_SIGNS.choose_spec ⟨_, rfl⟩) pa_nil)))))
 (pss_cons (ps_if (pt_cmpR op_gt (pe_op op_sub (pv 2) (pv 1)) (pe_glob (v := (.int 12)) rfl T.g_LONGEST_WORD.choose_spec ⟨_, rfl⟩) (nomark _))
 (pss_one (ps_raise rfl (takes_of rfl rfl rfl rfl) (pmk_oex T.oex T.ic_Fault T.ti_Fault (ok_Fault___init__ T) (hr.mono (by decide)) T.b_Fault___init__ .nil pass0 (by rfl) T.g_Fault (pa_cons (pv 1) (pa_cons pe_str pa_nil)))))
 pss_nil)
 (pss_one (ps_ret (pe_tup (pa_cons (pe_make T.mk_Token (ok_Token___init__ T) (hr.mono (by decide)) (by rfl) T.g_Token T.b_Token___init__ .nil pass0 (pa_cons pe_str (pa_cons (pe_slice sl_str (pv 0) (po_some (pv 1)) (po_some (pv 2))) (pa_cons (pv 1) pa_nil)))) (pa_cons (pv 2) pa_nil))))))), ?_⟩
    refine ⟨_, rfl, _, rfl, z, _, i, rfl, hz, Nat.le_of_lt hi, ?_⟩
    have er : runp (fun c => decide (c ∈ tl "abcdefghijklmnopqrstuvwxyzABCDEFGHIJKLMNOPQRSTUVWXYZ0123456789_")) ((tl z).drop i) = runp isWs ((tl z).drop i) := runp_congr in_word _
    rw [er]
    refine ⟨_, rfl, _, rfl, _, _, rfl, rfl, _, _, rfl, rfl, _, rfl, ite2 (fun h => ?_) (fun h => ?_)⟩
    · have h' : 12 < runp isWs ((tl z).drop i) := by
        have := of_decide_eq_true h
        omega
      rw [show resWord (tl z) i = .bad i "word too long" from if_pos h'] at q
      exact ⟨_, rfl, fault_out q⟩
    · have h' : ¬ 12 < runp isWs ((tl z).drop i) := fun h2 => h (decide_eq_true (by omega))
      rw [show resWord (tl z) i = .tok "word" (((tl z).drop i).take (runp isWs ((tl z).drop i))) (i + runp isWs ((tl z).drop i)) from if_neg h'] at q
      refine ⟨_, rfl, _, rfl, _, rfl, _, rfl, _, rfl, z, rfl, hzl, _, rfl, fun x dx hx hdx ne => ⟨x, dx, _, _, _, rfl, upd_same, rfl, _, rfl, (by show 2 ≤ sizeLine; decide), fun t ht => ?_⟩⟩
      refine q t x _ ((by rw [upd_upd]; exact (same_two hx hdx).trans (same_new (by rw [upd_upd] at ht; exact ht)))) upd_same ⟨dx, _, (upd_ne (ne_of_none upd_same ht)).trans upd_same, (tl_cut (Nat.le_of_lt hi)).trans (by rw [Nat.add_sub_cancel_left])⟩
theorem sc_number_at : FnScope ["text", "at", "behind"] ["text", "at"] (defScope (topS 18)) := ⟨rfl, rfl, rfl, by decide +kernel, rfl, by decide +kernel, by decide +kernel⟩
theorem ok_number_at (T : Txt K mg A) : FnOk P w K mg base (L2.CX P w) 3 A.f_number_at A.fd_number_at ["text", "at"] (spAt A resNum) := by
  refine T.F_number_at.okX sc_number_at (fun vs H Q E h => ?_) (fun cdv Ar outer s H vs Q E hr h => ?_)
  · obtain ⟨z, i, rfl, _⟩ := h
    rfl
  · obtain ⟨z, i, rfl, hz, hi, q⟩ := h
    have hzl : z.length ≤ sizeLine := Nat.le_trans hz (by decide)
    refine ⟨_, (pss_cons (ps_set (i := 2) sc_number_at.nd rfl (.inl rfl) (pe_call (ok_behind_run T) (hr.mono (by decide)) (by rfl) T.g_behind_run T.F_behind_run.kp T.b_behind_run .nil pass0 (pa_cons (pv 0) (pa_cons (pv 1) (pa_cons (pe_glob (v := (.str "0123456789")) rfl T.g_DIGITS.choose_spec ⟨_, rfl⟩) pa_nil)))))
 (C8.pss_cut (ps_if (PW.pt (pw_and (pt_cmpR op_eq (pe_ix ix_str (pv 0) (pv 1) (fun _ _ => rfl)) pe_str (nomark _)) (pw_and1 (pt_cmpR op_gt (pe_op op_sub (pv 2) (pv 1)) pe_int (nomark _)))))
 (pss_one (ps_raise rfl (takes_of rfl rfl rfl rfl) (pmk_oex T.oex T.ic_Fault T.ti_Fault (ok_Fault___init__ T) (hr.mono (by decide)) T.b_Fault___init__ .nil pass0 (by rfl) T.g_Fault (pa_cons (pv 1) (pa_cons pe_str pa_nil)))))
 pss_nil)
 (pss_cons (ps_if (pt_cmpR op_gt (pe_op op_sub (pv 2) (pv 1)) (pe_glob (v := (.int 18)) rfl T.g_LONGEST_NUMBER.choose_spec ⟨_, rfl⟩) (nomark _))
 (pss_one (ps_raise rfl (takes_of rfl rfl rfl rfl) (pmk_oex T.oex T.ic_Fault T.ti_Fault (ok_Fault___init__ T) (hr.mono (by decide)) T.b_Fault___init__ .nil pass0 (by rfl) T.g_Fault (pa_cons (pv 1) (pa_cons pe_str pa_nil)))))
 pss_nil)
 (pss_cons (ps_if (pt_cmpR op_gt (pe_call (ok_behind_run T) (hr.mono (by decide)) (by rfl) T.g_behind_run T.F_behind_run.kp T.b_behind_run .nil pass0 (pa_cons (pv 0) (pa_cons (pv 2) (pa_cons (pe_glob (v := (.str "abcdefghijklmnopqrstuvwxyzABCDEFGHIJKLMNOPQRSTUVWXYZ0123456789_")) rfl T.g_WORD_SIGNS.choose_spec ⟨_, rfl⟩) pa_nil)))) (pv 2) (nomark _))
 (pss_one (ps_raise rfl (takes_of rfl rfl rfl rfl) (pmk_oex T.oex T.ic_Fault T.ti_Fault (ok_Fault___init__ T) (hr.mono (by decide)) T.b_Fault___init__ .nil pass0 (by rfl) T.g_Fault (pa_cons (pv 2) (pa_cons pe_str pa_nil)))))
 pss_nil)
 (pss_one (ps_ret (pe_tup (pa_cons (pe_make T.mk_Token (ok_Token___init__ T) (hr.mono (by decide)) (by rfl) T.g_Token T.b_Token___init__ .nil pass0 (pa_cons pe_str (pa_cons (pe_slice sl_str (pv 0) (po_some (pv 1)) (po_some (pv 2))) (pa_cons (pv 1) pa_nil)))) (pa_cons (pv 2) pa_nil))))))))), ?_⟩
    refine ⟨_, rfl, _, rfl, z, _, i, rfl, hz, Nat.le_of_lt hi, ?_⟩
    have er : runp (fun c => decide (c ∈ tl "0123456789")) ((tl z).drop i) = runp isDig ((tl z).drop i) := runp_congr in_digits _
    rw [er]
    have hh : ((tl z).drop i).head? = some (tl z)[i] := by
      rw [drop_at hi]
      rfl
    have hle : i + runp isDig ((tl z).drop i) ≤ (tl z).length := by
      have h1 := runp_le isDig ((tl z).drop i)
      rw [List.length_drop] at h1
      omega
    refine ⟨fun σ' H' => σ' = [some (.str z), some (.int (i : Int)), some (.int ((i + runp isDig ((tl z).drop i) : Nat) : Int))] ∧ H' = H ∧ ¬ (((tl z).drop i).head? = some 48 ∧ 1 < runp isDig ((tl z).drop i)), ?_, ?_⟩
    · refine ⟨_, rfl, _, rfl, z, _, _, rfl, rfl, hzl, sign_at_list hi, rfl, _, rfl, ?_⟩
      rw [sign_is (s := "0") (d := 48) (by decide +kernel), str1_eq]
      refine ite2 (fun h => ?_) (fun h => iteF ⟨rfl, rfl, fun z => h (decide_eq_true (Option.some.inj (hh.symm.trans z.1)))⟩)
      refine ⟨_, rfl, _, rfl, _, _, rfl, rfl, _, _, rfl, rfl, _, rfl, ite2 (fun h2 => ?_) (fun h2 => ⟨rfl, rfl, fun z => h2 (decide_eq_true (by omega))⟩)⟩
      have e1 : ((tl z).drop i).head? = some 48 := hh.trans (congrArg some (of_decide_eq_true h))
      have e2 : 1 < runp isDig ((tl z).drop i) := by
        have := of_decide_eq_true h2
        omega
      rw [show resNum (tl z) i = .bad i "needless zero" from if_pos ⟨e1, e2⟩] at q
      exact ⟨_, rfl, fault_out q⟩
    · rintro σ' H' ⟨rfl, rfl, hn⟩
      refine ⟨_, rfl, _, rfl, _, _, rfl, rfl, _, _, rfl, rfl, _, rfl, ite2 (fun h => ?_) (fun h => ?_)⟩
      · have h' : 18 < runp isDig ((tl z).drop i) := by
          have := of_decide_eq_true h
          omega
        rw [show resNum (tl z) i = .bad i "number too long" from (if_neg hn).trans (if_pos h')] at q
        exact ⟨_, rfl, fault_out q⟩
      · have h' : ¬ 18 < runp isDig ((tl z).drop i) := fun h2 => h (decide_eq_true (by omega))
        refine ⟨_, rfl, _, rfl, z, _, _, rfl, hz, hle, ?_⟩
        rw [show runp (fun c => decide (c ∈ tl "abcdefghijklmnopqrstuvwxyzABCDEFGHIJKLMNOPQRSTUVWXYZ0123456789_")) ((tl z).drop (i + runp isDig ((tl z).drop i))) = runp isWs ((tl z).drop (i + runp isDig ((tl z).drop i))) from runp_congr in_word _]
        refine ⟨_, rfl, _, _, rfl, rfl, _, rfl, ite2 (fun h2 => ?_) (fun h2 => ?_)⟩
        · have h3 : 0 < runp isWs ((tl z).drop (i + runp isDig ((tl z).drop i))) := by
            have := of_decide_eq_true h2
            omega
          rw [show resNum (tl z) i = .bad (i + runp isDig ((tl z).drop i)) "unexpected sign" from (if_neg hn).trans ((if_neg h').trans (if_pos h3))] at q
          exact ⟨_, rfl, fault_out q⟩
        · have h3 : ¬ 0 < runp isWs ((tl z).drop (i + runp isDig ((tl z).drop i))) := fun h4 => h2 (decide_eq_true (by omega))
          rw [show resNum (tl z) i = .tok "number" (((tl z).drop i).take (runp isDig ((tl z).drop i))) (i + runp isDig ((tl z).drop i)) from (if_neg hn).trans ((if_neg h').trans (if_neg h3))] at q
          refine ⟨_, rfl, _, rfl, _, rfl, _, rfl, _, rfl, z, rfl, hzl, _, rfl, fun x dx hx hdx ne => ⟨x, dx, _, _, _, rfl, upd_same, rfl, _, rfl, (by show 2 ≤ sizeLine; decide), fun t ht => ?_⟩⟩
          refine q t x _ ((by rw [upd_upd]; exact (same_two hx hdx).trans (same_new (by rw [upd_upd] at ht; exact ht)))) upd_same ⟨dx, _, (upd_ne (ne_of_none upd_same ht)).trans upd_same, (tl_cut (Nat.le_of_lt hi)).trans (by rw [Nat.add_sub_cancel_left])⟩
theorem sc_may_stand : FnScope ["character", "escaped"] ["character", "escaped"] (defScope (topS 20)) := ⟨rfl, rfl, rfl, by decide +kernel, rfl, by decide +kernel, by decide +kernel⟩
theorem ok_may_stand (T : Txt K mg A) : FnOk P w K mg base CX0 1 A.f_may_stand A.fd_may_stand ["character", "escaped"] spMay := by
  refine T.F_may_stand.ok sc_may_stand (fun vs H Q E h => ?_) (fun cdv Ar outer s H vs Q E hr h => ?_)
  · obtain ⟨c, b, rfl, _⟩ := h
    rfl
  · obtain ⟨c, b, rfl, hc, q⟩ := h
    refine ⟨_, (pss_cons (ps_if (pt_val (pv 1))
 (pss_one (ps_ret (pe_or (pe_cmpR op_eq (pv 0) (pe_glob (v := (.str "\"")) rfl T.g_QUOTE.choose_spec ⟨_, rfl⟩) (nomark _)) (pe_one (pe_cmpR op_eq (pv 0) (pe_glob (v := (.str "\\")) rfl T.g_BACKSLASH.choose_spec ⟨_, rfl⟩) (nomark _))))))
 pss_nil)
 (pss_one (ps_ret (pe_and (pe_chain op_le_str op_le_str pe_str (pv 0) pe_str) (pe_one (pe_cmpR op_ne (pe_callB call_ord rfl T.b_ord (by decide +kernel) (pa_cons (pv 0) pa_nil)) (pe_glob (v := (.int 37)) rfl T.g_PERCENT_CODE.choose_spec ⟨_, rfl⟩) (nomark _))))))), ?_⟩
    refine ⟨_, rfl, b, rfl, ite2 (fun hb => ?_) (fun hb => ?_)⟩
    · rw [if_pos hb] at q
      refine ⟨_, rfl, rfl, ?_⟩
      rw [sign_is (s := "\"") (d := 34) (by decide +kernel), str1_eq, sign_is (s := "\\") (d := 92) (by decide +kernel)]
      refine ⟨_, rfl, ite2 (fun h => ?_) (fun h => ?_)⟩
      · rw [h, Bool.true_or] at q
        exact q
      · rw [Bool.eq_false_iff.mpr h, Bool.false_or, ← str1_eq] at q
        exact ⟨_, rfl, rfl, q⟩
    · rw [if_neg hb] at q
      obtain ⟨c1, c2, c3⟩ := hc
      refine ⟨_, rfl, _, _, rfl, rfl, _, rfl, ?_⟩
      rw [sign_is (s := " ") (d := 32) (by decide +kernel), sign_is (s := "~") (d := 126) (by decide +kernel)]
      show if (!decide (([c] : List Nat) < [32])) = true then _ else _
      rw [lex1, decide_eq_false (show ¬ c < 32 by omega)]
      refine iteT ⟨_, _, rfl, rfl, _, rfl, ?_⟩
      show if (!decide (([126] : List Nat) < [c])) = true then _ else _
      rw [lex1, decide_eq_false (show ¬ 126 < c by omega)]
      refine iteT ⟨_, rfl, _, rfl, rfl, rfl, ?_⟩
      show Q (.bl (!decide (V.int ((c : Nat) : Int) = V.int 37))) H
      rw [decide_eq_false (fun e => c3 (by have := V.int.inj e; omega))]
      exact q
theorem sc_quoted_at : FnScope ["text", "start", "inner", "at", "escaped"] ["text", "start"] (defScope (topS 19)) := ⟨rfl, rfl, rfl, by decide +kernel, rfl, by decide +kernel, by decide +kernel⟩
theorem ok_quoted_at (T : Txt K mg A) : FnOk P w K mg base (L2.CX P w) 3 A.f_quoted_at A.fd_quoted_at ["text", "start"] (spQuo A) := by
  refine T.F_quoted_at.okX sc_quoted_at (fun vs H Q E h => ?_) (fun cdv Ar outer s H vs Q E hr h => ?_)
  · obtain ⟨z, i, rfl, _⟩ := h
    rfl
  · obtain ⟨z, i, rfl, hz, hi, hf, q⟩ := h
    have hzl : z.length ≤ sizeLine := Nat.le_trans hz (by decide)
    have hlt0 : (tl z).length ≤ 1000 := by
      rw [← len_tl]
      exact hz
    refine ⟨_, (pss_cons (ps_set (i := 2) sc_quoted_at.nd rfl (.inl rfl) (pe_lst pa_nil))
 (pss_cons (ps_set (i := 3) sc_quoted_at.nd rfl (.inl rfl) (pe_op op_add (pv 1) pe_int))
 (pss_cons (ps_while (passes_of rfl) (PW.pt (pw_and (pt_cmpR op_lt (pv 3) (pe_callB call_len_str rfl T.b_len PySem.boot_len (pa_cons (pv 0) pa_nil)) (nomark _)) (pw_and1 (pt_cmpR op_ne (pe_ix ix_str (pv 0) (pv 3) (fun _ _ => rfl)) (pe_glob (v := (.str "\"")) rfl T.g_QUOTE.choose_spec ⟨_, rfl⟩) (nomark _)))))
 (pss_cons (ps_set (i := 4) sc_quoted_at.nd rfl (.inl rfl) (pe_cmpR op_eq (pe_ix ix_str (pv 0) (pv 3) (fun _ _ => rfl)) (pe_glob (v := (.str "\\")) rfl T.g_BACKSLASH.choose_spec ⟨_, rfl⟩) (nomark _)))
 (C8.pss_cut (ps_if (pt_val (pv 4))
 (pss_one (ps_aug (i := 3) sc_quoted_at.nd rfl (.inl rfl) pe_int ip_add))
 pss_nil)
 (pss_one (ps_if (pt_cmpR op_lt (pv 3) (pe_callB call_len_str rfl T.b_len PySem.boot_len (pa_cons (pv 0) pa_nil)) (nomark _))
 (pss_cons (ps_if (pt_not (pt_val (pe_call (ok_may_stand T) (hr.mono (by decide)) (by rfl) T.g_may_stand T.F_may_stand.kp T.b_may_stand .nil pass0 (pa_cons (pe_ix ix_str (pv 0) (pv 3) (fun _ _ => rfl)) (pa_cons (pv 4) pa_nil)))))
 (pss_one (ps_raise rfl (takes_of rfl rfl rfl rfl) (pmk_oex T.oex T.ic_Fault T.ti_Fault (ok_Fault___init__ T) (hr.mono (by decide)) T.b_Fault___init__ .nil pass0 (by rfl) T.g_Fault (pa_cons (pv 3) (pa_cons pe_str pa_nil)))))
 pss_nil)
 (pss_cons (ps_expr (pe_bm PySem.F.plainAttrs_list PySem.F.slot_list_append PySem.F.type_list_append mt_append (pv 2) (pa_cons (pe_ix ix_str (pv 0) (pv 3) (fun _ _ => rfl)) pa_nil)))
 (pss_one (ps_aug (i := 3) sc_quoted_at.nd rfl (.inl rfl) pe_int ip_add))))
 pss_nil)))))
 (pss_cons (ps_if (pt_cmpR op_eq (pv 3) (pe_callB call_len_str rfl T.b_len PySem.boot_len (pa_cons (pv 0) pa_nil)) (nomark _))
 (pss_one (ps_raise rfl (takes_of rfl rfl rfl rfl) (pmk_oex T.oex T.ic_Fault T.ti_Fault (ok_Fault___init__ T) (hr.mono (by decide)) T.b_Fault___init__ .nil pass0 (by rfl) T.g_Fault (pa_cons (pv 1) (pa_cons pe_str pa_nil)))))
 pss_nil)
 (pss_one (ps_ret (pe_tup (pa_cons (pe_make T.mk_Token (ok_Token___init__ T) (hr.mono (by decide)) (by rfl) T.g_Token T.b_Token___init__ .nil pass0 (pa_cons pe_str (pa_cons (pe_join pe_str (pv 2)) (pa_cons (pv 1) pa_nil)))) (pa_cons (pe_op op_add (pv 3) pe_int) pa_nil))))))))), ?_⟩
    refine ⟨Nat.zero_le _, fun o no => ?_⟩
    refine ⟨_, rfl, _, _, rfl, rfl, ?_⟩
    refine ⟨fun m σ H' => ∃ (j : Nat) (acc : List Nat) (y4 : Option V), σ = [some (.str z), some (.int (i : Int)), some (.ref o), some (.int (j : Int)), y4] ∧ Same H H' ∧ H' o = some (.lst (acc.map sg1)) ∧ j ≤ (tl z).length ∧ m = (tl z).length - j ∧
      acc.length ≤ j ∧ qgo i ((tl z).drop j) acc j = resQuo (tl z) i, ⟨_, i + 1, [], none, rfl, same_new no, upd_same, hi, rfl, Nat.zero_le _, rfl⟩, ?_⟩
    rintro m σ H' ⟨j, acc, y4, rfl, sm, ho, hj, rfl, hacc, eq⟩
    refine ⟨_, rfl, _, rfl, z, rfl, hzl, _, _, rfl, rfl, _, rfl, ite2 (fun h => ?_) (fun h => ?_)⟩
    · have hlt : j < (tl z).length := by
        have := of_decide_eq_true h
        rw [len_tl] at this
        omega
      refine ⟨_, rfl, _, rfl, z, _, _, rfl, rfl, hzl, sign_at_list hlt, rfl, _, rfl, ?_⟩
      rw [sign_is (s := "\"") (d := 34) (by decide +kernel), str1_eq]
      refine ite2 (fun h2 => ?_) (fun h2 => ?_)
      · have c1 : (tl z)[j] ≠ 34 := fun e => by
          rw [e] at h2
          exact absurd h2 (by decide)
        -- a turn
        refine ⟨fun σ' H'' => ∃ (j' : Nat) (acc' : List Nat) (y4 : Option V), σ' = [some (.str z), some (.int (i : Int)), some (.ref o), some (.int (j' : Int)), y4] ∧ Same H H'' ∧ H'' o = some (.lst (acc'.map sg1)) ∧ j < j' ∧ j' ≤ (tl z).length ∧
          acc'.length ≤ j' ∧ qgo i ((tl z).drop j') acc' j' = resQuo (tl z) i, ?_, ?_⟩
        · rintro σ' H'' ⟨j', acc', y4', rfl, s2, ho2, h3, h4, h5, h6⟩
          exact ⟨_, by omega, j', acc', y4', rfl, s2, ho2, h4, rfl, h5, h6⟩
        refine ⟨_, rfl, _, rfl, z, _, _, rfl, rfl, hzl, sign_at_list hlt, rfl, ?_⟩
        rw [sign_is (s := "\\") (d := 92) (by decide +kernel), str1_eq]
        -- if escaped: at += 1
        refine ⟨fun σ' H'' => ∃ j' : Nat, σ' = [some (.str z), some (.int (i : Int)), some (.ref o), some (.int (j' : Int)), some (.bl (decide ((tl z)[j] = 92)))] ∧ H'' = H' ∧ j' = (if (tl z)[j] = 92 then j + 1 else j), ?_, ?_⟩
        · refine ⟨_, rfl, _, rfl, ite2 (fun h3 => ?_) (fun h3 => ?_)⟩
          · refine ⟨_, rfl, _, _, rfl, rfl, j + 1, rfl, rfl, ?_⟩
            rw [if_pos (of_decide_eq_true h3)]
          · refine ⟨j, rfl, rfl, ?_⟩
            rw [if_neg (fun e => h3 (decide_eq_true e))]
        · rintro σ' H'' ⟨j', rfl, rfl, ej⟩
          refine ⟨_, rfl, _, rfl, z, rfl, hzl, _, _, rfl, rfl, _, rfl, ite2 (fun h3 => ?_) (fun h3 => ?_)⟩
          · have hlt' : j' < (tl z).length := by
              have := of_decide_eq_true h3
              rw [len_tl] at this
              omega
            refine ⟨_, rfl, _, rfl, z, _, _, rfl, rfl, hzl, sign_at_list hlt', _, rfl, _, _, rfl, hf _ (List.getElem_mem hlt'), _, rfl, ?_⟩
            by_cases he : (tl z)[j] = 92
            · rw [if_pos he] at ej
              subst ej
              rw [if_pos (decide_eq_true he)]
              have eqs : qgo i ((tl z).drop j) acc j = if (tl z)[j + 1] = 34 ∨ (tl z)[j + 1] = 92 then qgo i ((tl z).drop (j + 2)) (acc ++ [(tl z)[j + 1]]) (j + 2) else .bad (j + 1) "unexpected sign" := by
                rw [drop_at hlt, drop_at hlt']
                conv => lhs; unfold qgo
                rw [if_neg c1, if_pos he]
              by_cases hd : (tl z)[j + 1] = 34 ∨ (tl z)[j + 1] = 92
              · have e1 : (decide ((tl z)[j + 1] = 34) || decide ((tl z)[j + 1] = 92)) = true := by simpa using hd
                rw [e1]
                refine iteF ?_
                rw [if_pos hd] at eqs
                refine ⟨_, rfl, .inl ⟨rfl, _, SqL.of ho⟩, _, rfl, _, rfl, z, _, _, rfl, rfl, hzl, sign_at_list hlt', o, _, _, rfl, rfl, ho, small1000 (by rw [List.length_map]; omega), ?_⟩
                refine ⟨_, rfl, _, _, rfl, rfl, j + 2, acc ++ [(tl z)[j + 1]], _, rfl, fun b x e => (upd_ne (ne_of_none e no)).trans (sm b x e), ?_, by omega, by omega, ?_, eqs.symm.trans eq⟩
                · rw [upd_same, List.map_append]
                  rfl
                · rw [List.length_append]
                  show acc.length + 1 ≤ _
                  omega
              · have e1 : (decide ((tl z)[j + 1] = 34) || decide ((tl z)[j + 1] = 92)) = false := by simpa using hd
                rw [e1]
                refine iteT ?_
                rw [if_neg hd] at eqs
                rw [← eq, eqs] at q
                exact ⟨_, rfl, fault_out fun d H3 s3 e3 => q d H3 (sm.trans s3) e3⟩
            · rw [if_neg he] at ej
              subst ej
              rw [if_neg (fun e => he (of_decide_eq_true e))]
              refine iteF ?_
              have eqs : qgo i ((tl z).drop j') acc j' = qgo i ((tl z).drop (j' + 1)) (acc ++ [(tl z)[j']]) (j' + 1) := by
                rw [drop_at hlt]
                conv => lhs; unfold qgo
                rw [if_neg c1, if_neg he]
              refine ⟨_, rfl, .inl ⟨rfl, _, SqL.of ho⟩, _, rfl, _, rfl, z, _, _, rfl, rfl, hzl, sign_at_list hlt', o, _, _, rfl, rfl, ho, small1000 (by rw [List.length_map]; omega), ?_⟩
              refine ⟨_, rfl, _, _, rfl, rfl, j' + 1, acc ++ [(tl z)[j']], _, rfl, fun b x e => (upd_ne (ne_of_none e no)).trans (sm b x e), ?_, by omega, by omega, ?_, eqs.symm.trans eq⟩
              · rw [upd_same, List.map_append]
                rfl
              · rw [List.length_append]
                show acc.length + 1 ≤ _
                omega
          · have hge : (tl z).length ≤ j' := by
              have := of_decide_eq_false (Bool.eq_false_iff.mpr h3)
              rw [len_tl] at this
              omega
            have he : (tl z)[j] = 92 := by
              by_cases he : (tl z)[j] = 92
              · exact he
              · rw [if_neg he] at ej
                omega
            rw [if_pos he] at ej
            have ej2 : j' = (tl z).length := by omega
            refine ⟨j', acc, _, rfl, sm, ho, by omega, by omega, by omega, ?_⟩
            rw [← eq, drop_end hge, drop_at hlt, drop_end (show (tl z).length ≤ j + 1 by omega)]
            unfold qgo
            rw [if_neg c1, if_pos he]
      · -- the second quotation mark
        have c1 : (tl z)[j] = 34 := by
          by_cases e : (tl z)[j] = 34
          · exact e
          · rw [decide_eq_false e] at h2
            exact absurd rfl h2
        refine ⟨_, rfl, _, rfl, z, rfl, hzl, rfl, _, rfl, ite2 (fun h3 => ?_) (fun _ => ?_)⟩
        · have := V.int.inj (of_decide_eq_true h3)
          rw [len_tl] at this
          omega
        have er : resQuo (tl z) i = .tok "text" acc (j + 1) := by
          rw [← eq, drop_at hlt]
          unfold qgo
          rw [if_pos c1]
        rw [er] at q
        have hsum : ((acc.map fun c => (⟨#[c]⟩ : Str)).map (·.length)).sum + (acc.map fun c => (⟨#[c]⟩ : Str)).length * ("" : Str).length ≤ 16777216 := by
          rw [len_signs, show ("" : Str).length = 0 from by decide +kernel]
          omega
        refine ⟨⟨_, rfl⟩, _, rfl, "", o, acc.map (fun c => (⟨#[c]⟩ : Str)), rfl, rfl, .inl (SqL.of (by rw [← sg_map]; exact ho)), hsum, _, rfl, fun x dx hx hdx ne => ⟨x, dx, _, _, _, rfl, upd_same, rfl, _, rfl, _, _, rfl, rfl, (by show 2 ≤ sizeLine; decide), fun t ht => ?_⟩⟩
        refine q t x _ (sm.trans ((by rw [upd_upd]; exact (same_two hx hdx).trans (same_new (by rw [upd_upd] at ht; exact ht))))) upd_same ⟨dx, _, (upd_ne (ne_of_none upd_same ht)).trans upd_same, ?_⟩
        rw [join_eq, tl_join]
        exact join_signs acc
    · have hge : (tl z).length ≤ j := by
        have := of_decide_eq_false (Bool.eq_false_iff.mpr h)
        rw [len_tl] at this
        omega
      have ej : j = (tl z).length := by omega
      refine iteF ⟨_, rfl, _, rfl, z, rfl, hzl, rfl, _, rfl, ite2 (fun h3 => ?_) (fun h3 => ?_)⟩
      · have er : resQuo (tl z) i = .bad i "text is not closed" := by
          rw [← eq, drop_end hge]
          rfl
        rw [er] at q
        exact ⟨_, rfl, fault_out fun d H3 s3 e3 => q d H3 (sm.trans s3) e3⟩
      · exact absurd (decide_eq_true (by rw [ej, len_tl])) h3
theorem sc_sign_at : FnScope ["text", "at", "signs", "longest", "sign"] ["text", "at", "signs"] (defScope (topS 21)) := ⟨rfl, rfl, rfl, by decide +kernel, rfl, by decide +kernel, by decide +kernel⟩
theorem ok_sign_at (T : Txt K mg A) : FnOk P w K mg base (L2.CX P w) 3 A.f_sign_at A.fd_sign_at ["text", "at", "signs"] (spSign K A) := by
  refine T.F_sign_at.okX sc_sign_at (fun vs H Q E h => ?_) (fun cdv Ar outer s H vs Q E hr h => ?_)
  · obtain ⟨z, i, sg, sgs, rfl, _⟩ := h
    rfl
  · obtain ⟨z, i, sg, sgs, rfl, hz, hi, hS, hsl, q⟩ := h
    have hzl : z.length ≤ sizeLine := Nat.le_trans hz (by decide)
    refine ⟨_, (pss_cons (ps_set (i := 3) sc_sign_at.nd rfl (.inl rfl) pe_str)
 (pss_cons (ps_for (passes_of rfl) rfl (pi_tup (pv 2)) (pg_name (i := 4) sc_sign_at.nd rfl (.inl rfl))
 (pss_one (ps_if (PW.pt (pw_and (pt_cmpR op_gt (pe_callB call_len_str rfl T.b_len PySem.boot_len (pa_cons (pv 4) pa_nil)) (pe_callB call_len_str rfl T.b_len PySem.boot_len (pa_cons (pv 3) pa_nil)) (nomark _)) (pw_and1 (pt_cmpR op_eq (pe_slice sl_str (pv 0) (po_some (pv 1)) (po_some (pe_op op_add (pv 1) (pe_callB call_len_str rfl T.b_len PySem.boot_len (pa_cons (pv 4) pa_nil))))) (pv 4) (nomark _)))))
 (pss_one (ps_set (i := 3) sc_sign_at.nd rfl (.inl rfl) (pv 4)))
 pss_nil)))
 (pss_cons (ps_if (pt_cmpR op_eq (pv 3) pe_str (nomark _))
 (pss_one (ps_raise rfl (takes_of rfl rfl rfl rfl) (pmk_oex T.oex T.ic_Fault T.ti_Fault (ok_Fault___init__ T) (hr.mono (by decide)) T.b_Fault___init__ .nil pass0 (by rfl) T.g_Fault (pa_cons (pv 1) (pa_cons pe_str pa_nil)))))
 pss_nil)
 (pss_one (ps_ret (pe_tup (pa_cons (pe_make T.mk_Token (ok_Token___init__ T) (hr.mono (by decide)) (by rfl) T.g_Token T.b_Token___init__ .nil pass0 (pa_cons pe_str (pa_cons (pv 3) (pa_cons (pv 1) pa_nil)))) (pa_cons (pe_op op_add (pv 1) (pe_callB call_len_str rfl T.b_len PySem.boot_len (pa_cons (pv 3) pa_nil))) pa_nil)))))))), ?_⟩
    refine ⟨_, rfl, sg, rfl, ⟨_, hS⟩, for_tup (K := K) (a := sg) (xs := sgs.map V.str) (fun k σ H' => ∃ (b : Str) (y : Option V), σ = [some (.str z), some (.int (i : Int)), some (.ref sg), some (.str b), y] ∧ H' = H ∧ b.length ≤ 1000 ∧
      tl b = ((sgs.take k).map tl).foldl (better ((tl z).drop i)) []) ⟨"", none, rfl, rfl, (by decide +kernel), (show tl "" = [] by decide +kernel)⟩ (fun k σ H' _ ⟨_, _, _, e, _⟩ => by rw [e]; exact hS) ?_ ?_⟩
    · rintro k y σ H' hk ⟨b, y0, rfl, rfl, hb, eb⟩
      obtain ⟨s, hs, rfl⟩ : ∃ s, sgs[k]? = some s ∧ y = V.str s := by
        rw [List.getElem?_map] at hk
        cases e : sgs[k]? with
        | none =>
          rw [e] at hk
          cases hk
        | some s =>
          rw [e] at hk
          exact ⟨s, rfl, (Option.some.inj hk).symm⟩
      have hsz := hsl s (List.mem_of_getElem? hs)
      have hss : s.length ≤ sizeLine := Nat.le_trans hsz (by decide)
      have hbb : b.length ≤ sizeLine := Nat.le_trans hb (by decide)
      have step : ((sgs.take (k + 1)).map tl).foldl (better ((tl z).drop i)) [] = better ((tl z).drop i) (tl b) (tl s) := by
        rw [List.take_add_one, hs, List.map_append, List.foldl_append, ← eb]
        rfl
      refine ⟨_, rfl, s, rfl, hss, _, rfl, b, rfl, hbb, _, _, rfl, rfl, _, rfl, ite2 (fun h => ?_) (fun h => ?_)⟩
      · have hlt : (tl b).length < (tl s).length := by
          have := of_decide_eq_true h
          rw [← len_tl, ← len_tl]
          omega
        refine ⟨_, rfl, _, rfl, _, rfl, _, rfl, _, rfl, s, rfl, hss, _, _, rfl, rfl, _, rfl, z, rfl, hzl, _, rfl, rfl, _, rfl, ite2 (fun h2 => ?_) (fun h2 => ?_)⟩
        · have e2 := congrArg tl (V.str.inj (of_decide_eq_true h2))
          have e3 : ((i : Int) + (s.length : Int)) = ((i + s.length : Nat) : Int) := by omega
          rw [e3, tl_cut (Nat.le_of_lt hi), Nat.add_sub_cancel_left, len_tl s] at e2
          refine ⟨_, rfl, s, _, rfl, rfl, hsz, ?_⟩
          rw [step]
          exact (if_pos ⟨hlt, e2⟩).symm
        · refine ⟨b, _, rfl, rfl, hb, ?_⟩
          rw [step]
          refine (if_neg fun hh => h2 (decide_eq_true (congrArg V.str (ext_tl ?_)))).symm
          have e3 : ((i : Int) + (s.length : Int)) = ((i + s.length : Nat) : Int) := by omega
          rw [e3, tl_cut (Nat.le_of_lt hi), Nat.add_sub_cancel_left, len_tl s]
          exact hh.2
      · refine iteF ⟨b, _, rfl, rfl, hb, ?_⟩
        rw [step]
        refine (if_neg fun hh => h (decide_eq_true ?_)).symm
        have := hh.1
        rw [← len_tl, ← len_tl] at this
        omega
    · rintro σ H' ⟨b, y0, rfl, rfl, hb, eb⟩
      have hbb : b.length ≤ sizeLine := Nat.le_trans hb (by decide)
      have ebs : tl b = bestS ((tl z).drop i) (sgs.map tl) := by
        rw [eb, List.length_map, List.take_length]
        rfl
      refine ⟨_, rfl, rfl, _, rfl, ite2 (fun h => ?_) (fun h => ?_)⟩
      · have e0 : bestS ((tl z).drop i) (sgs.map tl) = [] := by
          rw [← ebs, V.str.inj (of_decide_eq_true h)]
          decide +kernel
        rw [show resSign (sgs.map tl) (tl z) i = .bad i "unexpected sign" from if_pos e0] at q
        exact ⟨_, rfl, fault_out q⟩
      · have e0 : ¬ bestS ((tl z).drop i) (sgs.map tl) = [] := fun e => h (decide_eq_true (congrArg V.str (ext_tl (by rw [ebs, e]; decide +kernel))))
        rw [show resSign (sgs.map tl) (tl z) i = .tok "sign" (bestS ((tl z).drop i) (sgs.map tl)) (i + (bestS ((tl z).drop i) (sgs.map tl)).length) from if_neg e0] at q
        refine ⟨_, rfl, _, rfl, fun x dx hx hdx ne => ⟨x, dx, _, _, _, rfl, upd_same, rfl, _, rfl, _, rfl, b, rfl, hbb, _, _, rfl, rfl, (by show 2 ≤ sizeLine; decide), fun t ht => ?_⟩⟩
        refine q t x _ ((by rw [upd_upd]; exact (same_two hx hdx).trans (same_new (by rw [upd_upd] at ht; exact ht)))) ?_ ⟨dx, _, (upd_ne (ne_of_none upd_same ht)).trans upd_same, ebs⟩
        rw [upd_same, ← ebs, ← len_tl, Int.natCast_add]
theorem sc_token_at : FnScope ["text", "at", "signs", "first"] ["text", "at", "signs"] (defScope (topS 15)) := ⟨rfl, rfl, rfl, by decide +kernel, rfl, by decide +kernel, by decide +kernel⟩
theorem ok_token_at (T : Txt K mg A) : FnOk P w K mg base (L2.CX P w) 4 A.f_token_at A.fd_token_at ["text", "at", "signs"] (spOne K A) := by
  refine T.F_token_at.okX sc_token_at (fun vs H Q E h => ?_) (fun cdv Ar outer s H vs Q E hr h => ?_)
  · obtain ⟨z, i, sg, sgs, rfl, _⟩ := h
    rfl
  · obtain ⟨z, i, sg, sgs, rfl, hz, hi, hS, hsl, hf, q⟩ := h
    have hzl : z.length ≤ sizeLine := Nat.le_trans hz (by decide)
    have hh : ((tl z).drop i).head? = some (tl z)[i] := by
      rw [drop_at hi]
      rfl
    have e1 : one (sgs.map tl) (tl z) i = if isLet (tl z)[i] = true then resWord (tl z) i else if isDig (tl z)[i] = true then resNum (tl z) i else if (tl z)[i] = 34 then resQuo (tl z) i else resSign (sgs.map tl) (tl z) i := by
      unfold one
      rw [hh]
    rw [e1] at q
    refine ⟨_, (pss_cons (ps_set (i := 3) sc_token_at.nd rfl (.inl rfl) (pe_ix ix_str (pv 0) (pv 1) (fun _ _ => rfl)))
 (pss_cons (ps_if (pt_cmpR op_in_sign (pv 3) (pe_glob (v := (.str "abcdefghijklmnopqrstuvwxyzABCDEFGHIJKLMNOPQRSTUVWXYZ")) rfl T.g_LETTERS.choose_spec ⟨_, rfl⟩) (by rfl))
 (pss_one (ps_ret (pe_call (ok_word_at T) (hr.mono (by decide)) (by rfl) T.g_word_at T.F_word_at.kp T.b_word_at .nil (passes_call (takes_of rfl rfl rfl rfl) (fun _ _ _ _ h => h)) (pa_cons (pv 0) (pa_cons (pv 1) pa_nil)))))
 pss_nil)
 (pss_cons (ps_if (pt_cmpR op_in_sign (pv 3) (pe_glob (v := (.str "0123456789")) rfl T.g_DIGITS.choose_spec ⟨_, rfl⟩) (by rfl))
 (pss_one (ps_ret (pe_call (ok_number_at T) (hr.mono (by decide)) (by rfl) T.g_number_at T.F_number_at.kp T.b_number_at .nil (passes_call (takes_of rfl rfl rfl rfl) (fun _ _ _ _ h => h)) (pa_cons (pv 0) (pa_cons (pv 1) pa_nil)))))
 pss_nil)
 (pss_cons (ps_if (pt_cmpR op_eq (pv 3) (pe_glob (v := (.str "\"")) rfl T.g_QUOTE.choose_spec ⟨_, rfl⟩) (nomark _))
 (pss_one (ps_ret (pe_call (ok_quoted_at T) (hr.mono (by decide)) (by rfl) T.g_quoted_at T.F_quoted_at.kp T.b_quoted_at .nil (passes_call (takes_of rfl rfl rfl rfl) (fun _ _ _ _ h => h)) (pa_cons (pv 0) (pa_cons (pv 1) pa_nil)))))
 pss_nil)
 (pss_one (ps_ret (pe_call (ok_sign_at T) (hr.mono (by decide)) (by rfl) T.g_sign_at T.F_sign_at.kp T.b_sign_at .nil (passes_call (takes_of rfl rfl rfl rfl) (fun _ _ _ _ h => h)) (pa_cons (pv 0) (pa_cons (pv 1) (pa_cons (pv 2) pa_nil)))))))))), ?_⟩
    refine ⟨_, rfl, _, rfl, z, _, _, rfl, rfl, hzl, sign_at_list hi, ?_⟩
    refine ⟨_, rfl, _, _, rfl, rfl, _, rfl, ?_⟩
    rw [in_letters]
    refine ite2 (fun h => ?_) (fun h => ?_)
    · rw [if_pos h] at q
      exact ⟨_, rfl, _, rfl, z, i, rfl, hz, hi, q⟩
    rw [if_neg h] at q
    refine ⟨_, rfl, _, _, rfl, rfl, _, rfl, ?_⟩
    rw [in_digits]
    refine ite2 (fun h2 => ?_) (fun h2 => ?_)
    · rw [if_pos h2] at q
      exact ⟨_, rfl, _, rfl, z, i, rfl, hz, hi, q⟩
    rw [if_neg h2] at q
    refine ⟨_, rfl, rfl, _, rfl, ?_⟩
    rw [sign_is (s := "\"") (d := 34) (by decide +kernel), str1_eq]
    refine ite2 (fun h3 => ?_) (fun h3 => ?_)
    · rw [if_pos (of_decide_eq_true h3)] at q
      exact ⟨_, rfl, _, rfl, z, i, rfl, hz, hi, hf, q⟩
    rw [if_neg (fun e => h3 (decide_eq_true e))] at q
    exact ⟨_, rfl, _, rfl, _, rfl, z, i, sg, sgs, rfl, hz, hi, hS, hsl, q⟩
theorem sc_tokens : FnScope ["text", "signs", "longest", "found", "at", "token"] ["text", "signs", "longest"] (defScope (topS 13)) := ⟨rfl, rfl, rfl, by decide +kernel, rfl, by decide +kernel, by decide +kernel⟩
theorem ok_tokens (T : Txt K mg A) : FnOk P w K mg base (L2.CX P w) 5 A.f_tokens A.fd_tokens ["text", "signs", "longest"] (spTokens K A) := by
  refine T.F_tokens.okX sc_tokens (fun vs H Q E h => ?_) (fun cdv Ar outer s H vs Q E hr h => ?_)
  · obtain ⟨z, lg, sg, sgs, rfl, _⟩ := h
    rfl
  · obtain ⟨z, lg, sg, sgs, rfl, hz, hS, hsl, hf, q1, q2⟩ := h
    have hzl : z.length ≤ sizeLine := Nat.le_trans hz (by decide)
    have hlt0 : (tl z).length ≤ 1000 := by
      rw [← len_tl]
      exact hz
    refine ⟨_, (pss_cons (ps_if (pt_cmpR op_gt (pe_callB call_len_str rfl T.b_len PySem.boot_len (pa_cons (pv 0) pa_nil)) (pv 2) (nomark _))
 (pss_one (ps_raise rfl (takes_of rfl rfl rfl rfl) (pmk_oex T.oex T.ic_Fault T.ti_Fault (ok_Fault___init__ T) (hr.mono (by decide)) T.b_Fault___init__ .nil pass0 (by rfl) T.g_Fault (pa_cons pe_int (pa_cons pe_str pa_nil)))))
 pss_nil)
 (pss_cons (ps_set (i := 3) sc_tokens.nd rfl (.inl rfl) (pe_lst pa_nil))
 (pss_cons (ps_set (i := 4) sc_tokens.nd rfl (.inl rfl) (pe_call (ok_behind_blanks T) (hr.mono (by decide)) (by rfl) T.g_behind_blanks T.F_behind_blanks.kp T.b_behind_blanks .nil pass0 (pa_cons (pv 0) (pa_cons pe_int pa_nil))))
 (pss_cons (ps_while (passes_of rfl) (pt_cmpR op_lt (pv 4) (pe_callB call_len_str rfl T.b_len PySem.boot_len (pa_cons (pv 0) pa_nil)) (nomark _))
 (pss_cons (ps_asg (pe_call (ok_token_at T) (hr.mono (by decide)) (by rfl) T.g_token_at T.F_token_at.kp T.b_token_at .nil (passes_call (takes_of rfl rfl rfl rfl) (fun _ _ _ _ h => h)) (pa_cons (pv 0) (pa_cons (pv 4) (pa_cons (pv 1) pa_nil)))) (pg_tup rfl (pgs_cons (pg_name (i := 5) sc_tokens.nd rfl (.inl rfl)) (pgs_cons (pg_name (i := 4) sc_tokens.nd rfl (.inl rfl)) pgs_nil))))
 (pss_cons (ps_expr (pe_bm PySem.F.plainAttrs_list PySem.F.slot_list_append PySem.F.type_list_append mt_append (pv 3) (pa_cons (pv 5) pa_nil)))
 (pss_one (ps_set (i := 4) sc_tokens.nd rfl (.inl rfl) (pe_call (ok_behind_blanks T) (hr.mono (by decide)) (by rfl) T.g_behind_blanks T.F_behind_blanks.kp T.b_behind_blanks .nil pass0 (pa_cons (pv 0) (pa_cons (pv 4) pa_nil))))))))
 (pss_cons (ps_expr (pe_bm PySem.F.plainAttrs_list PySem.F.slot_list_append PySem.F.type_list_append mt_append (pv 3) (pa_cons (pe_make T.mk_Token (ok_Token___init__ T) (hr.mono (by decide)) (by rfl) T.g_Token T.b_Token___init__ .nil pass0 (pa_cons pe_str (pa_cons pe_str (pa_cons (pe_callB call_len_str rfl T.b_len PySem.boot_len (pa_cons (pv 0) pa_nil)) pa_nil)))) pa_nil)))
 (pss_one (ps_ret (pv 3)))))))), ?_⟩
    refine ⟨_, rfl, z, rfl, hzl, _, rfl, _, _, rfl, rfl, _, rfl, ite2 (fun h => ?_) (fun h => ?_)⟩
    · have h' : lg < z.length := by
        have := of_decide_eq_true h
        omega
      exact fault_out (p := 0) (q1 h')
    obtain ⟨qa, qb⟩ := q2 (fun h2 => h (decide_eq_true (by omega)))
    refine ⟨Nat.zero_le _, fun o no => ?_⟩
    refine ⟨_, rfl, z, 0, rfl, hz, ?_⟩
    refine ⟨fun m σ H' => ∃ (j : Nat) (ks : List Addr) (ts : List Tk) (y5 : Option V), σ = [some (.str z), some (.ref sg), some (.int (lg : Int)), some (.ref o), some (.int (j : Int)), y5] ∧ Same H H' ∧ H' o = some (.lst (ks.map V.ref)) ∧ Toks A H' ks ts ∧
      m = (tl z).length - j ∧ ks.length ≤ j ∧ ks.length ≤ (tl z).length ∧ ∀ R, Lexes (sgs.map tl) (tl z) j R → Lexes (sgs.map tl) (tl z) (skip (tl z) 0) (appT ts R),
      ⟨_, skip (tl z) 0, [], [], none, rfl, same_new no, upd_same, ⟨rfl, fun i k t e => by cases e⟩, rfl, Nat.zero_le _, Nat.zero_le _, fun R r => r⟩, ?_⟩
    rintro m σ H' ⟨j, ks, ts, y5, rfl, sm, ho, hk, rfl, hkl, hkl2, lx⟩
    refine ⟨_, rfl, _, rfl, z, rfl, hzl, _, _, rfl, rfl, _, rfl, ite2 (fun h2 => ?_) (fun h2 => ?_)⟩
    · have hlt : j < (tl z).length := by
        have := of_decide_eq_true h2
        rw [len_tl] at this
        omega
      refine ⟨fun σ' H'' => ∃ (j' : Nat) (ks' : List Addr) (ts' : List Tk) (y5 : Option V), σ' = [some (.str z), some (.ref sg), some (.int (lg : Int)), some (.ref o), some (.int (j' : Int)), y5] ∧ Same H H'' ∧ H'' o = some (.lst (ks'.map V.ref)) ∧ Toks A H'' ks' ts' ∧
        j < j' ∧ ks'.length ≤ j' ∧ ks'.length ≤ (tl z).length ∧ ∀ R, Lexes (sgs.map tl) (tl z) j' R → Lexes (sgs.map tl) (tl z) (skip (tl z) 0) (appT ts' R), ?_, ?_⟩
      · rintro σ' H'' ⟨j', ks', ts', y, rfl, s2, ho2, hk2, h3, h4, h5, lx2⟩
        exact ⟨_, by omega, j', ks', ts', y, rfl, s2, ho2, hk2, rfl, h4, h5, lx2⟩
      refine ⟨_, rfl, _, rfl, _, rfl, z, j, sg, sgs, rfl, hz, hlt, same_sqt sm hS, hsl, hf, ?_⟩
      cases er : one (sgs.map tl) (tl z) j with
      | bad p r =>
        intro d H3 s3 e3
        have l2 := lx _ (.bad hlt er)
        rw [appT_inr] at l2
        exact qb d p r H3 (sm.trans s3) e3 l2
      | tok role txt stop =>
        intro t k H3 s3 et ek
        have hst := one_stop hlt er
        refine ⟨t, _, rfl, .inl (.inl et), rfl, _, _, rfl, _, _, rfl, rfl, ?_⟩
        have ho3 := s3 _ _ ho
        refine ⟨_, rfl, .inl ⟨rfl, _, SqL.of ho3⟩, _, rfl, o, _, _, rfl, rfl, ho3, small1000 (by rw [List.length_map]; omega), ?_⟩
        refine ⟨_, rfl, _, rfl, z, stop, rfl, hz, skip (tl z) stop, ks ++ [k], ts ++ [(role, txt, j)], _, rfl, fun b x e => (upd_ne (ne_of_none e no)).trans (s3 b x (sm b x e)), ?_, ?_, ?_, ?_, ?_, ?_⟩
        · rw [upd_same, List.map_append]
          rfl
        · exact Toks.snoc (fun i k' t' a1 a2 => TokAt.upd ((hk.2 i k' t' a1 a2).keep s3) ho3) hk.1 (ek.upd ho3)
        · exact Nat.lt_of_lt_of_le hst (le_skip _ _)
        · rw [List.length_append]
          have := le_skip (tl z) stop
          show ks.length + 1 ≤ _
          omega
        · rw [List.length_append]
          show ks.length + 1 ≤ _
          omega
        · intro R l
          rw [appT_snoc]
          exact lx _ (.tok hlt er l)
    · have hge : (tl z).length ≤ j := by
        have := of_decide_eq_false (Bool.eq_false_iff.mpr h2)
        rw [len_tl] at this
        omega
      refine ⟨_, rfl, .inl ⟨rfl, _, SqL.of ho⟩, _, rfl, z, rfl, hzl, fun x dx hx hdx ne => ⟨x, dx, _, _, _, rfl, upd_same, rfl, ?_⟩⟩
      have s3 : Same H' (upd (upd (upd H' dx (.own x)) x (.ins A.C_Token dx [])) x (.ins A.C_Token dx (f3 "role" "text" "place" (.str "end") (.str "") (.int (z.length : Int))))) := by
        rw [upd_upd]
        exact same_two hx hdx
      have ho3 := s3 _ _ ho
      refine ⟨o, _, _, rfl, rfl, ho3, small1000 (by rw [List.length_map]; omega), _, rfl, ?_⟩
      have l2 := lx _ (.fin hge)
      rw [appT_inl] at l2
      refine qa o (ks ++ [x]) _ _ (fun b y e => (upd_ne (ne_of_none e no)).trans (s3 b y (sm b y e))) ?_ ?_ l2
      · rw [upd_same, List.map_append]
        rfl
      · refine Toks.snoc (fun i k' t' a1 a2 => TokAt.upd ((hk.2 i k' t' a1 a2).keep s3) ho3) hk.1 (TokAt.upd ⟨dx, "", ?_, (show tl "" = [] by decide +kernel)⟩ ho3)
        rw [upd_same, len_tl]
end
/-! ### the law's own reader -/
/-- a tuple of the law: a token's role, text and end, or a fault's reason and place -/
def LTup (H : Hp) (t : Addr) : Res → Prop
  | .tok role txt stop => ∃ z : Str, H t = some (.tup [.str role, .str z, .int (stop : Int)]) ∧ tl z = txt ∧ role ≠ "fault"
  | .bad p r => H t = some (.tup [.str "fault", .str r, .int (p : Int)])
def spPick : Sp := fun vs H Q _ => ∃ (a l : Addr) (ms : List Int) (xs : List V), vs = [.ref a, .ref l] ∧ H a = some (.lst (ms.map V.int)) ∧ ms ≠ [] ∧ H l = some (.lst xs) ∧ a ≠ l ∧ 0 < xs.length ∧ xs.length < 1000 ∧
  ∀ (v : V) (ms' : List Int), v ∈ xs → ms' ≠ [] → Q v (upd H a (.lst (ms'.map V.int)))
def spText : Sp := fun vs H Q _ => ∃ (a : Addr) (ms : List Int), vs = [.ref a] ∧ H a = some (.lst (ms.map V.int)) ∧ ms ≠ [] ∧ ∀ (z : Str) (H' : Hp), (∀ c ∈ tl z, Fine c) → z.length ≤ 26 → Q (.str z) H'
def spLet : Sp := fun vs H Q _ => ∃ c : Nat, vs = [sg1 c] ∧ Q (.bl (isLet c)) H
def spDig : Sp := fun vs H Q _ => ∃ c : Nat, vs = [sg1 c] ∧ Q (.bl (isDig c)) H
def spLRun : Sp := fun vs H Q _ => ∃ (z : Str) (i : Nat) (b : Bool), vs = [.str z, .int (i : Int), .bl b] ∧ z.length ≤ 1000 ∧ i ≤ (tl z).length ∧ Q (.int ((runp (fun c => isDig c || (b && (isLet c || c == 95))) ((tl z).drop i) : Nat) : Int)) H
def spLQ : Sp := fun vs H Q _ => ∃ (z : Str) (i : Nat), vs = [.str z, .int (i : Int)] ∧ z.length ≤ 1000 ∧ i < (tl z).length ∧ ∀ (t : Addr) (H' : Hp), Same H H' → LTup H' t (resQuo (tl z) i) → Q (.ref t) H'
abbrev sgs5 : List (List Nat) := ([".", "..", "-", "->", "{"] : List Str).map tl
def spLOne : Sp := fun vs H Q _ => ∃ (z : Str) (i : Nat), vs = [.str z, .int (i : Int)] ∧ z.length ≤ 1000 ∧ i < (tl z).length ∧ ∀ (t : Addr) (H' : Hp), Same H H' → LTup H' t (one sgs5 (tl z) i) → Q (.ref t) H'
/-- a row of the law's list -/
def RowAt (H : Hp) (k : Addr) (t : Tk) : Prop := ∃ z : Str, H k = some (.tup [.str t.1, .str z, .int (t.2.2 : Int)]) ∧ tl z = t.2.1
def Rows (H : Hp) (ks : List Addr) (ts : List Tk) : Prop := ks.length = ts.length ∧ ∀ (i : Nat) (k : Addr) (t : Tk), ks[i]? = some k → ts[i]? = some t → RowAt H k t
def DueAt (H : Hp) (t : Addr) : List Tk ⊕ (Nat × Str) → Prop
  | .inl ts => ∃ (l : Addr) (ks : List Addr), H t = some (.tup [.ref l, .non]) ∧ H l = some (.lst (ks.map V.ref)) ∧ Rows H ks ts ∧ ks.length ≤ 2000
  | .inr (p, r) => ∃ l f : Addr, H t = some (.tup [.ref l, .ref f]) ∧ H f = some (.tup [.int (p : Int), .str r])
def spDue : Sp := fun vs H Q _ => ∃ (z : Str) (lg : Nat), vs = [.str z, .int (lg : Int)] ∧ z.length ≤ 1000 ∧
  ∀ (t : Addr) (H' : Hp) (R : List Tk ⊕ (Nat × Str)), Same H H' → DueAt H' t R → (lg < z.length → R = .inr (0, "text too long")) → (¬ lg < z.length → Lexes sgs5 (tl z) (skip (tl z) 0) R) → Q (.ref t) H'
theorem at_nat {α : Type} {xs : List α} {z : Int} {j : Nat} {v : α} (e : z = (j : Int)) (h : xs[j]? = some v) : atI xs z = some v := by
  rw [e]
  exact atI_nat h
theorem le_l (c d : Nat) : (!decide (([c] : List Nat) < [d])) = decide (d ≤ c) := by
  rw [lex1]
  by_cases h : c < d
  · rw [decide_eq_true h, decide_eq_false (by omega)]
    rfl
  · rw [decide_eq_false h, decide_eq_true (by omega)]
    rfl
theorem cut_mem {z : Str} {lo hi : Option Int} {c : Nat} (h : c ∈ tl (cutS z lo hi)) : c ∈ tl z := by
  have h' : c ∈ (z.cps.toList.drop (HT.sIx z.length 0 lo)).take (HT.sIx z.length z.length hi - HT.sIx z.length 0 lo) := h
  exact List.mem_of_mem_drop (List.mem_of_mem_take h')
theorem cut_len {z : Str} (n : Nat) : (cutS z none (some (n : Int))).length ≤ n := by
  show (((z.cps.toList.drop (HT.sIx z.length 0 none)).take (HT.sIx z.length z.length (some (n : Int)) - HT.sIx z.length 0 none)).toArray).size ≤ n
  rw [HT.sIx_nat, List.size_toArray, List.length_take]
  omega
theorem best5 (c : Nat) (r : List Nat) : bestS (c :: r) sgs5 = if (c :: r).take 2 = [46, 46] ∨ (c :: r).take 2 = [45, 62] then (c :: r).take 2 else if c = 46 ∨ c = 45 ∨ c = 123 then [c] else [] := by
  rw [show sgs5 = [[46], [46, 46], [45], [45, 62], [123]] by decide +kernel]
  unfold bestS better
  cases r with
  | nil =>
    by_cases h1 : c = 46
    · subst h1; simp
    by_cases h2 : c = 45
    · subst h2; simp
    by_cases h3 : c = 123
    · subst h3; simp
    simp [h1, h2, h3]
  | cons d r =>
    by_cases h1 : c = 46
    · subst h1
      by_cases hd : d = 46
      · subst hd; simp
      · simp [hd]
    by_cases h2 : c = 45
    · subst h2
      by_cases hd : d = 62
      · subst hd; simp
      · simp [hd]
    by_cases h3 : c = 123
    · subst h3; simp
    simp [h1, h2, h3]
section
variable {P : Program} {w : World} {K : PySem.W.Frag} {mg : Str → Option Value} {base : Heap} {A : Ad}
theorem sc__law_pick : FnScope ["draws", "row"] ["draws", "row"] (defScope (topS 25)) := ⟨rfl, rfl, rfl, by decide +kernel, rfl, by decide +kernel, by decide +kernel⟩
theorem ok__law_pick (T : Txt K mg A) : FnOk P w K mg base CX0 2 A.f__law_pick A.fd__law_pick ["draws", "row"] spPick := by
  refine T.F__law_pick.ok sc__law_pick (fun vs H Q E h => ?_) (fun cdv Ar outer s H vs Q E hr h => ?_)
  · obtain ⟨a, l, ms, xs, rfl, _⟩ := h
    rfl
  · obtain ⟨a, l, ms, xs, rfl, ha, hne, hl, hal, h0, h1, q⟩ := h
    refine ⟨_, (pss_one (ps_ret (pe_ix ix_list (pv 1) (pe_call (ok__law_draw T) (hr.mono (by decide)) (by rfl) T.g__law_draw T.F__law_draw.kp T.b__law_draw .nil pass0 (pa_cons (pv 0) (pa_cons (pe_callB call_len_seq rfl T.b_len PySem.boot_len (pa_cons (pv 1) pa_nil)) pa_nil))) (fun _ _ => rfl)))), ?_⟩
    refine ⟨_, rfl, _, rfl, _, rfl, l, xs, rfl, .inl (SqL.of hl), a, ms, xs.length, rfl, ha, hne, h0, h1, fun v ms' hv hne' => ?_⟩
    exact ⟨l, xs, (v : Int), xs[v], rfl, rfl, SqL.of ((upd_ne hal.symm).trans hl), atI_nat (List.getElem?_eq_getElem hv), q _ ms' (List.getElem_mem hv) hne'⟩
theorem sc__law_text : FnScope ["draws", "text", "_law_turn"] ["draws"] (defScope (topS 26)) := ⟨rfl, rfl, rfl, by decide +kernel, rfl, by decide +kernel, by decide +kernel⟩
theorem ok__law_text (T : Txt K mg A) : FnOk P w K mg base CX0 3 A.f__law_text A.fd__law_text ["draws"] spText := by
  refine T.F__law_text.ok sc__law_text (fun vs H Q E h => ?_) (fun cdv Ar outer s H vs Q E hr h => ?_)
  · obtain ⟨a, ms, rfl, _⟩ := h
    rfl
  · obtain ⟨a, ms, rfl, ha, hne, q⟩ := h
    refine ⟨_, (pss_cons (ps_set (i := 1) sc__law_text.nd rfl (.inl rfl) pe_str)
 (pss_cons (ps_for PassesOwn.never rfl (pi_range1 rfl T.b_range (pa_cons (pe_call (ok__law_draw T) (hr.mono (by decide)) (by rfl) T.g__law_draw T.F__law_draw.kp T.b__law_draw .nil pass0 (pa_cons (pv 0) (pa_cons pe_int pa_nil))) pa_nil)) (pg_name (i := 2) sc__law_text.nd rfl (.inl rfl))
 (pss_cons (ps_set (i := 1) sc__law_text.nd rfl (.inl rfl) (pe_op op_add_str (pv 1) (pe_ix ix_str pe_str (pe_call (ok__law_draw T) (hr.mono (by decide)) (by rfl) T.g__law_draw T.F__law_draw.kp T.b__law_draw .nil pass0 (pa_cons (pv 0) (pa_cons pe_int pa_nil))) (fun _ _ => rfl))))
 (pss_one (ps_if (pt_cmpR op_eq (pe_call (ok__law_draw T) (hr.mono (by decide)) (by rfl) T.g__law_draw T.F__law_draw.kp T.b__law_draw .nil pass0 (pa_cons (pv 0) (pa_cons pe_int pa_nil))) pe_int (nomark _))
 (pss_one (ps_set (i := 1) sc__law_text.nd rfl (.inl rfl) (pe_op op_add_str (pv 1) (pe_call (ok__law_pick T) (hr.mono (by decide)) (by rfl) T.g__law_pick T.F__law_pick.kp T.b__law_pick .nil pass0 (pa_cons (pv 0) (pa_cons (pe_lst (pa_cons pe_str (pa_cons pe_str (pa_cons pe_str (pa_cons pe_str (pa_cons pe_str (pa_cons pe_str pa_nil))))))) pa_nil))))))
 pss_nil))))
 (pss_one (ps_ret (pe_slice sl_str (pv 1) po_none (po_some (pe_op op_sub pe_int (pe_call (ok__law_draw T) (hr.mono (by decide)) (by rfl) T.g__law_draw T.F__law_draw.kp T.b__law_draw .nil pass0 (pa_cons (pv 0) (pa_cons pe_int pa_nil)))))))))), ?_⟩
    refine ⟨_, rfl, a, ms, 21, rfl, ha, hne, by decide, by decide, fun n ms1 hn hne1 => ?_⟩
    refine ⟨(n : Int), rfl, by omega, by omega, for_range (lo := 0) (n := (n : Int).toNat) (fun i σ H' => ∃ (z : Str) (y : Option V) (ms' : List Int), σ = [some (.ref a), some (.str z), y] ∧ H' a = some (.lst (ms'.map V.int)) ∧ ms' ≠ [] ∧ (∀ c ∈ tl z, Fine c) ∧ z.length ≤ 17 * i)
      ⟨"", none, ms1, rfl, upd_same, hne1, (by decide +kernel : ∀ c ∈ tl "", 32 ≤ c ∧ c ≤ 126 ∧ c ≠ 37), (by decide +kernel)⟩ ?_ ?_⟩
    · rintro i σ H1 hi ⟨z, y, ms2, rfl, h1, hne2, hf, hz⟩
      have lit16 : (tl "ab_0Z7 \"\\.->{# a").length = 16 := by decide +kernel
      have litF := (by decide +kernel : ∀ c ∈ tl "ab_0Z7 \"\\.->{# a", 32 ≤ c ∧ c ≤ 126 ∧ c ≠ 37)
      refine ⟨_, rfl, _, rfl, a, ms2, 16, rfl, h1, hne2, by decide, by decide, fun v ms3 hv hne3 => ?_⟩
      have hv' : v < (tl "ab_0Z7 \"\\.->{# a").length := by omega
      refine ⟨_, _, _, rfl, rfl, (by decide +kernel), atI_nat (List.getElem?_eq_getElem hv'), _, _, rfl, rfl, ?_, ?_⟩
      · show z.length + 1 ≤ _
        exact Nat.le_of_lt (small1000 (by omega))
      have hf2 : ∀ c ∈ tl (z ++ ⟨#[(tl "ab_0Z7 \"\\.->{# a")[v]]⟩), Fine c := fun c hc => by
        rw [tl_append] at hc
        rcases List.mem_append.mp hc with hc | hc
        · exact hf c hc
        · rw [List.mem_singleton.mp hc]
          exact litF _ (List.getElem_mem hv')
      have hz2 : (z ++ ⟨#[(tl "ab_0Z7 \"\\.->{# a")[v]]⟩ : Str).length ≤ 17 * i + 1 := by
        rw [len_tl, tl_append, List.length_append, ← len_tl]
        show z.length + 1 ≤ _
        omega
      generalize (z ++ ⟨#[(tl "ab_0Z7 \"\\.->{# a")[v]]⟩ : Str) = z2 at hf2 hz2 ⊢
      refine ⟨_, rfl, a, ms3, 9, rfl, upd_same, hne3, by decide, by decide, fun v2 ms4 hv2 hne4 => ⟨rfl, _, rfl, ite2 (fun _ => ?_) (fun _ => ?_)⟩⟩
      · refine ⟨_, rfl, _, rfl, (by show 6 ≤ sizeLine; decide), fun l hl => ?_⟩
        have nal : a ≠ l := ne_of_none upd_same hl
        refine ⟨a, l, ms4, _, rfl, (upd_ne nal).trans upd_same, hne4, upd_same, nal, (by show 0 < 6; decide), (by show 6 < 1000; decide), fun w ms5 hw hne5 => ?_⟩
        have hw2 : ∃ s : Str, w = .str s ∧ (∀ c ∈ tl s, Fine c) ∧ s.length ≤ 16 := by
          rcases List.mem_cons.mp hw with e | hw
          · exact ⟨"abcdefghijkl", e, (by decide +kernel : ∀ c ∈ tl "abcdefghijkl", 32 ≤ c ∧ c ≤ 126 ∧ c ≠ 37), (by decide +kernel)⟩
          rcases List.mem_cons.mp hw with e | hw
          · exact ⟨"1234567890123456", e, (by decide +kernel : ∀ c ∈ tl "1234567890123456", 32 ≤ c ∧ c ≤ 126 ∧ c ≠ 37), (by decide +kernel)⟩
          rcases List.mem_cons.mp hw with e | hw
          · exact ⟨"\"a b\"", e, (by decide +kernel : ∀ c ∈ tl "\"a b\"", 32 ≤ c ∧ c ≤ 126 ∧ c ≠ 37), (by decide +kernel)⟩
          rcases List.mem_cons.mp hw with e | hw
          · exact ⟨"\"\\\"\"", e, (by decide +kernel : ∀ c ∈ tl "\"\\\"\"", 32 ≤ c ∧ c ≤ 126 ∧ c ≠ 37), (by decide +kernel)⟩
          rcases List.mem_cons.mp hw with e | hw
          · exact ⟨"->", e, (by decide +kernel : ∀ c ∈ tl "->", 32 ≤ c ∧ c ≤ 126 ∧ c ≠ 37), (by decide +kernel)⟩
          rcases List.mem_cons.mp hw with e | hw
          · exact ⟨" .. ", e, (by decide +kernel : ∀ c ∈ tl " .. ", 32 ≤ c ∧ c ≤ 126 ∧ c ≠ 37), (by decide +kernel)⟩
          cases hw
        obtain ⟨s, rfl, hs1, hs2⟩ := hw2
        refine ⟨_, _, rfl, rfl, Nat.le_of_lt (small1000 (by omega)), _, _, ms5, rfl, upd_same, hne5, fun c hc => ?_, ?_⟩
        · rw [tl_append] at hc
          rcases List.mem_append.mp hc with hc | hc
          · exact hf2 c hc
          · exact hs1 c hc
        · rw [len_tl, tl_append, List.length_append, ← len_tl, ← len_tl]
          omega
      · exact ⟨z2, _, ms4, rfl, upd_same, hne4, hf2, by omega⟩
    · rintro σ H1 ⟨z, y, ms2, rfl, h1, hne2, hf, hz⟩
      refine ⟨_, rfl, _, rfl, a, ms2, 2, rfl, h1, hne2, by decide, by decide, fun v ms3 hv hne3 => ⟨_, _, rfl, rfl, _, rfl, z, rfl, Nat.le_of_lt (small1000 (by omega)), ?_⟩⟩
      refine q _ _ (fun c hc => hf c (cut_mem hc)) ?_
      have e : (26 : Int) - (v : Int) = ((26 - v : Nat) : Int) := by omega
      rw [e]
      exact Nat.le_trans (cut_len _) (by omega)
theorem sc__law_is_letter : FnScope ["sign"] ["sign"] (defScope (topS 27)) := ⟨rfl, rfl, rfl, by decide +kernel, rfl, by decide +kernel, by decide +kernel⟩
theorem ok__law_is_letter (T : Txt K mg A) : FnOk P w K mg base CX0 1 A.f__law_is_letter A.fd__law_is_letter ["sign"] spLet := by
  refine T.F__law_is_letter.ok sc__law_is_letter (fun vs H Q E h => ?_) (fun cdv Ar outer s H vs Q E hr h => ?_)
  · obtain ⟨c, rfl, _⟩ := h
    rfl
  · obtain ⟨c, rfl, q⟩ := h
    refine ⟨_, (pss_one (ps_ret (pe_or (pe_chain op_le_str op_le_str pe_str (pv 0) pe_str) (pe_one (pe_chain op_le_str op_le_str pe_str (pv 0) pe_str))))), ?_⟩
    have ea := sign_is (s := "a") (d := 97) (by decide +kernel)
    have ez := sign_is (s := "z") (d := 122) (by decide +kernel)
    have eA := sign_is (s := "A") (d := 65) (by decide +kernel)
    have eZ := sign_is (s := "Z") (d := 90) (by decide +kernel)
    have up : (97 ≤ c ∧ c ≤ 122) ∨ isLet c = (decide (65 ≤ c) && decide (c ≤ 90)) := by
      by_cases h : 97 ≤ c ∧ c ≤ 122
      · exact .inl h
      · refine .inr ?_
        unfold isLet
        have e : (decide (97 ≤ c) && decide (c ≤ 122)) = false := by simpa using h
        rw [e, Bool.false_or]
    refine ⟨_, rfl, _, _, rfl, rfl, _, rfl, ?_⟩
    rw [ea]
    show if (!decide (([c] : List Nat) < [97])) = true then _ else _
    rw [le_l]
    refine ite2 (fun h1 => ?_) (fun h1 => ?_)
    · refine ⟨_, _, rfl, rfl, _, rfl, ?_⟩
      rw [ez]
      show if (!decide (([122] : List Nat) < [c])) = true then _ else _
      rw [le_l]
      refine ite2 (fun h2 => ?_) (fun h2 => ?_)
      · rw [show isLet c = true by unfold isLet; rw [h1, h2]; rfl] at q
        exact q
      · rcases up with up | up
        · exact absurd (decide_eq_true (by omega)) h2
        · rw [up] at q
          refine ⟨_, rfl, _, _, rfl, rfl, _, rfl, ?_⟩
          rw [eA]
          show if (!decide (([c] : List Nat) < [65])) = true then _ else _
          rw [le_l]
          refine ite2 (fun h3 => ?_) (fun h3 => ?_)
          · refine ⟨_, _, rfl, rfl, ?_⟩
            rw [eZ]
            show Q (.bl (!decide (([90] : List Nat) < [c]))) H
            rw [le_l]
            rw [h3, Bool.true_and] at q
            exact q
          · rw [Bool.eq_false_iff.mpr h3, Bool.false_and] at q
            exact q
    · refine ⟨_, rfl, iteF ?_⟩
      rcases up with up | up
      · exact absurd (decide_eq_true (by omega)) h1
      · rw [up] at q
        refine ⟨_, rfl, _, _, rfl, rfl, _, rfl, ?_⟩
        rw [eA]
        show if (!decide (([c] : List Nat) < [65])) = true then _ else _
        rw [le_l]
        refine ite2 (fun h3 => ?_) (fun h3 => ?_)
        · refine ⟨_, _, rfl, rfl, ?_⟩
          rw [eZ]
          show Q (.bl (!decide (([90] : List Nat) < [c]))) H
          rw [le_l]
          rw [h3, Bool.true_and] at q
          exact q
        · rw [Bool.eq_false_iff.mpr h3, Bool.false_and] at q
          exact q
theorem sc__law_is_digit : FnScope ["sign"] ["sign"] (defScope (topS 28)) := ⟨rfl, rfl, rfl, by decide +kernel, rfl, by decide +kernel, by decide +kernel⟩
theorem ok__law_is_digit (T : Txt K mg A) : FnOk P w K mg base CX0 1 A.f__law_is_digit A.fd__law_is_digit ["sign"] spDig := by
  refine T.F__law_is_digit.ok sc__law_is_digit (fun vs H Q E h => ?_) (fun cdv Ar outer s H vs Q E hr h => ?_)
  · obtain ⟨c, rfl, _⟩ := h
    rfl
  · obtain ⟨c, rfl, q⟩ := h
    refine ⟨_, (pss_one (ps_ret (pe_chain op_le_str op_le_str pe_str (pv 0) pe_str))), ?_⟩
    refine ⟨_, rfl, _, _, rfl, rfl, _, rfl, ?_⟩
    rw [sign_is (s := "0") (d := 48) (by decide +kernel), sign_is (s := "9") (d := 57) (by decide +kernel)]
    show if (!decide (([c] : List Nat) < [48])) = true then _ else _
    rw [le_l]
    refine ite2 (fun h3 => ?_) (fun h3 => ?_)
    · refine ⟨_, _, rfl, rfl, ?_⟩
      show Q (.bl (!decide (([57] : List Nat) < [c]))) H
      rw [le_l]
      rw [show isDig c = decide (c ≤ 57) by unfold isDig; rw [h3, Bool.true_and]] at q
      exact q
    · rw [show isDig c = false by unfold isDig; rw [Bool.eq_false_iff.mpr h3, Bool.false_and]] at q
      exact q
theorem sc__law_run : FnScope ["text", "at", "letters", "size"] ["text", "at", "letters"] (defScope (topS 29)) := ⟨rfl, rfl, rfl, by decide +kernel, rfl, by decide +kernel, by decide +kernel⟩
theorem ok__law_run (T : Txt K mg A) : FnOk P w K mg base CX0 2 A.f__law_run A.fd__law_run ["text", "at", "letters"] spLRun := by
  refine T.F__law_run.ok sc__law_run (fun vs H Q E h => ?_) (fun cdv Ar outer s H vs Q E hr h => ?_)
  · obtain ⟨z, i, b, rfl, _⟩ := h
    rfl
  · obtain ⟨z, i, b, rfl, hz, hi, q⟩ := h
    have hzl : z.length ≤ sizeLine := Nat.le_trans hz (by decide)
    refine ⟨_, (pss_cons (ps_set (i := 3) sc__law_run.nd rfl (.inl rfl) pe_int)
 (pss_cons (ps_while PassesOwn.never (PW.pt (pw_and (pt_cmpR op_lt (pe_op op_add (pv 1) (pv 3)) (pe_callB call_len_str rfl T.b_len PySem.boot_len (pa_cons (pv 0) pa_nil)) (nomark _)) (pw_and1 (PW.pt (pw_or (pt_val (pe_call (ok__law_is_digit T) (hr.mono (by decide)) (by rfl) T.g__law_is_digit T.F__law_is_digit.kp T.b__law_is_digit .nil pass0 (pa_cons (pe_ix ix_str (pv 0) (pe_op op_add (pv 1) (pv 3)) (fun _ _ => rfl)) pa_nil))) (pw_or1 (PW.pt (pw_and (pt_val (pv 2)) (pw_and1 (PW.pt (pw_or (pt_val (pe_call (ok__law_is_letter T) (hr.mono (by decide)) (by rfl) T.g__law_is_letter T.F__law_is_letter.kp T.b__law_is_letter .nil pass0 (pa_cons (pe_ix ix_str (pv 0) (pe_op op_add (pv 1) (pv 3)) (fun _ _ => rfl)) pa_nil))) (pw_or1 (pt_cmpR op_eq (pe_ix ix_str (pv 0) (pe_op op_add (pv 1) (pv 3)) (fun _ _ => rfl)) pe_str (nomark _))))))))))))))
 (pss_one (ps_set (i := 3) sc__law_run.nd rfl (.inl rfl) (pe_op op_add (pv 3) pe_int))))
 (pss_one (ps_ret (pv 3))))), ?_⟩
    refine ⟨fun m σ H' => ∃ k : Nat, σ = [some (.str z), some (.int (i : Int)), some (.bl b), some (.int (k : Int))] ∧ H' = H ∧ i + k ≤ (tl z).length ∧ m = (tl z).length - (i + k) ∧
      k + runp (fun c => isDig c || (b && (isLet c || c == 95))) ((tl z).drop (i + k)) = runp (fun c => isDig c || (b && (isLet c || c == 95))) ((tl z).drop i), ⟨_, 0, rfl, rfl, hi, rfl, by rw [Nat.zero_add]; rfl⟩, ?_⟩
    rintro m σ H' ⟨k, rfl, rfl, hk, rfl, es⟩
    refine ⟨_, rfl, _, rfl, _, _, rfl, rfl, _, rfl, z, rfl, hzl, _, _, rfl, rfl, _, rfl, ite2 (fun h => ?_) (fun h => ?_)⟩
    · have hlt : i + k < (tl z).length := by
        have := of_decide_eq_true h
        rw [len_tl] at this
        omega
      have yes : (isDig (tl z)[i + k] || (b && (isLet (tl z)[i + k] || (tl z)[i + k] == 95))) = true → k + 1 + runp (fun c => isDig c || (b && (isLet c || c == 95))) ((tl z).drop (i + (k + 1))) = runp (fun c => isDig c || (b && (isLet c || c == 95))) ((tl z).drop i) := fun h2 => by
        rw [← es, drop_at hlt, runp_hit h2, show i + (k + 1) = i + k + 1 by omega]
        omega
      have no : (isDig (tl z)[i + k] || (b && (isLet (tl z)[i + k] || (tl z)[i + k] == 95))) = false → runp (fun c => isDig c || (b && (isLet c || c == 95))) ((tl z).drop i) = k := fun h2 => by
        rw [← es, drop_at hlt, runp_miss h2]
        rfl
      refine ⟨_, rfl, _, rfl, _, rfl, _, _, rfl, rfl, z, (i : Int) + (k : Int), _, rfl, rfl, hzl, at_nat (j := i + k) (show ((i : Int) + (k : Int)) = ((i + k : Nat) : Int) by omega) (List.getElem?_eq_getElem hlt), _, rfl, _, rfl, ?_⟩
      refine ite2 (fun h2 => ?_) (fun h2 => ?_)
      · refine iteT ?_
        have yh := yes (by rw [h2]; rfl)
        refine ⟨fun σ' H'' => σ' = [some (.str z), some (.int (i : Int)), some (.bl b), some (.int ((k + 1 : Nat) : Int))] ∧ H'' = H', ?_, ?_⟩
        · rintro σ' H'' ⟨rfl, rfl⟩
          exact ⟨_, by omega, k + 1, rfl, rfl, by omega, rfl, yh⟩
        · exact ⟨_, rfl, _, _, rfl, rfl, rfl, rfl⟩
      have h2' := Bool.eq_false_iff.mpr h2
      refine ⟨_, rfl, b, rfl, ite2 (fun h3 => ?_) (fun h3 => ?_)⟩
      · refine ⟨_, rfl, _, rfl, _, rfl, _, _, rfl, rfl, z, (i : Int) + (k : Int), _, rfl, rfl, hzl, at_nat (j := i + k) (show ((i : Int) + (k : Int)) = ((i + k : Nat) : Int) by omega) (List.getElem?_eq_getElem hlt), _, rfl, _, rfl, ite2 (fun h4 => ?_) (fun h4 => ?_)⟩
        · refine iteT ?_
          have yh := yes (by rw [h3, h4]; simp)
          refine ⟨fun σ' H'' => σ' = [some (.str z), some (.int (i : Int)), some (.bl b), some (.int ((k + 1 : Nat) : Int))] ∧ H'' = H', ?_, ?_⟩
          · rintro σ' H'' ⟨rfl, rfl⟩
            exact ⟨_, by omega, k + 1, rfl, rfl, by omega, rfl, yh⟩
          · exact ⟨_, rfl, _, _, rfl, rfl, rfl, rfl⟩
        · have h4' := Bool.eq_false_iff.mpr h4
          refine ⟨_, rfl, _, rfl, _, rfl, _, _, rfl, rfl, z, (i : Int) + (k : Int), _, rfl, rfl, hzl, at_nat (j := i + k) (show ((i : Int) + (k : Int)) = ((i + k : Nat) : Int) by omega) (List.getElem?_eq_getElem hlt), rfl, _, rfl, ?_⟩
          rw [sign_is (s := "_") (d := 95) (by decide +kernel), str1_eq]
          refine ite2 (fun h5 => ?_) (fun h5 => ?_)
          · have yh := yes (by rw [h3, beq_iff_eq.mpr (of_decide_eq_true h5)]; simp)
            refine ⟨fun σ' H'' => σ' = [some (.str z), some (.int (i : Int)), some (.bl b), some (.int ((k + 1 : Nat) : Int))] ∧ H'' = H', ?_, ?_⟩
            · rintro σ' H'' ⟨rfl, rfl⟩
              exact ⟨_, by omega, k + 1, rfl, rfl, by omega, rfl, yh⟩
            · exact ⟨_, rfl, _, _, rfl, rfl, rfl, rfl⟩
          · rw [no (by rw [h2', h4', beq_eq_false_iff_ne.mpr (fun e => h5 (decide_eq_true e))]; simp)] at q
            exact ⟨_, rfl, q⟩
      · refine iteF ?_
        rw [no (by rw [h2', Bool.eq_false_iff.mpr h3]; simp)] at q
        exact ⟨_, rfl, q⟩
    · have hge : (tl z).length ≤ i + k := by
        have := of_decide_eq_false (Bool.eq_false_iff.mpr h)
        rw [len_tl] at this
        omega
      refine iteF ⟨_, rfl, ?_⟩
      rw [← es, drop_end hge, runp_nil, Nat.add_zero] at q
      exact q
end
section
variable {P : Program} {w : World} {K : PySem.W.Frag} {mg : Str → Option Value} {base : Heap} {A : Ad}
theorem sc__law_quoted : FnScope ["text", "at", "known", "place", "_law_turn"] ["text", "at"] (defScope (topS 30)) := ⟨rfl, rfl, rfl, by decide +kernel, rfl, by decide +kernel, by decide +kernel⟩
theorem ok__law_quoted (T : Txt K mg A) : FnOk P w K mg base CX0 1 A.f__law_quoted A.fd__law_quoted ["text", "at"] spLQ := by
  refine T.F__law_quoted.ok sc__law_quoted (fun vs H Q E h => ?_) (fun cdv Ar outer s H vs Q E hr h => ?_)
  · obtain ⟨z, i, rfl, _⟩ := h
    rfl
  · obtain ⟨z, i, rfl, hz, hi, q⟩ := h
    have hzl : z.length ≤ sizeLine := Nat.le_trans hz (by decide)
    have hlt0 : (tl z).length ≤ 1000 := by
      rw [← len_tl]
      exact hz
    refine ⟨_, (pss_cons (ps_set (i := 2) sc__law_quoted.nd rfl (.inl rfl) pe_str)
 (pss_cons (ps_set (i := 3) sc__law_quoted.nd rfl (.inl rfl) (pe_op op_add (pv 1) pe_int))
 (pss_cons (ps_for PassesOwn.never rfl (pi_range1 rfl T.b_range (pa_cons (pe_callB call_len_str rfl T.b_len PySem.boot_len (pa_cons (pv 0) pa_nil)) pa_nil)) (pg_name (i := 4) sc__law_quoted.nd rfl (.inl rfl))
 (pss_cons (ps_if (pt_cmpR op_ge (pv 3) (pe_callB call_len_str rfl T.b_len PySem.boot_len (pa_cons (pv 0) pa_nil)) (nomark _))
 (pss_one ps_break)
 pss_nil)
 (pss_cons (ps_if (pt_cmpR op_eq (pe_ix ix_str (pv 0) (pv 3) (fun _ _ => rfl)) pe_str (nomark _))
 (pss_one (ps_ret (pe_tup (pa_cons pe_str (pa_cons (pv 2) (pa_cons (pe_op op_add (pv 3) pe_int) pa_nil))))))
 pss_nil)
 (C8.pss_cut (ps_if (pt_cmpR op_eq (pe_ix ix_str (pv 0) (pv 3) (fun _ _ => rfl)) pe_str (nomark _))
 (pss_cons (ps_set (i := 3) sc__law_quoted.nd rfl (.inl rfl) (pe_op op_add (pv 3) pe_int))
 (pss_cons (ps_if (pt_cmpR op_ge (pv 3) (pe_callB call_len_str rfl T.b_len PySem.boot_len (pa_cons (pv 0) pa_nil)) (nomark _))
 (pss_one ps_break)
 pss_nil)
 (pss_one (ps_if (PW.pt (pw_and (pt_cmpR op_ne (pe_ix ix_str (pv 0) (pv 3) (fun _ _ => rfl)) pe_str (nomark _)) (pw_and1 (pt_cmpR op_ne (pe_ix ix_str (pv 0) (pv 3) (fun _ _ => rfl)) pe_str (nomark _)))))
 (pss_one (ps_ret (pe_tup (pa_cons pe_str (pa_cons pe_str (pa_cons (pv 3) pa_nil))))))
 pss_nil))))
 pss_nil)
 (pss_cons (ps_set (i := 2) sc__law_quoted.nd rfl (.inl rfl) (pe_op op_add_str (pv 2) (pe_ix ix_str (pv 0) (pv 3) (fun _ _ => rfl))))
 (pss_one (ps_set (i := 3) sc__law_quoted.nd rfl (.inl rfl) (pe_op op_add (pv 3) pe_int))))))))
 (pss_one (ps_ret (pe_tup (pa_cons pe_str (pa_cons pe_str (pa_cons (pv 1) pa_nil))))))))), ?_⟩
    refine ⟨_, rfl, _, _, rfl, rfl, ?_⟩
    refine ⟨_, rfl, z, rfl, hzl, (z.length : Int), rfl, by omega, by omega, for_range (lo := 0) (n := ((z.length : Nat) : Int).toNat) (fun k σ H' => ∃ (j : Nat) (kn : Str) (y : Option V), σ = [some (.str z), some (.int (i : Int)), some (.str kn), some (.int (j : Int)), y] ∧ H' = H ∧ i + 1 + k ≤ j ∧ j ≤ (tl z).length ∧
      kn.length ≤ j ∧ qgo i ((tl z).drop j) (tl kn) j = resQuo (tl z) i) ⟨i + 1, "", none, rfl, rfl, Nat.le_refl _, hi, (by rw [show ("" : Str).length = 0 by decide +kernel]; exact Nat.zero_le _), (by rw [show tl "" = [] by decide +kernel]; rfl)⟩ ?_ ?_⟩
    · rintro k σ H' hk ⟨j, kn, y, rfl, rfl, h1, hj, hkn, eq⟩
      refine ⟨_, rfl, _, rfl, z, rfl, hzl, _, _, rfl, rfl, _, rfl, ite2 (fun h => ?_) (fun h => ?_)⟩
      · have hge : (tl z).length ≤ j := by
          have := of_decide_eq_true h
          rw [len_tl] at this
          omega
        have eb : resQuo (tl z) i = .bad i "text is not closed" := by
          rw [← eq, drop_end hge]
          rfl
        exact ⟨_, rfl, (by show 3 ≤ sizeLine; decide), fun t ht => q t _ (same_new ht) (by rw [eb]; exact upd_same)⟩
      have hlt : j < (tl z).length := by
        have := of_decide_eq_false (Bool.eq_false_iff.mpr h)
        rw [len_tl] at this
        omega
      refine ⟨_, rfl, _, rfl, z, _, _, rfl, rfl, hzl, sign_at_list hlt, rfl, _, rfl, ?_⟩
      rw [sign_is (s := "\"") (d := 34) (by decide +kernel), str1_eq]
      refine ite2 (fun h2 => ?_) (fun h2 => ?_)
      · have er : resQuo (tl z) i = .tok "text" (tl kn) (j + 1) := by
          rw [← eq, drop_at hlt]
          unfold qgo
          rw [if_pos (of_decide_eq_true h2)]
        refine ⟨_, rfl, _, rfl, _, _, rfl, rfl, (by show 3 ≤ sizeLine; decide), fun t ht => q t _ (same_new ht) ?_⟩
        rw [er]
        exact ⟨kn, upd_same, rfl, (by decide +kernel)⟩
      have c1 : (tl z)[j] ≠ 34 := fun e => h2 (decide_eq_true e)
      refine ⟨fun σ' H'' => ∃ (j' : Nat) (hp1 : j' < (tl z).length) (y : Option V), σ' = [some (.str z), some (.int (i : Int)), some (.str kn), some (.int (j' : Int)), y] ∧ H'' = H' ∧ j ≤ j' ∧ qgo i ((tl z).drop (j' + 1)) (tl kn ++ [(tl z)[j']]) (j' + 1) = resQuo (tl z) i, ?_, ?_⟩
      · refine ⟨_, rfl, _, rfl, z, _, _, rfl, rfl, hzl, sign_at_list hlt, rfl, _, rfl, ?_⟩
        rw [sign_is (s := "\\") (d := 92) (by decide +kernel), str1_eq]
        refine ite2 (fun h3 => ?_) (fun h3 => ?_)
        · have he := of_decide_eq_true h3
          refine ⟨_, rfl, _, _, rfl, rfl, ?_⟩
          refine ⟨_, rfl, _, rfl, z, rfl, hzl, _, _, rfl, rfl, _, rfl, ite2 (fun h4 => ?_) (fun h4 => ?_)⟩
          · have hge : (tl z).length ≤ j + 1 := by
              have := of_decide_eq_true h4
              rw [len_tl] at this
              omega
            have eb : resQuo (tl z) i = .bad i "text is not closed" := by
              rw [← eq, drop_at hlt, drop_end hge]
              unfold qgo
              rw [if_neg c1, if_pos he]
            exact ⟨_, rfl, (by show 3 ≤ sizeLine; decide), fun t ht => q t _ (same_new ht) (by rw [eb]; exact upd_same)⟩
          have hlt' : j + 1 < (tl z).length := by
            have := of_decide_eq_false (Bool.eq_false_iff.mpr h4)
            rw [len_tl] at this
            omega
          have eqs : qgo i ((tl z).drop j) (tl kn) j = if (tl z)[j + 1] = 34 ∨ (tl z)[j + 1] = 92 then qgo i ((tl z).drop (j + 2)) (tl kn ++ [(tl z)[j + 1]]) (j + 2) else .bad (j + 1) "unexpected sign" := by
            rw [drop_at hlt, drop_at hlt']
            conv => lhs; unfold qgo
            rw [if_neg c1, if_pos he]
          refine ⟨_, rfl, _, rfl, z, ((j + 1 : Nat) : Int), _, rfl, rfl, hzl, sign_at_list hlt', rfl, _, rfl, ?_⟩
          rw [str1_eq]
          refine ite2 (fun h5 => ?_) (fun h5 => ?_)
          · have n1 : (tl z)[j + 1] ≠ 34 := fun e => by
              rw [e] at h5
              exact absurd h5 (by decide)
            refine ⟨_, rfl, _, rfl, z, ((j + 1 : Nat) : Int), _, rfl, rfl, hzl, sign_at_list hlt', rfl, _, rfl, ?_⟩
            rw [str1_eq]
            refine ite2 (fun h6 => ?_) (fun h6 => ?_)
            · have n2 : (tl z)[j + 1] ≠ 92 := fun e => by
                rw [e] at h6
                exact absurd h6 (by decide)
              rw [if_neg (fun o => o.elim n1 n2)] at eqs
              refine ⟨_, rfl, (by show 3 ≤ sizeLine; decide), fun t ht => q t _ (same_new ht) ?_⟩
              rw [← eq, eqs]
              exact upd_same
            · have e2 : (tl z)[j + 1] = 92 := by
                by_cases e : (tl z)[j + 1] = 92
                · exact e
                · rw [decide_eq_false e] at h6
                  exact absurd rfl h6
              rw [if_pos (.inr e2)] at eqs
              exact ⟨j + 1, hlt', _, rfl, rfl, Nat.le_succ _, eqs.symm.trans eq⟩
          · have e2 : (tl z)[j + 1] = 34 := by
              by_cases e : (tl z)[j + 1] = 34
              · exact e
              · rw [decide_eq_false e] at h5
                exact absurd rfl h5
            rw [if_pos (.inl e2)] at eqs
            exact iteF ⟨j + 1, hlt', _, rfl, rfl, Nat.le_succ _, eqs.symm.trans eq⟩
        · have he : (tl z)[j] ≠ 92 := fun e => h3 (decide_eq_true e)
          refine ⟨j, hlt, _, rfl, rfl, Nat.le_refl _, ?_⟩
          rw [← eq, drop_at hlt]
          conv => rhs; unfold qgo
          rw [if_neg c1, if_neg he]
      · rintro σ' H'' ⟨j', hp1, y', rfl, rfl, hjj, eq'⟩
        refine ⟨_, rfl, _, rfl, _, rfl, z, _, _, rfl, rfl, hzl, sign_at_list hp1, _, _, rfl, rfl, ?_, ?_⟩
        · show kn.length + 1 ≤ _
          exact Nat.le_of_lt (small1000 (by omega))
        refine ⟨_, rfl, _, _, rfl, rfl, j' + 1, _, _, rfl, rfl, by omega, hp1, ?_, ?_⟩
        · rw [len_tl, tl_append, List.length_append, ← len_tl]
          show kn.length + 1 ≤ _
          omega
        · rw [tl_append]
          exact eq'
    · rintro σ H' ⟨j, kn, y, rfl, rfl, h1, hj, hkn, eq⟩
      have := len_tl z
      omega
theorem sc__law_one : FnScope ["text", "at", "sign", "size"] ["text", "at"] (defScope (topS 31)) := ⟨rfl, rfl, rfl, by decide +kernel, rfl, by decide +kernel, by decide +kernel⟩
theorem ok__law_one (T : Txt K mg A) : FnOk P w K mg base CX0 3 A.f__law_one A.fd__law_one ["text", "at"] spLOne := by
  refine T.F__law_one.ok sc__law_one (fun vs H Q E h => ?_) (fun cdv Ar outer s H vs Q E hr h => ?_)
  · obtain ⟨z, i, rfl, _⟩ := h
    rfl
  · obtain ⟨z, i, rfl, hz, hi, q⟩ := h
    have hzl : z.length ≤ sizeLine := Nat.le_trans hz (by decide)
    have hh : ((tl z).drop i).head? = some (tl z)[i] := by
      rw [drop_at hi]
      rfl
    have e1 : one sgs5 (tl z) i = if isLet (tl z)[i] = true then resWord (tl z) i else if isDig (tl z)[i] = true then resNum (tl z) i else if (tl z)[i] = 34 then resQuo (tl z) i else resSign sgs5 (tl z) i := by
      unfold one
      rw [hh]
    have rw1 : runp (fun c => isDig c || (true && (isLet c || c == 95))) ((tl z).drop i) = runp isWs ((tl z).drop i) := rfl
    have rw2 : runp (fun c => isDig c || (false && (isLet c || c == 95))) ((tl z).drop i) = runp isDig ((tl z).drop i) := runp_congr (fun c => by simp) _
    refine ⟨_, (pss_cons (ps_set (i := 2) sc__law_one.nd rfl (.inl rfl) (pe_ix ix_str (pv 0) (pv 1) (fun _ _ => rfl)))
 (pss_cons (ps_if (pt_cmpR op_eq (pv 2) pe_str (nomark _))
 (pss_one (ps_ret (pe_call (ok__law_quoted T) (hr.mono (by decide)) (by rfl) T.g__law_quoted T.F__law_quoted.kp T.b__law_quoted .nil pass0 (pa_cons (pv 0) (pa_cons (pv 1) pa_nil)))))
 pss_nil)
 (pss_cons (ps_if (pt_val (pe_call (ok__law_is_letter T) (hr.mono (by decide)) (by rfl) T.g__law_is_letter T.F__law_is_letter.kp T.b__law_is_letter .nil pass0 (pa_cons (pv 2) pa_nil)))
 (pss_cons (ps_set (i := 3) sc__law_one.nd rfl (.inl rfl) (pe_call (ok__law_run T) (hr.mono (by decide)) (by rfl) T.g__law_run T.F__law_run.kp T.b__law_run .nil pass0 (pa_cons (pv 0) (pa_cons (pv 1) (pa_cons pe_bl pa_nil)))))
 (pss_cons (ps_if (pt_cmpR op_gt (pv 3) pe_int (nomark _))
 (pss_one (ps_ret (pe_tup (pa_cons pe_str (pa_cons pe_str (pa_cons (pv 1) pa_nil))))))
 pss_nil)
 (pss_one (ps_ret (pe_tup (pa_cons pe_str (pa_cons (pe_slice sl_str (pv 0) (po_some (pv 1)) (po_some (pe_op op_add (pv 1) (pv 3)))) (pa_cons (pe_op op_add (pv 1) (pv 3)) pa_nil))))))))
 pss_nil)
 (pss_cons (ps_if (pt_val (pe_call (ok__law_is_digit T) (hr.mono (by decide)) (by rfl) T.g__law_is_digit T.F__law_is_digit.kp T.b__law_is_digit .nil pass0 (pa_cons (pv 2) pa_nil)))
 (pss_cons (ps_set (i := 3) sc__law_one.nd rfl (.inl rfl) (pe_call (ok__law_run T) (hr.mono (by decide)) (by rfl) T.g__law_run T.F__law_run.kp T.b__law_run .nil pass0 (pa_cons (pv 0) (pa_cons (pv 1) (pa_cons pe_bl pa_nil)))))
 (C8.pss_cut (ps_if (PW.pt (pw_and (pt_cmpR op_gt (pv 3) pe_int (nomark _)) (pw_and1 (pt_cmpR op_eq (pv 2) pe_str (nomark _)))))
 (pss_one (ps_ret (pe_tup (pa_cons pe_str (pa_cons pe_str (pa_cons (pv 1) pa_nil))))))
 pss_nil)
 (pss_cons (ps_if (pt_cmpR op_gt (pv 3) pe_int (nomark _))
 (pss_one (ps_ret (pe_tup (pa_cons pe_str (pa_cons pe_str (pa_cons (pv 1) pa_nil))))))
 pss_nil)
 (pss_cons (ps_if (pt_cmpR op_gt (pe_call (ok__law_run T) (hr.mono (by decide)) (by rfl) T.g__law_run T.F__law_run.kp T.b__law_run .nil pass0 (pa_cons (pv 0) (pa_cons (pe_op op_add (pv 1) (pv 3)) (pa_cons pe_bl pa_nil)))) pe_int (nomark _))
 (pss_one (ps_ret (pe_tup (pa_cons pe_str (pa_cons pe_str (pa_cons (pe_op op_add (pv 1) (pv 3)) pa_nil))))))
 pss_nil)
 (pss_one (ps_ret (pe_tup (pa_cons pe_str (pa_cons (pe_slice sl_str (pv 0) (po_some (pv 1)) (po_some (pe_op op_add (pv 1) (pv 3)))) (pa_cons (pe_op op_add (pv 1) (pv 3)) pa_nil))))))))))
 pss_nil)
 (pss_cons (ps_if (PW.pt (pw_or (pt_cmpR op_eq (pe_slice sl_str (pv 0) (po_some (pv 1)) (po_some (pe_op op_add (pv 1) pe_int))) pe_str (nomark _)) (pw_or1 (pt_cmpR op_eq (pe_slice sl_str (pv 0) (po_some (pv 1)) (po_some (pe_op op_add (pv 1) pe_int))) pe_str (nomark _)))))
 (pss_one (ps_ret (pe_tup (pa_cons pe_str (pa_cons (pe_slice sl_str (pv 0) (po_some (pv 1)) (po_some (pe_op op_add (pv 1) pe_int))) (pa_cons (pe_op op_add (pv 1) pe_int) pa_nil))))))
 pss_nil)
 (pss_cons (ps_if (PW.pt (pw_or (pt_cmpR op_eq (pv 2) pe_str (nomark _)) (pw_or (pt_cmpR op_eq (pv 2) pe_str (nomark _)) (pw_or1 (pt_cmpR op_eq (pv 2) pe_str (nomark _))))))
 (pss_one (ps_ret (pe_tup (pa_cons pe_str (pa_cons (pv 2) (pa_cons (pe_op op_add (pv 1) pe_int) pa_nil))))))
 pss_nil)
 (pss_one (ps_ret (pe_tup (pa_cons pe_str (pa_cons pe_str (pa_cons (pv 1) pa_nil)))))))))))), ?_⟩
    refine ⟨_, rfl, _, rfl, z, _, _, rfl, rfl, hzl, sign_at_list hi, ?_⟩
    refine ⟨_, rfl, rfl, _, rfl, ?_⟩
    rw [sign_is (s := "\"") (d := 34) (by decide +kernel), str1_eq]
    refine ite2 (fun h34 => ?_) (fun h34 => ?_)
    · have e34 := of_decide_eq_true h34
      rw [if_neg (by rw [e34]; decide), if_neg (by rw [e34]; decide), if_pos e34] at e1
      refine ⟨_, rfl, _, rfl, z, i, rfl, hz, hi, ?_⟩
      rw [← e1]
      exact q
    have n34 : (tl z)[i] ≠ 34 := fun e => h34 (decide_eq_true e)
    refine ⟨_, rfl, _, rfl, _, rfl, ite2 (fun hL => ?_) (fun hL => ?_)⟩
    · rw [if_pos hL] at e1
      refine ⟨_, rfl, _, rfl, z, i, true, rfl, hz, Nat.le_of_lt hi, ?_⟩
      rw [rw1]
      refine ⟨_, rfl, _, _, rfl, rfl, _, rfl, ite2 (fun h => ?_) (fun h => ?_)⟩
      · have h' : 12 < runp isWs ((tl z).drop i) := by
          have := of_decide_eq_true h
          omega
        rw [e1, show resWord (tl z) i = .bad i "word too long" from if_pos h'] at q
        exact ⟨_, rfl, (by show 3 ≤ sizeLine; decide), fun t ht => q t _ (same_new ht) upd_same⟩
      · have h' : ¬ 12 < runp isWs ((tl z).drop i) := fun h2 => h (decide_eq_true (by omega))
        rw [e1, show resWord (tl z) i = .tok "word" (((tl z).drop i).take (runp isWs ((tl z).drop i))) (i + runp isWs ((tl z).drop i)) from if_neg h'] at q
        refine ⟨_, rfl, _, rfl, _, rfl, _, rfl, _, rfl, _, _, rfl, rfl, _, rfl, z, rfl, hzl, _, rfl, _, rfl, _, _, rfl, rfl, (by show 3 ≤ sizeLine; decide), fun t ht => q t _ (same_new ht) ⟨_, upd_same, ?_, (by decide +kernel)⟩⟩
        rw [show ((i : Int) + ((runp isWs ((tl z).drop i) : Nat) : Int)) = ((i + runp isWs ((tl z).drop i) : Nat) : Int) by omega, tl_cut (Nat.le_of_lt hi), Nat.add_sub_cancel_left]
    rw [if_neg hL] at e1
    refine ⟨_, rfl, _, rfl, _, rfl, ite2 (fun hD => ?_) (fun hD => ?_)⟩
    · rw [if_pos hD] at e1
      have hle : i + runp isDig ((tl z).drop i) ≤ (tl z).length := by
        have h1 := runp_le isDig ((tl z).drop i)
        rw [List.length_drop] at h1
        omega
      refine ⟨_, rfl, _, rfl, z, i, false, rfl, hz, Nat.le_of_lt hi, ?_⟩
      rw [rw2]
      refine ⟨fun σ' H' => σ' = [some (.str z), some (.int (i : Int)), some (sg1 (tl z)[i]), some (.int ((runp isDig ((tl z).drop i) : Nat) : Int))] ∧ H' = H ∧ ¬ (((tl z).drop i).head? = some 48 ∧ 1 < runp isDig ((tl z).drop i)), ?_, ?_⟩
      · refine ⟨_, rfl, _, _, rfl, rfl, _, rfl, ite2 (fun h => ?_) (fun h => iteF ⟨rfl, rfl, fun z => h (decide_eq_true (by omega))⟩)⟩
        refine ⟨_, rfl, rfl, _, rfl, ?_⟩
        rw [sign_is (s := "0") (d := 48) (by decide +kernel), str1_eq]
        refine ite2 (fun h2 => ?_) (fun h2 => ⟨rfl, rfl, fun z => h2 (decide_eq_true (Option.some.inj (hh.symm.trans z.1)))⟩)
        have a1 : ((tl z).drop i).head? = some 48 := hh.trans (congrArg some (of_decide_eq_true h2))
        have a2 : 1 < runp isDig ((tl z).drop i) := by
          have := of_decide_eq_true h
          omega
        rw [e1, show resNum (tl z) i = .bad i "needless zero" from if_pos ⟨a1, a2⟩] at q
        exact ⟨_, rfl, (by show 3 ≤ sizeLine; decide), fun t ht => q t _ (same_new ht) upd_same⟩
      · rintro σ' H' ⟨rfl, rfl, hn⟩
        refine ⟨_, rfl, _, _, rfl, rfl, _, rfl, ite2 (fun h => ?_) (fun h => ?_)⟩
        · have h' : 18 < runp isDig ((tl z).drop i) := by
            have := of_decide_eq_true h
            omega
          rw [e1, show resNum (tl z) i = .bad i "number too long" from (if_neg hn).trans (if_pos h')] at q
          exact ⟨_, rfl, (by show 3 ≤ sizeLine; decide), fun t ht => q t _ (same_new ht) upd_same⟩
        have h' : ¬ 18 < runp isDig ((tl z).drop i) := fun h2 => h (decide_eq_true (by omega))
        refine ⟨_, rfl, _, rfl, _, rfl, _, _, rfl, rfl, z, i + runp isDig ((tl z).drop i), true, rfl, hz, hle, ?_⟩
        rw [show runp (fun c => isDig c || (true && (isLet c || c == 95))) ((tl z).drop (i + runp isDig ((tl z).drop i))) = runp isWs ((tl z).drop (i + runp isDig ((tl z).drop i))) from rfl]
        refine ⟨_, _, rfl, rfl, _, rfl, ite2 (fun h2 => ?_) (fun h2 => ?_)⟩
        · have h3 : 0 < runp isWs ((tl z).drop (i + runp isDig ((tl z).drop i))) := by
            have := of_decide_eq_true h2
            omega
          rw [e1, show resNum (tl z) i = .bad (i + runp isDig ((tl z).drop i)) "unexpected sign" from (if_neg hn).trans ((if_neg h').trans (if_pos h3))] at q
          exact ⟨_, rfl, _, rfl, _, _, rfl, rfl, (by show 3 ≤ sizeLine; decide), fun t ht => q t _ (same_new ht) upd_same⟩
        · have h3 : ¬ 0 < runp isWs ((tl z).drop (i + runp isDig ((tl z).drop i))) := fun h4 => h2 (decide_eq_true (by omega))
          rw [e1, show resNum (tl z) i = .tok "number" (((tl z).drop i).take (runp isDig ((tl z).drop i))) (i + runp isDig ((tl z).drop i)) from (if_neg hn).trans ((if_neg h').trans (if_neg h3))] at q
          refine ⟨_, rfl, _, rfl, _, rfl, _, rfl, _, rfl, _, _, rfl, rfl, _, rfl, z, rfl, hzl, _, rfl, _, rfl, _, _, rfl, rfl, (by show 3 ≤ sizeLine; decide), fun t ht => q t _ (same_new ht) ⟨_, upd_same, ?_, (by decide +kernel)⟩⟩
          rw [show ((i : Int) + ((runp isDig ((tl z).drop i) : Nat) : Int)) = ((i + runp isDig ((tl z).drop i) : Nat) : Int) by omega, tl_cut (Nat.le_of_lt hi), Nat.add_sub_cancel_left]
    rw [if_neg hD, if_neg n34] at e1
    have dr := drop_at hi
    have eb : bestS ((tl z).drop i) sgs5 = if ((tl z).drop i).take 2 = [46, 46] ∨ ((tl z).drop i).take 2 = [45, 62] then ((tl z).drop i).take 2 else if (tl z)[i] = 46 ∨ (tl z)[i] = 45 ∨ (tl z)[i] = 123 then [(tl z)[i]] else [] := by
      rw [dr]
      exact best5 _ _
    have two : ∀ s : Str, decide (V.str (cutS z (some (i : Int)) (some ((i : Int) + 2))) = V.str s) = decide (((tl z).drop i).take 2 = tl s) := fun s => by
      have ec : tl (cutS z (some (i : Int)) (some ((i : Int) + 2))) = ((tl z).drop i).take 2 := by
        rw [show ((i : Int) + 2) = ((i + 2 : Nat) : Int) by omega, tl_cut (Nat.le_of_lt hi), Nat.add_sub_cancel_left]
      by_cases h : ((tl z).drop i).take 2 = tl s
      · rw [decide_eq_true h, decide_eq_true (congrArg V.str (ext_tl (ec.trans h)))]
      · rw [decide_eq_false h, decide_eq_false (fun e => h (ec.symm.trans (congrArg tl (V.str.inj e))))]
    have ec : tl (cutS z (some (i : Int)) (some ((i : Int) + 2))) = ((tl z).drop i).take 2 := by
      rw [show ((i : Int) + 2) = ((i + 2 : Nat) : Int) by omega, tl_cut (Nat.le_of_lt hi), Nat.add_sub_cancel_left]
    have len2 : ∀ a b : Nat, ((tl z).drop i).take 2 = [a, b] → resSign sgs5 (tl z) i = .tok "sign" (((tl z).drop i).take 2) (i + 2) ∨ ¬ (((tl z).drop i).take 2 = [46, 46] ∨ ((tl z).drop i).take 2 = [45, 62]) := fun a b e => by
      by_cases hc : ((tl z).drop i).take 2 = [46, 46] ∨ ((tl z).drop i).take 2 = [45, 62]
      · rw [if_pos hc] at eb
        refine .inl ?_
        unfold resSign
        rw [eb, if_neg (by rw [e]; simp), e]
        rfl
      · exact .inr hc
    have cut2 : ∀ (Q' : VK), Q' (.str (cutS z (some (i : Int)) (some ((i : Int) + 2)))) H → tSl rSlS (tVar 0) (tPart (tVar 1)) (tPart (tOp (rI0 fun i j => .int (i + j)) (tVar 1) (tC (.int 2)))) [some (.str z), some (.int (i : Int)), some (sg1 (tl z)[i]), none] H Q' := fun Q' h =>
      ⟨_, rfl, _, rfl, _, rfl, _, rfl, _, _, rfl, rfl, _, rfl, z, rfl, hzl, h⟩
    have done : ((tl z).drop i).take 2 = [46, 46] ∨ ((tl z).drop i).take 2 = [45, 62] → ∀ (t : Addr) (H' : Hp), H t = none → H' = upd H t (.tup [.str "sign", .str (cutS z (some (i : Int)) (some ((i : Int) + 2))), .int ((i : Int) + 2)]) → Q (.ref t) H' := fun hc t H' ht eH => by
      subst eH
      have es : resSign sgs5 (tl z) i = .tok "sign" (((tl z).drop i).take 2) (i + 2) := by
        rcases hc with hc | hc
        · rcases len2 _ _ hc with r | r
          · exact r
          · exact absurd (.inl hc) r
        · rcases len2 _ _ hc with r | r
          · exact r
          · exact absurd (.inr hc) r
      rw [e1, es] at q
      exact q t _ (same_new ht) ⟨_, upd_same, ec, (by decide +kernel)⟩
    refine ⟨_, rfl, _, rfl, _, rfl, _, rfl, _, _, rfl, rfl, _, rfl, z, rfl, hzl, rfl, _, rfl, ?_⟩
    rw [two, show tl ".." = [46, 46] by decide +kernel]
    refine ite2 (fun h => ?_) (fun h => ?_)
    · refine iteT ⟨_, rfl, _, rfl, _, rfl, _, rfl, _, _, rfl, rfl, _, rfl, z, rfl, hzl, _, rfl, _, _, rfl, rfl, (by show 3 ≤ sizeLine; decide), fun t ht => done (.inl (of_decide_eq_true h)) t _ ht rfl⟩
    refine ⟨_, rfl, _, rfl, _, rfl, _, rfl, _, _, rfl, rfl, _, rfl, z, rfl, hzl, rfl, _, rfl, ?_⟩
    rw [two, show tl "->" = [45, 62] by decide +kernel]
    refine ite2 (fun h2 => ?_) (fun h2 => ?_)
    · exact ⟨_, rfl, _, rfl, _, rfl, _, rfl, _, _, rfl, rfl, _, rfl, z, rfl, hzl, _, rfl, _, _, rfl, rfl, (by show 3 ≤ sizeLine; decide), fun t ht => done (.inr (of_decide_eq_true h2)) t _ ht rfl⟩
    have no2 : ¬ (((tl z).drop i).take 2 = [46, 46] ∨ ((tl z).drop i).take 2 = [45, 62]) := fun e => e.elim (fun e => h (decide_eq_true e)) (fun e => h2 (decide_eq_true e))
    rw [if_neg no2] at eb
    have s1 : (tl z)[i] = 46 ∨ (tl z)[i] = 45 ∨ (tl z)[i] = 123 → ∀ (t : Addr) (H' : Hp), H t = none → H' = upd H t (.tup [.str "sign", sg1 (tl z)[i], .int ((i : Int) + 1)]) → Q (.ref t) H' := fun hc t H' ht eH => by
      subst eH
      rw [if_pos hc] at eb
      have es : resSign sgs5 (tl z) i = .tok "sign" [(tl z)[i]] (i + 1) := by
        unfold resSign
        rw [eb, if_neg (by simp)]
        rfl
      rw [e1, es] at q
      exact q t _ (same_new ht) ⟨_, upd_same, rfl, (by decide +kernel)⟩
    refine ⟨_, rfl, rfl, _, rfl, ?_⟩
    rw [sign_is (s := ".") (d := 46) (by decide +kernel), str1_eq]
    refine ite2 (fun h3 => ?_) (fun h3 => ?_)
    · exact iteT ⟨_, rfl, _, rfl, _, _, rfl, rfl, (by show 3 ≤ sizeLine; decide), fun t ht => s1 (.inl (of_decide_eq_true h3)) t _ ht rfl⟩
    refine ⟨_, rfl, rfl, _, rfl, ?_⟩
    rw [sign_is (s := "-") (d := 45) (by decide +kernel), str1_eq]
    refine ite2 (fun h4 => ?_) (fun h4 => ?_)
    · exact iteT ⟨_, rfl, _, rfl, _, _, rfl, rfl, (by show 3 ≤ sizeLine; decide), fun t ht => s1 (.inr (.inl (of_decide_eq_true h4))) t _ ht rfl⟩
    refine ⟨_, rfl, rfl, _, rfl, ?_⟩
    rw [sign_is (s := "{") (d := 123) (by decide +kernel), str1_eq]
    refine ite2 (fun h5 => ?_) (fun h5 => ?_)
    · exact ⟨_, rfl, _, rfl, _, _, rfl, rfl, (by show 3 ≤ sizeLine; decide), fun t ht => s1 (.inr (.inr (of_decide_eq_true h5))) t _ ht rfl⟩
    have n3 : ¬ ((tl z)[i] = 46 ∨ (tl z)[i] = 45 ∨ (tl z)[i] = 123) := fun e => e.elim (fun e => h3 (decide_eq_true e)) (fun e => e.elim (fun e => h4 (decide_eq_true e)) (fun e => h5 (decide_eq_true e)))
    rw [if_neg n3] at eb
    rw [e1, show resSign sgs5 (tl z) i = .bad i "unexpected sign" from if_pos eb] at q
    exact ⟨_, rfl, (by show 3 ≤ sizeLine; decide), fun t ht => q t _ (same_new ht) upd_same⟩
end
/-- isinstance(e, D) of the error that the suite holds at a, with a dict of its own -/
theorem call_isF {X : Cx} {a D : Addr} {oe : Obj} {cls : Value} {d : Option Addr} {pn : List (Addr × Obj)} (C : ExcC X.K D) (hs : PySem.W.isClsIn X.K D = true) (hz : Zc cls d oe) (hf : ∃ vs, oe.data = .fields vs) :
    CallR (X.suite a ((a, oe) :: pn)) (.builtin "isinstance") (fun xs H Q => cls = .ref D ∧ ∃ (dd : Addr) (fs : List (Str × V)) (c : V) (cv : Value) (b : Bool), d = some dd ∧ H dd = some (.xd fs) ∧ xs = [.ref a, c] ∧ (∀ u, RelV c u → u = cv) ∧
      PySem.W.kitOne X.K (.ref D) cv = some b ∧ Q (.bl b) H) := by
  intro pins s σ H xs us Q I r h
  obtain ⟨rfl, dd, fs, c, cv, b, rfl, hd, rfl, hc, he, q⟩ := h
  obtain ⟨u1, u2, rfl, r1, r2⟩ := vals2 r
  have e1 : u1 = Value.ref a := r1
  have e2 := hc _ r2
  subst e1
  subst e2
  have there := (I.pin (a, oe) (List.mem_append_left _ (List.mem_cons_self ..))).1
  have hx : ObjOk X.prog X.w H s.heap dd (.xd fs) := I.hok dd _ hd
  obtain ⟨mA, hns, _⟩ := hx
  obtain ⟨od, ho, _⟩ := lookIn_ns hns
  obtain ⟨vs, hv⟩ := hf
  have J : PySem.W.InstAt s.heap a oe D (some od) := by
    refine ⟨there, hz.1, ?_, ?_⟩
    · unfold PySem.W.notCls
      rw [hv] <;> rfl
    · rw [hz.2]
      exact ho
  exact PySem.W.kia_one (PySem.W.kitx_exc hs C.hg C.hk C.hs C.ha C.hn C.ht C.hm) I.kIn J he (fun z => by cases z) fun tk => ⟨.bl b, H, I.tok tk, rfl, q⟩
section
variable {P : Program} {w : World} {K : PySem.W.Frag} {mg : Str → Option Value} {base : Heap} {A : Ad}
theorem Rows.snoc {H : Hp} {ks : List Addr} {ts : List Tk} {k : Addr} {t : Tk} (h : Rows H ks ts) (hk : RowAt H k t) : Rows H (ks ++ [k]) (ts ++ [t]) := by
  obtain ⟨hl, h⟩ := h
  refine ⟨by rw [List.length_append, List.length_append, hl]; rfl, fun i k' t' a b => ?_⟩
  by_cases hi : i < ks.length
  · rw [List.getElem?_append_left hi] at a
    rw [List.getElem?_append_left (by omega)] at b
    exact h i k' t' a b
  · rw [List.getElem?_append_right (by omega)] at a
    rw [List.getElem?_append_right (by omega)] at b
    have e : i - ks.length = 0 := by
      cases q : i - ks.length with
      | zero => rfl
      | succ n =>
        rw [q] at a
        cases a
    rw [e] at a
    rw [show i - ts.length = 0 by omega] at b
    cases a
    cases b
    exact hk
theorem RowAt.keep {H H' : Hp} {k : Addr} {t : Tk} (h : RowAt H k t) (s : Same H H') : RowAt H' k t := by
  obtain ⟨z, a, b⟩ := h
  exact ⟨z, s _ _ a, b⟩
theorem RowAt.upd {H : Hp} {o k : Addr} {t : Tk} {xs ys : List V} (h : RowAt H k t) (ho : H o = some (.lst xs)) : RowAt (upd H o (.lst ys)) k t := by
  obtain ⟨z, a, b⟩ := h
  exact ⟨z, (upd_ne (ne_of a ho (by intro e; cases e))).trans a, b⟩
theorem Rows.keep {H H' : Hp} {ks : List Addr} {ts : List Tk} (h : Rows H ks ts) (s : Same H H') : Rows H' ks ts := ⟨h.1, fun i k t a b => RowAt.keep (h.2 i k t a b) s⟩
theorem Rows.upd {H : Hp} {o : Addr} {ks : List Addr} {ts : List Tk} {xs ys : List V} (h : Rows H ks ts) (ho : H o = some (.lst xs)) : Rows (upd H o (.lst ys)) ks ts := ⟨h.1, fun i k t a b => RowAt.upd (h.2 i k t a b) ho⟩
theorem DueAt.keep {H H' : Hp} {t : Addr} {R : List Tk ⊕ (Nat × Str)} (h : DueAt H t R) (s : Same H H') : DueAt H' t R := by
  cases R with
  | inl ts =>
    obtain ⟨l, ks, a, b, c, e⟩ := h
    exact ⟨l, ks, s _ _ a, s _ _ b, Rows.keep c s, e⟩
  | inr e =>
    obtain ⟨l, f, a, b⟩ := h
    exact ⟨l, f, s _ _ a, s _ _ b⟩
theorem sc__law_due : FnScope ["text", "longest", "row", "at", "role", "known", "stop"] ["text", "longest"] (defScope (topS 32)) := ⟨rfl, rfl, rfl, by decide +kernel, rfl, by decide +kernel, by decide +kernel⟩
theorem ok__law_due (T : Txt K mg A) : FnOk P w K mg base CX0 4 A.f__law_due A.fd__law_due ["text", "longest"] spDue := by
  refine T.F__law_due.ok sc__law_due (fun vs H Q E h => ?_) (fun cdv Ar outer s H vs Q E hr h => ?_)
  · obtain ⟨z, lg, rfl, _⟩ := h
    rfl
  · obtain ⟨z, lg, rfl, hz, q⟩ := h
    have hzl : z.length ≤ sizeLine := Nat.le_trans hz (by decide)
    have hlt0 : (tl z).length ≤ 1000 := by
      rw [← len_tl]
      exact hz
    refine ⟨_, (pss_cons (ps_if (pt_cmpR op_gt (pe_callB call_len_str rfl T.b_len PySem.boot_len (pa_cons (pv 0) pa_nil)) (pv 1) (nomark _))
 (pss_one (ps_ret (pe_tup (pa_cons (pe_lst pa_nil) (pa_cons (pe_tup (pa_cons pe_int (pa_cons pe_str pa_nil))) pa_nil)))))
 pss_nil)
 (pss_cons (ps_set (i := 2) sc__law_due.nd rfl (.inl rfl) (pe_lst pa_nil))
 (pss_cons (ps_set (i := 3) sc__law_due.nd rfl (.inl rfl) pe_int)
 (pss_cons (ps_while PassesOwn.never (pt_cmpR op_lt (pv 3) (pe_callB call_len_str rfl T.b_len PySem.boot_len (pa_cons (pv 0) pa_nil)) (nomark _))
 (pss_one (ps_if (pt_cmpR op_eq (pe_ix ix_str (pv 0) (pv 3) (fun _ _ => rfl)) pe_str (nomark _))
 (pss_one (ps_set (i := 3) sc__law_due.nd rfl (.inl rfl) (pe_op op_add (pv 3) pe_int)))
 (pss_cons (ps_asg (pe_call (ok__law_one T) (hr.mono (by decide)) (by rfl) T.g__law_one T.F__law_one.kp T.b__law_one .nil pass0 (pa_cons (pv 0) (pa_cons (pv 3) pa_nil))) (pg_tup rfl (pgs_cons (pg_name (i := 4) sc__law_due.nd rfl (.inl rfl)) (pgs_cons (pg_name (i := 5) sc__law_due.nd rfl (.inl rfl)) (pgs_cons (pg_name (i := 6) sc__law_due.nd rfl (.inl rfl)) pgs_nil)))))
 (pss_cons (ps_if (pt_cmpR op_eq (pv 4) pe_str (nomark _))
 (pss_one (ps_ret (pe_tup (pa_cons (pe_lst pa_nil) (pa_cons (pe_tup (pa_cons (pv 6) (pa_cons (pv 5) pa_nil))) pa_nil)))))
 pss_nil)
 (pss_cons (ps_expr (pe_bm PySem.F.plainAttrs_list PySem.F.slot_list_append PySem.F.type_list_append mt_append (pv 2) (pa_cons (pe_tup (pa_cons (pv 4) (pa_cons (pv 5) (pa_cons (pv 3) pa_nil)))) pa_nil)))
 (pss_one (ps_set (i := 3) sc__law_due.nd rfl (.inl rfl) (pv 6)))))))))
 (pss_cons (ps_expr (pe_bm PySem.F.plainAttrs_list PySem.F.slot_list_append PySem.F.type_list_append mt_append (pv 2) (pa_cons (pe_tup (pa_cons pe_str (pa_cons pe_str (pa_cons (pe_callB call_len_str rfl T.b_len PySem.boot_len (pa_cons (pv 0) pa_nil)) pa_nil)))) pa_nil)))
 (pss_one (ps_ret (pe_tup (pa_cons (pv 2) (pa_cons pe_non pa_nil)))))))))), ?_⟩
    refine ⟨_, rfl, z, rfl, hzl, _, rfl, _, _, rfl, rfl, _, rfl, ite2 (fun h => ?_) (fun h => ?_)⟩
    · have h' : lg < z.length := by
        have := of_decide_eq_true h
        omega
      refine ⟨Nat.zero_le _, fun l hl => ⟨(by show 2 ≤ sizeLine; decide), fun f hff => ⟨(by show 2 ≤ sizeLine; decide), fun t ht => ?_⟩⟩⟩
      exact q t _ (.inr (0, "text too long")) (((same_new hl).trans (same_new hff)).trans (same_new ht)) ⟨l, f, upd_same, (upd_ne (ne_of_none upd_same ht)).trans upd_same⟩ (fun _ => rfl) (fun n => absurd h' n)
    have hn : ¬ lg < z.length := fun h2 => h (decide_eq_true (by omega))
    refine ⟨Nat.zero_le _, fun o no => ?_⟩
    refine ⟨fun m σ H' => ∃ (j : Nat) (ks : List Addr) (ts : List Tk) (y4 y5 y6 : Option V), σ = [some (.str z), some (.int (lg : Int)), some (.ref o), some (.int (j : Int)), y4, y5, y6] ∧ Same H H' ∧ H' o = some (.lst (ks.map V.ref)) ∧ Rows H' ks ts ∧
      m = (tl z).length - j ∧ ks.length ≤ j ∧ ks.length ≤ (tl z).length ∧ ∀ R, Lexes sgs5 (tl z) (skip (tl z) j) R → Lexes sgs5 (tl z) (skip (tl z) 0) (appT ts R),
      ⟨_, 0, [], [], none, none, none, rfl, same_new no, upd_same, ⟨rfl, fun i k t e => by cases e⟩, rfl, Nat.zero_le _, Nat.zero_le _, fun R r => r⟩, ?_⟩
    rintro m σ H' ⟨j, ks, ts, y4, y5, y6, rfl, sm, ho, hk, rfl, hkl, hkl2, lx⟩
    refine ⟨_, rfl, _, rfl, z, rfl, hzl, _, _, rfl, rfl, _, rfl, ite2 (fun h2 => ?_) (fun h2 => ?_)⟩
    · have hlt : j < (tl z).length := by
        have := of_decide_eq_true h2
        rw [len_tl] at this
        omega
      refine ⟨fun σ' H'' => ∃ (j' : Nat) (ks' : List Addr) (ts' : List Tk) (y4 y5 y6 : Option V), σ' = [some (.str z), some (.int (lg : Int)), some (.ref o), some (.int (j' : Int)), y4, y5, y6] ∧ Same H H'' ∧ H'' o = some (.lst (ks'.map V.ref)) ∧ Rows H'' ks' ts' ∧
        j < j' ∧ ks'.length ≤ j' ∧ ks'.length ≤ (tl z).length ∧ ∀ R, Lexes sgs5 (tl z) (skip (tl z) j') R → Lexes sgs5 (tl z) (skip (tl z) 0) (appT ts' R), ?_, ?_⟩
      · rintro σ' H'' ⟨j', ks', ts', a4, a5, a6, rfl, s2, ho2, hk2, h3, h4, h5, lx2⟩
        exact ⟨_, by omega, j', ks', ts', a4, a5, a6, rfl, s2, ho2, hk2, rfl, h4, h5, lx2⟩
      refine ⟨_, rfl, _, rfl, z, _, _, rfl, rfl, hzl, sign_at_list hlt, rfl, _, rfl, ?_⟩
      rw [sign_is (s := " ") (d := 32) (by decide +kernel), str1_eq]
      refine ite2 (fun h3 => ?_) (fun h3 => ?_)
      · have e32 := of_decide_eq_true h3
        refine ⟨_, rfl, _, _, rfl, rfl, j + 1, ks, ts, _, _, _, rfl, sm, ho, hk, Nat.lt_succ_self _, by omega, hkl2, fun R r => lx R ?_⟩
        rw [skip_hit hlt e32]
        exact r
      · have n32 : (tl z)[j] ≠ 32 := fun e => h3 (decide_eq_true e)
        rw [skip_miss hlt n32] at lx
        refine ⟨_, rfl, _, rfl, z, j, rfl, hz, hlt, fun t H3 s3 ht => ?_⟩
        cases er : one sgs5 (tl z) j with
        | bad p r =>
          rw [er] at ht
          refine ⟨t, _, rfl, .inl (.inl ht), rfl, _, _, rfl, _, _, rfl, _, _, rfl, rfl, ?_⟩
          refine ⟨_, rfl, rfl, _, rfl, ite2 (fun _ => ?_) (fun e => absurd (decide_eq_true rfl) e)⟩
          refine ⟨Nat.zero_le _, fun l hl => ⟨_, rfl, _, rfl, (by show 2 ≤ sizeLine; decide), fun f hff => ⟨(by show 2 ≤ sizeLine; decide), fun t2 ht2 => ?_⟩⟩⟩
          have l2 := lx _ (.bad hlt er)
          rw [appT_inr] at l2
          exact q t2 _ (.inr (p, r)) ((((sm.trans s3).trans (same_new hl)).trans (same_new hff)).trans (same_new ht2)) ⟨l, f, upd_same, (upd_ne (ne_of_none upd_same ht2)).trans upd_same⟩ (fun n => absurd n hn) (fun _ => l2)
        | tok role txt stop =>
          rw [er] at ht
          obtain ⟨zt, ht, ezt, nf⟩ := ht
          have hst := one_stop hlt er
          refine ⟨t, _, rfl, .inl (.inl ht), rfl, _, _, rfl, _, _, rfl, _, _, rfl, rfl, ?_⟩
          refine ⟨_, rfl, rfl, _, rfl, ite2 (fun e => absurd (V.str.inj (of_decide_eq_true e)) nf) (fun _ => ?_)⟩
          have ho3 := s3 _ _ ho
          refine ⟨_, rfl, .inl ⟨rfl, _, SqL.of ho3⟩, _, rfl, _, rfl, _, rfl, (by show 3 ≤ sizeLine; decide), fun k hkn => ?_⟩
          have ho4 : (upd H3 k (.tup [.str role, .str zt, .int (j : Int)])) o = some (.lst (ks.map V.ref)) := (upd_ne (ne_of_none ho3 hkn)).trans ho3
          refine ⟨o, _, _, rfl, rfl, ho4, small1000 (by rw [List.length_map]; omega), ?_⟩
          refine ⟨_, rfl, stop, ks ++ [k], ts ++ [(role, txt, j)], _, _, _, rfl, fun b x e => (upd_ne (ne_of_none e no)).trans (same_new hkn b x (s3 b x (sm b x e))), ?_, ?_, hst, ?_, ?_, ?_⟩
          · rw [upd_same, List.map_append]
            rfl
          · exact Rows.snoc (Rows.upd (Rows.keep (Rows.keep hk s3) (same_new hkn)) ho4) (RowAt.upd ⟨zt, upd_same, ezt⟩ ho4)
          · rw [List.length_append]
            show ks.length + 1 ≤ _
            omega
          · rw [List.length_append]
            show ks.length + 1 ≤ _
            omega
          · intro R l
            rw [appT_snoc]
            exact lx _ (.tok hlt er l)
    · have hge : (tl z).length ≤ j := by
        have := of_decide_eq_false (Bool.eq_false_iff.mpr h2)
        rw [len_tl] at this
        omega
      refine ⟨_, rfl, .inl ⟨rfl, _, SqL.of ho⟩, _, rfl, z, rfl, hzl, (by show 3 ≤ sizeLine; decide), fun k hkn => ?_⟩
      have ho4 : (upd H' k (.tup [.str "end", .str "", .int (z.length : Int)])) o = some (.lst (ks.map V.ref)) := (upd_ne (ne_of_none ho hkn)).trans ho
      refine ⟨o, _, _, rfl, rfl, ho4, small1000 (by rw [List.length_map]; omega), _, rfl, (by show 2 ≤ sizeLine; decide), fun t ht => ?_⟩
      have l2 := lx _ (by rw [skip_end hge]; exact .fin hge)
      rw [appT_inl] at l2
      have sA : Same H (upd (upd H' k (.tup [.str "end", .str "", .int (z.length : Int)])) o (.lst (ks.map V.ref ++ [V.ref k]))) := fun b x e => (upd_ne (ne_of_none e no)).trans (same_new hkn b x (sm b x e))
      refine q t _ (.inl (ts ++ [((Str.ofString "end"), ([] : List Nat), (tl z).length)])) (sA.trans (same_new ht)) ⟨o, ks ++ [k], upd_same, ?_, ?_, (by rw [List.length_append]; show ks.length + 1 ≤ 2000; omega)⟩ (fun n => absurd n hn) (fun _ => l2)
      · rw [upd_ne (ne_of_none upd_same ht), upd_same, List.map_append]
        rfl
      · exact Rows.keep (Rows.snoc (Rows.upd (Rows.keep hk (same_new hkn)) ho4) (RowAt.upd (t := ((Str.ofString "end"), ([] : List Nat), (tl z).length)) ⟨"", (by rw [upd_same, len_tl]), (show tl "" = [] by decide +kernel)⟩ ho4)) (same_new ht)
end
def spLaw (K : PySem.W.Frag) : Sp := fun vs H Q _ => ∃ (a : Addr) (ns : List Int), vs = [.ref a] ∧ SqL K H a (ns.map V.int) ∧ ns.length ≤ 63 ∧ ∀ H', Q (.bl true) H'
theorem TokAt.keep2 {A : Ad} {H H' : Hp} {ks : List Addr} {ts : List Tk} (h : Toks A H ks ts) (s : Same H H') : Toks A H' ks ts := ⟨h.1, fun i k t a b => (h.2 i k t a b).keep s⟩
section
variable {P : Program} {w : World} {K : PySem.W.Frag} {mg : Str → Option Value} {base : Heap} {A : Ad}
theorem sc_law : FnScope ["script", "draws", "text", "due", "fault", "found", "raised", "e", "k"] ["script"] (defScope (topS 33)) := ⟨rfl, rfl, rfl, by decide +kernel, rfl, by decide +kernel, by decide +kernel⟩
theorem ok_law (T : Txt K mg A) : FnOk P w K mg base CX0 6 A.f_law A.fd_law ["script"] (spLaw K) := by
  refine T.F_law.ok sc_law (fun vs H Q E h => ?_) (fun cdv Ar outer s H vs Q E hr h => ?_)
  · obtain ⟨a, ns, rfl, _⟩ := h
    rfl
  · obtain ⟨a, ns, rfl, hS, hlen, q⟩ := h
    refine ⟨_, (pss_cons (ps_set (i := 1) sc_law.nd rfl (.inl rfl) (pe_call (ok__law_cells T) (hr.mono (by decide)) (by rfl) T.g__law_cells T.F__law_cells.kp T.b__law_cells .nil pass0 (pa_cons (pv 0) (pa_cons pe_int pa_nil))))
 (pss_cons (ps_set (i := 2) sc_law.nd rfl (.inl rfl) (pe_call (ok__law_text T) (hr.mono (by decide)) (by rfl) T.g__law_text T.F__law_text.kp T.b__law_text .nil pass0 (pa_cons (pv 1) pa_nil)))
 (pss_cons (ps_asg (pe_call (ok__law_due T) (hr.mono (by decide)) (by rfl) T.g__law_due T.F__law_due.kp T.b__law_due .nil pass0 (pa_cons (pv 2) (pa_cons pe_int pa_nil))) (pg_tup rfl (pgs_cons (pg_name (i := 3) sc_law.nd rfl (.inl rfl)) (pgs_cons (pg_name (i := 4) sc_law.nd rfl (.inl rfl)) pgs_nil))))
 (pss_cons (ps_set (i := 5) sc_law.nd rfl (.inl rfl) pe_non)
 (pss_cons (ps_set (i := 6) sc_law.nd rfl (.inl rfl) pe_non)
 (C8.pss_cut (ps_try_as (i := 7) (Wout := fun _ _ _ _ => False) rfl rfl sc_law.nd rfl rfl ⟨rfl, by decide, .inl T.g_Fault⟩ takes0 (fun W pn xe tk _ => pss_one (ps_set (i := 5) sc_law.nd rfl (.inl rfl) (by exact (pe_callS (ok_tokens T) (hr.mono (by decide)) rfl T.g_tokens T.F_tokens.kp T.b_tokens (fun σ => passAt tk σ) (by exact (pa_cons (pv 2) (pa_cons (pe_tup (pa_cons pe_str (pa_cons pe_str (pa_cons pe_str (pa_cons pe_str (pa_cons pe_str pa_nil)))))) (pa_cons pe_int pa_nil))))))))
 (fun a oe cls d pn hz hf => pss_cons (ps_set (i := 6) sc_law.nd rfl (.inl rfl) (by exact (pe_tup (pa_cons (pe_xf T.xf_Fault T.np_Fault hz hf (pv 7)) (pa_cons (pe_xf T.xf_Fault T.nr_Fault hz hf (pv 7)) pa_nil))))) (pss_one (ps_if (by exact (PW.pt (pw_or (pt_not (pt_val (pe_callB (call_isF T.ec_Fault T.cs_Fault hz hf) rfl T.b_isinstance (by decide +kernel) (pa_cons (pv 7) (pa_cons (pe_glob (v := .ref A.C_HeapError) rfl T.g_HeapError rfl) pa_nil))))) (pw_or1 (pt_not (pt_val (pe_callB (call_isF T.ec_Fault T.cs_Fault hz hf) rfl T.b_isinstance (by decide +kernel) (pa_cons (pv 7) (pa_cons (pe_bltn (v := .ty "ValueError") (u := .type "ValueError") rfl T.b_ValueError (by decide +kernel) rfl) pa_nil))))))))) (pss_one (ps_ret pe_bl)) pss_nil))))
 (pss_cons (ps_if (pt_cmpR op_notN (pv 4) pe_non (nomark _))
 (pss_one (ps_ret (pe_and (pe_cmpR op_notN (pv 6) pe_non (nomark _)) (pe_and (pe_cmpR op_eq (pe_ix ix_tup (pv 6) pe_int (fun _ _ => rfl)) (pe_ix ix_tup (pv 4) pe_int (fun _ _ => rfl)) (nomark _)) (pe_one (pe_cmpR op_eq (pe_ix ix_tup (pv 6) pe_int (fun _ _ => rfl)) (pe_ix ix_tup (pv 4) pe_int (fun _ _ => rfl)) (nomark _)))))))
 pss_nil)
 (pss_cons (ps_if (PW.pt (pw_or (pt_cmpR op_notN (pv 6) pe_non (nomark _)) (pw_or (pt_not (pt_val (pe_callB call_isi rfl T.b_isinstance (by decide +kernel) (pa_cons (pv 5) (pa_cons (pe_bltn (v := .ty "list") (u := .type "list") rfl T.b_list (by decide +kernel) rfl) pa_nil))))) (pw_or1 (pt_cmpR op_ne (pe_callB call_len_seq rfl T.b_len PySem.boot_len (pa_cons (pv 5) pa_nil)) (pe_callB call_len_seq rfl T.b_len PySem.boot_len (pa_cons (pv 3) pa_nil)) (nomark _))))))
 (pss_one (ps_ret pe_bl))
 pss_nil)
 (pss_cons (ps_for PassesOwn.never rfl (pi_range1 rfl T.b_range (pa_cons (pe_callB call_len_seq rfl T.b_len PySem.boot_len (pa_cons (pv 3) pa_nil)) pa_nil)) (pg_name (i := 8) sc_law.nd rfl (.inl rfl))
 (pss_one (ps_if (PW.pt (pw_or (pt_cmpR op_ne (pe_fld (pe_ix ix_list (pv 5) (pv 8) (fun _ _ => rfl)) rfl) (pe_ix ix_tup (pe_ix ix_list (pv 3) (pv 8) (fun _ _ => rfl)) pe_int (fun _ _ => rfl)) (nomark _)) (pw_or (pt_cmpR op_ne (pe_fld (pe_ix ix_list (pv 5) (pv 8) (fun _ _ => rfl)) rfl) (pe_ix ix_tup (pe_ix ix_list (pv 3) (pv 8) (fun _ _ => rfl)) pe_int (fun _ _ => rfl)) (nomark _)) (pw_or1 (pt_cmpR op_ne (pe_fld (pe_ix ix_list (pv 5) (pv 8) (fun _ _ => rfl)) rfl) (pe_ix ix_tup (pe_ix ix_list (pv 3) (pv 8) (fun _ _ => rfl)) pe_int (fun _ _ => rfl)) (nomark _))))))
 (pss_one (ps_ret pe_bl))
 pss_nil)))
 (pss_one (ps_ret pe_bl))))))))))), ?_⟩
    refine ⟨_, rfl, a, ns, 8, rfl, hS, hlen, by decide, fun H1 d ms s1 _ h1 hms => ?_⟩
    refine ⟨_, rfl, d, ms, rfl, h1, (by intro z; rw [z] at hms; cases hms), fun z H2 hf hz26 => ?_⟩
    have hz : z.length ≤ 1000 := Nat.le_trans hz26 (by decide)
    refine ⟨_, rfl, z, 24, rfl, hz, fun t H3 R s3 hD r1 r2 => ?_⟩
    -- the law's answer, as a pair
    obtain ⟨l, fv, hT, hfv⟩ : ∃ (l : Addr) (fv : V), H3 t = some (.tup [.ref l, fv]) ∧ ((∃ ts ks, R = .inl ts ∧ fv = .non ∧ H3 l = some (.lst (ks.map V.ref)) ∧ Rows H3 ks ts ∧ ks.length ≤ 2000) ∨ ∃ p r f, R = .inr (p, r) ∧ fv = .ref f ∧ H3 f = some (.tup [.int ((p : Nat) : Int), .str r])) := by
      cases R with
      | inl ts =>
        obtain ⟨l, ks, x1, x2, x3, x4⟩ := hD
        exact ⟨l, _, x1, .inl ⟨ts, ks, rfl, rfl, x2, x3, x4⟩⟩
      | inr e =>
        obtain ⟨l, f, x1, x2⟩ := hD
        exact ⟨l, _, x1, .inr ⟨e.1, e.2, f, rfl, rfl, x2⟩⟩
    refine ⟨t, _, rfl, .inl (.inl hT), rfl, _, _, rfl, _, _, rfl, rfl, ?_⟩
    refine ⟨fun σ' H'' => ∃ yf yr : V, σ' = [some (.ref a), some (.ref d), some (.str z), some (.ref l), some fv, some yf, some yr, none, none] ∧ Same H3 H'' ∧
      ((∃ (l2 : Addr) (ks2 : List Addr) (ts2 : List Tk), yf = .ref l2 ∧ yr = .non ∧ R = .inl ts2 ∧ H'' l2 = some (.lst (ks2.map V.ref)) ∧ Toks A H'' ks2 ts2) ∨
       (∃ (rt : Addr) (p : Nat) (r : Str), yf = .non ∧ yr = .ref rt ∧ R = .inr (p, r) ∧ H'' rt = some (.tup [.int (p : Int), .str r]))), ?_, ?_⟩
    · -- the try
      refine ⟨_, rfl, (by show 5 ≤ sizeLine; decide), fun sg hsg => ?_⟩
      have sS := same_new (o := .tup [.str ".", .str "..", .str "-", .str "->", .str "{"]) hsg
      refine ⟨z, 24, sg, [".", "..", "-", "->", "{"], rfl, hz, .inl (.inl upd_same), (by decide +kernel), hf, fun hn dd H4 s4 h4 => ?_, fun hn => ⟨fun l2 ks2 ts2 H4 s4 h4 hk lx => ?_, fun dd p r H4 s4 h4 lx => ?_⟩⟩
      · have eR := r1 hn
        refine ⟨true, T.em_Fault, fun _ a2 _ => ?_, fun e => nomatch e⟩
        refine ⟨_, rfl, rfl, rfl, dd, _, _, rfl, h4, fF_place _ _, _, rfl, rfl, rfl, dd, _, _, rfl, h4, fF_reason _ _, (by show 2 ≤ sizeLine; decide), fun rt hrt => ?_⟩
        have h5 := same_new (o := .tup [.int ((0 : Nat) : Int), .str "text too long"]) hrt _ _ h4
        refine ⟨_, rfl, rfl, dd, _, _, _, _, rfl, h5, rfl, (fun u r => r), T.ih_Fault, _, rfl, iteF ?_⟩
        refine ⟨_, rfl, rfl, dd, _, _, _, _, rfl, h5, rfl, (fun u r => r), T.iv_Fault, _, rfl, iteF ?_⟩
        exact ⟨_, _, rfl, (sS.trans s4).trans (same_new hrt), .inr ⟨rt, 0, "text too long", rfl, rfl, eR, upd_same⟩⟩
      · exact ⟨_, _, rfl, sS.trans s4, .inl ⟨l2, ks2, ts2, rfl, rfl, (r2 hn).det lx, h4, hk⟩⟩
      · have eR := (r2 hn).det lx
        refine ⟨true, T.em_Fault, fun _ a2 _ => ?_, fun e => nomatch e⟩
        refine ⟨_, rfl, rfl, rfl, dd, _, _, rfl, h4, fF_place _ _, _, rfl, rfl, rfl, dd, _, _, rfl, h4, fF_reason _ _, (by show 2 ≤ sizeLine; decide), fun rt hrt => ?_⟩
        have h5 := same_new (o := .tup [.int (p : Int), .str r]) hrt _ _ h4
        refine ⟨_, rfl, rfl, dd, _, _, _, _, rfl, h5, rfl, (fun u r => r), T.ih_Fault, _, rfl, iteF ?_⟩
        refine ⟨_, rfl, rfl, dd, _, _, _, _, rfl, h5, rfl, (fun u r => r), T.iv_Fault, _, rfl, iteF ?_⟩
        exact ⟨_, _, rfl, (sS.trans s4).trans (same_new hrt), .inr ⟨rt, p, r, rfl, rfl, eR, upd_same⟩⟩
    · rintro σ' H5 ⟨yf, yr, rfl, s5, ho⟩
      rcases hfv with ⟨ts, ks, rfl, rfl, hl, hR, small⟩ | ⟨p, r, f, rfl, rfl, hff⟩
      · -- tokens
        rcases ho with ⟨l2, ks2, ts2, rfl, rfl, e, hl2, hk2⟩ | ⟨rt, p2, r2', rfl, rfl, e, hrt⟩
        · cases e
          have hl5 := s5 _ _ hl
          have hR5 := Rows.keep hR s5
          refine ⟨_, rfl, rfl, _, rfl, iteF ?_⟩
          refine ⟨_, rfl, rfl, _, rfl, iteF ?_⟩
          refine ⟨_, rfl, _, _, _, _, _, rfl, .ty "list", .base (.lst hl2), (kit_ty (by decide +kernel) : PySem.W.kitOne K (.type "list") (.type "list") = some true), _, rfl, iteF ?_⟩
          refine ⟨_, rfl, l2, _, rfl, .inl (SqL.of hl2), _, rfl, l, _, rfl, .inl (SqL.of hl5), rfl, _, rfl, iteNS (by rw [List.length_map, List.length_map, hk2.1, hR5.1]) ?_⟩
          refine ⟨_, rfl, l, _, rfl, .inl (SqL.of hl5), ((ks.map V.ref).length : Int), rfl, by omega, (by rw [List.length_map]; omega), for_range (lo := 0) (n := (((ks.map V.ref).length : Nat) : Int).toNat) (fun i σ H' => ∃ y : Option V, σ = [some (.ref a), some (.ref d), some (.str z), some (.ref l), some .non, some (.ref l2), some .non, none, y] ∧ H' = H5) ⟨none, rfl, rfl⟩ ?_ ?_⟩
          · rintro i σ H' hi ⟨y, rfl, rfl⟩
            have hi1 : i < ks.length := by
              rw [List.length_map] at hi
              omega
            have hi2 : i < ks2.length := by rw [hk2.1, ← hR5.1]; exact hi1
            have hi3 : i < ts.length := by rw [← hR5.1]; exact hi1
            have g1 : (ks.map V.ref)[i]? = some (.ref ks[i]) := by rw [List.getElem?_map, List.getElem?_eq_getElem hi1]; rfl
            have g2 : (ks2.map V.ref)[i]? = some (.ref ks2[i]) := by rw [List.getElem?_map, List.getElem?_eq_getElem hi2]; rfl
            obtain ⟨z1, k1, e1⟩ := hR5.2 i _ _ (List.getElem?_eq_getElem hi1) (List.getElem?_eq_getElem hi3)
            obtain ⟨dx, z2, k2, e2⟩ := hk2.2 i _ _ (List.getElem?_eq_getElem hi2) (List.getElem?_eq_getElem hi3)
            have ez : z2 = z1 := ext_tl (e2.trans e1.symm)
            subst ez
            have n1 : ¬ ("role" : Str) = "place" := by decide +kernel
            have n2 : ¬ ("role" : Str) = "text" := by decide +kernel
            have n3 : ¬ ("text" : Str) = "place" := by decide +kernel
            refine ⟨_, rfl, _, rfl, l2, _, 0 + (i : Int), _, rfl, rfl, SqL.of hl2, at_of (j := i) (by omega) g2, ks2[i], _, dx, _, _, rfl, k2, T.cl_Token, T.na_Token_role, f3_1 _ _ _ n1 n2,
              _, rfl, _, rfl, l, _, 0 + (i : Int), _, rfl, rfl, SqL.of hl5, at_of (j := i) (by omega) g1, ks[i], _, 0, _, rfl, rfl, SqT.of k1, atI_nat (j := 0) rfl, rfl, _, rfl, iteNS rfl ?_⟩
            refine ⟨_, rfl, _, rfl, l2, _, 0 + (i : Int), _, rfl, rfl, SqL.of hl2, at_of (j := i) (by omega) g2, ks2[i], _, dx, _, _, rfl, k2, T.cl_Token, T.na_Token_text, f3_2 _ _ _ n3,
              _, rfl, _, rfl, l, _, 0 + (i : Int), _, rfl, rfl, SqL.of hl5, at_of (j := i) (by omega) g1, ks[i], _, 1, _, rfl, rfl, SqT.of k1, atI_nat (j := 1) rfl, rfl, _, rfl, iteNS rfl ?_⟩
            refine ⟨_, rfl, _, rfl, l2, _, 0 + (i : Int), _, rfl, rfl, SqL.of hl2, at_of (j := i) (by omega) g2, ks2[i], _, dx, _, _, rfl, k2, T.cl_Token, T.na_Token_place, f3_3 _ _ _,
              _, rfl, _, rfl, l, _, 0 + (i : Int), _, rfl, rfl, SqL.of hl5, at_of (j := i) (by omega) g1, ks[i], _, 2, _, rfl, rfl, SqT.of k1, atI_nat (j := 2) rfl, rfl, _, rfl, iteNS rfl ?_⟩
            exact ⟨_, rfl, rfl⟩
          · rintro σ H' ⟨y, rfl, rfl⟩
            exact q _
        · cases e
      · -- a fault
        rcases ho with ⟨l2, ks2, ts2, rfl, rfl, e, hl2, hk2⟩ | ⟨rt, p2, r2', rfl, rfl, e, hrt⟩
        · cases e
        · cases e
          have hf5 := s5 _ _ hff
          refine ⟨_, rfl, rfl, _, rfl, iteT ?_⟩
          refine ⟨_, rfl, rfl, _, rfl, iteT ?_⟩
          refine ⟨_, rfl, rt, _, 0, _, rfl, rfl, SqT.of hrt, atI_nat (j := 0) rfl, _, rfl, f, _, 0, _, rfl, rfl, SqT.of hf5, atI_nat (j := 0) rfl, rfl, _, rfl, ite2 (fun _ => ?_) (fun e => absurd (decide_eq_true rfl) e)⟩
          refine ⟨_, rfl, rt, _, 1, _, rfl, rfl, SqT.of hrt, atI_nat (j := 1) rfl, _, rfl, f, _, 1, _, rfl, rfl, SqT.of hf5, atI_nat (j := 1) rfl, rfl, ?_⟩
          show Q (.bl (decide (V.str r = V.str r))) H5
          rw [decide_eq_true rfl]
          exact q _
end
section
theorem mk_txt {K : PySem.W.Frag} {h : Heap} {mg : Str → Option Value} (X : K.In h) (G : h.Ns mainGlobals mg) {C_HeapError C_Fault C_Token f_Fault___init__ f_Token___init__ f_tokens f_behind_blanks f_token_at f_behind_run f_word_at f_number_at f_quoted_at f_may_stand f_sign_at f__law_cells f__law_draw f__law_pick f__law_text f__law_is_letter f__law_is_digit f__law_run f__law_quoted f__law_one f__law_due f_law : Addr}
    {od0 an0 od1 an1 od2 an2 od3 an3 od4 an4 od5 an5 od6 an6 od7 an7 od8 an8 od9 an9 od10 an10 od11 an11 od12 an12 od13 an13 od14 an14 od15 an15 od16 an16 od17 an17 od18 an18 od19 an19 od20 an20 od21 an21 : Option Addr} {sl0 sl1 sl2 sl3 sl4 sl5 sl6 sl7 sl8 sl9 sl10 sl11 sl12 sl13 sl14 sl15 sl16 sl17 sl18 sl19 sl20 sl21 : Array (Option Value)} {oc0 kV0 dc0 pm0 cd0 ct0 oc1 kV1 dc1 pm1 cd1 ct1 oc2 kV2 dc2 pm2 cd2 ct2 oc3 kV3 dc3 pm3 cd3 ct3 oc4 kV4 dc4 pm4 cd4 ct4 oc5 kV5 dc5 pm5 cd5 ct5 oc6 kV6 dc6 pm6 cd6 ct6 oc7 kV7 dc7 pm7 cd7 ct7 oc8 kV8 dc8 pm8 cd8 ct8 oc9 kV9 dc9 pm9 cd9 ct9 oc10 kV10 dc10 pm10 cd10 ct10 oc11 kV11 dc11 pm11 cd11 ct11 oc12 kV12 dc12 pm12 cd12 ct12 oc13 kV13 dc13 pm13 cd13 ct13 oc14 kV14 dc14 pm14 cd14 ct14 oc15 kV15 dc15 pm15 cd15 ct15 oc16 kV16 dc16 pm16 cd16 ct16 oc17 kV17 dc17 pm17 cd17 ct17 oc18 kV18 dc18 pm18 cd18 ct18 oc19 kV19 dc19 pm19 cd19 ct19 oc20 kV20 dc20 pm20 cd20 ct20 oc21 kV21 dc21 pm21 cd21 ct21 : Value} {xnm xq : Str} {xN : Addr} {xbs : List Value} {xsn : List Str} {xsub : List Value} {xab : Bool} {xcol : Option Bool} {xdd : Option Addr} {xm0 xm1 xm2 xm3 xm5 : Option Value} {tc_LETTERS tc_DIGITS tc_WORD_SIGNS tc_QUOTE tc_BACKSLASH tc_PERCENT_CODE tc_LONGEST_WORD tc_LONGEST_NUMBER : Tok}
    (a_HeapError : PySem.W.nsIn K mainGlobals "HeapError" = some (some (.ref C_HeapError)))
    (a_Fault : PySem.W.nsIn K mainGlobals "Fault" = some (some (.ref C_Fault)))
    (a_Token : PySem.W.nsIn K mainGlobals "Token" = some (some (.ref C_Token)))
    (a_Fault___init__ : PySem.W.findIn K (.ref C_Fault) "__init__" = some (some (.ref f_Fault___init__)))
    (i_Fault___init__ : PySem.W.isFn K (.ref f_Fault___init__) = true)
    (l_Fault___init__ : K.lookup f_Fault___init__ = some ⟨oc0, od0, .func (PySem.W.fnOf "__init__" "Fault.__init__" (defArgs (inClass (topS 2) 0)) (defBody (inClass (topS 2) 0)) (defScope (inClass (topS 2) 0)) .none kV0 dc0 pm0 an0 cd0 ct0), sl0⟩)
    (c_Fault___init__ : PySem.W.codeIn K cd0 "Fault.__init__" = true)
    (k_Fault___init__ : PySem.W.keepIn K (.ref f_Fault___init__) = true)
    (a_Token___init__ : PySem.W.findIn K (.ref C_Token) "__init__" = some (some (.ref f_Token___init__)))
    (i_Token___init__ : PySem.W.isFn K (.ref f_Token___init__) = true)
    (l_Token___init__ : K.lookup f_Token___init__ = some ⟨oc1, od1, .func (PySem.W.fnOf "__init__" "Token.__init__" (defArgs (inClass (topS 12) 0)) (defBody (inClass (topS 12) 0)) (defScope (inClass (topS 12) 0)) .none kV1 dc1 pm1 an1 cd1 ct1), sl1⟩)
    (c_Token___init__ : PySem.W.codeIn K cd1 "Token.__init__" = true)
    (k_Token___init__ : PySem.W.keepIn K (.ref f_Token___init__) = true)
    (a_tokens : PySem.W.nsIn K mainGlobals "tokens" = some (some (.ref f_tokens)))
    (l_tokens : K.lookup f_tokens = some ⟨oc2, od2, .func (PySem.W.fnOf "tokens" "tokens" (defArgs (topS 13)) (defBody (topS 13)) (defScope (topS 13)) .none kV2 dc2 pm2 an2 cd2 ct2), sl2⟩)
    (c_tokens : PySem.W.codeIn K cd2 "tokens" = true)
    (k_tokens : PySem.W.keepIn K (.ref f_tokens) = true)
    (a_behind_blanks : PySem.W.nsIn K mainGlobals "behind_blanks" = some (some (.ref f_behind_blanks)))
    (l_behind_blanks : K.lookup f_behind_blanks = some ⟨oc3, od3, .func (PySem.W.fnOf "behind_blanks" "behind_blanks" (defArgs (topS 14)) (defBody (topS 14)) (defScope (topS 14)) .none kV3 dc3 pm3 an3 cd3 ct3), sl3⟩)
    (c_behind_blanks : PySem.W.codeIn K cd3 "behind_blanks" = true)
    (k_behind_blanks : PySem.W.keepIn K (.ref f_behind_blanks) = true)
    (a_token_at : PySem.W.nsIn K mainGlobals "token_at" = some (some (.ref f_token_at)))
    (l_token_at : K.lookup f_token_at = some ⟨oc4, od4, .func (PySem.W.fnOf "token_at" "token_at" (defArgs (topS 15)) (defBody (topS 15)) (defScope (topS 15)) .none kV4 dc4 pm4 an4 cd4 ct4), sl4⟩)
    (c_token_at : PySem.W.codeIn K cd4 "token_at" = true)
    (k_token_at : PySem.W.keepIn K (.ref f_token_at) = true)
    (a_behind_run : PySem.W.nsIn K mainGlobals "behind_run" = some (some (.ref f_behind_run)))
    (l_behind_run : K.lookup f_behind_run = some ⟨oc5, od5, .func (PySem.W.fnOf "behind_run" "behind_run" (defArgs (topS 16)) (defBody (topS 16)) (defScope (topS 16)) .none kV5 dc5 pm5 an5 cd5 ct5), sl5⟩)
    (c_behind_run : PySem.W.codeIn K cd5 "behind_run" = true)
    (k_behind_run : PySem.W.keepIn K (.ref f_behind_run) = true)
    (a_word_at : PySem.W.nsIn K mainGlobals "word_at" = some (some (.ref f_word_at)))
    (l_word_at : K.lookup f_word_at = some ⟨oc6, od6, .func (PySem.W.fnOf "word_at" "word_at" (defArgs (topS 17)) (defBody (topS 17)) (defScope (topS 17)) .none kV6 dc6 pm6 an6 cd6 ct6), sl6⟩)
    (c_word_at : PySem.W.codeIn K cd6 "word_at" = true)
    (k_word_at : PySem.W.keepIn K (.ref f_word_at) = true)
    (a_number_at : PySem.W.nsIn K mainGlobals "number_at" = some (some (.ref f_number_at)))
    (l_number_at : K.lookup f_number_at = some ⟨oc7, od7, .func (PySem.W.fnOf "number_at" "number_at" (defArgs (topS 18)) (defBody (topS 18)) (defScope (topS 18)) .none kV7 dc7 pm7 an7 cd7 ct7), sl7⟩)
    (c_number_at : PySem.W.codeIn K cd7 "number_at" = true)
    (k_number_at : PySem.W.keepIn K (.ref f_number_at) = true)
    (a_quoted_at : PySem.W.nsIn K mainGlobals "quoted_at" = some (some (.ref f_quoted_at)))
    (l_quoted_at : K.lookup f_quoted_at = some ⟨oc8, od8, .func (PySem.W.fnOf "quoted_at" "quoted_at" (defArgs (topS 19)) (defBody (topS 19)) (defScope (topS 19)) .none kV8 dc8 pm8 an8 cd8 ct8), sl8⟩)
    (c_quoted_at : PySem.W.codeIn K cd8 "quoted_at" = true)
    (k_quoted_at : PySem.W.keepIn K (.ref f_quoted_at) = true)
    (a_may_stand : PySem.W.nsIn K mainGlobals "may_stand" = some (some (.ref f_may_stand)))
    (l_may_stand : K.lookup f_may_stand = some ⟨oc9, od9, .func (PySem.W.fnOf "may_stand" "may_stand" (defArgs (topS 20)) (defBody (topS 20)) (defScope (topS 20)) .none kV9 dc9 pm9 an9 cd9 ct9), sl9⟩)
    (c_may_stand : PySem.W.codeIn K cd9 "may_stand" = true)
    (k_may_stand : PySem.W.keepIn K (.ref f_may_stand) = true)
    (a_sign_at : PySem.W.nsIn K mainGlobals "sign_at" = some (some (.ref f_sign_at)))
    (l_sign_at : K.lookup f_sign_at = some ⟨oc10, od10, .func (PySem.W.fnOf "sign_at" "sign_at" (defArgs (topS 21)) (defBody (topS 21)) (defScope (topS 21)) .none kV10 dc10 pm10 an10 cd10 ct10), sl10⟩)
    (c_sign_at : PySem.W.codeIn K cd10 "sign_at" = true)
    (k_sign_at : PySem.W.keepIn K (.ref f_sign_at) = true)
    (a__law_cells : PySem.W.nsIn K mainGlobals "_law_cells" = some (some (.ref f__law_cells)))
    (l__law_cells : K.lookup f__law_cells = some ⟨oc11, od11, .func (PySem.W.fnOf "_law_cells" "_law_cells" (defArgs (topS 23)) (defBody (topS 23)) (defScope (topS 23)) .none kV11 dc11 pm11 an11 cd11 ct11), sl11⟩)
    (c__law_cells : PySem.W.codeIn K cd11 "_law_cells" = true)
    (k__law_cells : PySem.W.keepIn K (.ref f__law_cells) = true)
    (a__law_draw : PySem.W.nsIn K mainGlobals "_law_draw" = some (some (.ref f__law_draw)))
    (l__law_draw : K.lookup f__law_draw = some ⟨oc12, od12, .func (PySem.W.fnOf "_law_draw" "_law_draw" (defArgs (topS 24)) (defBody (topS 24)) (defScope (topS 24)) .none kV12 dc12 pm12 an12 cd12 ct12), sl12⟩)
    (c__law_draw : PySem.W.codeIn K cd12 "_law_draw" = true)
    (k__law_draw : PySem.W.keepIn K (.ref f__law_draw) = true)
    (a__law_pick : PySem.W.nsIn K mainGlobals "_law_pick" = some (some (.ref f__law_pick)))
    (l__law_pick : K.lookup f__law_pick = some ⟨oc13, od13, .func (PySem.W.fnOf "_law_pick" "_law_pick" (defArgs (topS 25)) (defBody (topS 25)) (defScope (topS 25)) .none kV13 dc13 pm13 an13 cd13 ct13), sl13⟩)
    (c__law_pick : PySem.W.codeIn K cd13 "_law_pick" = true)
    (k__law_pick : PySem.W.keepIn K (.ref f__law_pick) = true)
    (a__law_text : PySem.W.nsIn K mainGlobals "_law_text" = some (some (.ref f__law_text)))
    (l__law_text : K.lookup f__law_text = some ⟨oc14, od14, .func (PySem.W.fnOf "_law_text" "_law_text" (defArgs (topS 26)) (defBody (topS 26)) (defScope (topS 26)) .none kV14 dc14 pm14 an14 cd14 ct14), sl14⟩)
    (c__law_text : PySem.W.codeIn K cd14 "_law_text" = true)
    (k__law_text : PySem.W.keepIn K (.ref f__law_text) = true)
    (a__law_is_letter : PySem.W.nsIn K mainGlobals "_law_is_letter" = some (some (.ref f__law_is_letter)))
    (l__law_is_letter : K.lookup f__law_is_letter = some ⟨oc15, od15, .func (PySem.W.fnOf "_law_is_letter" "_law_is_letter" (defArgs (topS 27)) (defBody (topS 27)) (defScope (topS 27)) .none kV15 dc15 pm15 an15 cd15 ct15), sl15⟩)
    (c__law_is_letter : PySem.W.codeIn K cd15 "_law_is_letter" = true)
    (k__law_is_letter : PySem.W.keepIn K (.ref f__law_is_letter) = true)
    (a__law_is_digit : PySem.W.nsIn K mainGlobals "_law_is_digit" = some (some (.ref f__law_is_digit)))
    (l__law_is_digit : K.lookup f__law_is_digit = some ⟨oc16, od16, .func (PySem.W.fnOf "_law_is_digit" "_law_is_digit" (defArgs (topS 28)) (defBody (topS 28)) (defScope (topS 28)) .none kV16 dc16 pm16 an16 cd16 ct16), sl16⟩)
    (c__law_is_digit : PySem.W.codeIn K cd16 "_law_is_digit" = true)
    (k__law_is_digit : PySem.W.keepIn K (.ref f__law_is_digit) = true)
    (a__law_run : PySem.W.nsIn K mainGlobals "_law_run" = some (some (.ref f__law_run)))
    (l__law_run : K.lookup f__law_run = some ⟨oc17, od17, .func (PySem.W.fnOf "_law_run" "_law_run" (defArgs (topS 29)) (defBody (topS 29)) (defScope (topS 29)) .none kV17 dc17 pm17 an17 cd17 ct17), sl17⟩)
    (c__law_run : PySem.W.codeIn K cd17 "_law_run" = true)
    (k__law_run : PySem.W.keepIn K (.ref f__law_run) = true)
    (a__law_quoted : PySem.W.nsIn K mainGlobals "_law_quoted" = some (some (.ref f__law_quoted)))
    (l__law_quoted : K.lookup f__law_quoted = some ⟨oc18, od18, .func (PySem.W.fnOf "_law_quoted" "_law_quoted" (defArgs (topS 30)) (defBody (topS 30)) (defScope (topS 30)) .none kV18 dc18 pm18 an18 cd18 ct18), sl18⟩)
    (c__law_quoted : PySem.W.codeIn K cd18 "_law_quoted" = true)
    (k__law_quoted : PySem.W.keepIn K (.ref f__law_quoted) = true)
    (a__law_one : PySem.W.nsIn K mainGlobals "_law_one" = some (some (.ref f__law_one)))
    (l__law_one : K.lookup f__law_one = some ⟨oc19, od19, .func (PySem.W.fnOf "_law_one" "_law_one" (defArgs (topS 31)) (defBody (topS 31)) (defScope (topS 31)) .none kV19 dc19 pm19 an19 cd19 ct19), sl19⟩)
    (c__law_one : PySem.W.codeIn K cd19 "_law_one" = true)
    (k__law_one : PySem.W.keepIn K (.ref f__law_one) = true)
    (a__law_due : PySem.W.nsIn K mainGlobals "_law_due" = some (some (.ref f__law_due)))
    (l__law_due : K.lookup f__law_due = some ⟨oc20, od20, .func (PySem.W.fnOf "_law_due" "_law_due" (defArgs (topS 32)) (defBody (topS 32)) (defScope (topS 32)) .none kV20 dc20 pm20 an20 cd20 ct20), sl20⟩)
    (c__law_due : PySem.W.codeIn K cd20 "_law_due" = true)
    (k__law_due : PySem.W.keepIn K (.ref f__law_due) = true)
    (a_law : PySem.W.nsIn K mainGlobals "law" = some (some (.ref f_law)))
    (l_law : K.lookup f_law = some ⟨oc21, od21, .func (PySem.W.fnOf "law" "law" (defArgs (topS 33)) (defBody (topS 33)) (defScope (topS 33)) .none kV21 dc21 pm21 an21 cd21 ct21), sl21⟩)
    (c_law : PySem.W.codeIn K cd21 "law" = true)
    (k_law : PySem.W.keepIn K (.ref f_law) = true)
    (pg_Token : PySem.W.plainGet K C_Token Str.empty = true)
    (hd_Token : PySem.W.hasDictIn K C_Token = true)
    (po_Token : PySem.W.plainOver K C_Token = true)
    (sa_Token : PySem.W.findIn K (.ref C_Token) "__setattr__" = some (some (.builtin "object.__setattr__")))
    (mk_Token : PySem.W.makesIn K C_Token = true)
    (kc_Token : PySem.W.keepIn K (.ref C_Token) = true)
    (na_Token_role : PySem.W.findIn K (.ref C_Token) "role" = some none)
    (na_Token_text : PySem.W.findIn K (.ref C_Token) "text" = some none)
    (na_Token_place : PySem.W.findIn K (.ref C_Token) "place" = some none)
    (z_len : PySem.W.nsIn K mainGlobals "len" = some none)
    (z_int : PySem.W.nsIn K mainGlobals "int" = some none)
    (z_range : PySem.W.nsIn K mainGlobals "range" = some none)
    (z_list : PySem.W.nsIn K mainGlobals "list" = some none)
    (z_ord : PySem.W.nsIn K mainGlobals "ord" = some none)
    (z_isinstance : PySem.W.nsIn K mainGlobals "isinstance" = some none)
    (z_ValueError : PySem.W.nsIn K mainGlobals "ValueError" = some none)
    (zc_LETTERS : PySem.W.nsIn K mainGlobals "LETTERS" = some (some (.str "abcdefghijklmnopqrstuvwxyzABCDEFGHIJKLMNOPQRSTUVWXYZ" tc_LETTERS)))
    (zc_DIGITS : PySem.W.nsIn K mainGlobals "DIGITS" = some (some (.str "0123456789" tc_DIGITS)))
    (zc_WORD_SIGNS : PySem.W.nsIn K mainGlobals "WORD_SIGNS" = some (some (.str "abcdefghijklmnopqrstuvwxyzABCDEFGHIJKLMNOPQRSTUVWXYZ0123456789_" tc_WORD_SIGNS)))
    (zc_QUOTE : PySem.W.nsIn K mainGlobals "QUOTE" = some (some (.str "\"" tc_QUOTE)))
    (zc_BACKSLASH : PySem.W.nsIn K mainGlobals "BACKSLASH" = some (some (.str "\\" tc_BACKSLASH)))
    (zc_PERCENT_CODE : PySem.W.nsIn K mainGlobals "PERCENT_CODE" = some (some (.int 37 tc_PERCENT_CODE)))
    (zc_LONGEST_WORD : PySem.W.nsIn K mainGlobals "LONGEST_WORD" = some (some (.int 12 tc_LONGEST_WORD)))
    (zc_LONGEST_NUMBER : PySem.W.nsIn K mainGlobals "LONGEST_NUMBER" = some (some (.int 18 tc_LONGEST_NUMBER)))
    (xL : K.lookup C_Fault = some (excClassObj xnm xq C_Fault xN xbs [.ref C_HeapError, .type "ValueError", .type "Exception", .type "BaseException", .type "object"] true xsn xsub xab xcol xdd xm0 xm1 xm2 xm3 xm5 "ValueError.__new__"))
    (xsa : PySem.W.findIn K (.ref C_Fault) "__setattr__" = some (some (.builtin "object.__setattr__")))
    (xga : PySem.W.findIn K (.ref C_Fault) "__getattribute__" = some (some (.builtin "BaseException.__getattribute__")))
    (xgg : PySem.W.findIn K (.ref C_Fault) "__getattr__" = some none)
    (xnp : PySem.W.findIn K (.ref C_Fault) "place" = some none)
    (xnr : PySem.W.findIn K (.ref C_Fault) "reason" = some none)
    (xti : PySem.W.typeIn K (.ref f_Fault___init__) = some (.type "function"))
    (xkC : PySem.W.keepIn K (.ref C_Fault) = true)
    (xeC : PySem.W.subIn K (.ref C_Fault) (.type "BaseException") = some true)
    (xtC : PySem.W.typeIn K (.ref C_Fault) = some (.type "type"))
    (xhC : PySem.W.hasDictIn K C_Fault = true)
    (xiC : PySem.W.isClsIn K C_Fault = true)
    (xsC : PySem.W.subIn K (.ref C_Fault) (.ref C_Fault) = some true)
    (xac : PySem.W.findIn K (.ref C_Fault) "__class__" = some (some (.builtin "object.__class__")))
    (xmr : PySem.W.mroIn K C_Fault (.type "object") = some true)
    (xon : PySem.W.specialIn K (.builtin "object.__class__") "__get__" = some (some (.builtin "getset_descriptor.__get__")))
    (xot : PySem.W.takesIn K (.builtin "object.__class__") = some true)
    (xiH : PySem.W.isClsIn K C_HeapError = true)
    (xtH : PySem.W.typeIn K (.ref C_HeapError) = some (.type "type"))
    (xsH : PySem.W.subIn K (.ref C_Fault) (.ref C_HeapError) = some true)
    (ne_FH : (Value.ref C_Fault == Value.ref C_HeapError) = false)
    (xsV : PySem.W.subIn K (.ref C_Fault) (.type "ValueError") = some true)
    : Txt K mg ⟨C_HeapError, C_Fault, C_Token, f_Fault___init__, (PySem.W.fnOf "__init__" "Fault.__init__" (defArgs (inClass (topS 2) 0)) (defBody (inClass (topS 2) 0)) (defScope (inClass (topS 2) 0)) .none kV0 dc0 pm0 an0 cd0 ct0), f_Token___init__, (PySem.W.fnOf "__init__" "Token.__init__" (defArgs (inClass (topS 12) 0)) (defBody (inClass (topS 12) 0)) (defScope (inClass (topS 12) 0)) .none kV1 dc1 pm1 an1 cd1 ct1), f_tokens, (PySem.W.fnOf "tokens" "tokens" (defArgs (topS 13)) (defBody (topS 13)) (defScope (topS 13)) .none kV2 dc2 pm2 an2 cd2 ct2), f_behind_blanks, (PySem.W.fnOf "behind_blanks" "behind_blanks" (defArgs (topS 14)) (defBody (topS 14)) (defScope (topS 14)) .none kV3 dc3 pm3 an3 cd3 ct3), f_token_at, (PySem.W.fnOf "token_at" "token_at" (defArgs (topS 15)) (defBody (topS 15)) (defScope (topS 15)) .none kV4 dc4 pm4 an4 cd4 ct4), f_behind_run, (PySem.W.fnOf "behind_run" "behind_run" (defArgs (topS 16)) (defBody (topS 16)) (defScope (topS 16)) .none kV5 dc5 pm5 an5 cd5 ct5), f_word_at, (PySem.W.fnOf "word_at" "word_at" (defArgs (topS 17)) (defBody (topS 17)) (defScope (topS 17)) .none kV6 dc6 pm6 an6 cd6 ct6), f_number_at, (PySem.W.fnOf "number_at" "number_at" (defArgs (topS 18)) (defBody (topS 18)) (defScope (topS 18)) .none kV7 dc7 pm7 an7 cd7 ct7), f_quoted_at, (PySem.W.fnOf "quoted_at" "quoted_at" (defArgs (topS 19)) (defBody (topS 19)) (defScope (topS 19)) .none kV8 dc8 pm8 an8 cd8 ct8), f_may_stand, (PySem.W.fnOf "may_stand" "may_stand" (defArgs (topS 20)) (defBody (topS 20)) (defScope (topS 20)) .none kV9 dc9 pm9 an9 cd9 ct9), f_sign_at, (PySem.W.fnOf "sign_at" "sign_at" (defArgs (topS 21)) (defBody (topS 21)) (defScope (topS 21)) .none kV10 dc10 pm10 an10 cd10 ct10), f__law_cells, (PySem.W.fnOf "_law_cells" "_law_cells" (defArgs (topS 23)) (defBody (topS 23)) (defScope (topS 23)) .none kV11 dc11 pm11 an11 cd11 ct11), f__law_draw, (PySem.W.fnOf "_law_draw" "_law_draw" (defArgs (topS 24)) (defBody (topS 24)) (defScope (topS 24)) .none kV12 dc12 pm12 an12 cd12 ct12), f__law_pick, (PySem.W.fnOf "_law_pick" "_law_pick" (defArgs (topS 25)) (defBody (topS 25)) (defScope (topS 25)) .none kV13 dc13 pm13 an13 cd13 ct13), f__law_text, (PySem.W.fnOf "_law_text" "_law_text" (defArgs (topS 26)) (defBody (topS 26)) (defScope (topS 26)) .none kV14 dc14 pm14 an14 cd14 ct14), f__law_is_letter, (PySem.W.fnOf "_law_is_letter" "_law_is_letter" (defArgs (topS 27)) (defBody (topS 27)) (defScope (topS 27)) .none kV15 dc15 pm15 an15 cd15 ct15), f__law_is_digit, (PySem.W.fnOf "_law_is_digit" "_law_is_digit" (defArgs (topS 28)) (defBody (topS 28)) (defScope (topS 28)) .none kV16 dc16 pm16 an16 cd16 ct16), f__law_run, (PySem.W.fnOf "_law_run" "_law_run" (defArgs (topS 29)) (defBody (topS 29)) (defScope (topS 29)) .none kV17 dc17 pm17 an17 cd17 ct17), f__law_quoted, (PySem.W.fnOf "_law_quoted" "_law_quoted" (defArgs (topS 30)) (defBody (topS 30)) (defScope (topS 30)) .none kV18 dc18 pm18 an18 cd18 ct18), f__law_one, (PySem.W.fnOf "_law_one" "_law_one" (defArgs (topS 31)) (defBody (topS 31)) (defScope (topS 31)) .none kV19 dc19 pm19 an19 cd19 ct19), f__law_due, (PySem.W.fnOf "_law_due" "_law_due" (defArgs (topS 32)) (defBody (topS 32)) (defScope (topS 32)) .none kV20 dc20 pm20 an20 cd20 ct20), f_law, (PySem.W.fnOf "law" "law" (defArgs (topS 33)) (defBody (topS 33)) (defScope (topS 33)) .none kV21 dc21 pm21 an21 cd21 ct21)⟩ := by
  have F0 := fun_mk (st := (inClass (topS 2) 0)) l_Fault___init__ c_Fault___init__ k_Fault___init__
  have b0 := F0.binds (ps := ["self", "place", "reason"]) fun _ _ _ _ _ _ us hl => match us, hl with | [_, _, _], _ => rfl
  have F1 := fun_mk (st := (inClass (topS 12) 0)) l_Token___init__ c_Token___init__ k_Token___init__
  have b1 := F1.binds (ps := ["self", "role", "text", "place"]) fun _ _ _ _ _ _ us hl => match us, hl with | [_, _, _, _], _ => rfl
  have F2 := fun_mk (st := (topS 13)) l_tokens c_tokens k_tokens
  have b2 := F2.binds (ps := ["text", "signs", "longest"]) fun _ _ _ _ _ _ us hl => match us, hl with | [_, _, _], _ => rfl
  have F3 := fun_mk (st := (topS 14)) l_behind_blanks c_behind_blanks k_behind_blanks
  have b3 := F3.binds (ps := ["text", "at"]) fun _ _ _ _ _ _ us hl => match us, hl with | [_, _], _ => rfl
  have F4 := fun_mk (st := (topS 15)) l_token_at c_token_at k_token_at
  have b4 := F4.binds (ps := ["text", "at", "signs"]) fun _ _ _ _ _ _ us hl => match us, hl with | [_, _, _], _ => rfl
  have F5 := fun_mk (st := (topS 16)) l_behind_run c_behind_run k_behind_run
  have b5 := F5.binds (ps := ["text", "at", "allowed"]) fun _ _ _ _ _ _ us hl => match us, hl with | [_, _, _], _ => rfl
  have F6 := fun_mk (st := (topS 17)) l_word_at c_word_at k_word_at
  have b6 := F6.binds (ps := ["text", "at"]) fun _ _ _ _ _ _ us hl => match us, hl with | [_, _], _ => rfl
  have F7 := fun_mk (st := (topS 18)) l_number_at c_number_at k_number_at
  have b7 := F7.binds (ps := ["text", "at"]) fun _ _ _ _ _ _ us hl => match us, hl with | [_, _], _ => rfl
  have F8 := fun_mk (st := (topS 19)) l_quoted_at c_quoted_at k_quoted_at
  have b8 := F8.binds (ps := ["text", "start"]) fun _ _ _ _ _ _ us hl => match us, hl with | [_, _], _ => rfl
  have F9 := fun_mk (st := (topS 20)) l_may_stand c_may_stand k_may_stand
  have b9 := F9.binds (ps := ["character", "escaped"]) fun _ _ _ _ _ _ us hl => match us, hl with | [_, _], _ => rfl
  have F10 := fun_mk (st := (topS 21)) l_sign_at c_sign_at k_sign_at
  have b10 := F10.binds (ps := ["text", "at", "signs"]) fun _ _ _ _ _ _ us hl => match us, hl with | [_, _, _], _ => rfl
  have F11 := fun_mk (st := (topS 23)) l__law_cells c__law_cells k__law_cells
  have b11 := F11.binds (ps := ["script", "count"]) fun _ _ _ _ _ _ us hl => match us, hl with | [_, _], _ => rfl
  have F12 := fun_mk (st := (topS 24)) l__law_draw c__law_draw k__law_draw
  have b12 := F12.binds (ps := ["draws", "bound"]) fun _ _ _ _ _ _ us hl => match us, hl with | [_, _], _ => rfl
  have F13 := fun_mk (st := (topS 25)) l__law_pick c__law_pick k__law_pick
  have b13 := F13.binds (ps := ["draws", "row"]) fun _ _ _ _ _ _ us hl => match us, hl with | [_, _], _ => rfl
  have F14 := fun_mk (st := (topS 26)) l__law_text c__law_text k__law_text
  have b14 := F14.binds (ps := ["draws"]) fun _ _ _ _ _ _ us hl => match us, hl with | [_], _ => rfl
  have F15 := fun_mk (st := (topS 27)) l__law_is_letter c__law_is_letter k__law_is_letter
  have b15 := F15.binds (ps := ["sign"]) fun _ _ _ _ _ _ us hl => match us, hl with | [_], _ => rfl
  have F16 := fun_mk (st := (topS 28)) l__law_is_digit c__law_is_digit k__law_is_digit
  have b16 := F16.binds (ps := ["sign"]) fun _ _ _ _ _ _ us hl => match us, hl with | [_], _ => rfl
  have F17 := fun_mk (st := (topS 29)) l__law_run c__law_run k__law_run
  have b17 := F17.binds (ps := ["text", "at", "letters"]) fun _ _ _ _ _ _ us hl => match us, hl with | [_, _, _], _ => rfl
  have F18 := fun_mk (st := (topS 30)) l__law_quoted c__law_quoted k__law_quoted
  have b18 := F18.binds (ps := ["text", "at"]) fun _ _ _ _ _ _ us hl => match us, hl with | [_, _], _ => rfl
  have F19 := fun_mk (st := (topS 31)) l__law_one c__law_one k__law_one
  have b19 := F19.binds (ps := ["text", "at"]) fun _ _ _ _ _ _ us hl => match us, hl with | [_, _], _ => rfl
  have F20 := fun_mk (st := (topS 32)) l__law_due c__law_due k__law_due
  have b20 := F20.binds (ps := ["text", "longest"]) fun _ _ _ _ _ _ us hl => match us, hl with | [_, _], _ => rfl
  have F21 := fun_mk (st := (topS 33)) l_law c_law k_law
  have b21 := F21.binds (ps := ["script"]) fun _ _ _ _ _ _ us hl => match us, hl with | [_], _ => rfl
  exact {
    b_len := PySem.W.mg_none_of X G z_len,
    b_int := PySem.W.mg_none_of X G z_int,
    b_range := PySem.W.mg_none_of X G z_range,
    b_list := PySem.W.mg_none_of X G z_list,
    b_ord := PySem.W.mg_none_of X G z_ord,
    b_isinstance := PySem.W.mg_none_of X G z_isinstance,
    b_ValueError := PySem.W.mg_none_of X G z_ValueError,
    g_LETTERS := ⟨_, PySem.W.mg_of X G zc_LETTERS⟩,
    g_DIGITS := ⟨_, PySem.W.mg_of X G zc_DIGITS⟩,
    g_WORD_SIGNS := ⟨_, PySem.W.mg_of X G zc_WORD_SIGNS⟩,
    g_QUOTE := ⟨_, PySem.W.mg_of X G zc_QUOTE⟩,
    g_BACKSLASH := ⟨_, PySem.W.mg_of X G zc_BACKSLASH⟩,
    g_PERCENT_CODE := ⟨_, PySem.W.mg_of X G zc_PERCENT_CODE⟩,
    g_LONGEST_WORD := ⟨_, PySem.W.mg_of X G zc_LONGEST_WORD⟩,
    g_LONGEST_NUMBER := ⟨_, PySem.W.mg_of X G zc_LONGEST_NUMBER⟩,
    g_HeapError := PySem.W.mg_of X G a_HeapError,
    g_Fault := PySem.W.mg_of X G a_Fault,
    g_Token := PySem.W.mg_of X G a_Token,
    cl_Token := ⟨pg_Token, hd_Token, po_Token, sa_Token⟩,
    mk_Token := ⟨mk_Token, a_Token___init__, i_Token___init__, kc_Token⟩,
    na_Token_role := na_Token_role,
    na_Token_text := na_Token_text,
    na_Token_place := na_Token_place,
    F_Fault___init__ := F0,
    b_Fault___init__ := b0,
    F_Token___init__ := F1,
    b_Token___init__ := b1,
    F_tokens := F2,
    b_tokens := b2,
    g_tokens := PySem.W.mg_of X G a_tokens,
    F_behind_blanks := F3,
    b_behind_blanks := b3,
    g_behind_blanks := PySem.W.mg_of X G a_behind_blanks,
    F_token_at := F4,
    b_token_at := b4,
    g_token_at := PySem.W.mg_of X G a_token_at,
    F_behind_run := F5,
    b_behind_run := b5,
    g_behind_run := PySem.W.mg_of X G a_behind_run,
    F_word_at := F6,
    b_word_at := b6,
    g_word_at := PySem.W.mg_of X G a_word_at,
    F_number_at := F7,
    b_number_at := b7,
    g_number_at := PySem.W.mg_of X G a_number_at,
    F_quoted_at := F8,
    b_quoted_at := b8,
    g_quoted_at := PySem.W.mg_of X G a_quoted_at,
    F_may_stand := F9,
    b_may_stand := b9,
    g_may_stand := PySem.W.mg_of X G a_may_stand,
    F_sign_at := F10,
    b_sign_at := b10,
    g_sign_at := PySem.W.mg_of X G a_sign_at,
    F__law_cells := F11,
    b__law_cells := b11,
    g__law_cells := PySem.W.mg_of X G a__law_cells,
    F__law_draw := F12,
    b__law_draw := b12,
    g__law_draw := PySem.W.mg_of X G a__law_draw,
    F__law_pick := F13,
    b__law_pick := b13,
    g__law_pick := PySem.W.mg_of X G a__law_pick,
    F__law_text := F14,
    b__law_text := b14,
    g__law_text := PySem.W.mg_of X G a__law_text,
    F__law_is_letter := F15,
    b__law_is_letter := b15,
    g__law_is_letter := PySem.W.mg_of X G a__law_is_letter,
    F__law_is_digit := F16,
    b__law_is_digit := b16,
    g__law_is_digit := PySem.W.mg_of X G a__law_is_digit,
    F__law_run := F17,
    b__law_run := b17,
    g__law_run := PySem.W.mg_of X G a__law_run,
    F__law_quoted := F18,
    b__law_quoted := b18,
    g__law_quoted := PySem.W.mg_of X G a__law_quoted,
    F__law_one := F19,
    b__law_one := b19,
    g__law_one := PySem.W.mg_of X G a__law_one,
    F__law_due := F20,
    b__law_due := b20,
    g__law_due := PySem.W.mg_of X G a__law_due,
    F_law := F21,
    b_law := b21,
    oex := ⟨⟨_, _, _, _, _, _, _, _, _, _, _, _, _, _, _, xL, by rfl⟩, xsa, xeC, xtC, xkC⟩,
    ic_Fault := a_Fault___init__,
    ti_Fault := xti,
    np_Fault := xnp,
    nr_Fault := xnr,
    xf_Fault := ⟨xga, xgg, xeC, xhC⟩,
    ec_Fault := ⟨xga, xgg, xeC, xhC, xac, xon, xot, xmr⟩,
    em_Fault := exm_own xeC xiC xtC xsC,
    cs_Fault := xiC,
    ih_Fault := kit_own xiH xtH xsH ne_FH,
    iv_Fault := kit_typ xsV }
theorem fin {K : PySem.W.Frag} {h : Heap} {mg : Str → Option Value} {l : PySem.W.OpenLaw} {w : World} {fa : Addr} (X : K.In h) (G : h.Ns mainGlobals mg) (hfa : mg "law" = some (.ref fa)) {C_HeapError C_Fault C_Token f_Fault___init__ f_Token___init__ f_tokens f_behind_blanks f_token_at f_behind_run f_word_at f_number_at f_quoted_at f_may_stand f_sign_at f__law_cells f__law_draw f__law_pick f__law_text f__law_is_letter f__law_is_digit f__law_run f__law_quoted f__law_one f__law_due f_law : Addr}
    {od0 an0 od1 an1 od2 an2 od3 an3 od4 an4 od5 an5 od6 an6 od7 an7 od8 an8 od9 an9 od10 an10 od11 an11 od12 an12 od13 an13 od14 an14 od15 an15 od16 an16 od17 an17 od18 an18 od19 an19 od20 an20 od21 an21 : Option Addr} {sl0 sl1 sl2 sl3 sl4 sl5 sl6 sl7 sl8 sl9 sl10 sl11 sl12 sl13 sl14 sl15 sl16 sl17 sl18 sl19 sl20 sl21 : Array (Option Value)} {oc0 kV0 dc0 pm0 cd0 ct0 oc1 kV1 dc1 pm1 cd1 ct1 oc2 kV2 dc2 pm2 cd2 ct2 oc3 kV3 dc3 pm3 cd3 ct3 oc4 kV4 dc4 pm4 cd4 ct4 oc5 kV5 dc5 pm5 cd5 ct5 oc6 kV6 dc6 pm6 cd6 ct6 oc7 kV7 dc7 pm7 cd7 ct7 oc8 kV8 dc8 pm8 cd8 ct8 oc9 kV9 dc9 pm9 cd9 ct9 oc10 kV10 dc10 pm10 cd10 ct10 oc11 kV11 dc11 pm11 cd11 ct11 oc12 kV12 dc12 pm12 cd12 ct12 oc13 kV13 dc13 pm13 cd13 ct13 oc14 kV14 dc14 pm14 cd14 ct14 oc15 kV15 dc15 pm15 cd15 ct15 oc16 kV16 dc16 pm16 cd16 ct16 oc17 kV17 dc17 pm17 cd17 ct17 oc18 kV18 dc18 pm18 cd18 ct18 oc19 kV19 dc19 pm19 cd19 ct19 oc20 kV20 dc20 pm20 cd20 ct20 oc21 kV21 dc21 pm21 cd21 ct21 : Value} {xnm xq : Str} {xN : Addr} {xbs : List Value} {xsn : List Str} {xsub : List Value} {xab : Bool} {xcol : Option Bool} {xdd : Option Addr} {xm0 xm1 xm2 xm3 xm5 : Option Value} {tc_LETTERS tc_DIGITS tc_WORD_SIGNS tc_QUOTE tc_BACKSLASH tc_PERCENT_CODE tc_LONGEST_WORD tc_LONGEST_NUMBER : Tok}
    (a_HeapError : PySem.W.nsIn K mainGlobals "HeapError" = some (some (.ref C_HeapError)))
    (a_Fault : PySem.W.nsIn K mainGlobals "Fault" = some (some (.ref C_Fault)))
    (a_Token : PySem.W.nsIn K mainGlobals "Token" = some (some (.ref C_Token)))
    (a_Fault___init__ : PySem.W.findIn K (.ref C_Fault) "__init__" = some (some (.ref f_Fault___init__)))
    (i_Fault___init__ : PySem.W.isFn K (.ref f_Fault___init__) = true)
    (l_Fault___init__ : K.lookup f_Fault___init__ = some ⟨oc0, od0, .func (PySem.W.fnOf "__init__" "Fault.__init__" (defArgs (inClass (topS 2) 0)) (defBody (inClass (topS 2) 0)) (defScope (inClass (topS 2) 0)) .none kV0 dc0 pm0 an0 cd0 ct0), sl0⟩)
    (c_Fault___init__ : PySem.W.codeIn K cd0 "Fault.__init__" = true)
    (k_Fault___init__ : PySem.W.keepIn K (.ref f_Fault___init__) = true)
    (a_Token___init__ : PySem.W.findIn K (.ref C_Token) "__init__" = some (some (.ref f_Token___init__)))
    (i_Token___init__ : PySem.W.isFn K (.ref f_Token___init__) = true)
    (l_Token___init__ : K.lookup f_Token___init__ = some ⟨oc1, od1, .func (PySem.W.fnOf "__init__" "Token.__init__" (defArgs (inClass (topS 12) 0)) (defBody (inClass (topS 12) 0)) (defScope (inClass (topS 12) 0)) .none kV1 dc1 pm1 an1 cd1 ct1), sl1⟩)
    (c_Token___init__ : PySem.W.codeIn K cd1 "Token.__init__" = true)
    (k_Token___init__ : PySem.W.keepIn K (.ref f_Token___init__) = true)
    (a_tokens : PySem.W.nsIn K mainGlobals "tokens" = some (some (.ref f_tokens)))
    (l_tokens : K.lookup f_tokens = some ⟨oc2, od2, .func (PySem.W.fnOf "tokens" "tokens" (defArgs (topS 13)) (defBody (topS 13)) (defScope (topS 13)) .none kV2 dc2 pm2 an2 cd2 ct2), sl2⟩)
    (c_tokens : PySem.W.codeIn K cd2 "tokens" = true)
    (k_tokens : PySem.W.keepIn K (.ref f_tokens) = true)
    (a_behind_blanks : PySem.W.nsIn K mainGlobals "behind_blanks" = some (some (.ref f_behind_blanks)))
    (l_behind_blanks : K.lookup f_behind_blanks = some ⟨oc3, od3, .func (PySem.W.fnOf "behind_blanks" "behind_blanks" (defArgs (topS 14)) (defBody (topS 14)) (defScope (topS 14)) .none kV3 dc3 pm3 an3 cd3 ct3), sl3⟩)
    (c_behind_blanks : PySem.W.codeIn K cd3 "behind_blanks" = true)
    (k_behind_blanks : PySem.W.keepIn K (.ref f_behind_blanks) = true)
    (a_token_at : PySem.W.nsIn K mainGlobals "token_at" = some (some (.ref f_token_at)))
    (l_token_at : K.lookup f_token_at = some ⟨oc4, od4, .func (PySem.W.fnOf "token_at" "token_at" (defArgs (topS 15)) (defBody (topS 15)) (defScope (topS 15)) .none kV4 dc4 pm4 an4 cd4 ct4), sl4⟩)
    (c_token_at : PySem.W.codeIn K cd4 "token_at" = true)
    (k_token_at : PySem.W.keepIn K (.ref f_token_at) = true)
    (a_behind_run : PySem.W.nsIn K mainGlobals "behind_run" = some (some (.ref f_behind_run)))
    (l_behind_run : K.lookup f_behind_run = some ⟨oc5, od5, .func (PySem.W.fnOf "behind_run" "behind_run" (defArgs (topS 16)) (defBody (topS 16)) (defScope (topS 16)) .none kV5 dc5 pm5 an5 cd5 ct5), sl5⟩)
    (c_behind_run : PySem.W.codeIn K cd5 "behind_run" = true)
    (k_behind_run : PySem.W.keepIn K (.ref f_behind_run) = true)
    (a_word_at : PySem.W.nsIn K mainGlobals "word_at" = some (some (.ref f_word_at)))
    (l_word_at : K.lookup f_word_at = some ⟨oc6, od6, .func (PySem.W.fnOf "word_at" "word_at" (defArgs (topS 17)) (defBody (topS 17)) (defScope (topS 17)) .none kV6 dc6 pm6 an6 cd6 ct6), sl6⟩)
    (c_word_at : PySem.W.codeIn K cd6 "word_at" = true)
    (k_word_at : PySem.W.keepIn K (.ref f_word_at) = true)
    (a_number_at : PySem.W.nsIn K mainGlobals "number_at" = some (some (.ref f_number_at)))
    (l_number_at : K.lookup f_number_at = some ⟨oc7, od7, .func (PySem.W.fnOf "number_at" "number_at" (defArgs (topS 18)) (defBody (topS 18)) (defScope (topS 18)) .none kV7 dc7 pm7 an7 cd7 ct7), sl7⟩)
    (c_number_at : PySem.W.codeIn K cd7 "number_at" = true)
    (k_number_at : PySem.W.keepIn K (.ref f_number_at) = true)
    (a_quoted_at : PySem.W.nsIn K mainGlobals "quoted_at" = some (some (.ref f_quoted_at)))
    (l_quoted_at : K.lookup f_quoted_at = some ⟨oc8, od8, .func (PySem.W.fnOf "quoted_at" "quoted_at" (defArgs (topS 19)) (defBody (topS 19)) (defScope (topS 19)) .none kV8 dc8 pm8 an8 cd8 ct8), sl8⟩)
    (c_quoted_at : PySem.W.codeIn K cd8 "quoted_at" = true)
    (k_quoted_at : PySem.W.keepIn K (.ref f_quoted_at) = true)
    (a_may_stand : PySem.W.nsIn K mainGlobals "may_stand" = some (some (.ref f_may_stand)))
    (l_may_stand : K.lookup f_may_stand = some ⟨oc9, od9, .func (PySem.W.fnOf "may_stand" "may_stand" (defArgs (topS 20)) (defBody (topS 20)) (defScope (topS 20)) .none kV9 dc9 pm9 an9 cd9 ct9), sl9⟩)
    (c_may_stand : PySem.W.codeIn K cd9 "may_stand" = true)
    (k_may_stand : PySem.W.keepIn K (.ref f_may_stand) = true)
    (a_sign_at : PySem.W.nsIn K mainGlobals "sign_at" = some (some (.ref f_sign_at)))
    (l_sign_at : K.lookup f_sign_at = some ⟨oc10, od10, .func (PySem.W.fnOf "sign_at" "sign_at" (defArgs (topS 21)) (defBody (topS 21)) (defScope (topS 21)) .none kV10 dc10 pm10 an10 cd10 ct10), sl10⟩)
    (c_sign_at : PySem.W.codeIn K cd10 "sign_at" = true)
    (k_sign_at : PySem.W.keepIn K (.ref f_sign_at) = true)
    (a__law_cells : PySem.W.nsIn K mainGlobals "_law_cells" = some (some (.ref f__law_cells)))
    (l__law_cells : K.lookup f__law_cells = some ⟨oc11, od11, .func (PySem.W.fnOf "_law_cells" "_law_cells" (defArgs (topS 23)) (defBody (topS 23)) (defScope (topS 23)) .none kV11 dc11 pm11 an11 cd11 ct11), sl11⟩)
    (c__law_cells : PySem.W.codeIn K cd11 "_law_cells" = true)
    (k__law_cells : PySem.W.keepIn K (.ref f__law_cells) = true)
    (a__law_draw : PySem.W.nsIn K mainGlobals "_law_draw" = some (some (.ref f__law_draw)))
    (l__law_draw : K.lookup f__law_draw = some ⟨oc12, od12, .func (PySem.W.fnOf "_law_draw" "_law_draw" (defArgs (topS 24)) (defBody (topS 24)) (defScope (topS 24)) .none kV12 dc12 pm12 an12 cd12 ct12), sl12⟩)
    (c__law_draw : PySem.W.codeIn K cd12 "_law_draw" = true)
    (k__law_draw : PySem.W.keepIn K (.ref f__law_draw) = true)
    (a__law_pick : PySem.W.nsIn K mainGlobals "_law_pick" = some (some (.ref f__law_pick)))
    (l__law_pick : K.lookup f__law_pick = some ⟨oc13, od13, .func (PySem.W.fnOf "_law_pick" "_law_pick" (defArgs (topS 25)) (defBody (topS 25)) (defScope (topS 25)) .none kV13 dc13 pm13 an13 cd13 ct13), sl13⟩)
    (c__law_pick : PySem.W.codeIn K cd13 "_law_pick" = true)
    (k__law_pick : PySem.W.keepIn K (.ref f__law_pick) = true)
    (a__law_text : PySem.W.nsIn K mainGlobals "_law_text" = some (some (.ref f__law_text)))
    (l__law_text : K.lookup f__law_text = some ⟨oc14, od14, .func (PySem.W.fnOf "_law_text" "_law_text" (defArgs (topS 26)) (defBody (topS 26)) (defScope (topS 26)) .none kV14 dc14 pm14 an14 cd14 ct14), sl14⟩)
    (c__law_text : PySem.W.codeIn K cd14 "_law_text" = true)
    (k__law_text : PySem.W.keepIn K (.ref f__law_text) = true)
    (a__law_is_letter : PySem.W.nsIn K mainGlobals "_law_is_letter" = some (some (.ref f__law_is_letter)))
    (l__law_is_letter : K.lookup f__law_is_letter = some ⟨oc15, od15, .func (PySem.W.fnOf "_law_is_letter" "_law_is_letter" (defArgs (topS 27)) (defBody (topS 27)) (defScope (topS 27)) .none kV15 dc15 pm15 an15 cd15 ct15), sl15⟩)
    (c__law_is_letter : PySem.W.codeIn K cd15 "_law_is_letter" = true)
    (k__law_is_letter : PySem.W.keepIn K (.ref f__law_is_letter) = true)
    (a__law_is_digit : PySem.W.nsIn K mainGlobals "_law_is_digit" = some (some (.ref f__law_is_digit)))
    (l__law_is_digit : K.lookup f__law_is_digit = some ⟨oc16, od16, .func (PySem.W.fnOf "_law_is_digit" "_law_is_digit" (defArgs (topS 28)) (defBody (topS 28)) (defScope (topS 28)) .none kV16 dc16 pm16 an16 cd16 ct16), sl16⟩)
    (c__law_is_digit : PySem.W.codeIn K cd16 "_law_is_digit" = true)
    (k__law_is_digit : PySem.W.keepIn K (.ref f__law_is_digit) = true)
    (a__law_run : PySem.W.nsIn K mainGlobals "_law_run" = some (some (.ref f__law_run)))
    (l__law_run : K.lookup f__law_run = some ⟨oc17, od17, .func (PySem.W.fnOf "_law_run" "_law_run" (defArgs (topS 29)) (defBody (topS 29)) (defScope (topS 29)) .none kV17 dc17 pm17 an17 cd17 ct17), sl17⟩)
    (c__law_run : PySem.W.codeIn K cd17 "_law_run" = true)
    (k__law_run : PySem.W.keepIn K (.ref f__law_run) = true)
    (a__law_quoted : PySem.W.nsIn K mainGlobals "_law_quoted" = some (some (.ref f__law_quoted)))
    (l__law_quoted : K.lookup f__law_quoted = some ⟨oc18, od18, .func (PySem.W.fnOf "_law_quoted" "_law_quoted" (defArgs (topS 30)) (defBody (topS 30)) (defScope (topS 30)) .none kV18 dc18 pm18 an18 cd18 ct18), sl18⟩)
    (c__law_quoted : PySem.W.codeIn K cd18 "_law_quoted" = true)
    (k__law_quoted : PySem.W.keepIn K (.ref f__law_quoted) = true)
    (a__law_one : PySem.W.nsIn K mainGlobals "_law_one" = some (some (.ref f__law_one)))
    (l__law_one : K.lookup f__law_one = some ⟨oc19, od19, .func (PySem.W.fnOf "_law_one" "_law_one" (defArgs (topS 31)) (defBody (topS 31)) (defScope (topS 31)) .none kV19 dc19 pm19 an19 cd19 ct19), sl19⟩)
    (c__law_one : PySem.W.codeIn K cd19 "_law_one" = true)
    (k__law_one : PySem.W.keepIn K (.ref f__law_one) = true)
    (a__law_due : PySem.W.nsIn K mainGlobals "_law_due" = some (some (.ref f__law_due)))
    (l__law_due : K.lookup f__law_due = some ⟨oc20, od20, .func (PySem.W.fnOf "_law_due" "_law_due" (defArgs (topS 32)) (defBody (topS 32)) (defScope (topS 32)) .none kV20 dc20 pm20 an20 cd20 ct20), sl20⟩)
    (c__law_due : PySem.W.codeIn K cd20 "_law_due" = true)
    (k__law_due : PySem.W.keepIn K (.ref f__law_due) = true)
    (a_law : PySem.W.nsIn K mainGlobals "law" = some (some (.ref f_law)))
    (l_law : K.lookup f_law = some ⟨oc21, od21, .func (PySem.W.fnOf "law" "law" (defArgs (topS 33)) (defBody (topS 33)) (defScope (topS 33)) .none kV21 dc21 pm21 an21 cd21 ct21), sl21⟩)
    (c_law : PySem.W.codeIn K cd21 "law" = true)
    (k_law : PySem.W.keepIn K (.ref f_law) = true)
    (pg_Token : PySem.W.plainGet K C_Token Str.empty = true)
    (hd_Token : PySem.W.hasDictIn K C_Token = true)
    (po_Token : PySem.W.plainOver K C_Token = true)
    (sa_Token : PySem.W.findIn K (.ref C_Token) "__setattr__" = some (some (.builtin "object.__setattr__")))
    (mk_Token : PySem.W.makesIn K C_Token = true)
    (kc_Token : PySem.W.keepIn K (.ref C_Token) = true)
    (na_Token_role : PySem.W.findIn K (.ref C_Token) "role" = some none)
    (na_Token_text : PySem.W.findIn K (.ref C_Token) "text" = some none)
    (na_Token_place : PySem.W.findIn K (.ref C_Token) "place" = some none)
    (z_len : PySem.W.nsIn K mainGlobals "len" = some none)
    (z_int : PySem.W.nsIn K mainGlobals "int" = some none)
    (z_range : PySem.W.nsIn K mainGlobals "range" = some none)
    (z_list : PySem.W.nsIn K mainGlobals "list" = some none)
    (z_ord : PySem.W.nsIn K mainGlobals "ord" = some none)
    (z_isinstance : PySem.W.nsIn K mainGlobals "isinstance" = some none)
    (z_ValueError : PySem.W.nsIn K mainGlobals "ValueError" = some none)
    (zc_LETTERS : PySem.W.nsIn K mainGlobals "LETTERS" = some (some (.str "abcdefghijklmnopqrstuvwxyzABCDEFGHIJKLMNOPQRSTUVWXYZ" tc_LETTERS)))
    (zc_DIGITS : PySem.W.nsIn K mainGlobals "DIGITS" = some (some (.str "0123456789" tc_DIGITS)))
    (zc_WORD_SIGNS : PySem.W.nsIn K mainGlobals "WORD_SIGNS" = some (some (.str "abcdefghijklmnopqrstuvwxyzABCDEFGHIJKLMNOPQRSTUVWXYZ0123456789_" tc_WORD_SIGNS)))
    (zc_QUOTE : PySem.W.nsIn K mainGlobals "QUOTE" = some (some (.str "\"" tc_QUOTE)))
    (zc_BACKSLASH : PySem.W.nsIn K mainGlobals "BACKSLASH" = some (some (.str "\\" tc_BACKSLASH)))
    (zc_PERCENT_CODE : PySem.W.nsIn K mainGlobals "PERCENT_CODE" = some (some (.int 37 tc_PERCENT_CODE)))
    (zc_LONGEST_WORD : PySem.W.nsIn K mainGlobals "LONGEST_WORD" = some (some (.int 12 tc_LONGEST_WORD)))
    (zc_LONGEST_NUMBER : PySem.W.nsIn K mainGlobals "LONGEST_NUMBER" = some (some (.int 18 tc_LONGEST_NUMBER)))
    (xL : K.lookup C_Fault = some (excClassObj xnm xq C_Fault xN xbs [.ref C_HeapError, .type "ValueError", .type "Exception", .type "BaseException", .type "object"] true xsn xsub xab xcol xdd xm0 xm1 xm2 xm3 xm5 "ValueError.__new__"))
    (xsa : PySem.W.findIn K (.ref C_Fault) "__setattr__" = some (some (.builtin "object.__setattr__")))
    (xga : PySem.W.findIn K (.ref C_Fault) "__getattribute__" = some (some (.builtin "BaseException.__getattribute__")))
    (xgg : PySem.W.findIn K (.ref C_Fault) "__getattr__" = some none)
    (xnp : PySem.W.findIn K (.ref C_Fault) "place" = some none)
    (xnr : PySem.W.findIn K (.ref C_Fault) "reason" = some none)
    (xti : PySem.W.typeIn K (.ref f_Fault___init__) = some (.type "function"))
    (xkC : PySem.W.keepIn K (.ref C_Fault) = true)
    (xeC : PySem.W.subIn K (.ref C_Fault) (.type "BaseException") = some true)
    (xtC : PySem.W.typeIn K (.ref C_Fault) = some (.type "type"))
    (xhC : PySem.W.hasDictIn K C_Fault = true)
    (xiC : PySem.W.isClsIn K C_Fault = true)
    (xsC : PySem.W.subIn K (.ref C_Fault) (.ref C_Fault) = some true)
    (xac : PySem.W.findIn K (.ref C_Fault) "__class__" = some (some (.builtin "object.__class__")))
    (xmr : PySem.W.mroIn K C_Fault (.type "object") = some true)
    (xon : PySem.W.specialIn K (.builtin "object.__class__") "__get__" = some (some (.builtin "getset_descriptor.__get__")))
    (xot : PySem.W.takesIn K (.builtin "object.__class__") = some true)
    (xiH : PySem.W.isClsIn K C_HeapError = true)
    (xtH : PySem.W.typeIn K (.ref C_HeapError) = some (.type "type"))
    (xsH : PySem.W.subIn K (.ref C_Fault) (.ref C_HeapError) = some true)
    (ne_FH : (Value.ref C_Fault == Value.ref C_HeapError) = false)
    (xsV : PySem.W.subIn K (.ref C_Fault) (.type "ValueError") = some true) :
    ∃ fd : FuncData, (∀ (s : Shared) (v : Value), BindsTo s fd ⟨[v], []⟩ [("script", v)]) ∧ ∀ base : Heap, K.In base → base.Ns mainGlobals mg → FnOk l.prog w K mg base CX0 6 fa fd ["script"] (spLaw K) := by
  have e := hfa.symm.trans (PySem.W.mg_of X G a_law)
  cases e
  have T := mk_txt X G a_HeapError a_Fault a_Token a_Fault___init__ i_Fault___init__ l_Fault___init__ c_Fault___init__ k_Fault___init__ a_Token___init__ i_Token___init__ l_Token___init__ c_Token___init__ k_Token___init__ a_tokens l_tokens c_tokens k_tokens a_behind_blanks l_behind_blanks c_behind_blanks k_behind_blanks a_token_at l_token_at c_token_at k_token_at a_behind_run l_behind_run c_behind_run k_behind_run a_word_at l_word_at c_word_at k_word_at a_number_at l_number_at c_number_at k_number_at a_quoted_at l_quoted_at c_quoted_at k_quoted_at a_may_stand l_may_stand c_may_stand k_may_stand a_sign_at l_sign_at c_sign_at k_sign_at a__law_cells l__law_cells c__law_cells k__law_cells a__law_draw l__law_draw c__law_draw k__law_draw a__law_pick l__law_pick c__law_pick k__law_pick a__law_text l__law_text c__law_text k__law_text a__law_is_letter l__law_is_letter c__law_is_letter k__law_is_letter a__law_is_digit l__law_is_digit c__law_is_digit k__law_is_digit a__law_run l__law_run c__law_run k__law_run a__law_quoted l__law_quoted c__law_quoted k__law_quoted a__law_one l__law_one c__law_one k__law_one a__law_due l__law_due c__law_due k__law_due a_law l_law c_law k_law pg_Token hd_Token po_Token sa_Token mk_Token kc_Token na_Token_role na_Token_text na_Token_place z_len z_int z_range z_list z_ord z_isinstance z_ValueError zc_LETTERS zc_DIGITS zc_WORD_SIGNS zc_QUOTE zc_BACKSLASH zc_PERCENT_CODE zc_LONGEST_WORD zc_LONGEST_NUMBER xL xsa xga xgg xnp xnr xti xkC xeC xtC xhC xiC xsC xac xmr xon xot xiH xtH xsH ne_FH xsV
  exact ⟨PySem.W.fnOf "law" "law" (defArgs (topS 33)) (defBody (topS 33)) (defScope (topS 33)) .none kV21 dc21 pm21 an21 cd21 ct21, fun s v => .of_eq rfl, fun base _ _ => ok_law T⟩
end
end Ky
open PySem PySem.W PyProof.Rows in
set_option maxRecDepth 100000 in
set_option maxHeartbeats 0 in
theorem PySem.Challenge.cw_oneheap_k00_tokens_of_texts_holds : PySem.Challenge.rw_oneheap_k00_tokens_of_texts.Holds := by
  w_on; o_law; k_head; (case hw => w_witness2)
  k_fill
  refine L2.walk_of (l := PySem.Challenge.rw_oneheap_k00_tokens_of_texts) (n := 63) (k := 6) (x := "script") (CX := fun _ => L2.CX0) (sp := fun w => Ky.spLaw _) rfl (by decide) rfl ⟨rfl, by decide, by decide⟩ (fun w h Y => PySem.W.kIn_of Y) ?F (fun _ _ a ns hl _ hS => ⟨a, ns, rfl, hS, hl, fun _ => rfl⟩) (fun _ _ _ _ _ h => h)
  case F =>
    intro w mg fa h KX G hmg
    refine' Ky.fin KX G hmg ?a_HeapError ?a_Fault ?a_Token ?a_Fault___init__ ?i_Fault___init__ ?l_Fault___init__ ?c_Fault___init__ ?k_Fault___init__ ?a_Token___init__ ?i_Token___init__ ?l_Token___init__ ?c_Token___init__ ?k_Token___init__ ?a_tokens ?l_tokens ?c_tokens ?k_tokens ?a_behind_blanks ?l_behind_blanks ?c_behind_blanks ?k_behind_blanks ?a_token_at ?l_token_at ?c_token_at ?k_token_at ?a_behind_run ?l_behind_run ?c_behind_run ?k_behind_run ?a_word_at ?l_word_at ?c_word_at ?k_word_at ?a_number_at ?l_number_at ?c_number_at ?k_number_at ?a_quoted_at ?l_quoted_at ?c_quoted_at ?k_quoted_at ?a_may_stand ?l_may_stand ?c_may_stand ?k_may_stand ?a_sign_at ?l_sign_at ?c_sign_at ?k_sign_at ?a__law_cells ?l__law_cells ?c__law_cells ?k__law_cells ?a__law_draw ?l__law_draw ?c__law_draw ?k__law_draw ?a__law_pick ?l__law_pick ?c__law_pick ?k__law_pick ?a__law_text ?l__law_text ?c__law_text ?k__law_text ?a__law_is_letter ?l__law_is_letter ?c__law_is_letter ?k__law_is_letter ?a__law_is_digit ?l__law_is_digit ?c__law_is_digit ?k__law_is_digit ?a__law_run ?l__law_run ?c__law_run ?k__law_run ?a__law_quoted ?l__law_quoted ?c__law_quoted ?k__law_quoted ?a__law_one ?l__law_one ?c__law_one ?k__law_one ?a__law_due ?l__law_due ?c__law_due ?k__law_due ?a_law ?l_law ?c_law ?k_law ?pg_Token ?hd_Token ?po_Token ?sa_Token ?mk_Token ?kc_Token ?na_Token_role ?na_Token_text ?na_Token_place ?z_len ?z_int ?z_range ?z_list ?z_ord ?z_isinstance ?z_ValueError ?zc_LETTERS ?zc_DIGITS ?zc_WORD_SIGNS ?zc_QUOTE ?zc_BACKSLASH ?zc_PERCENT_CODE ?zc_LONGEST_WORD ?zc_LONGEST_NUMBER ?xL ?xsa ?xga ?xgg ?xnp ?xnr ?xti ?xkC ?xeC ?xtC ?xhC ?xiC ?xsC ?xac ?xmr ?xon ?xot ?xiH ?xtH ?xsH ?ne_FH ?xsV
    (case a_HeapError => k_is)
    (case a_Fault => k_is)
    (case a_Token => k_is)
    (case a_Fault___init__ => k_is)
    (case i_Fault___init__ => k_is)
    (case l_Fault___init__ => k_is)
    (case c_Fault___init__ => k_is)
    (case k_Fault___init__ => k_is)
    (case a_Token___init__ => k_is)
    (case i_Token___init__ => k_is)
    (case l_Token___init__ => k_is)
    (case c_Token___init__ => k_is)
    (case k_Token___init__ => k_is)
    (case a_tokens => k_is)
    (case l_tokens => k_is)
    (case c_tokens => k_is)
    (case k_tokens => k_is)
    (case a_behind_blanks => k_is)
    (case l_behind_blanks => k_is)
    (case c_behind_blanks => k_is)
    (case k_behind_blanks => k_is)
    (case a_token_at => k_is)
    (case l_token_at => k_is)
    (case c_token_at => k_is)
    (case k_token_at => k_is)
    (case a_behind_run => k_is)
    (case l_behind_run => k_is)
    (case c_behind_run => k_is)
    (case k_behind_run => k_is)
    (case a_word_at => k_is)
    (case l_word_at => k_is)
    (case c_word_at => k_is)
    (case k_word_at => k_is)
    (case a_number_at => k_is)
    (case l_number_at => k_is)
    (case c_number_at => k_is)
    (case k_number_at => k_is)
    (case a_quoted_at => k_is)
    (case l_quoted_at => k_is)
    (case c_quoted_at => k_is)
    (case k_quoted_at => k_is)
    (case a_may_stand => k_is)
    (case l_may_stand => k_is)
    (case c_may_stand => k_is)
    (case k_may_stand => k_is)
    (case a_sign_at => k_is)
    (case l_sign_at => k_is)
    (case c_sign_at => k_is)
    (case k_sign_at => k_is)
    (case a__law_cells => k_is)
    (case l__law_cells => k_is)
    (case c__law_cells => k_is)
    (case k__law_cells => k_is)
    (case a__law_draw => k_is)
    (case l__law_draw => k_is)
    (case c__law_draw => k_is)
    (case k__law_draw => k_is)
    (case a__law_pick => k_is)
    (case l__law_pick => k_is)
    (case c__law_pick => k_is)
    (case k__law_pick => k_is)
    (case a__law_text => k_is)
    (case l__law_text => k_is)
    (case c__law_text => k_is)
    (case k__law_text => k_is)
    (case a__law_is_letter => k_is)
    (case l__law_is_letter => k_is)
    (case c__law_is_letter => k_is)
    (case k__law_is_letter => k_is)
    (case a__law_is_digit => k_is)
    (case l__law_is_digit => k_is)
    (case c__law_is_digit => k_is)
    (case k__law_is_digit => k_is)
    (case a__law_run => k_is)
    (case l__law_run => k_is)
    (case c__law_run => k_is)
    (case k__law_run => k_is)
    (case a__law_quoted => k_is)
    (case l__law_quoted => k_is)
    (case c__law_quoted => k_is)
    (case k__law_quoted => k_is)
    (case a__law_one => k_is)
    (case l__law_one => k_is)
    (case c__law_one => k_is)
    (case k__law_one => k_is)
    (case a__law_due => k_is)
    (case l__law_due => k_is)
    (case c__law_due => k_is)
    (case k__law_due => k_is)
    (case a_law => k_is)
    (case l_law => k_is)
    (case c_law => k_is)
    (case k_law => k_is)
    (case pg_Token => k_is)
    (case hd_Token => k_is)
    (case po_Token => k_is)
    (case sa_Token => k_is)
    (case mk_Token => k_is)
    (case kc_Token => k_is)
    (case na_Token_role => k_is)
    (case na_Token_text => k_is)
    (case na_Token_place => k_is)
    (case z_len => k_is)
    (case z_int => k_is)
    (case z_range => k_is)
    (case z_list => k_is)
    (case z_ord => k_is)
    (case z_isinstance => k_is)
    (case z_ValueError => k_is)
    (case zc_LETTERS => k_is)
    (case zc_DIGITS => k_is)
    (case zc_WORD_SIGNS => k_is)
    (case zc_QUOTE => k_is)
    (case zc_BACKSLASH => k_is)
    (case zc_PERCENT_CODE => k_is)
    (case zc_LONGEST_WORD => k_is)
    (case zc_LONGEST_NUMBER => k_is)
    (case xL => k_is)
    (case xsa => k_is)
    (case xga => k_is)
    (case xgg => k_is)
    (case xnp => k_is)
    (case xnr => k_is)
    (case xti => k_is)
    (case xkC => k_is)
    (case xeC => k_is)
    (case xtC => k_is)
    (case xhC => k_is)
    (case xiC => k_is)
    (case xsC => k_is)
    (case xac => k_is)
    (case xmr => k_is)
    (case xon => k_is)
    (case xot => k_is)
    (case xiH => k_is)
    (case xtH => k_is)
    (case xsH => k_is)
    (case ne_FH => first | rfl | k_is)
    (case xsV => k_is)
