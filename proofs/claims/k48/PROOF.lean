import PyProof.Rows.All
import Wide.All
import OpenK.AllK
import Wide.FinOn
import HandS.ForMost
import HandS.Codes
import HandS.Exc
import HandS.ExcOwn
import HandS.ExcInit
import HandS.ExcField
import HandS.ExcIs
import HandS.WordsExc
import HandS.IsInst
import KE.KExcIs
import HandS.More
import HandS.Iter
import HandS.DictComp
import HandS.Star
import HandS.FStr
import HandS.Comp
import HandS.CallLocal
import HandS.Defaults
import HandS.Conv
import HandS.Wide
import HandS.Zip
import HandS.Flow
import HandS.SortInts
import HandS.NoneIn
import HandS.Deep
import HandS.Text
import HandS.OwnEq
import PyProof.InstNe
import HandS.DeepEq
import PyProof.ReprLen
import HandS.HeadEnd
import KE.KStateDown
import HandS.Head0
import HandS.Head1
import HandS.Head2
import HandS.HeadHook1
import HandS.HeadHook2
import HandS.HeadHook3
import HandS.HeadHook4
import PySem.Challenge.RW_oneheap_k48_numbers_leave_contents
import HandS.DictEq
set_option Elab.async false
set_option linter.all false
set_option maxRecDepth 100000
set_option maxHeartbeats 0
namespace Dv
open PySem PySem.Spec PyProof.Rows L2
set_option autoImplicit false
noncomputable section
/-! ### values as trees -/
inductive D where
  | non | bl (b : Bool) | int (i : Int) | str (s : Str) | st (k : Nat) | ty (n : String)
  | lst (xs : List D) | scr (xs : List D) | tup (xs : List D) | dct (kvs : List (Key × D)) | ins (C : Nat) (fs : List (Str × D))

/-- G is held in H; its dicts may be locked -/
def Inn (G H : Hp) : Prop := ∀ a u, G a = some u → H a = some u ∨ ∃ o kvs, u = .dK kvs ∧ H a = some (.frz o u)

section
variable (K : PySem.W.Frag) (S : Nat → Addr)
mutual
def Rep (G : Hp) : D → V → Prop
  | .non, v => v = .non
  | .bl b, v => v = .bl b
  | .int i, v => v = .int i
  | .str s, v => v = .str s
  | .st k, v => v = .ref (S k)
  | .ty n, v => v = .ty n
  | .lst xs, v => ∃ a vs, v = .ref a ∧ G a = some (.lst vs) ∧ RepL G xs vs
  | .scr xs, v => ∃ a vs, v = .ref a ∧ SqL K G a vs ∧ RepL G xs vs
  | .tup xs, v => ∃ a vs, v = .ref a ∧ SqT K G a vs ∧ RepL G xs vs
  | .dct kvs, v => ∃ a ws, v = .ref a ∧ G a = some (.dK ws) ∧ RepK G kvs ws
  | .ins C fs, v => ∃ a dx ws, v = .ref a ∧ G a = some (.ins (S C) dx ws) ∧ RepF G fs ws
def RepL (G : Hp) : List D → List V → Prop
  | [], vs => vs = []
  | x :: xs, vs => ∃ v ws, vs = v :: ws ∧ Rep G x v ∧ RepL G xs ws
def RepK (G : Hp) : List (Key × D) → List (Key × V) → Prop
  | [], vs => vs = []
  | x :: xs, vs => ∃ v ws, vs = (x.1, v) :: ws ∧ Rep G x.2 v ∧ RepK G xs ws
def RepF (G : Hp) : List (Str × D) → List (Str × V) → Prop
  | [], vs => vs = []
  | x :: xs, vs => ∃ v ws, vs = (x.1, v) :: ws ∧ Rep G x.2 v ∧ RepF G xs ws
end
/-- an object of one's own: its content -/
def RepO (G : Hp) : D → HO → Prop
  | .lst xs, o => ∃ vs, o = .lst vs ∧ RepL K S G xs vs
  | .dct kvs, o => ∃ ws, o = .dK ws ∧ RepK K S G kvs ws
  | .ins C fs, o => ∃ dx ws, o = .ins (S C) dx ws ∧ RepF K S G fs ws
  | _, _ => False
end
section
variable {K : PySem.W.Frag} {S : Nat → Addr}
mutual
theorem Rep.mono {G G' : Hp} (h : Same G G') : ∀ {d : D} {v : V}, Rep K S G d v → Rep K S G' d v
  | .non, _, r => r
  | .bl _, _, r => r
  | .int _, _, r => r
  | .str _, _, r => r
  | .st _, _, r => r
  | .ty _, _, r => r
  | .lst xs, _, ⟨a, vs, e, q, r⟩ => ⟨a, vs, e, h _ _ q, RepL.mono h r⟩
  | .scr xs, _, ⟨a, vs, e, q, r⟩ => ⟨a, vs, e, h.seq q, RepL.mono h r⟩
  | .tup xs, _, ⟨a, vs, e, q, r⟩ => ⟨a, vs, e, q.elim (fun q => .inl (q.elim (fun q => .inl (h _ _ q)) fun ⟨o, q⟩ => .inr ⟨o, h _ _ q⟩)) .inr, RepL.mono h r⟩
  | .dct kvs, _, ⟨a, ws, e, q, r⟩ => ⟨a, ws, e, h _ _ q, RepK.mono h r⟩
  | .ins C fs, _, ⟨a, dx, ws, e, q, r⟩ => ⟨a, dx, ws, e, h _ _ q, RepF.mono h r⟩
theorem RepL.mono {G G' : Hp} (h : Same G G') : ∀ {d : List D} {v : List V}, RepL K S G d v → RepL K S G' d v
  | [], _, r => r
  | x :: xs, _, ⟨v, ws, e, q, r⟩ => ⟨v, ws, e, Rep.mono h q, RepL.mono h r⟩
theorem RepK.mono {G G' : Hp} (h : Same G G') : ∀ {d : List (Key × D)} {v : List (Key × V)}, RepK K S G d v → RepK K S G' d v
  | [], _, r => r
  | x :: xs, _, ⟨v, ws, e, q, r⟩ => ⟨v, ws, e, Rep.mono h q, RepK.mono h r⟩
theorem RepF.mono {G G' : Hp} (h : Same G G') : ∀ {d : List (Str × D)} {v : List (Str × V)}, RepF K S G d v → RepF K S G' d v
  | [], _, r => r
  | x :: xs, _, ⟨v, ws, e, q, r⟩ => ⟨v, ws, e, Rep.mono h q, RepF.mono h r⟩
end
theorem RepO.mono {G G' : Hp} (h : Same G G') : ∀ {d : D} {o : HO}, RepO K S G d o → RepO K S G' d o
  | .lst xs, _, ⟨vs, e, r⟩ => ⟨vs, e, r.mono h⟩
  | .dct kvs, _, ⟨ws, e, r⟩ => ⟨ws, e, r.mono h⟩
  | .ins C fs, _, ⟨dx, ws, e, r⟩ => ⟨dx, ws, e, r.mono h⟩
theorem RepL.iff {G : Hp} : ∀ {xs : List D} {vs : List V}, RepL K S G xs vs ↔ Paired (Rep K S G) xs vs
  | [], vs => ⟨fun h => by cases h; exact .nil, fun h => by cases h; rfl⟩
  | x :: xs, vs => ⟨fun ⟨v, ws, e, q, r⟩ => by subst e; exact .cons q (RepL.iff.mp r), fun h => by
      cases h with
      | cons q r => exact ⟨_, _, rfl, q, RepL.iff.mpr r⟩⟩
theorem RepL.nil {G : Hp} : RepL K S G [] [] := rfl
theorem RepL.cons {G : Hp} {x : D} {v : V} {xs : List D} {vs : List V} (q : Rep K S G x v) (r : RepL K S G xs vs) : RepL K S G (x :: xs) (v :: vs) := ⟨v, vs, rfl, q, r⟩
theorem RepL.length {G : Hp} {xs : List D} {vs : List V} (h : RepL K S G xs vs) : xs.length = vs.length := Paired.length (RepL.iff.mp h)
theorem RepL.app {G : Hp} : ∀ {xs ys : List D} {vs ws : List V}, RepL K S G xs vs → RepL K S G ys ws → RepL K S G (xs ++ ys) (vs ++ ws)
  | [], _, _, _, r, q => by cases r; exact q
  | x :: xs, ys, _, ws, ⟨v, us, e, q, r⟩, q2 => by subst e; exact ⟨v, us ++ ws, rfl, q, r.app q2⟩
theorem RepL.get {G : Hp} : ∀ {xs : List D} {vs : List V} {i : Nat} {x : D}, RepL K S G xs vs → xs[i]? = some x → ∃ v, vs[i]? = some v ∧ Rep K S G x v
  | [], _, _, _, _, e => by simp at e
  | x :: xs, _, 0, y, ⟨v, ws, e, q, r⟩, h => by subst e; simp at h; subst h; exact ⟨v, rfl, q⟩
  | x :: xs, _, i + 1, y, ⟨v, ws, e, q, r⟩, h => by
    subst e
    obtain ⟨u, h1, h2⟩ := r.get (i := i) (x := y) (by simpa using h)
    exact ⟨u, by simpa using h1, h2⟩
theorem RepL.one {G : Hp} {x : D} {vs : List V} (h : RepL K S G [x] vs) : ∃ v, vs = [v] ∧ Rep K S G x v := by
  obtain ⟨v, ws, rfl, q, r⟩ := h
  cases r
  exact ⟨v, rfl, q⟩
theorem RepL.two {G : Hp} {x y : D} {vs : List V} (h : RepL K S G [x, y] vs) : ∃ v w, vs = [v, w] ∧ Rep K S G x v ∧ Rep K S G y w := by
  obtain ⟨v, ws, rfl, q, r⟩ := h
  obtain ⟨w, ws', rfl, q2, r⟩ := r
  cases r
  exact ⟨v, w, rfl, q, q2⟩
theorem RepL.take {G : Hp} : ∀ {xs : List D} {vs : List V} (n : Nat), RepL K S G xs vs → RepL K S G (xs.take n) (vs.take n)
  | _, _, 0, _ => rfl
  | [], _, n + 1, r => by cases r; rfl
  | x :: xs, _, n + 1, ⟨v, ws, e, q, r⟩ => by subst e; exact ⟨v, _, rfl, q, r.take n⟩
theorem RepL.drop {G : Hp} : ∀ {xs : List D} {vs : List V} (n : Nat), RepL K S G xs vs → RepL K S G (xs.drop n) (vs.drop n)
  | _, _, 0, r => r
  | [], _, n + 1, r => by cases r; rfl
  | x :: xs, _, n + 1, ⟨v, ws, e, q, r⟩ => by subst e; exact r.drop n
/-! Inn -/
theorem Inn.seq {G H : Hp} {a : Addr} {xs : List V} (e : Inn G H) (h : SqL K G a xs) : SqL K H a xs := by
  rcases h with (h | ⟨o, h⟩) | h
  · rcases e _ _ h with q | ⟨_, _, q, _⟩
    · exact .inl (.inl q)
    · cases q
  · rcases e _ _ h with q | ⟨_, _, q, _⟩
    · exact .inl (.inr ⟨o, q⟩)
    · cases q
  · exact .inr h
theorem Inn.tup {G H : Hp} {a : Addr} {xs : List V} (e : Inn G H) (h : SqT K G a xs) : SqT K H a xs := by
  rcases h with (h | ⟨o, h⟩) | h
  · rcases e _ _ h with q | ⟨_, _, q, _⟩
    · exact .inl (.inl q)
    · cases q
  · rcases e _ _ h with q | ⟨_, _, q, _⟩
    · exact .inl (.inr ⟨o, q⟩)
    · cases q
  · exact .inr h
theorem Inn.lst {G H : Hp} {a : Addr} {xs : List V} (e : Inn G H) (h : G a = some (.lst xs)) : H a = some (.lst xs) := by
  rcases e _ _ h with q | ⟨_, _, q, _⟩
  · exact q
  · cases q
theorem Inn.dct {G H : Hp} {a : Addr} {ws : List (Key × V)} (e : Inn G H) (h : Rd G a (.dK ws)) : Rd H a (.dK ws) := by
  rcases h with h | ⟨o, h⟩
  · rcases e _ _ h with q | ⟨o, _, q, q2⟩
    · exact .inl q
    · exact .inr ⟨o, q2⟩
  · rcases e _ _ h with q | ⟨_, _, q, _⟩
    · exact .inr ⟨o, q⟩
    · cases q
theorem Inn.ins {G H : Hp} {a C dx : Addr} {ws : List (Str × V)} (e : Inn G H) (h : G a = some (.ins C dx ws)) : H a = some (.ins C dx ws) := by
  rcases e _ _ h with q | ⟨_, _, q, _⟩
  · exact q
  · cases q
theorem Inn.some {G H : Hp} {a : Addr} (e : Inn G H) (h : H a = none) : G a = none := by
  cases q : G a with
  | none => rfl
  | some u =>
    rcases e _ _ q with q | ⟨_, _, _, q⟩
    · rw [h] at q; cases q
    · rw [h] at q; cases q
theorem Inn.up {G H H' : Hp} (e : Inn G H) (s : Same H H') : Inn G H' := fun a u h => (e a u h).elim (fun q => .inl (s _ _ q)) fun ⟨o, kvs, q1, q2⟩ => .inr ⟨o, kvs, q1, s _ _ q2⟩
/-- things are only added -/
structure Ex (G H G' H' : Hp) : Prop where
  g : Same G G'
  h : Same H H'
  inn : Inn G' H'
  new : ∀ a, G' a ≠ none → G a = none → H a = none
theorem Ex.refl {G H : Hp} (i : Inn G H) : Ex G H G H := ⟨.refl _, .refl _, i, fun _ h e => (h e).elim⟩
theorem Ex.trans {G H G1 H1 G2 H2 : Hp} (a : Ex G H G1 H1) (b : Ex G1 H1 G2 H2) : Ex G H G2 H2 := ⟨a.g.trans b.g, a.h.trans b.h, b.inn, fun x h e => by
  by_cases q : G1 x = none
  · have := b.new x h q
    exact a.h.free this
  · exact a.new x q e⟩
theorem same_upd {H : Hp} {p : Addr} {o : HO} (h : H p = none) : Same H (upd H p o) := fun b u e => by rw [upd_ne (ne_of_none e h)]; exact e
theorem Ex.new1 {G H : Hp} {p : Addr} {o : HO} (i : Inn G H) (hp : H p = none) : Ex G H (upd G p o) (upd H p o) := ⟨same_upd (i.some hp), same_upd hp, fun a u e => by
  by_cases h : a = p
  · subst h; rw [upd_same] at e ⊢; exact .inl e
  · rw [upd_ne h] at e ⊢; exact i a u e, fun a h e => by
  by_cases q : a = p
  · subst q; exact hp
  · rw [upd_ne q] at h; exact (h e).elim⟩
theorem Ex.skip {G H : Hp} {p : Addr} {o : HO} (i : Inn G H) (hp : H p = none) : Ex G H G (upd H p o) := ⟨.refl _, same_upd hp, i.up (same_upd hp), fun a h e => (h e).elim⟩
theorem Ex.same {G H H' : Hp} (i : Inn G H) (s : Same H H') : Ex G H G H' := ⟨.refl _, s, i.up s, fun a h e => (h e).elim⟩
end
/-! ### slots, the state of a def -/
inductive Sl where
  | no | val (d : D) | box (d : D) | par (d : D)
abbrev Env := List Sl
structure Base where
  G : Hp
  H : Hp
  r : Option Addr
abbrev Lk := List (Addr × HO)
structure Ste (B : Base) (L : Lk) (G H : Hp) : Prop where
  g0 : Same B.G G
  inn : Inn G H
  new : ∀ a, G a ≠ none → B.G a = none → B.H a = none
  keep : ∀ a o, B.H a = some o → B.r ≠ some a → (∀ p ∈ L, p.1 ≠ a) → H a = some o
  lock : ∀ p ∈ L, H p.1 = some p.2
  par : ∀ a, B.r = some a → G a = none ∧ H a ≠ none ∧ B.H a ≠ none ∧ ∀ p ∈ L, p.1 ≠ a
  out : ∀ p ∈ L, (∀ o u, p.2 ≠ .frz o u) → G p.1 = none
section
variable (K : PySem.W.Frag) (S : Nat → Addr)
def SlOk (B : Base) (G H : Hp) : Sl → Option V → Prop
  | .no, _ => True
  | .val d, x => ∃ v, x = some v ∧ Rep K S G d v
  | .box d, x => ∃ a o, x = some (V.ref a) ∧ G a = none ∧ B.H a = none ∧ H a = some o ∧ RepO K S G d o
  | .par d, x => ∃ a o, x = some (V.ref a) ∧ B.r = some a ∧ H a = some o ∧ RepO K S G d o
def isOwn : Sl → Bool
  | .box _ => true
  | .par _ => true
  | _ => false
structure Rel (B : Base) (L : Lk) (G H : Hp) (env : Env) (σ : L2.St) : Prop where
  at_ : Paired (SlOk K S B G H) env σ
  nd : ∀ (i j : Nat) (s t : Sl) (a : Addr), i ≠ j → env[i]? = some s → env[j]? = some t → isOwn s = true → isOwn t = true → σ[i]? = some (some (V.ref a)) → σ[j]? ≠ some (some (V.ref a))
  nl : ∀ (i : Nat) (s : Sl) (a : Addr), env[i]? = some s → isOwn s = true → σ[i]? = some (some (V.ref a)) → ∀ p ∈ L, p.1 ≠ a
end
section
variable {K : PySem.W.Frag} {S : Nat → Addr} {B : Base} {L : Lk} {G H G' H' : Hp} {env : Env} {σ : L2.St}
theorem Ste.free (s : Ste B L G H) {a : Addr} (h : H a = none) : B.H a = none := by
  cases q : B.H a with
  | none => rfl
  | some o =>
    by_cases hl : ∃ p ∈ L, p.1 = a
    · obtain ⟨p, hp, e⟩ := hl
      have := s.lock p hp
      rw [e, h] at this
      cases this
    · by_cases hr : B.r = some a
      · exact ((s.par a hr).2.1 h).elim
      · have := s.keep a o q hr fun p hp e => hl ⟨p, hp, e⟩
        rw [h] at this
        cases this
theorem Ste.ex (s : Ste B L G H) (x : Ex G H G' H') : Ste B L G' H' where
  g0 := s.g0.trans x.g
  inn := x.inn
  new := fun a h e => by
    by_cases q : G a = none
    · exact s.free (x.new a h q)
    · exact s.new a q e
  keep := fun a o e r l => x.h _ _ (s.keep a o e r l)
  lock := fun p hp => x.h _ _ (s.lock p hp)
  par := fun a r => by
    obtain ⟨h1, h2, h4, h3⟩ := s.par a r
    refine ⟨?_, fun e => h2 (x.h.free e), h4, h3⟩
    cases q : G' a with
    | none => rfl
    | some o => exact (h2 (x.new a (by rw [q]; intro e; cases e) h1)).elim
  out := fun p hp hf => by
    have h1 := s.out p hp hf
    cases q : G' p.1 with
    | none => rfl
    | some o =>
      have := x.new p.1 (by rw [q]; intro e; cases e) h1
      rw [s.lock p hp] at this
      cases this
theorem SlOk.ex (x : Ex G H G' H') {s : Sl} {o : Option V} (h : SlOk K S B G H s o) : SlOk K S B G' H' s o := by
  cases s with
  | no => trivial
  | val d =>
    obtain ⟨v, e, r⟩ := h
    exact ⟨v, e, r.mono x.g⟩
  | box d =>
    obtain ⟨a, o, e, g, b, e2, r⟩ := h
    refine ⟨a, o, e, ?_, b, x.h _ _ e2, r.mono x.g⟩
    cases q : G' a with
    | none => rfl
    | some u =>
      have := x.new a (by rw [q]; intro e; cases e) g
      rw [e2] at this
      cases this
  | par d =>
    obtain ⟨a, o, e, b, e2, r⟩ := h
    exact ⟨a, o, e, b, x.h _ _ e2, r.mono x.g⟩
theorem Rel.ex (r : Rel K S B L G H env σ) (x : Ex G H G' H') : Rel K S B L G' H' env σ := ⟨L2.Paired.mapP r.at_ fun _ _ q => q.ex x, r.nd, r.nl⟩
theorem paired_get {α γ : Type} {F : α → γ → Prop} : ∀ {l : List α} {m : List γ} {i : Nat} {a : α}, Paired F l m → l[i]? = some a → ∃ b, m[i]? = some b ∧ F a b
  | _, _, _, _, .nil, e => by simp at e
  | _, _, 0, _, .cons r _, e => by simp at e; subst e; exact ⟨_, rfl, r⟩
  | _, _, i + 1, a, .cons _ t, e => by
    obtain ⟨u, h1, h2⟩ := paired_get (i := i) (a := a) t (by simpa using e)
    exact ⟨u, by simpa using h1, h2⟩
theorem paired_set {α γ : Type} {F : α → γ → Prop} {a : α} {b : γ} (h : F a b) : ∀ {l : List α} {m : List γ} (i : Nat), Paired F l m → Paired F (l.set i a) (m.set i b)
  | _, _, _, .nil => .nil
  | _, _, 0, .cons _ t => .cons h t
  | _, _, i + 1, .cons q t => .cons q (paired_set h i t)
theorem paired_len {α γ : Type} {F : α → γ → Prop} {l : List α} {m : List γ} (p : Paired F l m) : l.length = m.length := Paired.length p
theorem paired_of {α γ : Type} {F : α → γ → Prop} : ∀ {l : List α} {m : List γ}, l.length = m.length → (∀ (i : Nat) a b, l[i]? = some a → m[i]? = some b → F a b) → Paired F l m
  | [], [], _, _ => .nil
  | a :: l, b :: m, e, h => .cons (h 0 a b rfl rfl) (paired_of (by simpa using e) fun i x y h1 h2 => h (i + 1) x y (by simpa using h1) (by simpa using h2))
end
/-! ### outcomes -/
inductive Res (α : Type) where
  | ok (a : α) (e : Env)
  | ex (C : Nat) (fs : List (Str × D)) (e : Env)
  | no
def Res.bind {α β : Type} (r : Res α) (k : α → Env → Res β) : Res β := match r with
  | .ok a e => k a e
  | .ex C fs e => .ex C fs e
  | .no => .no
def Res.of {α : Type} (o : Option α) (e : Env) : Res α := match o with
  | some a => .ok a e
  | none => .no
section
variable (K : PySem.W.Frag) (S : Nat → Addr) (E : XK)
def XD (G H : Hp) (fs : List (Str × D)) (od : Option Addr) : Prop := (fs = [] ∧ od = none) ∨ ∃ dd ws, od = some dd ∧ H dd = some (.xd ws) ∧ RepF K S G fs ws
def Post {α : Type} (B : Base) (L : Lk) (σ : L2.St) (G : Hp) (P : Hp → Hp → α → Env → Prop) : Res α → Prop
  | .ok a env => ∀ G' H', Same G G' → Ste B L G' H' → Rel K S B L G' H' env σ → P G' H' a env
  | .ex C fs env => ∀ od G' H', Same G G' → Ste B L G' H' → Rel K S B L G' H' env σ → XD K S G' H' fs od → E (Value.ref (S C)) od H'
  | .no => False
end
section
variable {K : PySem.W.Frag} {S : Nat → Addr} {E : XK} {B : Base} {L : Lk} {G G1 H G' H' : Hp} {env : Env} {σ : L2.St} {α β : Type} {r : Res α} {P P' : Hp → Hp → α → Env → Prop}
theorem Post.imp (h : Post K S E B L σ G P r) (f : ∀ G' H' a e, Same G G' → Ste B L G' H' → Rel K S B L G' H' e σ → P G' H' a e → P' G' H' a e) : Post K S E B L σ G P' r := by
  cases r with
  | ok a e => exact fun G' H' s st rl => f _ _ _ _ s st rl (h G' H' s st rl)
  | ex C fs e => exact h
  | no => exact h
theorem Post.up (h : Post K S E B L σ G P r) (s : Same G G1) : Post K S E B L σ G1 P r := by
  cases r with
  | ok a e => exact fun G' H' s' => h G' H' (s.trans s')
  | ex C fs e => exact fun od G' H' s' => h od G' H' (s.trans s')
  | no => exact h
theorem Post.bind {k : α → Env → Res β} {P : Hp → Hp → β → Env → Prop} (h : Post K S E B L σ G P (r.bind k)) : Post K S E B L σ G (fun G' H' a e => Post K S E B L σ G' P (k a e)) r := by
  cases r with
  | ok a e => exact fun G' H' s st rl => Post.up h s
  | ex C fs e => exact h
  | no => exact h
/-- bind, with what is known behind the first -/
theorem Post.then {k : α → Env → Res β} {P : Hp → Hp → β → Env → Prop} (h : Post K S E B L σ G P (r.bind k)) (f : ∀ G' H' a e, Same G G' → Ste B L G' H' → Rel K S B L G' H' e σ → Post K S E B L σ G' P (k a e) → P' G' H' a e) : Post K S E B L σ G P' r := (Post.bind h).imp f
theorem Post.of {o : Option α} {e : Env} (h : Post K S E B L σ G P (.of o e)) (st : Ste B L G H) (rl : Rel K S B L G H e σ) : ∃ a, o = some a ∧ ∀ G' H', Ex G H G' H' → P G' H' a e := by
  cases o with
  | none => exact h.elim
  | some a => exact ⟨a, rfl, fun G' H' x => h G' H' x.g (st.ex x) (rl.ex x)⟩
end
abbrev Ev := Env → Res D
abbrev EvT := Env → Res Bool
section
variable (K : PySem.W.Frag) (S : Nat → Addr) (E : XK)
def Tx {α γ : Type} (R : Hp → L2.St → α → γ → Prop) (f : Env → Res α) : L2.St → Hp → (γ → Hp → Prop) → Prop := fun σ H Q =>
  ∃ (B : Base) (L : Lk) (G : Hp) (env : Env), Ste B L G H ∧ Rel K S B L G H env σ ∧ Post K S E B L σ G (fun G' H' a _ => ∀ v, R G' σ a v → Q v H') (f env)
abbrev TD (f : Ev) : TE := Tx K S E (fun G _ d v => Rep K S G d v) f
abbrev TB (f : EvT) : TT := Tx K S E (fun _ _ b c => b = c) f
/-- the value is an object of one's own -/
def TF (f : Ev) : TE := fun σ H Q =>
  ∃ (B : Base) (L : Lk) (G : Hp) (env : Env), Ste B L G H ∧ Rel K S B L G H env σ ∧ Post K S E B L σ G (fun G' H' d e => ∀ a o, G' a = none → B.H a = none → H' a = some o → (∀ (i : Nat) (s : Sl), e[i]? = some s → isOwn s = true → σ[i]? ≠ some (some (V.ref a))) → (∀ p ∈ L, p.1 ≠ a) → RepO K S G' d o → Q (.ref a) H') (f env)
end
section
variable {K : PySem.W.Frag} {S : Nat → Addr} {X : Cx} {E : XK}
abbrev QE (S : Nat → Addr) (X : Cx) (E : XK) (e : Expr) (f : Ev) : Prop := PE X e (TD X.K S E f)
abbrev QF (S : Nat → Addr) (X : Cx) (E : XK) (e : Expr) (f : Ev) : Prop := PE X e (TF X.K S E f)
abbrev QT (S : Nat → Addr) (X : Cx) (E : XK) (e : Expr) (f : EvT) : Prop := PT X e (TB X.K S E f)
abbrev QW (S : Nat → Addr) (X : Cx) (E : XK) (e : Expr) (f : EvT) : Prop := PW X e (TB X.K S E f)
theorem pe_of {e : Expr} {t u : TE} (p : PE X e t) (h : ∀ σ H Q, u σ H Q → t σ H Q) : PE X e u := ⟨fun pins s σ H Q I q => p.run pins s σ H Q I (h σ H Q q)⟩
theorem pt_of {e : Expr} {t u : TT} (p : PT X e t) (h : ∀ σ H Q, u σ H Q → t σ H Q) : PT X e u := ⟨fun pins s σ H Q I q => p.run pins s σ H Q I (h σ H Q q)⟩
theorem pw_of {e : Expr} {t u : TT} (p : PW X e t) (h : ∀ σ H Q, u σ H Q → t σ H Q) : PW X e u := ⟨fun w pins s σ H Q I q => p.run w pins s σ H Q I (h σ H Q q)⟩
theorem pa_of {es : List Expr} {t u : TA} (p : PA X es t) (h : ∀ σ H Q, u σ H Q → t σ H Q) : PA X es u := ⟨fun pos pins s σ H Q I q => p.run pos pins s σ H Q I (h σ H Q q)⟩
theorem ps_of {st : Stmt} {t u : TS} (p : PS X st t) (h : ∀ D σ H, u D σ H → t D σ H) : PS X st u := ⟨fun pins s σ H D I q => p.run pins s σ H D I (h D σ H q)⟩
theorem pss_of {st : List Stmt} {t u : TS} (p : PSs X st t) (h : ∀ D σ H, u D σ H → t D σ H) : PSs X st u := ⟨fun pins s σ H D I q => p.run pins s σ H D I (h D σ H q)⟩
/-- an object of one's own becomes a value for ever -/
theorem freeze {B : Base} {L : Lk} {G H : Hp} {env : Env} {σ : L2.St} {a : Addr} {o : HO} {d : D} (st : Ste B L G H) (rl : Rel K S B L G H env σ) (ga : G a = none) (ba : B.H a = none) (ha : H a = some o) (hn : ∀ (i : Nat) (s : Sl), env[i]? = some s → isOwn s = true → σ[i]? ≠ some (some (V.ref a))) (hl : ∀ p ∈ L, p.1 ≠ a) (r : RepO K S G d o) :
    Same G (upd G a o) ∧ Ste B L (upd G a o) H ∧ Rel K S B L (upd G a o) H env σ ∧ Rep K S (upd G a o) d (.ref a) := by
  have sm : Same G (upd G a o) := same_upd ga
  refine ⟨sm, ⟨st.g0.trans sm, fun b u e => ?_, fun b h e => ?_, st.keep, st.lock, fun b e => ?_, fun p hp hf => by rw [upd_ne (hl p hp)]; exact st.out p hp hf⟩, ⟨?_, rl.nd, rl.nl⟩, ?_⟩
  · by_cases hb : b = a
    · subst hb; rw [upd_same] at e; cases e; exact .inl ha
    · rw [upd_ne hb] at e; exact st.inn _ _ e
  · by_cases hb : b = a
    · subst hb; exact ba
    · rw [upd_ne hb] at h; exact st.new b h e
  · obtain ⟨h1, h2, h4, h3⟩ := st.par b e
    refine ⟨?_, h2, h4, h3⟩
    by_cases hb : b = a
    · subst hb; exact (h4 ba).elim
    · rw [upd_ne hb]; exact h1
  · refine paired_of (paired_len rl.at_) fun i s x h1 h2 => ?_
    obtain ⟨x', h3, q⟩ := paired_get rl.at_ h1
    rw [h2] at h3
    cases h3
    cases s with
    | no => trivial
    | val d' =>
      obtain ⟨v, e, r'⟩ := q
      exact ⟨v, e, r'.mono sm⟩
    | box d' =>
      obtain ⟨b, o', e, g, bb, e2, r'⟩ := q
      refine ⟨b, o', e, ?_, bb, e2, r'.mono sm⟩
      rw [upd_ne]
      · exact g
      · intro eb
        subst eb
        exact hn i _ h1 rfl (by rw [h2, e])
    | par d' =>
      obtain ⟨b, o', e, bb, e2, r'⟩ := q
      exact ⟨b, o', e, bb, e2, r'.mono sm⟩
  · cases d with
    | lst xs =>
      obtain ⟨vs, rfl, q⟩ := r
      exact ⟨a, vs, rfl, upd_same, q.mono sm⟩
    | dct kvs =>
      obtain ⟨ws, rfl, q⟩ := r
      exact ⟨a, ws, rfl, upd_same, q.mono sm⟩
    | ins C fs =>
      obtain ⟨dx, ws, rfl, q⟩ := r
      exact ⟨a, dx, ws, rfl, upd_same, q.mono sm⟩
    | _ => exact r.elim
/-- what is one's own is a value -/
theorem q_fr {e : Expr} {f : Ev} (h : QF S X E e f) : QE S X E e f := pe_of h fun σ H Q ⟨B, L, G, env, st, rl, p⟩ => ⟨B, L, G, env, st, rl, by
  revert p
  cases f env with
  | no => exact fun p => p
  | ex C fs e' => exact fun p => p
  | ok d e' =>
    intro p G' H' sm st' rl' a o ga ba ha hn hl r
    obtain ⟨s1, s2, s3, s4⟩ := freeze st' rl' ga ba ha hn hl r
    exact p _ H' (sm.trans s1) s2 s3 _ s4⟩
end
end
end Dv
namespace Dv
open PySem PySem.Spec PyProof.Rows L2
set_option autoImplicit false
noncomputable section
section
variable {K : PySem.W.Frag} {S : Nat → Addr} {X : Cx} {E : XK} {a b c e : Expr} {ea eb ec ee : Ev} {pos : Pos}
/-! ### names -/
/-- a value at a slot; an object of one's own becomes a value -/
def xVar (i : Nat) : Ev := fun env => match env[i]? with
  | some (.val d) => .ok d env
  | some (.box d) => .ok d (env.set i (.val d))
  | _ => .no
/-- a value at a slot -/
def xVal (i : Nat) : Ev := fun env => match env[i]? with
  | some (.val d) => .ok d env
  | _ => .no
theorem rel_at {B : Base} {L : Lk} {G H : Hp} {env : Env} {σ : L2.St} {i : Nat} {s : Sl} (rl : Rel K S B L G H env σ) (h : env[i]? = some s) : ∃ x, σ[i]? = some x ∧ SlOk K S B G H s x := paired_get rl.at_ h
theorem set_at {α : Type} {l : List α} {i j : Nat} {a b : α} (h : (l.set i a)[j]? = some b) : (j = i ∧ b = a) ∨ (j ≠ i ∧ l[j]? = some b) := by
  by_cases e : j = i
  · subst e
    by_cases hl : j < l.length
    · rw [List.getElem?_set_self hl] at h
      cases h
      exact .inl ⟨rfl, rfl⟩
    · rw [List.getElem?_eq_none_iff.mpr (by rw [List.length_set]; omega)] at h
      cases h
  · rw [List.getElem?_set_ne (fun q => e q.symm)] at h
    exact .inr ⟨e, h⟩
/-- a slot's content is forgotten as one's own -/
theorem rel_val {B : Base} {L : Lk} {G H : Hp} {env : Env} {σ : L2.St} {i : Nat} {d : D} (rl : Rel K S B L G H env σ) (h : ∀ x, σ[i]? = some x → SlOk K S B G H (.val d) x) : Rel K S B L G H (env.set i (.val d)) σ := by
  refine ⟨paired_of (by rw [List.length_set]; exact paired_len rl.at_) fun j s x h1 h2 => ?_, fun j k s t v hjk h1 h2 o1 o2 => ?_, fun j s v h1 o1 => ?_⟩
  · rcases set_at h1 with ⟨rfl, rfl⟩ | ⟨hj, h1⟩
    · exact h x h2
    · obtain ⟨y, e, q⟩ := rel_at rl h1
      rw [h2] at e
      cases e
      exact q
  · rcases set_at h1 with ⟨rfl, rfl⟩ | ⟨hj, h1⟩
    · cases o1
    · rcases set_at h2 with ⟨rfl, rfl⟩ | ⟨hk, h2⟩
      · cases o2
      · exact rl.nd j k s t v hjk h1 h2 o1 o2
  · rcases set_at h1 with ⟨rfl, rfl⟩ | ⟨hj, h1⟩
    · cases o1
    · exact rl.nl j s v h1 o1
theorem rel_no {B : Base} {L : Lk} {G H : Hp} {env : Env} {σ : L2.St} {i : Nat} (rl : Rel K S B L G H env σ) : Rel K S B L G H (env.set i .no) σ := by
  refine ⟨paired_of (by rw [List.length_set]; exact paired_len rl.at_) fun j s x h1 h2 => ?_, fun j k s t v hjk h1 h2 o1 o2 => ?_, fun j s v h1 o1 => ?_⟩
  · rcases set_at h1 with ⟨rfl, rfl⟩ | ⟨hj, h1⟩
    · trivial
    · obtain ⟨y, e, q⟩ := rel_at rl h1
      rw [h2] at e
      cases e
      exact q
  · rcases set_at h1 with ⟨rfl, rfl⟩ | ⟨hj, h1⟩
    · cases o1
    · rcases set_at h2 with ⟨rfl, rfl⟩ | ⟨hk, h2⟩
      · cases o2
      · exact rl.nd j k s t v hjk h1 h2 o1 o2
  · rcases set_at h1 with ⟨rfl, rfl⟩ | ⟨hj, h1⟩
    · cases o1
    · exact rl.nl j s v h1 o1
/-- a box becomes a value -/
theorem thaw {B : Base} {L : Lk} {G H : Hp} {env : Env} {σ : L2.St} {i : Nat} {d : D} (st : Ste B L G H) (rl : Rel K S B L G H env σ) (h : env[i]? = some (.box d)) :
    ∃ (v : V) (G' : Hp), σ[i]? = some (some v) ∧ Same G G' ∧ Ste B L G' H ∧ Rel K S B L G' H (env.set i (.val d)) σ ∧ Rep K S G' d v := by
  obtain ⟨x, hx, p, o, rfl, gp, bp, hp, r⟩ := rel_at rl h
  have rl2 := rel_no (i := i) rl
  obtain ⟨s1, s2, s3, s4⟩ := freeze st rl2 gp bp hp (fun j s h1 o1 q => by
    rcases set_at h1 with ⟨rfl, rfl⟩ | ⟨hj, h1⟩
    · cases o1
    · exact rl.nd i j _ s p (fun e => hj e.symm) h h1 rfl o1 hx q) (fun q hq => rl.nl i _ p h rfl hx q hq) r
  refine ⟨.ref p, _, hx, s1, s2, ?_, s4⟩
  have := rel_val (i := i) (d := d) s3 (fun y hy => by
    rw [hx] at hy
    cases hy
    exact ⟨_, rfl, s4⟩)
  rw [List.set_set] at this
  exact this
theorem q_var {i : Nat} (p : PE X e (tVar i)) : QE S X E e (xVar i) := pe_of p fun σ H Q ⟨B, L, G, env, st, rl, po⟩ => by
  unfold xVar at po
  split at po
  · rename_i d h
    obtain ⟨x, hx, v, rfl, r⟩ := rel_at rl h
    exact ⟨v, hx, po G H (.refl _) st rl v r⟩
  · rename_i d h
    obtain ⟨v, G', hx, s1, s2, s3, s4⟩ := thaw st rl h
    exact ⟨v, hx, po G' H s1 s2 s3 v s4⟩
  · exact po.elim
theorem q_vl {i : Nat} (p : PE X e (tVar i)) : QE S X E e (xVal i) := pe_of p fun σ H Q ⟨B, L, G, env, st, rl, po⟩ => by
  unfold xVal at po
  split at po
  · rename_i d h
    obtain ⟨x, hx, v, rfl, r⟩ := rel_at rl h
    exact ⟨v, hx, po G H (.refl _) st rl v r⟩
  · exact po.elim
def xC (d : D) : Ev := fun env => .ok d env
theorem q_c {d : D} {v : V} (p : PE X e (tC v)) (r : ∀ G, Rep X.K S G d v) : QE S X E e (xC d) := pe_of p fun σ H Q ⟨B, L, G, env, st, rl, po⟩ => po G H (.refl _) st rl v (r G)
def xNo {α : Type} : Env → Res α := fun _ => .no
theorem q_no : QE S X E e xNo := ⟨fun _ _ _ _ _ _ ⟨_, _, _, _, _, _, po⟩ => po.elim⟩
/-! ### operations -/
abbrev FO := D → D → Option D
def SOp (K : PySem.W.Frag) (S : Nat → Addr) (f : FO) (r : R2) : Prop := ∀ (G H : Hp) (x y d : D) (v w : V) (Q : VK), Inn G H → Rep K S G x v → Rep K S G y w → f x y = some d → (∀ G' H' u, Ex G H G' H' → Rep K S G' d u → Q u H') → r v w H Q
abbrev FU := D → Option D
def SUn (K : PySem.W.Frag) (S : Nat → Addr) (f : FU) (r : V → Hp → VK → Prop) : Prop := ∀ (G H : Hp) (x d : D) (v : V) (Q : VK), Inn G H → Rep K S G x v → f x = some d → (∀ G' H' u, Ex G H G' H' → Rep K S G' d u → Q u H') → r v H Q
abbrev FC := List D → Option D
def SCl (K : PySem.W.Frag) (S : Nat → Addr) (f : FC) (r : List V → Hp → VK → Prop) : Prop := ∀ (G H : Hp) (xs : List D) (d : D) (vs : List V) (Q : VK), Inn G H → RepL K S G xs vs → f xs = some d → (∀ G' H' u, Ex G H G' H' → Rep K S G' d u → Q u H') → r vs H Q
def r2or (a b : R2) : R2 := fun x y H Q => a x y H Q ∨ b x y H Q
theorem opOr {f : Value → Value → Sem Value} {r r' : R2} (a : OpR X f r) (b : OpR X f r') : OpR X f (r2or r r') := fun pins s σ H x y v u Q I r1 r2 h => h.elim (a pins s σ H x y v u Q I r1 r2) (b pins s σ H x y v u Q I r1 r2)
def xOp (f : FO) (a b : Ev) : Ev := fun env => (a env).bind fun x e1 => (b e1).bind fun y e2 => .of (f x y) e2
theorem snd_op {f : FO} {r : R2} {σ : L2.St} {H : Hp} {Q : VK} (so : SOp K S f r) (q : TD K S E (xOp f ea eb) σ H Q) : tOp r (TD K S E ea) (TD K S E eb) σ H Q := by
  obtain ⟨B, L, G, env, st, rl, po⟩ := q
  exact ⟨B, L, G, env, st, rl, po.then fun G1 H1 x e1 sm1 st1 rl1 p1 v rv => ⟨B, L, G1, e1, st1, rl1, p1.then fun G2 H2 y e2 sm2 st2 rl2 p2 w rw' => by
    obtain ⟨d, hd, k⟩ := p2.of st2 rl2
    exact so G2 H2 x y d v w Q st2.inn (rv.mono sm2) rw' hd fun G' H' u ex ru => k G' H' ex u ru⟩⟩
theorem q_op {op : Operator} {f : FO} {r : R2} (ho : OpR X (binaryOp op) r) (so : SOp X.K S f r) (ha : QE S X E a ea) (hb : QE S X E b eb) : QE S X E (.BinOp a op b pos) (xOp f ea eb) := pe_of (pe_op ho ha hb) fun _ _ _ q => snd_op so q
theorem q_cmp {op : CmpOp} {f : FO} {r : R2} (ho : OpR X (compareOp op) r) (so : SOp X.K S f r) (ha : QE S X E a ea) (hb : QE S X E b eb) (hm : behindInMarks op b = false) : QE S X E (.Compare a [op] [b] pos) (xOp f ea eb) := pe_of (pe_cmpR ho ha hb hm) fun _ _ _ q => snd_op so q
theorem q_ix {f : FO} {r : R2} (ho : IxR X r) (so : SOp X.K S f r) (ha : QE S X E a ea) (hb : QE S X E b eb) (hs : PlainIx b) : QE S X E (.Subscript a b pos) (xOp f ea eb) := pe_of (pe_ix ho ha hb hs) fun _ _ _ q => snd_op so q
def xUn (f : FU) (a : Ev) : Ev := fun env => (a env).bind fun x e1 => .of (f x) e1
theorem q_un {op : UnaryOp} {f : FU} {r : V → Hp → VK → Prop} (ho : UnR X (unaryOp op) r) (so : SUn X.K S f r) (ha : QE S X E a ea) : QE S X E (.UnaryOp op a pos) (xUn f ea) := pe_of (pe_un ho ha) fun σ H Q ⟨B, L, G, env, st, rl, po⟩ => ⟨B, L, G, env, st, rl, po.then fun G1 H1 x e1 sm1 st1 rl1 p1 v rv => by
    obtain ⟨d, hd, k⟩ := p1.of st1 rl1
    exact so G1 H1 x d v Q st1.inn rv hd fun G' H' u ex ru => k G' H' ex u ru⟩
def oNot : FU := fun x => match x with
  | .bl b => some (.bl (!b))
  | _ => none
theorem q_not (ha : QE S X E a ea) : QE S X E (.UnaryOp .Not a pos) (xUn oNot ea) := pe_of (pe_not ha) fun σ H Q ⟨B, L, G, env, st, rl, po⟩ => ⟨B, L, G, env, st, rl, po.then fun G1 H1 x e1 sm1 st1 rl1 p1 v rv => by
    obtain ⟨d, hd, k⟩ := p1.of st1 rl1
    cases x with
    | bl b => cases hd; exact ⟨b, rv, k G1 H1 (.refl st1.inn) _ rfl⟩
    | _ => cases hd⟩
/-! chains -/
def xChain (f g : FO) (a b c : Ev) : Ev := fun env => (a env).bind fun x e1 => (b e1).bind fun y e2 => match f x y with
  | some (.bl true) => (c e2).bind fun z e3 => .of (g y z) e3
  | some (.bl false) => .ok (.bl false) e2
  | _ => .no
theorem snd_chain {f g : FO} {r r' : R2} {σ : L2.St} {H : Hp} {Q : VK} (so : SOp K S f r) (so' : SOp K S g r') (q : TD K S E (xChain f g ea eb ec) σ H Q) : tChain r r' (TD K S E ea) (TD K S E eb) (TD K S E ec) σ H Q := by
  obtain ⟨B, L, G, env, st, rl, po⟩ := q
  refine ⟨B, L, G, env, st, rl, po.then fun G1 H1 x e1 sm1 st1 rl1 p1 v rv => ⟨B, L, G1, e1, st1, rl1, p1.then fun G2 H2 y e2 sm2 st2 rl2 p2 w rw' => ?_⟩⟩
  split at p2
  · rename_i hf
    refine so G2 H2 x y _ v w _ st2.inn (rv.mono sm2) rw' hf fun G3 H3 u ex ru => ?_
    cases ru
    refine ⟨true, rfl, ?_⟩
    rw [if_pos rfl]
    exact ⟨B, L, G3, e2, st2.ex ex, rl2.ex ex, (p2.up ex.g).then fun G4 H4 z e3 sm4 st4 rl4 p4 w' rz => by
      obtain ⟨d, hd, k⟩ := p4.of st4 rl4
      exact so' G4 H4 y z d w w' Q st4.inn ((rw'.mono ex.g).mono sm4) rz hd fun G' H' u ex ru => k G' H' ex u ru⟩
  · rename_i hf
    refine so G2 H2 x y _ v w _ st2.inn (rv.mono sm2) rw' hf fun G3 H3 u ex ru => ?_
    cases ru
    refine ⟨false, rfl, ?_⟩
    rw [if_neg (by decide)]
    exact p2 G3 H3 ex.g (st2.ex ex) (rl2.ex ex) _ rfl
  · exact p2.elim
theorem q_chain {op op' : CmpOp} {f g : FO} {r r' : R2} (ho : OpR X (compareOp op) r) (ho' : OpR X (compareOp op') r') (so : SOp X.K S f r) (so' : SOp X.K S g r') (ha : QE S X E a ea) (hb : QE S X E b eb) (hc : QE S X E c ec)
    (hm : lastMarks [op, op'] [b, c] = false := by with_unfolding_all rfl) : QE S X E (.Compare a [op, op'] [b, c] pos) (xChain f g ea eb ec) := pe_of (pe_chain ho ho' ha hb hc hm) fun _ _ _ q => snd_chain so so' q
/-! ### tests -/
def xTest (a : Ev) : EvT := fun env => (a env).bind fun x e1 => match x with
  | .bl b => .ok b e1
  | _ => .no
theorem snd_test {ta : TE} {σ : L2.St} {H : Hp} {Q : Bool → Hp → Prop} (hi : ∀ Q, TD K S E ea σ H Q → ta σ H Q) (q : TB K S E (xTest ea) σ H Q) : tB ta σ H Q := by
  obtain ⟨B, L, G, env, st, rl, po⟩ := q
  refine hi _ ⟨B, L, G, env, st, rl, po.then fun G1 H1 x e1 sm1 st1 rl1 p1 v rv => ?_⟩
  cases x with
  | bl b => exact ⟨b, rv, p1 G1 H1 (.refl _) st1 rl1 b rfl⟩
  | _ => exact p1.elim
theorem q_val (ha : QE S X E a ea) (he : ∀ whole, isTrue a X.env whole = (do let v ← whole; standAt a.pos; holding [v] (truthy v)) := by intro _; rfl) : QT S X E a (xTest ea) := pt_of (pt_val ha he) fun _ _ _ q => snd_test (fun _ h => h) q
theorem q_cmpT {op : CmpOp} {f : FO} {r : R2} (ho : OpR X (compareOp op) r) (so : SOp X.K S f r) (ha : QE S X E a ea) (hb : QE S X E b eb) (hm : behindInMarks op b = false) : QT S X E (.Compare a [op] [b] pos) (xTest (xOp f ea eb)) := pt_of (pt_cmpR ho ha hb hm) fun _ _ _ q => snd_test (fun _ h => snd_op so h) q
theorem q_chainT {op op' : CmpOp} {f g : FO} {r r' : R2} (ho : OpR X (compareOp op) r) (ho' : OpR X (compareOp op') r') (so : SOp X.K S f r) (so' : SOp X.K S g r') (ha : QE S X E a ea) (hb : QE S X E b eb) (hc : QE S X E c ec)
    (hm : lastMarks [op, op'] [b, c] = false := by with_unfolding_all rfl) : QT S X E (.Compare a [op, op'] [b, c] pos) (xTest (xChain f g ea eb ec)) := pt_of (pt_chain ho ho' ha hb hc hm) fun _ _ _ q => snd_test (fun _ h => snd_chain so so' h) q
variable {et eu : EvT} {rest : List Expr}
def xNotT (a : EvT) : EvT := fun env => (a env).bind fun x e1 => .ok (!x) e1
theorem q_notT (ha : QT S X E a et) : QT S X E (.UnaryOp .Not a pos) (xNotT et) := pt_of (pt_not ha) fun σ H Q ⟨B, L, G, env, st, rl, po⟩ => ⟨B, L, G, env, st, rl, po.then fun G1 H1 x e1 sm1 st1 rl1 p1 v rv => by
  cases rv
  exact p1 G1 H1 (.refl _) st1 rl1 _ rfl⟩
def xAndT (a b : EvT) : EvT := fun env => (a env).bind fun x e1 => match x with
  | true => b e1
  | false => .ok false e1
def xOrT (a b : EvT) : EvT := fun env => (a env).bind fun x e1 => match x with
  | true => .ok true e1
  | false => b e1
theorem q_wand1 (ha : QT S X E a et) : QW S X E (.BoolOp .And [a] pos) et := pw_and1 ha
theorem q_wor1 (ha : QT S X E a et) : QW S X E (.BoolOp .Or [a] pos) et := pw_or1 ha
theorem q_wand (ha : QT S X E a et) (hb : QW S X E (.BoolOp .And (b :: rest) pos) eu) : QW S X E (.BoolOp .And (a :: b :: rest) pos) (xAndT et eu) := pw_of (pw_and ha hb) fun σ H Q ⟨B, L, G, env, st, rl, po⟩ => ⟨B, L, G, env, st, rl, po.then fun G1 H1 x e1 sm1 st1 rl1 p1 v rv => by
  cases rv
  cases x with
  | true => exact ⟨B, L, G1, e1, st1, rl1, p1⟩
  | false => exact p1 G1 H1 (.refl _) st1 rl1 _ rfl⟩
theorem q_wor (ha : QT S X E a et) (hb : QW S X E (.BoolOp .Or (b :: rest) pos) eu) : QW S X E (.BoolOp .Or (a :: b :: rest) pos) (xOrT et eu) := pw_of (pw_or ha hb) fun σ H Q ⟨B, L, G, env, st, rl, po⟩ => ⟨B, L, G, env, st, rl, po.then fun G1 H1 x e1 sm1 st1 rl1 p1 v rv => by
  cases rv
  cases x with
  | true => exact p1 G1 H1 (.refl _) st1 rl1 _ rfl
  | false => exact ⟨B, L, G1, e1, st1, rl1, p1⟩⟩
theorem q_pt (h : QW S X E a et) : QT S X E a et := PW.pt h
/-! and, or as values -/
def xAndV (a b : Ev) : Ev := fun env => (a env).bind fun x e1 => match x with
  | .bl true => b e1
  | .bl false => .ok (.bl false) e1
  | _ => .no
def xOrV (a b : Ev) : Ev := fun env => (a env).bind fun x e1 => match x with
  | .bl true => .ok (.bl true) e1
  | .bl false => b e1
  | _ => .no
theorem q_one {op : BoolOp} (h : QE S X E a ea) : QE S X E (.BoolOp op [a] pos) ea := pe_one h
theorem q_and (ha : QE S X E a ea) (hb : QE S X E (.BoolOp .And (b :: rest) pos) eb) : QE S X E (.BoolOp .And (a :: b :: rest) pos) (xAndV ea eb) := pe_of (pe_and ha hb) fun σ H Q ⟨B, L, G, env, st, rl, po⟩ => ⟨B, L, G, env, st, rl, po.then fun G1 H1 x e1 sm1 st1 rl1 p1 v rv => by
  cases x with
  | bl c =>
    refine ⟨c, rv, ?_⟩
    cases c with
    | true => exact ⟨B, L, G1, e1, st1, rl1, p1⟩
    | false => exact p1 G1 H1 (.refl _) st1 rl1 _ rfl
  | _ => exact p1.elim⟩
theorem q_or (ha : QE S X E a ea) (hb : QE S X E (.BoolOp .Or (b :: rest) pos) eb) : QE S X E (.BoolOp .Or (a :: b :: rest) pos) (xOrV ea eb) := pe_of (pe_or ha hb) fun σ H Q ⟨B, L, G, env, st, rl, po⟩ => ⟨B, L, G, env, st, rl, po.then fun G1 H1 x e1 sm1 st1 rl1 p1 v rv => by
  cases x with
  | bl c =>
    refine ⟨c, rv, ?_⟩
    cases c with
    | true => exact p1 G1 H1 (.refl _) st1 rl1 _ rfl
    | false => exact ⟨B, L, G1, e1, st1, rl1, p1⟩
  | _ => exact p1.elim⟩
def xIf (t : EvT) (a b : Ev) : Ev := fun env => (t env).bind fun x e1 => match x with
  | true => a e1
  | false => b e1
theorem q_if {c : Expr} (hc : QT S X E c et) (ha : QE S X E a ea) (hb : QE S X E b eb) : QE S X E (.IfExp c a b pos) (xIf et ea eb) := pe_of (pe_ifExp hc ha hb) fun σ H Q ⟨B, L, G, env, st, rl, po⟩ => ⟨B, L, G, env, st, rl, po.then fun G1 H1 x e1 sm1 st1 rl1 p1 v rv => by
  cases rv
  cases x with
  | true => exact ⟨B, L, G1, e1, st1, rl1, p1⟩
  | false => exact ⟨B, L, G1, e1, st1, rl1, p1⟩⟩
/-! ### lists of arguments -/
abbrev EvA := Env → Res (List D)
abbrev TAe (K : PySem.W.Frag) (S : Nat → Addr) (E : XK) (f : EvA) : TA := Tx K S E (fun G _ d v => RepL K S G d v) f
abbrev QA (S : Nat → Addr) (X : Cx) (E : XK) (es : List Expr) (f : EvA) : Prop := PA X es (TAe X.K S E f)
def xNil : EvA := fun env => .ok [] env
def xCons (a : Ev) (r : EvA) : EvA := fun env => (a env).bind fun x e1 => (r e1).bind fun xs e2 => .ok (x :: xs) e2
variable {es : List Expr} {er : EvA}
theorem q_nil : QA S X E [] xNil := pa_of pa_nil fun σ H Q ⟨B, L, G, env, st, rl, po⟩ => po G H (.refl _) st rl [] rfl
theorem q_cons (ha : QE S X E a ea) (hr : QA S X E es er) (hs : starEach (a :: es) X.env = (false, eval a X.env) :: starEach es X.env := by rfl) : QA S X E (a :: es) (xCons ea er) := pa_of (pa_cons ha hr hs) fun σ H Q ⟨B, L, G, env, st, rl, po⟩ => ⟨B, L, G, env, st, rl, po.then fun G1 H1 x e1 sm1 st1 rl1 p1 v rv => ⟨B, L, G1, e1, st1, rl1, p1.then fun G2 H2 xs e2 sm2 st2 rl2 p2 vs rvs => p2 G2 H2 (.refl _) st2 rl2 _ ((RepL.cons (rv.mono sm2) rvs))⟩⟩
theorem line10 {n : Nat} (h : n ≤ 1000000) : n ≤ sizeLine := by
  have : sizeLine = 16777216 := sizeLine_eq
  omega
/-! displays -/
def xLst (r : EvA) : Ev := fun env => (r env).bind fun xs e => if xs.length ≤ 1000000 then .ok (.lst xs) e else .no
def xTup (r : EvA) : Ev := fun env => (r env).bind fun xs e => if xs.length ≤ 1000000 then .ok (.tup xs) e else .no
/-- a new object -/
theorem Rel.fresh {B : Base} {L : Lk} {G H : Hp} {env : Env} {σ : L2.St} (rl : Rel K S B L G H env σ) {p : Addr} (hp : H p = none) : ∀ (i : Nat) (s : Sl), env[i]? = some s → isOwn s = true → σ[i]? ≠ some (some (V.ref p)) := fun i s h1 h2 h3 => by
  obtain ⟨x, hx, q⟩ := rel_at rl h1
  rw [h3] at hx
  cases hx
  cases s with
  | box d =>
    obtain ⟨a, o, e, _, _, e2, _⟩ := q
    cases e
    rw [hp] at e2
    cases e2
  | par d =>
    obtain ⟨a, o, e, _, e2, _⟩ := q
    cases e
    rw [hp] at e2
    cases e2
  | _ => cases h2
theorem Ste.nolock {B : Base} {L : Lk} {G H : Hp} (st : Ste B L G H) {p : Addr} (hp : H p = none) : ∀ q ∈ L, q.1 ≠ p := fun q hq e => by
  have := st.lock q hq
  rw [e, hp] at this
  cases this
/-- what a new object of one's own asks -/
theorem fresh_ok {B : Base} {L : Lk} {G H : Hp} {env : Env} {σ : L2.St} {d : D} {o : HO} {Q : VK} (st : Ste B L G H) (rl : Rel K S B L G H env σ)
    (k : ∀ G' H', Same G G' → Ste B L G' H' → Rel K S B L G' H' env σ → ∀ a o, G' a = none → B.H a = none → H' a = some o → (∀ (i : Nat) (s : Sl), env[i]? = some s → isOwn s = true → σ[i]? ≠ some (some (V.ref a))) → (∀ p ∈ L, p.1 ≠ a) → RepO K S G' d o → Q (.ref a) H')
    (r : RepO K S G d o) : ∀ p, H p = none → Q (.ref p) (upd H p o) := fun p hp => by
  have x := Ex.skip (o := o) st.inn hp
  exact k G _ (.refl _) (st.ex x) (rl.ex x) p o (st.inn.some hp) (st.free hp) upd_same (rl.fresh hp) (st.nolock hp) r
theorem qf_lst (h : QA S X E es er) : QF S X E (.List es pos) (xLst er) := pe_of (pe_lst h) fun σ H Q ⟨B, L, G, env, st, rl, po⟩ => ⟨B, L, G, env, st, rl, po.then fun G1 H1 xs e1 sm1 st1 rl1 p1 vs rv => by
  split at p1
  · rename_i hl
    exact ⟨line10 (by rw [← rv.length]; exact hl), fresh_ok st1 rl1 p1 ⟨vs, rfl, rv⟩⟩
  · exact p1.elim⟩
theorem q_lst (h : QA S X E es er) : QE S X E (.List es pos) (xLst er) := q_fr (qf_lst h)
theorem q_tup {x1} (h : QA S X E es er) : QE S X E (.Tuple es x1 pos) (xTup er) := pe_of (pe_tup h) fun σ H Q ⟨B, L, G, env, st, rl, po⟩ => ⟨B, L, G, env, st, rl, po.then fun G1 H1 xs e1 sm1 st1 rl1 p1 vs rv => by
  split at p1
  · rename_i hl
    refine ⟨line10 (by rw [← rv.length]; exact hl), fun p hp => ?_⟩
    have x := Ex.new1 (o := .tup vs) st1.inn hp
    exact p1 _ _ x.g (st1.ex x) (rl1.ex x) _ ⟨p, vs, rfl, .inl (.inl upd_same), rv.mono x.g⟩
  · exact p1.elim⟩
/-! calls of built-ins -/
def xCB (f : FC) (r : EvA) : Ev := fun env => (r env).bind fun xs e => .of (f xs) e
theorem snd_cb {f : FC} {r : List V → Hp → VK → Prop} {σ : L2.St} {H : Hp} {Q : VK} (so : SCl K S f r) (q : TD K S E (xCB f er) σ H Q) : tCB r (TAe K S E er) σ H Q := by
  obtain ⟨B, L, G, env, st, rl, po⟩ := q
  exact ⟨B, L, G, env, st, rl, po.then fun G1 H1 xs e1 sm1 st1 rl1 p1 vs rv => by
    obtain ⟨d, hd, k⟩ := p1.of st1 rl1
    exact so G1 H1 xs d vs Q st1.inn rv hd fun G' H' u ex ru => k G' H' ex u ru⟩
theorem q_callB {id : String} {x : Str} {p : Pos} {f : FC} {r : List V → Hp → VK → Prop} (hc : CallR X (.builtin id) r) (so : SCl X.K S f r) (hg : Gl X x) (hm : X.mg x = none) (hv : bootBuiltins x = some (.builtin id)) (ha : QA S X E (a :: es) er) (hn : x ≠ "__name__" := by decide) (hdb : (x == ("__debug__" : Str)) = false := by decide)
    (he : starEach (a :: es) X.env = (false, eval a X.env) :: starEach es X.env := by rfl) (hpl : (backTo pos (starEach es X.env)).any (·.1) = false := by rfl) : QE S X E (.Call (.Name x p) (a :: es) [] pos) (xCB f er) := pe_of (pe_callB hc hg hm hv ha hn hdb he hpl) fun _ _ _ q => snd_cb so q
theorem q_callTy {T : String} {x : Str} {p : Pos} {f : FC} {r : List V → Hp → VK → Prop} (hc : CallR X (.type T) r) (so : SCl X.K S f r) (hg : Gl X x) (hm : X.mg x = none) (hv : bootBuiltins x = some (.type T)) (ha : QA S X E (a :: es) er) (hn : x ≠ "__name__" := by decide) (hdb : (x == ("__debug__" : Str)) = false := by decide)
    (he : starEach (a :: es) X.env = (false, eval a X.env) :: starEach es X.env := by rfl) (hpl : (backTo pos (starEach es X.env)).any (·.1) = false := by rfl) : QE S X E (.Call (.Name x p) (a :: es) [] pos) (xCB f er) := pe_of (pe_callTy hc hg hm hv ha hn hdb he hpl) fun _ _ _ q => snd_cb so q
end
end
end Dv
namespace Dv
open PySem PySem.Spec PyProof.Rows L2
set_option autoImplicit false
noncomputable section
/-! ### defs -/
inductive Ar where
  | val (d : D) | par (d : D)
def Ar.sl : Ar → Sl
  | .val d => .val d
  | .par d => .par d
def Ar.own : Ar → Bool
  | .par _ => true
  | _ => false
inductive FRes where
  | ok (d : D) (p : Option D)
  | ex (C : Nat) (fs : List (Str × D)) (p : Option D)
  | no
abbrev Fn := List Ar → FRes
section
variable (K : PySem.W.Frag) (S : Nat → Addr) (E : XK)
def ArOk (G H : Hp) (r : Option Addr) : Ar → V → Prop
  | .val d, v => Rep K S G d v
  | .par d, v => ∃ a o, v = .ref a ∧ r = some a ∧ H a = some o ∧ RepO K S G d o
structure Fin (G H : Hp) (r : Option Addr) (G' H' : Hp) : Prop where
  g : Same G G'
  inn : Inn G' H'
  new : ∀ a, G' a ≠ none → G a = none → H a = none
  keep : ∀ a o, H a = some o → r ≠ some a → H' a = some o
def ParOk (r : Option Addr) (p : Option D) (G' H' : Hp) : Prop := ∀ d, p = some d → ∃ a o, r = some a ∧ H' a = some o ∧ RepO K S G' d o
def FPost (fr : Bool) (G H : Hp) (r : Option Addr) (Q : VK) : FRes → Prop
  | .ok d p => ∀ G' H', Fin G H r G' H' → ParOk K S r p G' H' → if fr = true then ∀ a o, H a = none → G' a = none → H' a = some o → RepO K S G' d o → Q (.ref a) H' else ∀ v, Rep K S G' d v → Q v H'
  | .ex C fs p => ∀ od G' H', Fin G H r G' H' → ParOk K S r p G' H' → XD K S G' H' fs od → E (Value.ref (S C)) od H'
  | .no => False
def ownN (as : List Ar) : Nat := (as.filter Ar.own).length
structure ArgsOk (G H : Hp) (r : Option Addr) (as : List Ar) (vs : List V) : Prop where
  at_ : Paired (ArOk K S G H r) as vs
  one : ownN as ≤ 1
  par : ∀ a, r = some a → G a = none ∧ H a ≠ none ∧ 1 ≤ ownN as
/-- a def's promise: g tells what comes out; fr: a new object that nobody else has -/
def spD (fr : Bool) (n : Nat) (g : Fn) : Sp := fun vs H Q E => ∃ (G : Hp) (as : List Ar) (r : Option Addr), Inn G H ∧ ArgsOk K S G H r as vs ∧ as.length = n ∧ FPost K S E fr G H r Q (g as)
theorem spD_len {fr : Bool} {n : Nat} {g : Fn} {vs : List V} {H : Hp} {Q : VK} (h : spD K S fr n g vs H Q E) : vs.length = n := by
  obtain ⟨G, as, r, _, ok, hl, _⟩ := h
  rw [← hl, paired_len ok.at_]
end
section
variable {K : PySem.W.Frag} {S : Nat → Addr} {E : XK} {B : Base} {L : Lk} {G H G' H' : Hp} {env : Env} {σ : L2.St} {r : Option Addr}
/-- the callee's end, for the caller -/
theorem Ste.fin (st : Ste B L G H) (rl : Rel K S B L G H env σ) (f : Fin G H r G' H') (hr : ∀ a, r = some a → (∃ (i : Nat) (s : Sl), env[i]? = some s ∧ isOwn s = true ∧ σ[i]? = some (some (V.ref a))) ∧ H' a ≠ none) : Ste B L G' H' := by
  have hb : ∀ a, r = some a → B.H a = none ∨ B.r = some a := fun a e => by
    obtain ⟨⟨i, s, h1, h2, h3⟩, _⟩ := hr a e
    obtain ⟨x, hx, q⟩ := rel_at rl h1
    rw [h3] at hx
    cases hx
    cases s with
    | box d => obtain ⟨a', o, e1, _, b, _⟩ := q; cases e1; exact .inl b
    | par d => obtain ⟨a', o, e1, b, _⟩ := q; cases e1; exact .inr b
    | _ => cases h2
  have hL : ∀ a, r = some a → ∀ p ∈ L, p.1 ≠ a := fun a e => by
    obtain ⟨⟨i, s, h1, h2, h3⟩, _⟩ := hr a e
    exact rl.nl i s a h1 h2 h3
  refine ⟨st.g0.trans f.g, f.inn, fun a h e => ?_, fun a o e hr' hl => ?_, fun p hp => ?_, fun a e => ?_, fun p hp hf => ?_⟩
  · by_cases q : G a = none
    · exact st.free (f.new a h q)
    · exact st.new a q e
  · refine f.keep a o (st.keep a o e hr' hl) fun q => ?_
    rcases hb a q with h | h
    · rw [e] at h; cases h
    · exact hr' h
  · exact f.keep _ _ (st.lock p hp) fun q => hL _ q p hp rfl
  · obtain ⟨h1, h2, h3, h4⟩ := st.par a e
    refine ⟨?_, ?_, h3, h4⟩
    · cases q : G' a with
      | none => rfl
      | some o => exact (h2 (f.new a (by rw [q]; intro e; cases e) h1)).elim
    · by_cases q : r = some a
      · exact (hr a q).2
      · cases q2 : H a with
        | none => exact (h2 q2).elim
        | some o => rw [f.keep a o q2 q]; intro e; cases e
  · have h1 := st.out p hp hf
    cases q : G' p.1 with
    | none => rfl
    | some o =>
      have := f.new p.1 (by rw [q]; intro e; cases e) h1
      rw [st.lock p hp] at this
      cases this
theorem SlOk.fin {s : Sl} {x : Option V} (h : SlOk K S B G H s x) (f : Fin G H r G' H') (hn : isOwn s = true → ∀ a, x = some (V.ref a) → r ≠ some a) : SlOk K S B G' H' s x := by
  cases s with
  | no => trivial
  | val d => obtain ⟨v, e, q⟩ := h; exact ⟨v, e, q.mono f.g⟩
  | box d =>
    obtain ⟨a, o, e, g, b, e2, q⟩ := h
    refine ⟨a, o, e, ?_, b, f.keep _ _ e2 (hn rfl a e), q.mono f.g⟩
    cases q2 : G' a with
    | none => rfl
    | some u =>
      have := f.new a (by rw [q2]; intro e; cases e) g
      rw [e2] at this
      cases this
  | par d =>
    obtain ⟨a, o, e, b, e2, q⟩ := h
    exact ⟨a, o, e, b, f.keep _ _ e2 (hn rfl a e), q.mono f.g⟩
theorem Rel.fin0 (rl : Rel K S B L G H env σ) (f : Fin G H none G' H') : Rel K S B L G' H' env σ := ⟨L2.Paired.mapP rl.at_ fun _ _ q => q.fin f (fun _ _ _ e => by cases e), rl.nd, rl.nl⟩
/-- the slot's new content -/
def putSl (s : Sl) (d : D) : Sl := match s with
  | .box _ => .box d
  | .par _ => .par d
  | s => s
theorem own_put {s : Sl} {d : D} : isOwn (putSl s d) = isOwn s := by cases s <;> rfl
theorem Rel.fin1 (rl : Rel K S B L G H env σ) {a : Addr} {i : Nat} {s : Sl} {d : D} {o : HO} (f : Fin G H (some a) G' H') (hi : env[i]? = some s) (hs : isOwn s = true) (hx : σ[i]? = some (some (V.ref a))) (ha : H' a = some o) (ho : RepO K S G' d o) : Rel K S B L G' H' (env.set i (putSl s d)) σ := by
  refine ⟨paired_of (by rw [List.length_set]; exact paired_len rl.at_) fun j t x h1 h2 => ?_, fun j k t u v hjk h1 h2 o1 o2 q => ?_, fun j t v h1 o1 q => ?_⟩
  · rcases set_at h1 with ⟨rfl, rfl⟩ | ⟨hj, h1⟩
    · rw [hx] at h2
      cases h2
      obtain ⟨y, hy, q⟩ := rel_at rl hi
      rw [hx] at hy
      cases hy
      cases s with
      | box d' =>
        obtain ⟨a', o', e, g, b, e2, _⟩ := q
        cases e
        refine ⟨a, o, rfl, ?_, b, ha, ho⟩
        cases q2 : G' a with
        | none => rfl
        | some u =>
          have := f.new a (by rw [q2]; intro e; cases e) g
          rw [e2] at this
          cases this
      | par d' =>
        obtain ⟨a', o', e, b, e2, _⟩ := q
        cases e
        exact ⟨a, o, rfl, b, ha, ho⟩
      | _ => cases hs
    · obtain ⟨y, hy, q⟩ := rel_at rl h1
      rw [h2] at hy
      cases hy
      exact q.fin f fun o1 b e1 e2 => by
        cases e2
        exact rl.nd i j s t a (fun e => hj e.symm) hi h1 hs o1 hx (by rw [h2, e1])
  · have h1' : ∃ t', env[j]? = some t' ∧ isOwn t' = true := by
      rcases set_at h1 with ⟨rfl, rfl⟩ | ⟨hj, h1⟩
      · exact ⟨s, hi, hs⟩
      · exact ⟨t, h1, o1⟩
    have h2' : ∃ t', env[k]? = some t' ∧ isOwn t' = true := by
      rcases set_at h2 with ⟨rfl, rfl⟩ | ⟨hj, h2⟩
      · exact ⟨s, hi, hs⟩
      · exact ⟨u, h2, o2⟩
    obtain ⟨t', e1, e2⟩ := h1'
    obtain ⟨u', e3, e4⟩ := h2'
    exact rl.nd j k t' u' v hjk e1 e3 e2 e4 q
  · have h1' : ∃ t', env[j]? = some t' ∧ isOwn t' = true := by
      rcases set_at h1 with ⟨rfl, rfl⟩ | ⟨hj, h1⟩
      · exact ⟨s, hi, hs⟩
      · exact ⟨t, h1, o1⟩
    obtain ⟨t', e1, e2⟩ := h1'
    exact rl.nl j t' v e1 e2 q
end
/-! ### arguments: values, and slots of one's own -/
inductive Ag where
  | v (d : D) | s (i : Nat)
abbrev EvG' := Env → Res (List Ag)
def resv (as : List Ag) (env : Env) : Option (List Ar) := match as with
  | [] => some []
  | .v d :: r => (resv r env).map (Ar.val d :: ·)
  | .s i :: r => match env[i]? with
    | some (.box d) => (resv r env).map (Ar.par d :: ·)
    | some (.par d) => (resv r env).map (Ar.par d :: ·)
    | _ => none
def slotOf (as : List Ag) : List Nat := match as with
  | [] => []
  | .v _ :: r => slotOf r
  | .s i :: r => i :: slotOf r
/-- the run of a call -/
def callG (g : Fn) (as : List Ag) (env : Env) : Res D := match resv as env with
  | none => .no
  | some args => match slotOf as with
    | [] => match g args with
      | .ok d _ => .ok d env
      | .ex C fs _ => .ex C fs env
      | .no => .no
    | [i] => match env[i]? with
      | some s => match g args with
        | .ok d (some p) => .ok d (env.set i (putSl s p))
        | .ex C fs (some p) => .ex C fs (env.set i (putSl s p))
        | _ => .no
      | none => .no
    | _ => .no
section
variable (K : PySem.W.Frag) (S : Nat → Addr)
def AgOk (G : Hp) (σ : L2.St) : Ag → V → Prop
  | .v d, v => Rep K S G d v
  | .s i, v => σ[i]? = some (some v)
end
section
variable {K : PySem.W.Frag} {S : Nat → Addr} {E : XK} {B : Base} {L : Lk} {G H : Hp} {env : Env} {σ : L2.St}
theorem resv_none : ∀ {as : List Ag} {args : List Ar} {vs : List V}, resv as env = some args → slotOf as = [] → Paired (AgOk K S G σ) as vs → Paired (ArOk K S G H none) args vs ∧ ownN args = 0
  | [], _, _, e, _, .nil => by cases e; exact ⟨.nil, rfl⟩
  | .v d :: r, _, _, e, h, .cons q t => by
    have e : (resv r env).map (Ar.val d :: ·) = some _ := e
    cases hr : resv r env with
    | none => rw [hr] at e; cases e
    | some args =>
      rw [hr] at e
      cases e
      obtain ⟨a, b⟩ := resv_none hr h t
      exact ⟨.cons q a, b⟩
  | .s i :: r, _, _, _, h, _ => by cases h
theorem resv_one (rl : Rel K S B L G H env σ) : ∀ {as : List Ag} {args : List Ar} {vs : List V} {i : Nat}, resv as env = some args → slotOf as = [i] → Paired (AgOk K S G σ) as vs →
    ∃ a s, σ[i]? = some (some (V.ref a)) ∧ env[i]? = some s ∧ isOwn s = true ∧ Paired (ArOk K S G H (some a)) args vs ∧ ownN args = 1
  | [], _, _, _, _, h, _ => by cases h
  | .v d :: r, _, _, i, e, h, .cons q t => by
    have e : (resv r env).map (Ar.val d :: ·) = some _ := e
    cases hr : resv r env with
    | none => rw [hr] at e; cases e
    | some args =>
      rw [hr] at e
      cases e
      obtain ⟨a, s, h1, h2, h3, h4, h5⟩ := resv_one rl hr h t
      exact ⟨a, s, h1, h2, h3, .cons q h4, h5⟩
  | .s j :: r, _, _, i, e, h, .cons (b := v) q t => by
    have h : j :: slotOf r = [i] := h
    injection h with h1 h2
    subst h1
    have q : σ[j]? = some (some v) := q
    have e : (match env[j]? with
      | some (.box d) => (resv r env).map (Ar.par d :: ·)
      | some (.par d) => (resv r env).map (Ar.par d :: ·)
      | _ => none) = some _ := e
    cases hr : resv r env with
    | none => rw [hr] at e; split at e <;> cases e
    | some args =>
      rw [hr] at e
      split at e
      · rename_i d hd
        cases e
        obtain ⟨x, hx, a, o, rfl, g, b, ha, ho⟩ := rel_at rl hd
        rw [q] at hx
        cases hx
        obtain ⟨t1, t2⟩ := resv_none (H := H) hr h2 t
        refine ⟨a, _, q, hd, rfl, .cons ⟨a, o, rfl, rfl, ha, ho⟩ (L2.Paired.mapP t1 fun x y z => ?_), ?_⟩
        · cases x with
          | val d => exact z
          | par d => obtain ⟨a', o', _, e, _⟩ := z; cases e
        · show (List.filter Ar.own (Ar.par d :: args)).length = 1
          have t2 : (List.filter Ar.own args).length = 0 := t2
          rw [List.filter_cons_of_pos rfl, List.length_cons, t2]
      · rename_i d hd
        cases e
        obtain ⟨x, hx, a, o, rfl, b, ha, ho⟩ := rel_at rl hd
        rw [q] at hx
        cases hx
        obtain ⟨t1, t2⟩ := resv_none (H := H) hr h2 t
        refine ⟨a, _, q, hd, rfl, .cons ⟨a, o, rfl, rfl, ha, ho⟩ (L2.Paired.mapP t1 fun x y z => ?_), ?_⟩
        · cases x with
          | val d => exact z
          | par d => obtain ⟨a', o', _, e, _⟩ := z; cases e
        · show (List.filter Ar.own (Ar.par d :: args)).length = 1
          have t2 : (List.filter Ar.own args).length = 0 := t2
          rw [List.filter_cons_of_pos rfl, List.length_cons, t2]
      · cases e
theorem own_free (st : Ste B L G H) (rl : Rel K S B L G H env σ) {i : Nat} {s : Sl} {a : Addr} (h1 : env[i]? = some s) (h2 : isOwn s = true) (h3 : σ[i]? = some (some (V.ref a))) : G a = none ∧ H a ≠ none := by
  obtain ⟨x, hx, q⟩ := rel_at rl h1
  rw [h3] at hx
  cases hx
  cases s with
  | box d => obtain ⟨a', o, e, g, _, ha, _⟩ := q; cases e; exact ⟨g, by rw [ha]; intro e; cases e⟩
  | par d => obtain ⟨a', o, e, g, ha, _⟩ := q; cases e; exact ⟨(st.par a g).1, by rw [ha]; intro e; cases e⟩
  | _ => cases h2
theorem resv_len : ∀ {as : List Ag} {args : List Ar}, resv as env = some args → args.length = as.length
  | [], _, e => by cases e; rfl
  | .v d :: r, args, e => by
    have e : (resv r env).map (Ar.val d :: ·) = some args := e
    cases hr : resv r env with
    | none => rw [hr] at e; cases e
    | some z => rw [hr] at e; cases e; rw [List.length_cons, List.length_cons, resv_len hr]
  | .s i :: r, args, e => by
    have e : (match env[i]? with
      | some (.box d) => (resv r env).map (Ar.par d :: ·)
      | some (.par d) => (resv r env).map (Ar.par d :: ·)
      | _ => none) = some args := e
    cases hr : resv r env with
    | none => rw [hr] at e; split at e <;> cases e
    | some z => rw [hr] at e; split at e <;> first | (cases e; done) | (cases e; rw [List.length_cons, List.length_cons, resv_len hr])
/-- a call meets the callee's promise -/
theorem call_ok {g : Fn} {fr : Bool} {n : Nat} {as : List Ag} {vs : List V} {Q : VK} (st : Ste B L G H) (rl : Rel K S B L G H env σ) (ra : Paired (AgOk K S G σ) as vs) (hn : as.length = n)
    {P : Hp → Hp → D → Env → Prop} (p : Post K S E B L σ G P (callG g as env))
    (hP : ∀ G' H' d e, (∀ (j : Nat) (s : Sl), e[j]? = some s → isOwn s = true → ∃ s', env[j]? = some s' ∧ isOwn s' = true) → Ste B L G' H' → Rel K S B L G' H' e σ → P G' H' d e → if fr = true then ∀ a o, H a = none → G' a = none → H' a = some o → RepO K S G' d o → Q (.ref a) H' else ∀ v, Rep K S G' d v → Q v H') : spD K S fr n g vs H Q E := by
  unfold callG at p
  split at p
  · exact p.elim
  · rename_i args hres
    have hlen : args.length = n := by rw [resv_len hres, hn]
    split at p
    · rename_i hsl
      obtain ⟨t1, t2⟩ := resv_none (H := H) hres hsl ra
      refine ⟨G, args, none, st.inn, ⟨t1, by omega, fun a e => by cases e⟩, hlen, ?_⟩
      split at p
      · rename_i d pp hg
        rw [hg]
        intro G' H' f _
        have st' := st.fin rl f fun a e => by cases e
        have rl' := rl.fin0 f
        exact hP G' H' d env (fun j s h1 h2 => ⟨s, h1, h2⟩) st' rl' (p G' H' f.g st' rl')
      · rename_i C fs pp hg
        rw [hg]
        intro od G' H' f _ x
        exact p od G' H' f.g (st.fin rl f fun a e => by cases e) (rl.fin0 f) x
      · exact p.elim
    · rename_i i hsl
      obtain ⟨a, s, h1, h2, h3, h4, h5⟩ := resv_one rl hres hsl ra
      obtain ⟨ga, ha⟩ := own_free st rl h2 h3 h1
      rw [h2] at p
      refine ⟨G, args, some a, st.inn, ⟨h4, by omega, fun b e => by cases e; exact ⟨ga, ha, by omega⟩⟩, hlen, ?_⟩
      dsimp only at p
      split at p
      · rename_i d pp hg
        rw [hg]
        intro G' H' f po
        obtain ⟨b, o, e, hb, ho⟩ := po pp rfl
        cases e
        have st' := st.fin rl f fun b e => by cases e; exact ⟨⟨i, s, h2, h3, h1⟩, by rw [hb]; intro e; cases e⟩
        have rl' := rl.fin1 f h2 h3 h1 hb ho
        exact hP G' H' d _ (fun j t e1 e2 => by
          rcases set_at e1 with ⟨rfl, rfl⟩ | ⟨_, e1⟩
          · exact ⟨s, h2, h3⟩
          · exact ⟨t, e1, e2⟩) st' rl' (p G' H' f.g st' rl')
      · rename_i C fs pp hg
        rw [hg]
        intro od G' H' f po x
        obtain ⟨b, o, e, hb, ho⟩ := po pp rfl
        cases e
        exact p od G' H' f.g (st.fin rl f fun b e => by cases e; exact ⟨⟨i, s, h2, h3, h1⟩, by rw [hb]; intro e; cases e⟩) (rl.fin1 f h2 h3 h1 hb ho) x
      · exact p.elim
    · exact p.elim
end
end
end Dv
namespace Dv
open PySem PySem.Spec PyProof.Rows L2
set_option autoImplicit false
noncomputable section
section
variable {S : Nat → Addr} {X : Cx} {E : XK} {a b c e o : Expr} {es : List Expr} {ea eb ec ee eo : Ev} {pos apos p : Pos} {CX : CXT} {k : Nat} {f C : Addr} {fd : FuncData} {ps : List Str} {fr : Bool} {n : Nat} {g : Fn} {x m : Str}
abbrev TAg (K : PySem.W.Frag) (S : Nat → Addr) (E : XK) (f : EvG') : TA := Tx K S E (fun G σ d v => Paired (AgOk K S G σ) d v) f
abbrev QG (S : Nat → Addr) (X : Cx) (E : XK) (es : List Expr) (f : EvG') : Prop := PA X es (TAg X.K S E f)
def gNil : EvG' := fun env => .ok [] env
def gVal (a : Ev) (r : EvG') : EvG' := fun env => (a env).bind fun x e1 => (r e1).bind fun xs e2 => .ok (.v x :: xs) e2
def gSlot (i : Nat) (r : EvG') : EvG' := fun env => match env[i]? with
  | some s => if isOwn s = true then (r env).bind fun xs e2 => .ok (.s i :: xs) e2 else .no
  | none => .no
variable {eg : EvG'}
theorem AgOk.mono {K : PySem.W.Frag} {G G' : Hp} {σ : L2.St} (h : Same G G') {x : Ag} {v : V} (r : AgOk K S G σ x v) : AgOk K S G' σ x v := by
  cases x with
  | v d => exact Rep.mono h r
  | s i => exact r
theorem g_nil : QG S X E [] gNil := pa_of pa_nil fun σ H Q ⟨B, L, G, env, st, rl, po⟩ => po G H (.refl _) st rl [] .nil
theorem g_val (ha : QE S X E a ea) (hr : QG S X E es eg) (hs : starEach (a :: es) X.env = (false, eval a X.env) :: starEach es X.env := by rfl) : QG S X E (a :: es) (gVal ea eg) := pa_of (pa_cons ha hr hs) fun σ H Q ⟨B, L, G, env, st, rl, po⟩ => ⟨B, L, G, env, st, rl, po.then fun G1 H1 x e1 sm1 st1 rl1 p1 v rv => ⟨B, L, G1, e1, st1, rl1, p1.then fun G2 H2 xs e2 sm2 st2 rl2 p2 vs rvs => p2 G2 H2 (.refl _) st2 rl2 _ (.cons (rv.mono sm2) rvs)⟩⟩
theorem own_at {K : PySem.W.Frag} {B : Base} {L : Lk} {G H : Hp} {env : Env} {σ : L2.St} {i : Nat} {s : Sl} (rl : Rel K S B L G H env σ) (h : env[i]? = some s) (ho : isOwn s = true) : ∃ a, σ[i]? = some (some (V.ref a)) := by
  obtain ⟨x, hx, q⟩ := rel_at rl h
  cases s with
  | box d => obtain ⟨a, o, rfl, _⟩ := q; exact ⟨a, hx⟩
  | par d => obtain ⟨a, o, rfl, _⟩ := q; exact ⟨a, hx⟩
  | _ => cases ho
theorem g_slot {i : Nat} (ha : PE X a (tVar i)) (hr : QG S X E es eg) (hs : starEach (a :: es) X.env = (false, eval a X.env) :: starEach es X.env := by rfl) : QG S X E (a :: es) (gSlot i eg) := pa_of (pa_cons ha hr hs) fun σ H Q ⟨B, L, G, env, st, rl, po⟩ => by
  unfold gSlot at po
  split at po
  · rename_i s hs
    split at po
    · rename_i ho
      obtain ⟨p, hp⟩ := own_at rl hs ho
      exact ⟨_, hp, B, L, G, env, st, rl, po.then fun G2 H2 xs e2 sm2 st2 rl2 p2 vs rvs => p2 G2 H2 (.refl _) st2 rl2 _ (.cons hp rvs)⟩
    · exact po.elim
  · exact po.elim
/-! ### calls -/
def xCall (n : Nat) (g : Fn) (r : EvG') : Ev := fun env => (r env).bind fun as e => if as.length = n then callG g as e else .no
theorem len_of {K : PySem.W.Frag} {E : XK} {B : Base} {L : Lk} {G : Hp} {σ : L2.St} {P : Hp → Hp → D → Env → Prop} {as : List Ag} {e : Env} {n : Nat} {g : Fn} (p : Post K S E B L σ G P (if as.length = n then callG g as e else .no)) : as.length = n ∧ Post K S E B L σ G P (callG g as e) := by
  by_cases h : as.length = n
  · rw [if_pos h] at p; exact ⟨h, p⟩
  · rw [if_neg h] at p; exact p.elim
theorem snd_call {K : PySem.W.Frag} {σ : L2.St} {H : Hp} {Q : VK} (q : TD K S E (xCall n g eg) σ H Q) : tCall (spD K S false n g) [] E (TAg K S E eg) σ H Q := by
  obtain ⟨B, L, G, env, st, rl, po⟩ := q
  refine ⟨B, L, G, env, st, rl, po.then fun G1 H1 as e1 sm1 st1 rl1 p1 vs rv => ?_⟩
  obtain ⟨hn, p1⟩ := len_of p1
  rw [List.append_nil]
  exact call_ok st1 rl1 rv hn p1 fun G' H' d e _ _ _ h => h
theorem sndf_call {K : PySem.W.Frag} {σ : L2.St} {H : Hp} {Q : VK} (q : TF K S E (xCall n g eg) σ H Q) : tCall (spD K S true n g) [] E (TAg K S E eg) σ H Q := by
  obtain ⟨B, L, G, env, st, rl, po⟩ := q
  refine ⟨B, L, G, env, st, rl, po.then fun G1 H1 as e1 sm1 st1 rl1 p1 vs rv => ?_⟩
  obtain ⟨hn, p1⟩ := len_of p1
  rw [List.append_nil]
  refine call_ok st1 rl1 rv hn p1 fun G' H' d e hown st' rl' h => ?_
  rw [if_pos rfl]
  intro q o hq gq hq' r
  refine h q o gq (st1.free hq) hq' (fun i s h1 h2 h3 => ?_) (st1.nolock hq) r
  -- the slots' addresses were there ahead of the call
  obtain ⟨s', e1, e2⟩ := hown i s h1 h2
  exact rl1.fresh hq i s' e1 e2 h3

theorem q_call (F : FnOk X.prog X.w X.K X.mg X.base CX k f fd ps (spD X.K S false n g)) (hr : Room k X.A) (hg : Gl X x) (hm : X.mg x = some (.ref f)) (hk : PySem.W.keepIn X.K (.ref f) = true) (hb : Binds X.K fd ps []) (hx : Passes CX X E)
    (ha : QG S X E (e :: es) eg) (hdb : (x == ("__debug__" : Str)) = false := by decide) (he : starEach (e :: es) X.env = (false, eval e X.env) :: starEach es X.env := by rfl) (hpl : (backTo pos (starEach es X.env)).any (·.1) = false := by rfl) :
    QE S X E (.Call (.Name x p) (e :: es) [] pos) (xCall n g eg) := pe_of (pe_call F hr hg hm hk hb .nil hx ha hdb he hpl) fun _ _ _ q => snd_call q
theorem qf_call (F : FnOk X.prog X.w X.K X.mg X.base CX k f fd ps (spD X.K S true n g)) (hr : Room k X.A) (hg : Gl X x) (hm : X.mg x = some (.ref f)) (hk : PySem.W.keepIn X.K (.ref f) = true) (hb : Binds X.K fd ps []) (hx : Passes CX X E)
    (ha : QG S X E (e :: es) eg) (hdb : (x == ("__debug__" : Str)) = false := by decide) (he : starEach (e :: es) X.env = (false, eval e X.env) :: starEach es X.env := by rfl) (hpl : (backTo pos (starEach es X.env)).any (·.1) = false := by rfl) :
    QF S X E (.Call (.Name x p) (e :: es) [] pos) (xCall n g eg) := pe_of (pe_call F hr hg hm hk hb .nil hx ha hdb he hpl) fun _ _ _ q => sndf_call q
theorem tnil {K : PySem.W.Frag} {σ : L2.St} {H : Hp} {Q : List V → Hp → Prop} (q : TAg K S E gNil σ H Q) : tNil σ H Q := by
  obtain ⟨B, L, G, env, st, rl, po⟩ := q
  exact po G H (.refl _) st rl [] .nil
theorem q_call0 (F : FnOk X.prog X.w X.K X.mg X.base CX k f fd ps (spD X.K S false n g)) (hr : Room k X.A) (hg : Gl X x) (hm : X.mg x = some (.ref f)) (hk : PySem.W.keepIn X.K (.ref f) = true) (hb : Binds X.K fd ps []) (hx : Passes CX X E)
    (hdb : (x == ("__debug__" : Str)) = false := by decide) : QE S X E (.Call (.Name x p) [] [] pos) (xCall n g gNil) := pe_of (pe_call0 F hr hg hm hk hb .nil hx hdb) fun σ H Q q => tnil (snd_call q)
theorem qf_call0 (F : FnOk X.prog X.w X.K X.mg X.base CX k f fd ps (spD X.K S true n g)) (hr : Room k X.A) (hg : Gl X x) (hm : X.mg x = some (.ref f)) (hk : PySem.W.keepIn X.K (.ref f) = true) (hb : Binds X.K fd ps []) (hx : Passes CX X E)
    (hdb : (x == ("__debug__" : Str)) = false := by decide) : QF S X E (.Call (.Name x p) [] [] pos) (xCall n g gNil) := pe_of (pe_call0 F hr hg hm hk hb .nil hx hdb) fun σ H Q q => tnil (sndf_call q)
/-! ### C(..) -/
def xMake (ci n : Nat) (dcs : List D) (g : Fn) (r : EvA) : Ev := fun env => (r env).bind fun xs e => if xs.length + 1 + dcs.length = n then match g (.par (.ins ci []) :: (xs ++ dcs).map Ar.val) with
  | .ok .non (some p) => .ok p e
  | .ex C fs _ => .ex C fs e
  | _ => .no else .no
theorem args_vals {K : PySem.W.Frag} {G H : Hp} {r : Option Addr} : ∀ {xs : List D} {vs : List V}, RepL K S G xs vs → Paired (ArOk K S G H r) (xs.map Ar.val) vs
  | [], _, h => by cases h; exact .nil
  | x :: xs, _, ⟨v, ws, e, q, t⟩ => by subst e; exact .cons q (args_vals t)
theorem own_vals : ∀ xs : List D, ownN (xs.map Ar.val) = 0
  | [] => rfl
  | x :: xs => own_vals xs
theorem sndf_make {K : PySem.W.Frag} {ci : Nat} {dcs : List D} {dvs : List V} {er : EvA} {σ : L2.St} {H : Hp} {Q : VK} (hd : ∀ G, RepL K S G dcs dvs) (q : TF K S E (xMake ci n dcs g er) σ H Q) : tMake (S ci) (spD K S false n g) dvs E (TAe K S E er) σ H Q := by
  obtain ⟨B, L, G, env, st, rl, po⟩ := q
  refine ⟨B, L, G, env, st, rl, po.then fun G1 H1 xs e1 sm1 st1 rl1 p1 vs rv => ?_⟩
  intro x dx hx hdx hne
  by_cases hn : xs.length + 1 + dcs.length = n
  · rw [if_pos hn] at p1
    have h2 : Same H1 (upd (upd H1 dx (.own x)) x (.ins (S ci) dx [])) := (same_upd hdx).trans (same_upd (by rw [upd_ne (Ne.symm hne)]; exact hx))
    have gx : G1 x = none := st1.inn.some hx
    have key : ∀ (G' H' : Hp), Fin G1 (upd (upd H1 dx (.own x)) x (.ins (S ci) dx [])) (some x) G' H' → Ste B L G' H' ∧ Rel K S B L G' H' e1 σ ∧ G' x = none := fun G' H' f => by
      have ex : Ex G1 H1 G1 (upd (upd H1 dx (.own x)) x (.ins (S ci) dx [])) := Ex.same st1.inn h2
      have hx' : ∀ a o, H1 a = some o → some x ≠ some a := fun a o e q => by cases q; rw [hx] at e; cases e
      have ex2 : Ex G1 H1 _ _ := ⟨f.g, fun a o e => f.keep a o (h2 a o e) (hx' a o e), f.inn, fun a h1 h3 => h2.free (f.new a h1 h3)⟩
      refine ⟨st1.ex ex2, rl1.ex ex2, ?_⟩
      cases q : G' x with
      | none => rfl
      | some u =>
        have := f.new x (by rw [q]; intro e; cases e) gx
        rw [upd_same] at this
        cases this
    refine ⟨G1, .par (.ins ci []) :: (xs ++ dcs).map Ar.val, some x, st1.inn.up h2, ⟨.cons ⟨x, _, rfl, rfl, upd_same, dx, [], rfl, rfl⟩ (args_vals (rv.app (hd _))), ?_, fun a e => by cases e; exact ⟨gx, (by rw [upd_same]; intro e; cases e), (by show 1 ≤ (List.filter Ar.own (Ar.par (.ins ci []) :: (xs ++ dcs).map Ar.val)).length; rw [List.filter_cons_of_pos rfl, List.length_cons]; omega)⟩⟩, ?_, ?_⟩
    · show (List.filter Ar.own (Ar.par (.ins ci []) :: (xs ++ dcs).map Ar.val)).length ≤ 1
      rw [List.filter_cons_of_pos rfl, List.length_cons]
      have : (List.filter Ar.own ((xs ++ dcs).map Ar.val)).length = 0 := own_vals _
      omega
    · rw [List.length_cons, List.length_map, List.length_append]; omega
    · split at p1
      · rename_i pp hg
        rw [hg]
        intro G' H' f po
        rw [if_neg (by decide)]
        intro v rv'
        cases rv'
        obtain ⟨b, o, e, hb, ho⟩ := po pp rfl
        cases e
        obtain ⟨s1, s2, s3⟩ := key _ _ f
        exact ⟨rfl, p1 G' H' f.g s1 s2 x o s3 (st1.free hx) hb (rl1.fresh hx) (st1.nolock hx) ho⟩
      · rename_i C fs pp hg
        rw [hg]
        intro od G' H' f _ xd
        obtain ⟨s1, s2, s3⟩ := key _ _ f
        exact p1 od G' H' f.g s1 s2 xd
      · exact p1.elim
  · rw [if_neg hn] at p1
    exact p1.elim
theorem qf_make {ci : Nat} {dcs : List D} {dvs : List V} {ds : List Value} {er : EvA} (hd : ∀ G, RepL X.K S G dcs dvs) (M : Mk X.K (S ci) f) (F : FnOk X.prog X.w X.K X.mg X.base CX k f fd ps (spD X.K S false n g)) (hr : Room (k + 1) X.A) (hg : Gl X x) (hm : X.mg x = some (.ref (S ci))) (hb : Binds X.K fd ps ds) (hdv : Vals dvs ds) (hx : Passes CX X E)
    (ha : QA S X E (e :: es) er) (hdb : (x == ("__debug__" : Str)) = false := by decide) (he : starEach (e :: es) X.env = (false, eval e X.env) :: starEach es X.env := by rfl) (hpl : (backTo pos (starEach es X.env)).any (·.1) = false := by rfl) :
    QF S X E (.Call (.Name x p) (e :: es) [] pos) (xMake ci n dcs g er) := pe_of (pe_make M F hr hg hm hb hdv hx ha hdb he hpl) fun _ _ _ q => sndf_make hd q
theorem qf_make0 {ci : Nat} {dcs : List D} {dvs : List V} {ds : List Value} (hd : ∀ G, RepL X.K S G dcs dvs) (M : Mk X.K (S ci) f) (F : FnOk X.prog X.w X.K X.mg X.base CX k f fd ps (spD X.K S false n g)) (hr : Room (k + 1) X.A) (hg : Gl X x) (hm : X.mg x = some (.ref (S ci))) (hb : Binds X.K fd ps ds) (hdv : Vals dvs ds) (hx : Passes CX X E)
    (hdb : (x == ("__debug__" : Str)) = false := by decide) :
    QF S X E (.Call (.Name x p) [] [] pos) (xMake ci n dcs g xNil) := pe_of (pe_make0 M F hr hg hm hb hdv hx hdb) fun σ H Q q => by
  have := sndf_make hd q
  obtain ⟨B, L, G, env, st, rl, po⟩ := this
  exact po G H (.refl _) st rl [] rfl
/-! ### methods, by the receiver's class -/
def tMD (G : Addr → Addr → Sp → Prop) (m : Str) (E : XK) (ta : TE) (t : TA) : TE := fun σ H Q => ta σ H fun x H1 => ∃ a C dx fs f sp, x = .ref a ∧ H1 a = some (.ins C dx fs) ∧ fs.lookup m = none ∧ G C f sp ∧ t σ H1 fun vs H2 => sp (x :: vs) H2 Q E
def MG (X : Cx) (CX : CXT) (k : Nat) (m : Str) (G : Addr → Addr → Sp → Prop) : Prop := ∀ C f sp, G C f sp → Cls X.K C ∧ Meth X.K C m f ∧ ∃ fd ps, FnOk X.prog X.w X.K X.mg X.base CX k f fd ps sp ∧ Binds X.K fd ps []
theorem pe_methD {G : Addr → Addr → Sp → Prop} {ta : TE} {t : TA} {pl : Sem Bool} {E' : XK} (he : PE X o ta) (hG : MG X CX k m G) (hr : Room k X.A) (hx : Passes CX X E') (ha : PA X (e :: es) t)
    (hst : starEach (e :: es) X.env = (false, eval e X.env) :: starEach es X.env := by rfl) (hpl : (backTo pos (starEach es X.env)).any (·.1) = false := by rfl)
    (ht : eval (.Call (.Attribute o m apos) (e :: es) [] pos) X.env = (do
      let ov ← eval o X.env
      standAt apos.atName
      let (f, first) ← holding [ov] (getMethod ov m pl)
      callWith pos f first (backTo pos (starEach (e :: es) X.env)) (backToKw pos (keywordEach [] X.env))) := by rfl) :
    PE X (.Call (.Attribute o m apos) (e :: es) [] pos) (tMD G m E' ta t) := by
  refine ⟨fun pins s σ H Q I h => ?_⟩
  refine PySem.W.methodCall_KW (pl := pl) (thn (he.run pins s σ H _ I h) fun u s1 ⟨x, H1, I1, rx, a, C, dx, fs, f, sp, ex, ea, l, hg, q⟩ => ?_) ht
  obtain ⟨c, hm, fd, ps, F, hb⟩ := hG C f sp hg
  subst ex
  obtain rfl : u = Value.ref a := rx
  refine getmeth_ok I1 ea c hm l ?_
  refine PySem.W.callWith_K (first := [.ref a]) (h₀ := X.base) I.ok.mod.kin hm.kp (thn (ha.run pos pins s1 σ H1 _ I1 q) fun us s2 ⟨vs, H2, I2, r, q2⟩ => ⟨I2.kIn, ?_⟩) hst hpl
  exact run_fn (dvs := []) (us := .ref a :: us) (vs := .ref a :: vs) F hr hb .nil hx I2 (.cons rfl r) (by rw [List.append_nil]; exact q2)
theorem pe_methD0 {G : Addr → Addr → Sp → Prop} {ta : TE} {pl : Sem Bool} {E' : XK} (he : PE X o ta) (hG : MG X CX k m G) (hr : Room k X.A) (hx : Passes CX X E')
    (ht : eval (.Call (.Attribute o m apos) [] [] pos) X.env = (do
      let ov ← eval o X.env
      standAt apos.atName
      let (f, first) ← holding [ov] (getMethod ov m pl)
      callWith pos f first (backTo pos (starEach [] X.env)) (backToKw pos (keywordEach [] X.env))) := by rfl) :
    PE X (.Call (.Attribute o m apos) [] [] pos) (tMD G m E' ta tNil) := by
  refine ⟨fun pins s σ H Q I h => ?_⟩
  refine PySem.W.methodCall_KW (pl := pl) (thn (he.run pins s σ H _ I h) fun u s1 ⟨x, H1, I1, rx, a, C, dx, fs, f, sp, ex, ea, l, hg, q⟩ => ?_) ht
  obtain ⟨c, hm, fd, ps, F, hb⟩ := hG C f sp hg
  subst ex
  obtain rfl : u = Value.ref a := rx
  refine getmeth_ok I1 ea c hm l ?_
  exact PySem.W.callWith_K0 (first := [.ref a]) I1.kIn hm.kp (run_fn (dvs := []) (us := [.ref a]) (vs := [.ref a]) F hr hb .nil hx I1 (.cons rfl .nil) q)
/-- a table of methods by class: the method's place in S, its run -/
abbrev MT := List (Nat × Nat × Fn)
def MT.at (t : MT) (C : Nat) : Option (Nat × Fn) := match t with
  | [] => none
  | a :: r => if a.1 = C then some a.2 else MT.at r C
def MT.All (t : MT) (P : Nat → Nat → Fn → Prop) : Prop := match t with
  | [] => True
  | a :: r => P a.1 a.2.1 a.2.2 ∧ MT.All r P
theorem MT.All.get {P : Nat → Nat → Fn → Prop} : ∀ {t : MT} {C : Nat} {x : Nat × Fn}, MT.All t P → t.at C = some x → P C x.1 x.2
  | [], _, _, _, e => by cases e
  | a :: r, C, x, h, e => by
    have e : (if a.1 = C then some a.2 else MT.at r C) = some x := e
    by_cases q : a.1 = C
    · rw [if_pos q] at e; cases e; subst q; exact h.1
    · rw [if_neg q] at e; exact MT.All.get h.2 e
/-- o.m(..), o a value -/
def xMeth (m : Str) (n : Nat) (t : MT) (o : Ev) (r : EvG') : Ev := fun env => (o env).bind fun x e1 => match x with
  | .ins C fs => match t.at C with
    | some (_, g) => if fs.lookup m = none then (r e1).bind fun as e2 => if (Ag.v (.ins C fs) :: as).length = n then callG g (.v (.ins C fs) :: as) e2 else .no else .no
    | none => .no
  | _ => .no
def GT (K : PySem.W.Frag) (S : Nat → Addr) (fr : Bool) (n : Nat) (t : MT) : Addr → Addr → Sp → Prop := fun C f sp => ∃ c j g, t.at c = some (j, g) ∧ C = S c ∧ f = S j ∧ sp = spD K S fr n g
theorem mg_of' {t : MT} (h : MT.All t fun c j g => Cls X.K (S c) ∧ Meth X.K (S c) m (S j) ∧ ∃ fd ps, FnOk X.prog X.w X.K X.mg X.base CX k (S j) fd ps (spD X.K S fr n g) ∧ Binds X.K fd ps []) : MG X CX k m (GT X.K S fr n t) := by
  rintro C f sp ⟨c, j, g, e, rfl, rfl, rfl⟩
  exact h.get e
theorem lookF {K : PySem.W.Frag} {G : Hp} {m : Str} : ∀ {fs : List (Str × D)} {ws : List (Str × V)}, RepF K S G fs ws → (fs.lookup m = none → ws.lookup m = none) ∧ ∀ d, fs.lookup m = some d → ∃ v, ws.lookup m = some v ∧ Rep K S G d v
  | [], _, h => by cases h; exact ⟨fun _ => rfl, fun d e => by cases e⟩
  | x :: xs, _, ⟨v, ws, e, q, r⟩ => by
    subst e
    obtain ⟨h1, h2⟩ := lookF (m := m) r
    have e1 : List.lookup m (x :: xs) = match m == x.1 with
      | true => some x.2
      | false => List.lookup m xs := rfl
    have e2 : List.lookup m ((x.1, v) :: ws) = match m == x.1 with
      | true => some v
      | false => List.lookup m ws := rfl
    rw [e1, e2]
    cases m == x.1 with
    | true => exact ⟨fun e => (by cases e), fun d e => (by cases e; exact ⟨v, rfl, q⟩)⟩
    | false => exact ⟨h1, h2⟩
theorem snd_meth {K : PySem.W.Frag} {t : MT} {σ : L2.St} {H : Hp} {Q : VK} (q : TD K S E (xMeth m n t eo eg) σ H Q) : tMD (GT K S false n t) m E (TD K S E eo) (TAg K S E eg) σ H Q := by
  obtain ⟨B, L, G, env, st, rl, po⟩ := q
  refine ⟨B, L, G, env, st, rl, po.then fun G1 H1 x e1 sm1 st1 rl1 p1 v rv => ?_⟩
  cases x with
  | ins C fs =>
    dsimp only at p1
    split at p1
    · rename_i j g ht
      split at p1
      · rename_i hl
        obtain ⟨a, dx, ws, rfl, ga, rf⟩ := rv
        refine ⟨a, S C, dx, ws, S j, _, rfl, st1.inn.ins ga, (lookF rf).1 hl, ⟨C, j, g, ht, rfl, rfl, rfl⟩, B, L, G1, e1, st1, rl1, p1.then fun G2 H2 as e2 sm2 st2 rl2 p2 vs rvs => ?_⟩
        obtain ⟨hn, p2⟩ := len_of p2
        exact call_ok st2 rl2 (.cons (show AgOk K S G2 σ (.v (.ins C fs)) (.ref a) from ⟨a, dx, ws, rfl, sm2 _ _ ga, rf.mono sm2⟩) rvs) hn p2 fun G' H' d e _ _ _ h => h
      · exact p1.elim
    · exact p1.elim
  | _ => exact p1.elim
theorem sndf_meth {K : PySem.W.Frag} {t : MT} {σ : L2.St} {H : Hp} {Q : VK} (q : TF K S E (xMeth m n t eo eg) σ H Q) : tMD (GT K S true n t) m E (TD K S E eo) (TAg K S E eg) σ H Q := by
  obtain ⟨B, L, G, env, st, rl, po⟩ := q
  refine ⟨B, L, G, env, st, rl, po.then fun G1 H1 x e1 sm1 st1 rl1 p1 v rv => ?_⟩
  cases x with
  | ins C fs =>
    dsimp only at p1
    split at p1
    · rename_i j g ht
      split at p1
      · rename_i hl
        obtain ⟨a, dx, ws, rfl, ga, rf⟩ := rv
        refine ⟨a, S C, dx, ws, S j, _, rfl, st1.inn.ins ga, (lookF rf).1 hl, ⟨C, j, g, ht, rfl, rfl, rfl⟩, B, L, G1, e1, st1, rl1, p1.then fun G2 H2 as e2 sm2 st2 rl2 p2 vs rvs => ?_⟩
        obtain ⟨hn, p2⟩ := len_of p2
        refine call_ok st2 rl2 (.cons (show AgOk K S G2 σ (.v (.ins C fs)) (.ref a) from ⟨a, dx, ws, rfl, sm2 _ _ ga, rf.mono sm2⟩) rvs) hn p2 fun G' H' d e hown st' rl' h => ?_
        rw [if_pos rfl]
        intro q o hq gq hq' r
        exact h q o gq (st2.free hq) hq' (fun i s h1 h2 h3 => by
          obtain ⟨s', e1, e2⟩ := hown i s h1 h2
          exact rl2.fresh hq i s' e1 e2 h3) (st2.nolock hq) r
      · exact p1.elim
    · exact p1.elim
  | _ => exact p1.elim
variable {t : MT} {pl : Sem Bool}
theorem q_meth (ho : QE S X E o eo) (hG : MT.All t fun c j g => Cls X.K (S c) ∧ Meth X.K (S c) m (S j) ∧ ∃ fd ps, FnOk X.prog X.w X.K X.mg X.base CX k (S j) fd ps (spD X.K S false n g) ∧ Binds X.K fd ps []) (hr : Room k X.A) (hx : Passes CX X E) (ha : QG S X E (e :: es) eg)
    (hst : starEach (e :: es) X.env = (false, eval e X.env) :: starEach es X.env := by rfl) (hpl : (backTo pos (starEach es X.env)).any (·.1) = false := by rfl)
    (ht : eval (.Call (.Attribute o m apos) (e :: es) [] pos) X.env = (do
      let ov ← eval o X.env
      standAt apos.atName
      let (f, first) ← holding [ov] (getMethod ov m pl)
      callWith pos f first (backTo pos (starEach (e :: es) X.env)) (backToKw pos (keywordEach [] X.env))) := by rfl) : QE S X E (.Call (.Attribute o m apos) (e :: es) [] pos) (xMeth m n t eo eg) := pe_of (pe_methD (pl := pl) ho (mg_of' hG) hr hx ha hst hpl ht) fun _ _ _ q => snd_meth q
theorem qf_meth (ho : QE S X E o eo) (hG : MT.All t fun c j g => Cls X.K (S c) ∧ Meth X.K (S c) m (S j) ∧ ∃ fd ps, FnOk X.prog X.w X.K X.mg X.base CX k (S j) fd ps (spD X.K S true n g) ∧ Binds X.K fd ps []) (hr : Room k X.A) (hx : Passes CX X E) (ha : QG S X E (e :: es) eg)
    (hst : starEach (e :: es) X.env = (false, eval e X.env) :: starEach es X.env := by rfl) (hpl : (backTo pos (starEach es X.env)).any (·.1) = false := by rfl)
    (ht : eval (.Call (.Attribute o m apos) (e :: es) [] pos) X.env = (do
      let ov ← eval o X.env
      standAt apos.atName
      let (f, first) ← holding [ov] (getMethod ov m pl)
      callWith pos f first (backTo pos (starEach (e :: es) X.env)) (backToKw pos (keywordEach [] X.env))) := by rfl) : QF S X E (.Call (.Attribute o m apos) (e :: es) [] pos) (xMeth m n t eo eg) := pe_of (pe_methD (pl := pl) ho (mg_of' hG) hr hx ha hst hpl ht) fun _ _ _ q => sndf_meth q
theorem tMD0 {G : Addr → Addr → Sp → Prop} {K : PySem.W.Frag} {ta : TE} (hta : ∀ σ H Q Q', (∀ v H', Q v H' → Q' v H') → ta σ H Q → ta σ H Q') {σ : L2.St} {H : Hp} {Q : VK} (q : tMD G m E ta (TAg K S E gNil) σ H Q) : tMD G m E ta tNil σ H Q :=
  hta _ _ _ _ (fun v H' ⟨a, C, dx, fs, f, sp, h1, h2, h3, h4, h5⟩ => ⟨a, C, dx, fs, f, sp, h1, h2, h3, h4, tnil h5⟩) q
theorem td_mono {K : PySem.W.Frag} {f : Ev} {σ : L2.St} {H : Hp} {Q Q' : VK} (h : ∀ v H', Q v H' → Q' v H') (q : TD K S E f σ H Q) : TD K S E f σ H Q' := by
  obtain ⟨B, L, G, env, st, rl, po⟩ := q
  exact ⟨B, L, G, env, st, rl, po.imp fun _ _ _ _ _ _ _ p v r => h _ _ (p v r)⟩
theorem q_meth0 (ho : QE S X E o eo) (hG : MT.All t fun c j g => Cls X.K (S c) ∧ Meth X.K (S c) m (S j) ∧ ∃ fd ps, FnOk X.prog X.w X.K X.mg X.base CX k (S j) fd ps (spD X.K S false n g) ∧ Binds X.K fd ps []) (hr : Room k X.A) (hx : Passes CX X E)
    (ht : eval (.Call (.Attribute o m apos) [] [] pos) X.env = (do
      let ov ← eval o X.env
      standAt apos.atName
      let (f, first) ← holding [ov] (getMethod ov m pl)
      callWith pos f first (backTo pos (starEach [] X.env)) (backToKw pos (keywordEach [] X.env))) := by rfl) : QE S X E (.Call (.Attribute o m apos) [] [] pos) (xMeth m n t eo gNil) := pe_of (pe_methD0 (pl := pl) ho (mg_of' hG) hr hx ht) fun σ H Q q => tMD0 (ta := TD X.K S E eo) (fun _ _ _ _ h => td_mono h) (snd_meth q)
theorem qf_meth0 (ho : QE S X E o eo) (hG : MT.All t fun c j g => Cls X.K (S c) ∧ Meth X.K (S c) m (S j) ∧ ∃ fd ps, FnOk X.prog X.w X.K X.mg X.base CX k (S j) fd ps (spD X.K S true n g) ∧ Binds X.K fd ps []) (hr : Room k X.A) (hx : Passes CX X E)
    (ht : eval (.Call (.Attribute o m apos) [] [] pos) X.env = (do
      let ov ← eval o X.env
      standAt apos.atName
      let (f, first) ← holding [ov] (getMethod ov m pl)
      callWith pos f first (backTo pos (starEach [] X.env)) (backToKw pos (keywordEach [] X.env))) := by rfl) : QF S X E (.Call (.Attribute o m apos) [] [] pos) (xMeth m n t eo gNil) := pe_of (pe_methD0 (pl := pl) ho (mg_of' hG) hr hx ht) fun σ H Q q => tMD0 (ta := TD X.K S E eo) (fun _ _ _ _ h => td_mono h) (sndf_meth q)
/-! ### fields -/
def xFld (cs : List Nat) (f : Str) (a : Ev) : Ev := fun env => (a env).bind fun x e => match x with
  | .ins C fs => if C ∈ cs then .of (fs.lookup f) e else .no
  | _ => .no
/-- a field of an object of one's own -/
def xFldV (cs : List Nat) (f : Str) (i : Nat) : Ev := fun env => match env[i]? with
  | some (.box (.ins C fs)) => if C ∈ cs then .of (fs.lookup f) env else .no
  | some (.par (.ins C fs)) => if C ∈ cs then .of (fs.lookup f) env else .no
  | _ => .no
abbrev FldOk (K : PySem.W.Frag) (S : Nat → Addr) (f : Str) (cs : List Nat) : Prop := ∀ C ∈ cs, Cls K (S C) ∧ NoAttr K (S C) f
variable {cs : List Nat} {s : Str}
theorem q_fld (hc : FldOk X.K S s cs) (ha : QE S X E a ea) (hb : attributeBase a s X.env (eval a X.env) = eval a X.env) : QE S X E (.Attribute a s pos) (xFld cs s ea) := pe_of (pe_fld ha hb) fun σ H Q ⟨B, L, G, env, st, rl, po⟩ => ⟨B, L, G, env, st, rl, po.then fun G1 H1 x e1 sm1 st1 rl1 p1 v rv => by
  cases x with
  | ins C fs =>
    dsimp only at p1
    split at p1
    · rename_i hC
      obtain ⟨d, hd, k⟩ := p1.of st1 rl1
      obtain ⟨p, dx, ws, rfl, gp, rf⟩ := rv
      obtain ⟨u, hu, ru⟩ := (lookF rf).2 d hd
      exact ⟨p, S C, dx, ws, u, rfl, st1.inn.ins gp, (hc C hC).1, (hc C hC).2, hu, k G1 H1 (.refl st1.inn) u ru⟩
    · exact p1.elim
  | _ => exact p1.elim⟩
theorem fld_at {K : PySem.W.Frag} {B : Base} {L : Lk} {G H : Hp} {env : Env} {σ : L2.St} {i C : Nat} {fs : List (Str × D)} {sl : Sl} (rl : Rel K S B L G H env σ) (h : env[i]? = some sl) (hs : sl = .box (.ins C fs) ∨ sl = .par (.ins C fs)) : ∃ p dx ws, σ[i]? = some (some (V.ref p)) ∧ H p = some (.ins (S C) dx ws) ∧ RepF K S G fs ws := by
  obtain ⟨x, hx, q⟩ := rel_at rl h
  rcases hs with rfl | rfl
  · obtain ⟨p, o, rfl, _, _, hp, dx, ws, rfl, r⟩ := q
    exact ⟨p, dx, ws, hx, hp, r⟩
  · obtain ⟨p, o, rfl, _, hp, dx, ws, rfl, r⟩ := q
    exact ⟨p, dx, ws, hx, hp, r⟩
theorem q_fldV {i : Nat} (hc : FldOk X.K S s cs) (ha : PE X a (tVar i)) (hb : attributeBase a s X.env (eval a X.env) = eval a X.env) : QE S X E (.Attribute a s pos) (xFldV cs s i) := pe_of (pe_fld ha hb) fun σ H Q ⟨B, L, G, env, st, rl, po⟩ => by
  have key : ∀ C fs sl, env[i]? = some sl → (sl = .box (.ins C fs) ∨ sl = .par (.ins C fs)) → Post X.K S E B L σ G (fun G' H' d _ => ∀ v, Rep X.K S G' d v → Q v H') (if C ∈ cs then .of (fs.lookup s) env else .no) → tFld X.K (tVar i) s σ H Q := fun C fs sl h hs po => by
    split at po
    · rename_i hC
      obtain ⟨d, hd, k⟩ := po.of st rl
      obtain ⟨p, dx, ws, hx, hp, rf⟩ := fld_at rl h hs
      obtain ⟨u, hu, ru⟩ := (lookF rf).2 d hd
      exact ⟨.ref p, hx, p, S C, dx, ws, u, rfl, hp, (hc C hC).1, (hc C hC).2, hu, k G H (.refl st.inn) u ru⟩
    · exact po.elim
  unfold xFldV at po
  split at po
  · rename_i C fs h
    exact key C fs _ h (.inl rfl) po
  · rename_i C fs h
    exact key C fs _ h (.inr rfl) po
  · exact po.elim
end
end
end Dv
namespace Dv
open PySem PySem.Spec PyProof.Rows L2
set_option autoImplicit false
noncomputable section
/-! ### statements -/
inductive Sr where
  | nx (e : Env) | rt (d : D) (e : Env) | rf (d : D) (e : Env) | bk (e : Env) | ct (e : Env) | ex (C : Nat) (fs : List (Str × D)) (e : Env) | no
abbrev EvS := Env → Sr
def Res.st {α : Type} (r : Res α) (k : α → Env → Sr) : Sr := match r with
  | .ok a e => k a e
  | .ex C fs e => .ex C fs e
  | .no => .no
section
variable (K : PySem.W.Frag) (S : Nat → Addr) (E : XK)
def PostS (B : Base) (L : Lk) (G : Hp) (D : Ends) : Sr → Prop
  | .nx e => ∀ σ' G' H', Same G G' → Ste B L G' H' → Rel K S B L G' H' e σ' → D.nx σ' H'
  | .rt d e => ∀ σ' G' H', Same G G' → Ste B L G' H' → Rel K S B L G' H' e σ' → ∀ v, Rep K S G' d v → D.rt v H'
  | .rf d e => ∀ σ' G' H', Same G G' → Ste B L G' H' → Rel K S B L G' H' e σ' → ∀ a o, G' a = none → B.H a = none → H' a = some o → RepO K S G' d o → D.rt (.ref a) H'
  | .bk e => ∀ σ' G' H', Same G G' → Ste B L G' H' → Rel K S B L G' H' e σ' → D.bk σ' H'
  | .ct e => ∀ σ' G' H', Same G G' → Ste B L G' H' → Rel K S B L G' H' e σ' → D.ct σ' H'
  | .ex C fs e => ∀ σ' od G' H', Same G G' → Ste B L G' H' → Rel K S B L G' H' e σ' → XD K S G' H' fs od → E (Value.ref (S C)) od H'
  | .no => False
def TS' (f : EvS) : TS := fun D σ H => ∃ (B : Base) (L : Lk) (G : Hp) (env : Env), Ste B L G H ∧ Rel K S B L G H env σ ∧ PostS K S E B L G D (f env)
end
section
variable {K : PySem.W.Frag} {S : Nat → Addr} {E : XK} {B : Base} {L : Lk} {G G1 H : Hp} {σ : L2.St} {D D' : Ends} {r : Sr}
theorem PostS.up (h : PostS K S E B L G D r) (s : Same G G1) : PostS K S E B L G1 D r := by
  cases r with
  | no => exact h
  | nx e => exact fun σ' G' H' s' => h σ' G' H' (s.trans s')
  | rt d e => exact fun σ' G' H' s' => h σ' G' H' (s.trans s')
  | rf d e => exact fun σ' G' H' s' => h σ' G' H' (s.trans s')
  | bk e => exact fun σ' G' H' s' => h σ' G' H' (s.trans s')
  | ct e => exact fun σ' G' H' s' => h σ' G' H' (s.trans s')
  | ex C fs e => exact fun σ' od G' H' s' => h σ' od G' H' (s.trans s')
/-- a value first, then a statement's end -/
theorem Post.st {α : Type} {x : Res α} {k : α → Env → Sr} {P : Hp → Hp → α → Env → Prop} (h : PostS K S E B L G D (x.st k)) (f : ∀ G' H' a e, Same G G' → Ste B L G' H' → Rel K S B L G' H' e σ → PostS K S E B L G' D (k a e) → P G' H' a e) : Post K S E B L σ G P x := by
  cases x with
  | ok a e => exact fun G' H' s st rl => f G' H' a e s st rl (PostS.up h s)
  | ex C fs e => exact fun od G' H' s st rl x => h σ od G' H' s st rl x
  | no => exact h
end
section
variable {S : Nat → Addr} {X : Cx} {E : XK} {a b e : Expr} {ea eb ee : Ev} {pos : Pos} {st : Stmt} {rest : List Stmt} {es er : EvS} {et : EvT}
abbrev QS (S : Nat → Addr) (X : Cx) (E : XK) (st : Stmt) (f : EvS) : Prop := PS X st (TS' X.K S E f)
abbrev QSs (S : Nat → Addr) (X : Cx) (E : XK) (st : List Stmt) (f : EvS) : Prop := PSs X st (TS' X.K S E f)
def Sr.seq (r : Sr) (k : EvS) : Sr := match r with
  | .nx e => k e
  | r => r
def xSeq (a b : EvS) : EvS := fun env => (a env).seq b
def xNx : EvS := fun env => .nx env
theorem s_nil : QSs S X E [] xNx := pss_of pss_nil fun D σ H ⟨B, L, G, env, st, rl, po⟩ => po σ G H (.refl _) st rl
theorem s_one (h1 : QS S X E st es) : QSs S X E [st] es := pss_one h1
theorem PostS.seq {K : PySem.W.Frag} {B : Base} {L : Lk} {G : Hp} {D : Ends} {r : Sr} {k : EvS} (h : PostS K S E B L G D (r.seq k)) : PostS K S E B L G { D with nx := TS' K S E k D } r := by
  cases r with
  | nx e => exact fun σ' G' H' s st rl => ⟨B, L, G', e, st, rl, PostS.up h s⟩
  | rt d e => exact h
  | rf d e => exact h
  | bk e => exact h
  | ct e => exact h
  | ex C fs e => exact h
  | no => exact h
theorem s_cons (h1 : QS S X E st es) (h2 : QSs S X E rest er) : QSs S X E (st :: rest) (xSeq es er) := pss_of (pss_cons h1 h2) fun D σ H ⟨B, L, G, env, st, rl, po⟩ => ⟨B, L, G, env, st, rl, PostS.seq po⟩
theorem s_pass : QS S X E (.Pass pos) xNx := ps_of ps_pass fun D σ H ⟨B, L, G, env, st, rl, po⟩ => po σ G H (.refl _) st rl
def xBreak : EvS := fun env => .bk env
def xCont : EvS := fun env => .ct env
theorem s_break : QS S X E (.Break pos) xBreak := ps_of ps_break fun D σ H ⟨B, L, G, env, st, rl, po⟩ => po σ G H (.refl _) st rl
theorem s_continue : QS S X E (.Continue pos) xCont := ps_of ps_continue fun D σ H ⟨B, L, G, env, st, rl, po⟩ => po σ G H (.refl _) st rl
def xNoS : EvS := fun _ => .no
theorem s_no : QS S X E st xNoS := ps_of ps_never fun D σ H ⟨B, L, G, env, st, rl, po⟩ => po.elim
theorem ss_no {sts : List Stmt} : QSs S X E sts xNoS := pss_of pss_never fun D σ H ⟨B, L, G, env, st, rl, po⟩ => po.elim
def xDrop (a : Ev) : EvS := fun env => (a env).st fun _ e => .nx e
theorem s_expr (he : QE S X E e ee) (hs : swapsWith e none pos.line X.env = pure false := by rfl) : QS S X E (.Expr e pos) (xDrop ee) := ps_of (ps_expr he hs) fun D σ H ⟨B, L, G, env, st, rl, po⟩ => ⟨B, L, G, env, st, rl, Post.st po fun G' H' d e s st' rl' p v _ => p σ G' H' (.refl _) st' rl'⟩
def xRet (a : Ev) : EvS := fun env => (a env).st fun d e => .rt d e
theorem s_ret (he : QE S X E e ee) : QS S X E (.Return (some e) pos) (xRet ee) := ps_of (ps_ret he) fun D σ H ⟨B, L, G, env, st, rl, po⟩ => ⟨B, L, G, env, st, rl, Post.st po fun G' H' d e s st' rl' p v rv => p σ G' H' (.refl _) st' rl' v rv⟩
/-- what is returned is a new object of one's own -/
def xRetF (a : Ev) : EvS := fun env => (a env).st fun d e => .rf d e
theorem s_retF (he : QF S X E e ee) : QS S X E (.Return (some e) pos) (xRetF ee) := ps_of (ps_ret he) fun D σ H ⟨B, L, G, env, st, rl, po⟩ => ⟨B, L, G, env, st, rl, Post.st po fun G' H' d e s st' rl' p a o h1 h2 h3 _ _ h4 => p σ G' H' (.refl _) st' rl' a o h1 h2 h3 h4⟩
/-- .. that stands at a slot -/
def xRetV (i : Nat) : EvS := fun env => match env[i]? with
  | some (.box d) => .rf d (env.set i .no)
  | _ => .no
theorem s_retV {i : Nat} (he : PE X e (tVar i)) : QS S X E (.Return (some e) pos) (xRetV i) := ps_of (ps_ret he) fun D σ H ⟨B, L, G, env, st, rl, po⟩ => by
  unfold xRetV at po
  split at po
  · rename_i d h
    obtain ⟨x, hx, p, o, rfl, gp, bp, hp, r⟩ := rel_at rl h
    exact ⟨.ref p, hx, po σ G H (.refl _) st (rel_no rl) p o gp bp hp r⟩
  · exact po.elim
def xRetN : EvS := fun env => .rt .non env
theorem s_retN : QS S X E (.Return none pos) xRetN := ps_of ps_retN fun D σ H ⟨B, L, G, env, st, rl, po⟩ => po σ G H (.refl _) st rl .non rfl
def xIfS (c : EvT) (a b : EvS) : EvS := fun env => (c env).st fun x e => match x with
  | true => a e
  | false => b e
theorem s_if {c : Expr} {as bs : List Stmt} (hc : QT S X E c et) (ha : QSs S X E as es) (hb : QSs S X E bs er) : QS S X E (.If c as bs pos) (xIfS et es er) := ps_of (ps_if hc ha hb) fun D σ H ⟨B, L, G, env, st, rl, po⟩ => ⟨B, L, G, env, st, rl, Post.st po fun G' H' x e s st' rl' p v rv => by
  cases rv
  cases x with
  | true => exact ⟨B, L, G', e, st', rl', p⟩
  | false => exact ⟨B, L, G', e, st', rl', p⟩⟩
/-! assignments -/
def setE (env : Env) (i : Nat) (d : D) : Option Env := match env[i]? with
  | some (.par _) => none
  | some _ => some (env.set i (.val d))
  | none => none
theorem rel_set {K : PySem.W.Frag} {B : Base} {L : Lk} {G H : Hp} {env env' : Env} {σ : L2.St} {i : Nat} {d : D} {v : V} (rl : Rel K S B L G H env σ) (h : setE env i d = some env') (r : Rep K S G d v) : Rel K S B L G H env' (σ.set i (some v)) := by
  have e : env' = env.set i (.val d) := by
    unfold setE at h
    split at h
    · cases h
    · cases h; rfl
    · cases h
  subst e
  refine ⟨paired_set ⟨v, rfl, r⟩ i rl.at_, fun j k s t w hjk h1 h2 o1 o2 h3 => ?_, fun j s w h1 o1 h3 => ?_⟩
  · rcases set_at h1 with ⟨rfl, rfl⟩ | ⟨hj, h1⟩
    · cases o1
    · rcases set_at h2 with ⟨rfl, rfl⟩ | ⟨hk, h2⟩
      · cases o2
      · rw [List.getElem?_set_ne (fun e => hj e.symm)] at h3
        rw [List.getElem?_set_ne (fun e => hk e.symm)]
        exact rl.nd j k s t w hjk h1 h2 o1 o2 h3
  · rcases set_at h1 with ⟨rfl, rfl⟩ | ⟨hj, h1⟩
    · cases o1
    · rw [List.getElem?_set_ne (fun e => hj e.symm)] at h3
      exact rl.nl j s w h1 o1 h3
def xSet (i : Nat) (a : Ev) : EvS := fun env => (a env).st fun d e => match setE e i d with
  | some e' => .nx e'
  | none => .no
theorem snd_set {K : PySem.W.Frag} {i : Nat} {D : Ends} {σ : L2.St} {H : Hp} (q : TS' K S E (xSet i ee) D σ H) : tAsg (TD K S E ee) (gName i) D σ H := by
  obtain ⟨B, L, G, env, st, rl, po⟩ := q
  exact ⟨B, L, G, env, st, rl, Post.st po fun G' H' d e s st' rl' p v rv => by
    split at p
    · rename_i e' h
      exact p _ G' H' (.refl _) st' (rel_set rl' h rv)
    · exact p.elim⟩
theorem s_set {i : Nat} {x : Str} {pos' : Pos} (hN : X.N.Nodup) (hi : X.N[i]? = some x) (hx : Loc X.env.scope x) (he : QE S X E e ee) (hs : swapsWith e (some (.Name x pos')) pos.line X.env = pure false := by rfl) (hf : X.fn x = true ∨ X.env.scope.names.lookup x = some .local := by first | exact .inl rfl | exact .inr rfl | assumption) :
    QS S X E (.Assign [.Name x pos'] e pos) (xSet i ee) := ps_of (ps_set hN hi hx he hs hf) fun _ _ _ q => snd_set q
/-- x = a new object of one's own -/
def xBox (i : Nat) (a : Ev) : EvS := fun env => (a env).st fun d e => match e[i]? with
  | some (.par _) => .no
  | some _ => .nx (e.set i (.box d))
  | none => .no
theorem rel_box {K : PySem.W.Frag} {B : Base} {L : Lk} {G H : Hp} {env : Env} {σ : L2.St} {i : Nat} {d : D} {p : Addr} {o : HO} (rl : Rel K S B L G H env σ) (g : G p = none) (b : B.H p = none) (h : H p = some o) (hn : ∀ (i : Nat) (s : Sl), env[i]? = some s → isOwn s = true → σ[i]? ≠ some (some (V.ref p))) (hl : ∀ q ∈ L, q.1 ≠ p) (r : RepO K S G d o) : Rel K S B L G H (env.set i (.box d)) (σ.set i (some (V.ref p))) := by
  refine ⟨paired_set ⟨p, o, rfl, g, b, h, r⟩ i rl.at_, fun j k s t w hjk h1 h2 o1 o2 h3 h4 => ?_, fun j s w h1 o1 h3 => ?_⟩
  · rcases set_at h1 with ⟨rfl, rfl⟩ | ⟨hj, h1⟩
    · rcases set_at h2 with ⟨rfl, rfl⟩ | ⟨hk, h2⟩
      · exact hjk rfl
      · rw [List.getElem?_set_ne (fun e => hk e.symm)] at h4
        rcases set_at h3 with ⟨_, e⟩ | ⟨hj', _⟩
        · cases e
          exact hn k t h2 o2 h4
        · exact hj' rfl
    · rw [List.getElem?_set_ne (fun e => hj e.symm)] at h3
      rcases set_at h2 with ⟨rfl, rfl⟩ | ⟨hk, h2⟩
      · rcases set_at h4 with ⟨_, e⟩ | ⟨hj', _⟩
        · cases e
          exact hn j s (by assumption) o1 h3
        · exact hj' rfl
      · rw [List.getElem?_set_ne (fun e => hk e.symm)] at h4
        exact rl.nd j k s t w hjk h1 h2 o1 o2 h3 h4
  · rcases set_at h1 with ⟨rfl, rfl⟩ | ⟨hj, h1⟩
    · rcases set_at h3 with ⟨_, e⟩ | ⟨hj', _⟩
      · cases e
        exact hl
      · exact (hj' rfl).elim
    · rw [List.getElem?_set_ne (fun e => hj e.symm)] at h3
      exact rl.nl j s w h1 o1 h3
theorem snd_box {K : PySem.W.Frag} {i : Nat} {D : Ends} {σ : L2.St} {H : Hp} (q : TS' K S E (xBox i ee) D σ H) : tAsg (TF K S E ee) (gName i) D σ H := by
  obtain ⟨B, L, G, env, st, rl, po⟩ := q
  exact ⟨B, L, G, env, st, rl, Post.st po fun G' H' d e s st' rl' p a o h1 h2 h3 h4 h5 h6 => by
    split at p
    · exact p.elim
    · exact p _ G' H' (.refl _) st' (rel_box rl' h1 h2 h3 h4 h5 h6)
    · exact p.elim⟩
theorem s_box {i : Nat} {x : Str} {pos' : Pos} (hN : X.N.Nodup) (hi : X.N[i]? = some x) (hx : Loc X.env.scope x) (he : QF S X E e ee) (hs : swapsWith e (some (.Name x pos')) pos.line X.env = pure false := by rfl) (hf : X.fn x = true ∨ X.env.scope.names.lookup x = some .local := by first | exact .inl rfl | exact .inr rfl | assumption) :
    QS S X E (.Assign [.Name x pos'] e pos) (xBox i ee) := ps_of (ps_set hN hi hx he hs hf) fun _ _ _ q => snd_box q
/-! o.f = e, o at a slot -/
def putD (f : Str) (v : D) : List (Str × D) → List (Str × D)
  | [] => [(f, v)]
  | (k, x) :: r => if k = f then (k, v) :: r else (k, x) :: putD f v r
theorem put_ok {K : PySem.W.Frag} {G : Hp} {f : Str} {d : D} {v : V} (r : Rep K S G d v) : ∀ {fs : List (Str × D)} {ws : List (Str × V)}, RepF K S G fs ws → RepF K S G (putD f d fs) (putF f v ws)
  | [], _, h => by cases h; exact ⟨v, [], rfl, r, rfl⟩
  | (k, x) :: xs, _, ⟨u, ws, e, q, t⟩ => by
    subst e
    show RepF K S G (if k = f then (k, d) :: xs else (k, x) :: putD f d xs) (if k = f then (k, v) :: ws else (k, u) :: putF f v ws)
    by_cases h : k = f
    · rw [if_pos h, if_pos h]
      exact ⟨v, ws, rfl, r, t⟩
    · rw [if_neg h, if_neg h]
      exact ⟨u, _, rfl, q, put_ok r t⟩
def xFldS (cs : List Nat) (f : Str) (i : Nat) (a : Ev) : EvS := fun env => (a env).st fun d e => match e[i]? with
  | some (.par (.ins C fs)) => if C ∈ cs ∧ fs.length ≤ 900 then .nx (e.set i (.par (.ins C (putD f d fs)))) else .no
  | some (.box (.ins C fs)) => if C ∈ cs ∧ fs.length ≤ 900 then .nx (e.set i (.box (.ins C (putD f d fs)))) else .no
  | _ => .no
theorem repF_len {K : PySem.W.Frag} {G : Hp} : ∀ {fs : List (Str × D)} {ws : List (Str × V)}, RepF K S G fs ws → fs.length = ws.length
  | [], _, h => by cases h; rfl
  | x :: xs, _, ⟨u, ws, e, q, t⟩ => by subst e; rw [List.length_cons, List.length_cons, repF_len t]
/-- an object of one's own is changed -/
theorem own_set {K : PySem.W.Frag} {B : Base} {L : Lk} {G H : Hp} {env : Env} {σ : L2.St} {i : Nat} {s : Sl} {p : Addr} {d : D} {o : HO} (st : Ste B L G H) (rl : Rel K S B L G H env σ) (hi : env[i]? = some s) (hs : isOwn s = true) (hx : σ[i]? = some (some (V.ref p))) (ro : RepO K S G d o) :
    Ste B L G (upd H p o) ∧ Rel K S B L G (upd H p o) (env.set i (putSl s d)) σ := by
  obtain ⟨gp, hp⟩ := own_free st rl hi hs hx
  have f : Fin G H (some p) G (upd H p o) := by
    refine ⟨.refl _, fun a u e => ?_, fun a h e => (h e).elim, fun a u e hr => ?_⟩
    · have hne : a ≠ p := fun q => by subst q; rw [gp] at e; cases e
      rw [upd_ne hne]
      exact st.inn a u e
    · rw [upd_ne (fun q => hr (by rw [q]))]
      exact e
  exact ⟨st.fin rl f fun a e => by cases e; exact ⟨⟨i, s, hi, hs, hx⟩, by rw [upd_same]; intro e; cases e⟩, rl.fin1 f hi hs hx upd_same ro⟩
theorem s_fld {cs : List Nat} {s : Str} {i : Nat} {o value : Expr} {ev : Ev} {pos' : Pos} (hc : FldOk X.K S s cs) (ho : PE X o (tVar i)) (hv : QE S X E value ev) (hs : swapsWith value (some (.Attribute o s pos')) pos.line X.env = pure false) :
    QS S X E (.Assign [.Attribute o s pos'] value pos) (xFldS cs s i ev) := ps_of (ps_fld ho hv hs) fun D σ H ⟨B, L, G, env, st, rl, po⟩ => ⟨B, L, G, env, st, rl, Post.st po fun G' H' d e sm st' rl' p v rv => by
  have key : ∀ C fs sl, e[i]? = some sl → isOwn sl = true → (sl = .box (.ins C fs) ∨ sl = .par (.ins C fs)) → C ∈ cs → fs.length ≤ 900 → (∀ p0 dx ws, σ[i]? = some (some (V.ref p0)) → H' p0 = some (.ins (S C) dx ws) → RepF X.K S G' fs ws → D.nx σ (upd H' p0 (.ins (S C) dx (putF s v ws)))) → ∃ v0, σ[i]? = some (some v0) ∧ ∃ a C dx fs, v0 = .ref a ∧ H' a = some (.ins C dx fs) ∧ Cls X.K C ∧ NoAttr X.K C s ∧ fs.length < 1000 ∧ D.nx σ (upd H' a (.ins C dx (putF s v fs))) := fun C fs sl h1 h2 h3 h4 h5 k => by
    obtain ⟨p0, dx, ws, hx, hp, rf⟩ := fld_at rl' h1 h3
    exact ⟨.ref p0, hx, p0, S C, dx, ws, rfl, hp, (hc C h4).1, (hc C h4).2, by rw [← repF_len rf]; omega, k p0 dx ws hx hp rf⟩
  split at p
  · rename_i C fs h
    split at p
    · rename_i hh
      refine key C fs _ h rfl (.inr rfl) hh.1 hh.2 fun p0 dx ws hx hp rf => ?_
      obtain ⟨s1, s2⟩ := own_set (d := .ins C (putD s d fs)) (o := .ins (S C) dx (putF s v ws)) st' rl' h rfl hx ⟨dx, _, rfl, put_ok rv rf⟩
      exact p σ G' _ (.refl _) s1 s2
    · exact p.elim
  · rename_i C fs h
    split at p
    · rename_i hh
      refine key C fs _ h rfl (.inl rfl) hh.1 hh.2 fun p0 dx ws hx hp rf => ?_
      obtain ⟨s1, s2⟩ := own_set (d := .ins C (putD s d fs)) (o := .ins (S C) dx (putF s v ws)) st' rl' h rfl hx ⟨dx, _, rfl, put_ok rv rf⟩
      exact p σ G' _ (.refl _) s1 s2
    · exact p.elim
  · exact p.elim⟩
end
/-! ### targets -/
abbrev Eg := D → Env → Option Env
abbrev Egs := List D → Env → Option Env
theorem wipe_at {σ : L2.St} : ∀ (vs : List Nat) (j : Nat), (wipe σ vs)[j]? = if j ∈ vs then (if j < σ.length then some none else none) else σ[j]?
  | [], j => by simp [wipe]
  | v :: vs, j => by
    unfold wipe
    by_cases h : v = j
    · subst h
      by_cases hl : v < σ.length
      · rw [List.getElem?_set_self (by rw [wipe_length]; exact hl)]
        simp [hl]
      · rw [List.getElem?_eq_none_iff.mpr (by rw [List.length_set, wipe_length]; omega)]
        simp [hl]
    · rw [List.getElem?_set_ne h, wipe_at vs j]
      have : j ≠ v := fun e => h e.symm
      simp [this]
theorem wipe_set {σ : L2.St} {i : Nat} {x : Option V} {vs : List Nat} (h : i ∈ vs) : wipe (σ.set i x) vs = wipe σ vs := by
  refine List.ext_getElem? fun j => ?_
  rw [wipe_at, wipe_at, List.length_set]
  by_cases hj : j ∈ vs
  · rw [if_pos hj, if_pos hj]
  · rw [if_neg hj, if_neg hj, List.getElem?_set_ne (fun e => hj (by rw [← e]; exact h))]
section
variable {K : PySem.W.Frag} {S : Nat → Addr}
def SndG (K : PySem.W.Frag) (S : Nat → Addr) (gs : List Nat) (eg : Eg) (g : TG) : Prop := ∀ (B : Base) (L : Lk) (G H : Hp) (env env' : Env) (σ : L2.St) (d : D) (v : V) (N : L2.St → Hp → Prop), Ste B L G H → Rel K S B L G H env σ → Rep K S G d v → eg d env = some env' →
  (∀ σ', Rel K S B L G H env' σ' → (∀ vs, (∀ i ∈ gs, i ∈ vs) → wipe σ' vs = wipe σ vs) → N σ' H) → g v σ H N
def SndGs (K : PySem.W.Frag) (S : Nat → Addr) (gs : List Nat) (eg : Egs) (g : TGs) : Prop := ∀ (B : Base) (L : Lk) (G H : Hp) (env env' : Env) (σ : L2.St) (d : List D) (v : List V) (N : L2.St → Hp → Prop), Ste B L G H → Rel K S B L G H env σ → RepL K S G d v → eg d env = some env' →
  (∀ σ', Rel K S B L G H env' σ' → (∀ vs, (∀ i ∈ gs, i ∈ vs) → wipe σ' vs = wipe σ vs) → N σ' H) → g v σ H N
def yName (i : Nat) : Eg := fun d env => setE env i d
def yNil : Egs := fun ds env => match ds with
  | [] => some env
  | _ => none
def yCons (a : Eg) (r : Egs) : Egs := fun ds env => match ds with
  | d :: ds => match a d env with
    | some e => r ds e
    | none => none
  | [] => none
def yTup (n : Nat) (r : Egs) : Eg := fun d env => match d with
  | .tup xs => if xs.length = n then r xs env else none
  | _ => none
theorem g_name (i : Nat) : SndG K S [i] (yName i) (gName i) := fun B L G H env env' σ d v N st rl r e k => k _ (rel_set rl e r) fun vs h => wipe_set (h i (List.mem_singleton.mpr rfl))
theorem gs_nil : SndGs K S [] yNil L2.gNil := fun B L G H env env' σ d v N st rl r e k => by
  cases d with
  | nil => cases r; cases e; exact ⟨rfl, k σ rl fun _ _ => rfl⟩
  | cons _ _ => cases e
theorem gs_cons {a : Eg} {r : Egs} {t : TG} {u : TGs} {g1 g2 : List Nat} (h1 : SndG K S g1 a t) (h2 : SndGs K S g2 r u) : SndGs K S (g1 ++ g2) (yCons a r) (gCons t u) := fun B L G H env env' σ d v N st rl rp e k => by
  cases d with
  | nil => cases e
  | cons x xs =>
    obtain ⟨w, ws, rfl, q, t'⟩ := rp
    have e : (match a x env with
      | some e => r xs e
      | none => none) = some env' := e
    split at e
    · rename_i e1 he
      exact ⟨w, ws, rfl, h1 B L G H env e1 σ x w _ st rl q he fun σ1 rl1 w1 => h2 B L G H e1 env' σ1 xs ws N st rl1 t' e fun σ2 rl2 w2 => k σ2 rl2 fun vs hv => (w2 vs fun i hi => hv i (List.mem_append_right _ hi)).trans (w1 vs fun i hi => hv i (List.mem_append_left _ hi))⟩
    · cases e
theorem g_tup {n : Nat} {r : Egs} {u : TGs} {gs : List Nat} (h : SndGs K S gs r u) : SndG K S gs (yTup n r) (gTup K n u) := fun B L G H env env' σ d v N st rl rp e k => by
  cases d with
  | tup xs =>
    obtain ⟨p, vs, rfl, q, t⟩ := rp
    have e : (if xs.length = n then r xs env else none) = some env' := e
    by_cases hn : xs.length = n
    · rw [if_pos hn] at e
      exact ⟨p, vs, rfl, st.inn.tup q, by rw [← t.length]; exact hn, h B L G H env env' σ xs vs N st rl t e k⟩
    · rw [if_neg hn] at e; cases e
  | _ => cases e
end
section
variable {S : Nat → Addr} {X : Cx} {E : XK} {e tg : Expr} {ee : Ev} {pos : Pos} {eg : Eg} {g : TG} {gs : List Nat}
def xAsg (a : Ev) (g : Eg) : EvS := fun env => (a env).st fun d e => match g d e with
  | some e' => .nx e'
  | none => .no
theorem s_asg (he : QE S X E e ee) (hg : PG X tg g) (sg : SndG X.K S gs eg g) (hs : swapsWithSole [tg] e pos.line X.env = pure false := by rfl) (hw : swappedStores [tg] e X.env = pure none := by rfl)
    (h1 : (assignEach [tg] X.env).map (·.2) = [assign tg X.env] := by rfl) : QS S X E (.Assign [tg] e pos) (xAsg ee eg) := ps_of (ps_asg he hg hs hw h1) fun D σ H ⟨B, L, G, env, st, rl, po⟩ => ⟨B, L, G, env, st, rl, Post.st po fun G' H' d e s st' rl' p v rv => by
  split at p
  · rename_i e' h
    exact sg B L G' H' _ e' σ d v _ st' rl' rv h fun σ' rl2 _ => p σ' G' H' (.refl _) st' rl2
  · exact p.elim⟩
end
end
end Dv
namespace Dv
open PySem PySem.Spec PyProof.Rows L2
set_option autoImplicit false
noncomputable section
/-! ### what is walked -/
abbrev EvI := Env → Res (List D)
def ItOk (K : PySem.W.Frag) (S : Nat → Addr) (B : Base) (L : Lk) (G : Hp) (J : It) (items : List D) : Prop := ∀ (i : Nat) (G1 H1 : Hp), Same G G1 → Ste B L G1 H1 →
  (items[i]? = none → J.stop i H1) ∧ ∀ d, items[i]? = some d → J.go i H1 ∧ ∀ x H2, J.yld i H1 x H2 → ∃ G2, Ex G1 H1 G2 H2 ∧ Rep K S G2 d x
def TIt (K : PySem.W.Frag) (S : Nat → Addr) (E : XK) (f : EvI) : TI := fun σ H R => ∃ (B : Base) (L : Lk) (G : Hp) (env : Env), Ste B L G H ∧ Rel K S B L G H env σ ∧ Post K S E B L σ G (fun G' H' ds _ => ∀ J, ItOk K S B L G' J ds → R J H') (f env)
abbrev QI (S : Nat → Addr) (X : Cx) (E : XK) (tg iter : Expr) (f : EvI) : Prop := PI X tg iter (TIt X.K S E f)
theorem pi_of {X : Cx} {tg iter : Expr} {t u : TI} (p : PI X tg iter t) (h : ∀ σ H R, u σ H R → t σ H R) : PI X tg iter u := ⟨fun pins s σ H R I q => p.run pins s σ H R I (h σ H R q)⟩
def iSeq (K : PySem.W.Frag) (tl : TE) : TI := fun σ H R => tl σ H fun x H1 => ∃ a, x = .ref a ∧ (((∃ xs, SqL K H1 a xs) ∧ R (Itl K a) H1) ∨ ((∃ xs, SqT K H1 a xs) ∧ R (Itt K a) H1))
theorem pi_seq {X : Cx} {tg l : Expr} {tl : TE} (hl : PE X l tl) : PI X tg l (iSeq X.K tl) := by
  refine ⟨fun pins s σ H R I h => ?_⟩
  refine thn (hl.run pins s σ H _ I h) fun v s1 ⟨x, H1, I1, r1, a, e, q⟩ => ?_
  subst e
  cases r1
  rcases q with ⟨⟨xs, hq⟩, q⟩ | ⟨⟨xs, hq⟩, q⟩
  · obtain ⟨its, rv, p, hz⟩ := I1.list hq
    refine wpAny_pyIter_list p.isList ?_
    refine ⟨s1.heap.objs.size, [s1.heap.objs.size], _, _, H1, rfl, I1.kept (t' := s1.toks) fun b o e => Heap.get?_push_of_some _ e, turn_list a _, ⟨_, Heap.get?_push_size _ rfl, rfl, rfl⟩, fun b hb => ?_, q⟩
    have e : b = s1.heap.objs.size := by simpa using hb
    subst e
    exact I1.fpOk (Nat.le_refl _) (I1.hok.fresh (Nat.le_refl _))
  · obtain ⟨its, rv, p, hz⟩ := I1.tuple hq
    refine wpAny_pyIter_tuple (show s1.heap.IsTuple a its.toArray from p) ?_
    refine ⟨s1.heap.objs.size, [s1.heap.objs.size], _, _, H1, rfl, I1.kept (t' := s1.toks) fun b o e => Heap.get?_push_of_some _ e, turn_tuple a _, ⟨_, Heap.get?_push_size _ rfl, rfl, rfl⟩, fun b hb => ?_, q⟩
    have e : b = s1.heap.objs.size := by simpa using hb
    subst e
    exact I1.fpOk (Nat.le_refl _) (I1.hok.fresh (Nat.le_refl _))
def seqD (d : D) : Option (List D) := match d with
  | .lst xs => some xs
  | .scr xs => some xs
  | .tup xs => some xs
  | _ => none
def lstD (d : D) : Option (List D) := match d with
  | .lst xs => some xs
  | .scr xs => some xs
  | _ => none
section
variable {K : PySem.W.Frag} {S : Nat → Addr} {X : Cx} {E : XK} {a b e tg : Expr} {es : List Expr} {ea eb ee : Ev} {er : EvA} {pos p : Pos}
theorem lst_sq {G : Hp} {d : D} {v : V} {xs : List D} (r : Rep K S G d v) (h : lstD d = some xs) : ∃ q vs, v = .ref q ∧ SqL K G q vs ∧ RepL K S G xs vs := by
  cases d with
  | lst ys => cases h; obtain ⟨q, vs, e, g, t⟩ := r; exact ⟨q, vs, e, .inl (.inl g), t⟩
  | scr ys => cases h; obtain ⟨q, vs, e, g, t⟩ := r; exact ⟨q, vs, e, g, t⟩
  | _ => cases h
theorem seq_sq {G : Hp} {d : D} {v : V} {xs : List D} (r : Rep K S G d v) (h : seqD d = some xs) : ∃ q vs, v = .ref q ∧ (SqL K G q vs ∨ SqT K G q vs) ∧ RepL K S G xs vs := by
  cases d with
  | lst ys => cases h; obtain ⟨q, vs, e, g, t⟩ := r; exact ⟨q, vs, e, .inl (.inl (.inl g)), t⟩
  | scr ys => cases h; obtain ⟨q, vs, e, g, t⟩ := r; exact ⟨q, vs, e, .inl g, t⟩
  | tup ys => cases h; obtain ⟨q, vs, e, g, t⟩ := r; exact ⟨q, vs, e, .inr g, t⟩
  | _ => cases h
theorem rep_none {G : Hp} {xs : List D} {vs : List V} {i : Nat} (r : RepL K S G xs vs) (h : xs[i]? = none) : vs.length ≤ i := by
  have := List.getElem?_eq_none_iff.mp h
  rw [← r.length]
  exact this
theorem same_sqT {G G' : Hp} {q : Addr} {vs : List V} (h : Same G G') (t : SqT K G q vs) : SqT K G' q vs := t.elim (fun t => .inl (t.elim (fun t => .inl (h _ _ t)) fun ⟨o, t⟩ => .inr ⟨o, h _ _ t⟩)) .inr
def iSq (f : Ev) : EvI := fun env => (f env).bind fun d e => .of (seqD d) e
theorem i_seq (ha : QE S X E e ee) : QI S X E tg e (iSq ee) := pi_of (pi_seq ha) fun σ H R ⟨B, L, G, env, st, rl, po⟩ => ⟨B, L, G, env, st, rl, po.then fun G1 H1 d e1 sm1 st1 rl1 p1 v rv => by
  obtain ⟨xs, hd, k⟩ := p1.of st1 rl1
  obtain ⟨q, vs, rfl, hq, t⟩ := seq_sq rv hd
  refine ⟨q, rfl, ?_⟩
  have kk := k G1 H1 (.refl st1.inn)
  rcases hq with hq | hq
  · refine .inl ⟨⟨vs, st1.inn.seq hq⟩, kk _ fun i G2 H2 sm2 st2 => ⟨fun h => ⟨vs, st2.inn.seq (sm2.seq hq), rep_none t h⟩, fun d h => ?_⟩⟩
    obtain ⟨u, hu, ru⟩ := t.get h
    refine ⟨⟨vs, u, st2.inn.seq (sm2.seq hq), hu⟩, fun x H3 ⟨e1, e2⟩ => ?_⟩
    have := e2 vs (st2.inn.seq (sm2.seq hq))
    rw [hu] at this
    cases this
    subst e1
    exact ⟨G2, .refl st2.inn, ru.mono sm2⟩
  · refine .inr ⟨⟨vs, st1.inn.tup hq⟩, kk _ fun i G2 H2 sm2 st2 => ⟨fun h => ⟨vs, st2.inn.tup (same_sqT sm2 hq), rep_none t h⟩, fun d h => ?_⟩⟩
    obtain ⟨u, hu, ru⟩ := t.get h
    refine ⟨⟨vs, u, st2.inn.tup (same_sqT sm2 hq), hu⟩, fun x H3 ⟨e1, e2⟩ => ?_⟩
    have := e2 vs (st2.inn.tup (same_sqT sm2 hq))
    rw [hu] at this
    cases this
    subst e1
    exact ⟨G2, .refl st2.inn, ru.mono sm2⟩⟩
def rngD (lo : Int) (n : Nat) : List D := (List.range n).map fun (k : Nat) => D.int (lo + (k : Int))
theorem rng_ok {B : Base} {L : Lk} {G : Hp} {lo : Int} {n : Nat} : ItOk K S B L G (Itr lo n) (rngD lo n) := fun i G1 H1 sm st => by
  have hl : (rngD lo n).length = n := by simp [rngD]
  refine ⟨fun h => ?_, fun d h => ?_⟩
  · have := List.getElem?_eq_none_iff.mp h
    show n ≤ i
    omega
  · have hi : i < n := by
      have := (List.getElem?_eq_some_iff.mp h).1
      omega
    refine ⟨hi, fun x H2 ⟨e1, e2⟩ => ?_⟩
    have e1 : H2 = H1 := e1
    have e2 : x = .int (lo + (i : Int)) := e2
    have e : (rngD lo n)[i]? = some (.int (lo + (i : Int))) := by
      unfold rngD
      rw [List.getElem?_map, List.getElem?_range hi]
      rfl
    rw [e] at h
    cases h
    subst e1
    exact ⟨G1, .refl st.inn, e2⟩
def iRg1 (r : EvA) : EvI := fun env => (r env).bind fun xs e => match xs with
  | [.int j] => if -(2 ^ 62) ≤ j ∧ j < 2 ^ 62 then .ok (rngD 0 j.toNat) e else .no
  | _ => .no
def iRg2 (r : EvA) : EvI := fun env => (r env).bind fun xs e => match xs with
  | [.int i, .int j] => if -(2 ^ 62) ≤ i ∧ i < 2 ^ 62 ∧ -(2 ^ 62) ≤ j ∧ j < 2 ^ 62 then .ok (rngD i (j - i).toNat) e else .no
  | _ => .no
theorem i_rng1 (hg : Gl X "range") (hm : X.mg "range" = none) (ha : QA S X E [a] er) (hs : starEach [a] X.env = [(false, eval a X.env)] := by rfl) : QI S X E tg (.Call (.Name "range" p) [a] [] pos) (iRg1 er) := pi_of (pi_range1 hg hm ha hs) fun σ H R ⟨B, L, G, env, st, rl, po⟩ => ⟨B, L, G, env, st, rl, po.then fun G1 H1 xs e1 sm1 st1 rl1 p1 vs rv => by
  split at p1
  · rename_i j
    obtain ⟨v, rfl, r⟩ := rv.one
    cases r
    split at p1
    · rename_i h
      exact ⟨j, rfl, h.1, h.2, p1 G1 H1 (.refl _) st1 rl1 _ rng_ok⟩
    · exact p1.elim
  · exact p1.elim⟩
theorem i_rng2 (hg : Gl X "range") (hm : X.mg "range" = none) (ha : QA S X E [a, b] er) (hs : starEach [a, b] X.env = [(false, eval a X.env), (false, eval b X.env)] := by rfl) (hs2 : starEach [b] X.env = [(false, eval b X.env)] := by rfl) : QI S X E tg (.Call (.Name "range" p) [a, b] [] pos) (iRg2 er) := pi_of (pi_range2 hg hm ha hs hs2) fun σ H R ⟨B, L, G, env, st, rl, po⟩ => ⟨B, L, G, env, st, rl, po.then fun G1 H1 xs e1 sm1 st1 rl1 p1 vs rv => by
  split at p1
  · rename_i i j
    obtain ⟨v, w, rfl, r, r'⟩ := rv.two
    cases r
    cases r'
    split at p1
    · rename_i h
      exact ⟨i, j, rfl, h, p1 G1 H1 (.refl _) st1 rl1 _ rng_ok⟩
    · exact p1.elim
  · exact p1.elim⟩
/-! zip, enumerate -/
def zipD : List D → List D → List D
  | x :: xs, y :: ys => .tup [x, y] :: zipD xs ys
  | _, _ => []
theorem zip_at : ∀ (xs ys : List D) (i : Nat), (zipD xs ys)[i]? = match xs[i]?, ys[i]? with
    | some x, some y => some (.tup [x, y])
    | _, _ => none
  | [], ys, i => by simp [zipD]
  | x :: xs, [], i => by
    simp [zipD]
  | x :: xs, y :: ys, 0 => rfl
  | x :: xs, y :: ys, i + 1 => by
    have := zip_at xs ys i
    simpa [zipD] using this
def iZp (r : EvA) : EvI := fun env => (r env).bind fun xs e => match xs with
  | [x, y] => match lstD x, lstD y with
    | some xs, some ys => .ok (zipD xs ys) e
    | _, _ => .no
  | _ => .no
variable {elts : List Expr} {kk : Nat} {tpos : Pos}
theorem zip_ok {B : Base} {L : Lk} {G : Hp} {q q' : Addr} {xs ys : List D} {vs ws : List V} (h1 : SqL K G q vs) (h2 : SqL K G q' ws) (r1 : RepL K S G xs vs) (r2 : RepL K S G ys ws) : ItOk K S B L G (Itz K q q') (zipD xs ys) := fun i G1 H1 sm st => by
  have a1 := st.inn.seq (sm.seq h1)
  have a2 := st.inn.seq (sm.seq h2)
  rw [zip_at]
  refine ⟨fun h => ⟨vs, ws, a1, a2, ?_⟩, fun d h => ?_⟩
  · cases e1 : xs[i]? with
    | none => exact .inl (rep_none r1 e1)
    | some x =>
      cases e2 : ys[i]? with
      | none => exact .inr (rep_none r2 e2)
      | some y => rw [e1, e2] at h; cases h
  · cases e1 : xs[i]? with
    | none => rw [e1] at h; cases h
    | some x =>
      cases e2 : ys[i]? with
      | none => rw [e1, e2] at h; cases h
      | some y =>
        rw [e1, e2] at h
        cases h
        obtain ⟨u, hu, ru⟩ := r1.get e1
        obtain ⟨w, hw, rw'⟩ := r2.get e2
        refine ⟨⟨vs, ws, u, w, a1, a2, hu, hw⟩, fun x' H2 ⟨T, x2, y2, e3, hT, e4, k1, k2⟩ => ?_⟩
        have z1 := k1 vs a1
        have z2 := k2 ws a2
        rw [hu] at z1
        rw [hw] at z2
        cases z1
        cases z2
        subst e3
        subst e4
        have ex := Ex.new1 (o := .tup [u, w]) st.inn hT
        exact ⟨_, ex, T, [u, w], rfl, .inl (.inl upd_same), .cons ((ru.mono sm).mono ex.g) (.cons ((rw'.mono sm).mono ex.g) .nil)⟩
theorem i_zip (hg : Gl X "zip") (hm : X.mg "zip" = none) (ha : QA S X E [a, b] er) (hs : starEach [a, b] X.env = (false, eval a X.env) :: starEach [b] X.env := by rfl) (hs2 : (backTo pos (starEach [b] X.env)).any (·.1) = false := by rfl) : QI S X E (.Tuple elts kk tpos) (.Call (.Name "zip" p) [a, b] [] pos) (iZp er) := pi_of (pi_zip hg hm ha hs hs2) fun σ H R ⟨B, L, G, env, st, rl, po⟩ => ⟨B, L, G, env, st, rl, po.then fun G1 H1 xs e1 sm1 st1 rl1 p1 vs rv => by
  split at p1
  · rename_i x y
    obtain ⟨v, w, rfl, r, r'⟩ := rv.two
    split at p1
    · rename_i xs ys h1 h2
      obtain ⟨q, vs, rfl, hq, t⟩ := lst_sq r h1
      obtain ⟨q', ws, rfl, hq', t'⟩ := lst_sq r' h2
      exact ⟨q, q', vs, ws, rfl, st1.inn.seq hq, st1.inn.seq hq', p1 G1 H1 (.refl _) st1 rl1 _ (zip_ok hq hq' t t')⟩
    · exact p1.elim
  · exact p1.elim⟩
def enumD : Nat → List D → List D
  | _, [] => []
  | n, x :: xs => .tup [.int (n : Int), x] :: enumD (n + 1) xs
theorem enum_at : ∀ (xs : List D) (n i : Nat), (enumD n xs)[i]? = (xs[i]?).map fun x => .tup [.int ((n + i : Nat) : Int), x]
  | [], n, i => by simp [enumD]
  | x :: xs, n, 0 => rfl
  | x :: xs, n, i + 1 => by
    have := enum_at xs (n + 1) i
    rw [show n + 1 + i = n + (i + 1) by omega] at this
    simpa [enumD] using this
def iEn (r : EvA) : EvI := fun env => (r env).bind fun xs e => match xs with
  | [x] => match lstD x with
    | some xs => .ok (enumD 0 xs) e
    | none => .no
  | _ => .no
theorem enum_ok {B : Base} {L : Lk} {G : Hp} {q : Addr} {xs : List D} {vs : List V} (h1 : SqL K G q vs) (r1 : RepL K S G xs vs) : ItOk K S B L G (Ite K q) (enumD 0 xs) := fun i G1 H1 sm st => by
  have a1 := st.inn.seq (sm.seq h1)
  rw [enum_at]
  refine ⟨fun h => ⟨vs, a1, ?_⟩, fun d h => ?_⟩
  · cases e1 : xs[i]? with
    | none => exact rep_none r1 e1
    | some x => rw [e1] at h; cases h
  · cases e1 : xs[i]? with
    | none => rw [e1] at h; cases h
    | some x =>
      rw [e1] at h
      cases h
      obtain ⟨u, hu, ru⟩ := r1.get e1
      refine ⟨⟨vs, u, a1, hu⟩, fun x' H2 ⟨T, x2, e3, hT, e4, k1⟩ => ?_⟩
      have z1 := k1 vs a1
      rw [hu] at z1
      cases z1
      subst e3
      subst e4
      have ex := Ex.new1 (o := .tup [.int (i : Nat), u]) st.inn hT
      refine ⟨_, ex, T, [.int (i : Nat), u], rfl, .inl (.inl upd_same), .cons ?_ (.cons ((ru.mono sm).mono ex.g) .nil)⟩
      show V.int ((i : Nat) : Int) = V.int ((0 + i : Nat) : Int)
      rw [Nat.zero_add]
theorem i_enum (hg : Gl X "enumerate") (hm : X.mg "enumerate" = none) (ha : QA S X E [e] er) (hs : starEach [e] X.env = [(false, eval e X.env)] := by rfl) : QI S X E (.Tuple elts kk tpos) (.Call (.Name "enumerate" p) [e] [] pos) (iEn er) := pi_of (pi_enum hg hm ha hs) fun σ H R ⟨B, L, G, env, st, rl, po⟩ => ⟨B, L, G, env, st, rl, po.then fun G1 H1 xs e1 sm1 st1 rl1 p1 vs rv => by
  split at p1
  · rename_i x
    obtain ⟨v, rfl, r⟩ := rv.one
    split at p1
    · rename_i xs h1
      obtain ⟨q, vs, rfl, hq, t⟩ := lst_sq r h1
      exact ⟨q, vs, rfl, st1.inn.seq hq, p1 G1 H1 (.refl _) st1 rl1 _ (enum_ok hq t)⟩
    · exact p1.elim
  · exact p1.elim⟩
/-! ### for -/
def forL (eg : Eg) (b : EvS) : List D → EvS
  | [], env => .nx env
  | x :: xs, env => match eg x env with
    | none => .no
    | some e1 => match b e1 with
      | .nx e2 => forL eg b xs e2
      | .ct e2 => forL eg b xs e2
      | .bk e2 => .nx e2
      | r => r
def xFor (ei : EvI) (eg : Eg) (b : EvS) : EvS := fun env => (ei env).st fun ds e => forL eg b ds e
variable {iter : Expr} {body : List Stmt} {ei : EvI} {eg : Eg} {g : TG} {gs : List Nat} {eb' : EvS}
theorem drop_at {α : Type} {l : List α} {i : Nat} {x : α} (h : l[i]? = some x) : l.drop i = x :: l.drop (i + 1) := by
  obtain ⟨hi, e⟩ := List.getElem?_eq_some_iff.mp h
  rw [List.drop_eq_getElem_cons hi, e]
theorem for_core {B : Base} {L : Lk} {G1 H1 : Hp} {e1 : Env} {σ : L2.St} {D : Ends} {ds : List Dv.D} {J : It} (sg : SndG K S gs eg g) (st1 : Ste B L G1 H1) (rl1 : Rel K S B L G1 H1 e1 σ) (hJ : ItOk K S B L G1 J ds) (p1 : PostS K S E B L G1 D (forL eg eb' ds e1)) :
    ∃ W : Nat → Nat → L2.St → Hp → Prop, (∃ m, W 0 m σ H1) ∧ ∀ i m σ H, W i m σ H →
      (J.stop i H ∧ D.nx σ H) ∨ (J.go i H ∧ ∃ N : L2.St → Hp → Prop, (∀ σ' H', N σ' H' → ∃ m', m' < m ∧ W (i + 1) m' σ' H') ∧ ∀ x H', J.yld i H x H' → g x σ H' fun σ2 H2 => TS' K S E eb' { D with nx := N, ct := N, bk := D.nx } σ2 H2) := by
  refine ⟨fun i m σ' H' => ∃ G' env', Same G1 G' ∧ Ste B L G' H' ∧ Rel K S B L G' H' env' σ' ∧ m = (ds.drop i).length ∧ PostS K S E B L G' D (forL eg eb' (ds.drop i) env'), ⟨_, G1, e1, .refl _, st1, rl1, rfl, p1⟩, ?_⟩
  rintro i m σ' H' ⟨G', env', sm, st', rl', rfl, po'⟩
  obtain ⟨t1, t2⟩ := hJ i G' H' sm st'
  cases hd : ds[i]? with
  | none =>
    have e : ds.drop i = [] := List.drop_eq_nil_iff.mpr (List.getElem?_eq_none_iff.mp hd)
    rw [e] at po'
    exact .inl ⟨t1 hd, po' σ' G' H' (.refl _) st' rl'⟩
  | some d =>
    obtain ⟨g1, g2⟩ := t2 d hd
    have e := drop_at hd
    rw [e] at po'
    refine .inr ⟨g1, fun σ2 H2 => ∃ G2 env2, Same G1 G2 ∧ Ste B L G2 H2 ∧ Rel K S B L G2 H2 env2 σ2 ∧ PostS K S E B L G2 D (forL eg eb' (ds.drop (i + 1)) env2), fun σ2 H2 ⟨G2, env2, a1, a2, a3, a4⟩ => ⟨(ds.drop (i + 1)).length, by rw [e, List.length_cons]; omega, G2, env2, a1, a2, a3, rfl, a4⟩, fun x H2 hy => ?_⟩
    obtain ⟨G2, ex, rx⟩ := g2 x H2 hy
    have st2 := st'.ex ex
    have rl2 := rl'.ex ex
    have po' : PostS K S E B L G' D (match eg d env' with
      | none => .no
      | some e1 => match eb' e1 with
        | .nx e2 => forL eg eb' (ds.drop (i + 1)) e2
        | .ct e2 => forL eg eb' (ds.drop (i + 1)) e2
        | .bk e2 => .nx e2
        | r => r) := po'
    cases hg : eg d env' with
    | none => rw [hg] at po'; exact po'.elim
    | some e3 =>
      rw [hg] at po'
      dsimp only at po'
      refine sg B L G2 H2 env' e3 σ' d x _ st2 rl2 rx hg fun σ3 rl3 _ => ⟨B, L, G2, e3, st2, rl3, ?_⟩
      have po2 := po'.up ex.g
      cases hb : eb' e3 with
      | nx e4 => rw [hb] at po2; exact fun σ4 G4 H4 s4 st4 rl4 => ⟨G4, e4, (sm.trans ex.g).trans s4, st4, rl4, po2.up s4⟩
      | ct e4 => rw [hb] at po2; exact fun σ4 G4 H4 s4 st4 rl4 => ⟨G4, e4, (sm.trans ex.g).trans s4, st4, rl4, po2.up s4⟩
      | bk e4 => rw [hb] at po2; exact po2
      | rt d e4 => rw [hb] at po2; exact po2
      | rf d e4 => rw [hb] at po2; exact po2
      | ex C fs e4 => rw [hb] at po2; exact po2
      | no => rw [hb] at po2; exact po2
theorem s_for (hp : PassesOwn (model X.prog X.w) X.A X.env X.xe) (hc : X.calm = true) (hi : QI S X E tg iter ei) (hg : PG X tg g) (sg : SndG X.K S gs eg g) (hb : QSs S X E body eb') (hs : ∀ x, foldedSetIterable iter X.env x = pure x := by intro _; rfl) :
    QS S X E (.For tg iter body [] pos) (xFor ei eg eb') := ps_of (ps_for hp hc hi hg hb hs) fun D σ H ⟨B, L, G, env, st, rl, po⟩ => ⟨B, L, G, env, st, rl, Post.st po fun G1 H1 ds e1 sm1 st1 rl1 p1 J hJ => for_core sg st1 rl1 hJ p1⟩
/-! ### while -/
def whileL (c : EvT) (b : EvS) : Nat → EvS
  | 0, _ => .no
  | f + 1, env => (c env).st fun x e => match x with
    | true => match b e with
      | .nx e2 => whileL c b f e2
      | .ct e2 => whileL c b f e2
      | .bk e2 => .nx e2
      | r => r
    | false => .nx e
variable {et : EvT}
theorem s_while {c : Expr} (f : Nat) (hp : PassesOwn (model X.prog X.w) X.A X.env X.xe) (hc : QT S X E c et) (hb : QSs S X E body eb') : QS S X E (.While c body [] pos) (whileL et eb' f) := ps_of (ps_while hp hc hb) fun D σ H ⟨B, L, G, env, st, rl, po⟩ => by
  refine ⟨fun m σ' H' => ∃ G' env', Ste B L G' H' ∧ Rel X.K S B L G' H' env' σ' ∧ PostS X.K S E B L G' D (whileL et eb' m env'), ⟨f, G, env, st, rl, po⟩, ?_⟩
  rintro m σ' H' ⟨G', env', st', rl', po'⟩
  cases m with
  | zero => exact po'.elim
  | succ m =>
    refine ⟨B, L, G', env', st', rl', Post.st po' fun G2 H2 x e2 sm2 st2 rl2 p2 v rv => ?_⟩
    cases rv
    cases x with
    | false => exact p2 σ' G2 H2 (.refl _) st2 rl2
    | true =>
      dsimp only at p2
      refine ⟨fun σ3 H3 => ∃ m', m' < m + 1 ∧ ∃ G' env', Ste B L G' H3 ∧ Rel X.K S B L G' H3 env' σ3 ∧ PostS X.K S E B L G' D (whileL et eb' m' env'), fun _ _ z => z, B, L, G2, e2, st2, rl2, ?_⟩
      cases hb : eb' e2 with
      | nx e4 => rw [hb] at p2; exact fun σ4 G4 H4 s4 st4 rl4 => ⟨m, Nat.lt_succ_self _, G4, e4, st4, rl4, p2.up s4⟩
      | ct e4 => rw [hb] at p2; exact fun σ4 G4 H4 s4 st4 rl4 => ⟨m, Nat.lt_succ_self _, G4, e4, st4, rl4, p2.up s4⟩
      | bk e4 => rw [hb] at p2; exact p2
      | rt d e4 => rw [hb] at p2; exact p2
      | rf d e4 => rw [hb] at p2; exact p2
      | ex C fs e4 => rw [hb] at p2; exact p2
      | no => rw [hb] at p2; exact p2
end
end
end Dv
namespace Dv
open PySem PySem.Spec PyProof.Rows L2
set_option autoImplicit false
noncomputable section
/-! ### list comprehensions -/
def wipeE (env : Env) : List Nat → Env
  | [] => env
  | v :: vs => (wipeE env vs).set v .no
theorem wipeE_len (env : Env) : ∀ vs, (wipeE env vs).length = env.length
  | [] => rfl
  | v :: vs => by unfold wipeE; rw [List.length_set, wipeE_len env vs]
theorem wipeE_at {env : Env} : ∀ (vs : List Nat) (j : Nat), (wipeE env vs)[j]? = if j ∈ vs then (if j < env.length then some .no else none) else env[j]?
  | [], j => by simp [wipeE]
  | v :: vs, j => by
    unfold wipeE
    by_cases h : v = j
    · subst h
      by_cases hl : v < env.length
      · rw [List.getElem?_set_self (by rw [wipeE_len]; exact hl)]
        simp [hl]
      · rw [List.getElem?_eq_none_iff.mpr (by rw [List.length_set, wipeE_len]; omega)]
        simp [hl]
    · rw [List.getElem?_set_ne h, wipeE_at vs j]
      have : j ≠ v := fun e => h e.symm
      simp [this]
section
variable {K : PySem.W.Frag} {S : Nat → Addr} {B : Base} {L : Lk} {G H : Hp} {env : Env} {σ τ : L2.St} {vs : List Nat}
theorem rel_wipes (rl : Rel K S B L G H env σ) : Rel K S B L G H (wipeE env vs) σ := by
  induction vs with
  | nil => exact rl
  | cons v vs ih => exact rel_no ih
/-- slots that agree off vs -/
theorem rel_off (rl : Rel K S B L G H (wipeE env vs) σ) (h : wipe τ vs = wipe σ vs) (hl : τ.length = σ.length) : Rel K S B L G H (wipeE env vs) τ := by
  have key : ∀ j, j ∉ vs → τ[j]? = σ[j]? := fun j hj => by
    have := congrArg (fun l : L2.St => l[j]?) h
    simp only [wipe_at, if_neg hj] at this
    exact this
  have hno : ∀ (j : Nat) (s : Sl), (wipeE env vs)[j]? = some s → isOwn s = true → j ∉ vs := fun j s h1 h2 hj => by
    rw [wipeE_at, if_pos hj] at h1
    split at h1 <;> cases h1
    cases h2
  refine ⟨paired_of (by rw [paired_len rl.at_, hl]) fun j s x h1 h2 => ?_, fun j k s t a hjk h1 h2 o1 o2 h3 h4 => ?_, fun j s a h1 o1 h3 => ?_⟩
  · by_cases hj : j ∈ vs
    · rw [wipeE_at, if_pos hj] at h1
      split at h1 <;> cases h1
      trivial
    · rw [key j hj] at h2
      obtain ⟨y, hy, q⟩ := rel_at rl h1
      rw [h2] at hy
      cases hy
      exact q
  · rw [key j (hno j s h1 o1)] at h3
    rw [key k (hno k t h2 o2)] at h4
    exact rl.nd j k s t a hjk h1 h2 o1 o2 h3 h4
  · rw [key j (hno j s h1 o1)] at h3
    exact rl.nl j s a h1 o1 h3
theorem wipe_wipe : wipe (wipe σ vs) vs = wipe σ vs := by
  refine List.ext_getElem? fun j => ?_
  rw [wipe_at, wipe_at, wipe_length]
  by_cases hj : j ∈ vs
  · rw [if_pos hj, if_pos hj]
  · simp [hj]
/-! a list that grows, apart -/
theorem ste_pin (st : Ste B L G H) {p : Addr} {o : HO} (hp : H p = none) : Ste B ((p, o) :: L) G (upd H p o) := by
  have x := Ex.skip (o := o) st.inn hp
  have s := st.ex x
  refine ⟨s.g0, s.inn, s.new, fun a u e r l => s.keep a u e r fun q hq => l q (List.mem_cons_of_mem _ hq), fun q hq => ?_, fun a e => ?_, fun q hq hf => ?_⟩
  · rcases List.mem_cons.mp hq with rfl | hq
    · exact upd_same
    · exact s.lock q hq
  · obtain ⟨h1, h2, h3, h4⟩ := s.par a e
    refine ⟨h1, h2, h3, fun q hq => ?_⟩
    rcases List.mem_cons.mp hq with rfl | hq
    · intro e'
      have e' : p = a := e'
      subst e'
      exact (st.par p e).2.1 hp
    · exact h4 q hq
  · rcases List.mem_cons.mp hq with rfl | hq
    · exact st.inn.some hp
    · exact s.out q hq hf
theorem ste_unpin {p : Addr} {o : HO} (st : Ste B ((p, o) :: L) G H) (hb : B.H p = none) : Ste B L G H :=
  ⟨st.g0, st.inn, st.new, fun a u e r l => st.keep a u e r fun q hq => by
    rcases List.mem_cons.mp hq with rfl | hq
    · intro e'
      have e' : p = a := e'
      subst e'
      rw [hb] at e
      cases e
    · exact l q hq, fun q hq => st.lock q (List.mem_cons_of_mem _ hq), fun a e => let ⟨h1, h2, h3, h4⟩ := st.par a e; ⟨h1, h2, h3, fun q hq => h4 q (List.mem_cons_of_mem _ hq)⟩, fun q hq hf => st.out q (List.mem_cons_of_mem _ hq) hf⟩
theorem ste_repin {p : Addr} {o u : HO} (st : Ste B ((p, o) :: L) G H) (hb : B.H p = none) (hl : ∀ q ∈ L, q.1 ≠ p) (ho : ∀ o' u', o ≠ .frz o' u') : Ste B ((p, u) :: L) G (upd H p u) := by
  have gp : G p = none := st.out (p, o) (List.mem_cons_self ..) ho
  refine ⟨st.g0, fun a w e => ?_, st.new, fun a w e r l => ?_, fun q hq => ?_, fun a e => ?_, fun q hq hf => ?_⟩
  · have : a ≠ p := fun q => by subst q; rw [gp] at e; cases e
    rw [upd_ne this]
    exact st.inn a w e
  · have hne : a ≠ p := fun q => by subst q; rw [hb] at e; cases e
    rw [upd_ne hne]
    refine st.keep a w e r fun q hq => ?_
    rcases List.mem_cons.mp hq with rfl | hq
    · exact fun q => hne q.symm
    · exact l q (List.mem_cons_of_mem _ hq)
  · rcases List.mem_cons.mp hq with rfl | hq
    · exact upd_same
    · rw [upd_ne (hl q hq)]
      exact st.lock q (List.mem_cons_of_mem _ hq)
  · obtain ⟨h1, h2, h3, h4⟩ := st.par a e
    refine ⟨h1, ?_, h3, fun q hq => ?_⟩
    · have : a ≠ p := fun q => by subst q; exact h3 hb
      rw [upd_ne this]
      exact h2
    · rcases List.mem_cons.mp hq with rfl | hq
      · exact h4 (p, o) (List.mem_cons_self ..)
      · exact h4 q (List.mem_cons_of_mem _ hq)
  · rcases List.mem_cons.mp hq with rfl | hq
    · exact gp
    · exact st.out q (List.mem_cons_of_mem _ hq) hf
theorem rel_pin (rl : Rel K S B L G H env σ) {p : Addr} {o : HO} (i : Inn G H) (hp : H p = none) : Rel K S B ((p, o) :: L) G (upd H p o) env σ := by
  have r := rl.ex (Ex.skip (o := o) i hp)
  refine ⟨r.at_, r.nd, fun j s a h1 o1 h3 q hq => ?_⟩
  rcases List.mem_cons.mp hq with rfl | hq
  · intro e
    have e : p = a := e
    subst e
    exact rl.fresh hp j s h1 o1 h3
  · exact r.nl j s a h1 o1 h3 q hq
theorem rel_unpin {p : Addr} {o : HO} (rl : Rel K S B ((p, o) :: L) G H env σ) : Rel K S B L G H env σ := ⟨rl.at_, rl.nd, fun j s a h1 o1 h3 q hq => rl.nl j s a h1 o1 h3 q (List.mem_cons_of_mem _ hq)⟩
theorem rel_repin {p : Addr} {o u : HO} (rl : Rel K S B ((p, o) :: L) G H env σ) : Rel K S B ((p, u) :: L) G (upd H p u) env σ := by
  have hne : ∀ (j : Nat) (s : Sl) (a : Addr), env[j]? = some s → isOwn s = true → σ[j]? = some (some (V.ref a)) → a ≠ p := fun j s a h1 o1 h3 e => rl.nl j s a h1 o1 h3 (p, o) (List.mem_cons_self ..) e.symm
  refine ⟨paired_of (paired_len rl.at_) fun j s x h1 h2 => ?_, rl.nd, fun j s a h1 o1 h3 q hq => ?_⟩
  · obtain ⟨y, hy, q⟩ := rel_at rl h1
    rw [h2] at hy
    cases hy
    cases s with
    | no => trivial
    | val d => exact q
    | box d =>
      obtain ⟨a, w, rfl, g, b, ha, r⟩ := q
      exact ⟨a, w, rfl, g, b, by rw [upd_ne (hne j _ a h1 rfl h2)]; exact ha, r⟩
    | par d =>
      obtain ⟨a, w, rfl, b, ha, r⟩ := q
      exact ⟨a, w, rfl, b, by rw [upd_ne (hne j _ a h1 rfl h2)]; exact ha, r⟩
  · rcases List.mem_cons.mp hq with rfl | hq
    · exact rl.nl j s a h1 o1 h3 (p, o) (List.mem_cons_self ..)
    · exact rl.nl j s a h1 o1 h3 q (List.mem_cons_of_mem _ hq)
end
def cmpL (eg : Eg) (et : EvT) (ee : Ev) (vs : List Nat) : List D → List D → Env → Res (List D)
  | [], acc, env => .ok acc env
  | x :: xs, acc, env => match eg x (wipeE env vs) with
    | none => .no
    | some e1 => match et e1 with
      | .ok true e2 => match ee e2 with
        | .ok y e3 => if acc.length < 1000000 then cmpL eg et ee vs xs (acc ++ [y]) e3 else .no
        | _ => .no
      | .ok false e2 => cmpL eg et ee vs xs acc e2
      | _ => .no
def xLc (ei : EvI) (eg : Eg) (et : EvT) (ee : Ev) (vs : List Nat) : Ev := fun env => (ei env).bind fun ds e => (cmpL eg et ee vs ds [] e).bind fun acc e' => .ok (.lst acc) (wipeE e' vs)
section
variable {K : PySem.W.Frag} {S : Nat → Addr} {X : Cx} {E : XK} {e iter tg elt : Expr} {ee : Ev} {ei : EvI} {eg : Eg} {g : TG} {gs vs : List Nat} {et : EvT} {pos : Pos}
theorem post_ok {α : Type} {B : Base} {L : Lk} {σ : L2.St} {G : Hp} {P : Hp → Hp → α → Env → Prop} {r : Res α} (h : Post K S E B L σ G P r) {a : α} {e : Env} (he : r = .ok a e) : ∀ G' H', Same G G' → Ste B L G' H' → Rel K S B L G' H' e σ → P G' H' a e := by
  subst he
  exact h
theorem len9 {n : Nat} (h : n < 1000000) : n < sizeLine := by
  have : sizeLine = 16777216 := sizeLine_eq
  omega
def PLc (K : PySem.W.Frag) (S : Nat → Addr) (B : Base) (L : Lk) (σ : L2.St) (Q : VK) : Hp → Hp → D → Env → Prop := fun G' H' d e => ∀ a o, G' a = none → B.H a = none → H' a = some o → (∀ (i : Nat) (s : Sl), e[i]? = some s → isOwn s = true → σ[i]? ≠ some (some (V.ref a))) → (∀ p ∈ L, p.1 ≠ a) → RepO K S G' d o → Q (.ref a) H'
theorem lc_core {tt : TT} {σ : L2.St} {Q : VK} {B : Base} {L : Lk} {G1 H1 : Hp} {e1 : Env} {J : It} {ds : List D} (sg : SndG K S gs eg g) (hv : ∀ i ∈ gs, i ∈ vs) (htt : ∀ σ H Q, TB K S E0 et σ H Q → tt σ H Q) (st1 : Ste B L G1 H1) (rl1 : Rel K S B L G1 H1 e1 σ) (hJ : ItOk K S B L G1 J ds)
    (p1 : Post K S E B L σ G1 (PLc K S B L σ Q) ((cmpL eg et ee vs ds [] e1).bind fun acc e' => .ok (.lst acc) (wipeE e' vs))) :
    ∀ P, H1 P = none → ∃ W : Nat → Nat → Hp → Prop, (∃ m, W 0 m (upd H1 P (.lst []))) ∧ ∀ i m H, W i m H →
      (J.stop i H ∧ Q (.ref P) H) ∨ (J.go i H ∧ ∃ Nx : Hp → Prop, (∀ H', Nx H' → ∃ m', m' < m ∧ W (i + 1) m' H') ∧ ∀ x H', J.yld i H x H' → g x (wipe σ vs) H' fun σ2 H2 => wipe σ2 vs = wipe σ vs ∧ tt σ2 H2 fun b H3 =>
        if b = true then TD K S E0 ee σ2 H3 fun y H4 => ∃ acc, H4 P = some (.lst acc) ∧ acc.length < sizeLine ∧ Nx (upd H4 P (.lst (acc ++ [y]))) else Nx H3) := by
  intro P hP
  have hbP := st1.free hP
  have hlP := st1.nolock hP
  refine ⟨fun i m H' => ∃ G' env' acc ws, Same G1 G' ∧ Ste B ((P, .lst ws) :: L) G' H' ∧ Rel K S B ((P, .lst ws) :: L) G' H' (wipeE env' vs) (wipe σ vs) ∧ RepL K S G' acc ws ∧ m = (ds.drop i).length ∧
    Post K S E B L σ G' (fun G' H' d e => ∀ a o, G' a = none → B.H a = none → H' a = some o → (∀ (i : Nat) (s : Sl), e[i]? = some s → isOwn s = true → σ[i]? ≠ some (some (V.ref a))) → (∀ p ∈ L, p.1 ≠ a) → RepO K S G' d o → Q (.ref a) H') ((cmpL eg et ee vs (ds.drop i) acc env').bind fun acc e' => .ok (.lst acc) (wipeE e' vs)),
    ⟨_, G1, e1, [], [], .refl _, ste_pin st1 hP, ?_, rfl, rfl, p1⟩, ?_⟩
  · exact rel_off (rel_wipes (rel_pin rl1 st1.inn hP)) wipe_wipe (wipe_length _ _)
  rintro i m H' ⟨G', env', acc, ws, sm, st', rl', ra, rfl, po'⟩
  have stU := ste_unpin st' hbP
  obtain ⟨t1, t2⟩ := hJ i G' H' sm stU
  have hlen : acc.length = ws.length := ra.length
  cases hd : ds[i]? with
  | none =>
    have e : ds.drop i = [] := List.drop_eq_nil_iff.mpr (List.getElem?_eq_none_iff.mp hd)
    rw [e] at po'
    have rlE : Rel K S B L G' H' (wipeE env' vs) σ := rel_off (rel_unpin rl') wipe_wipe.symm (wipe_length _ _).symm
    refine .inl ⟨t1 hd, po' G' H' (.refl _) stU rlE P (.lst ws) (st'.out _ (List.mem_cons_self ..) (fun _ _ h => by cases h)) hbP (st'.lock _ (List.mem_cons_self ..)) (fun j s h1 o1 h3 => ?_) hlP ⟨ws, rfl, ra⟩⟩
    have hj : j ∉ vs := fun hj => by
      rw [wipeE_at, if_pos hj] at h1
      split at h1 <;> cases h1
      cases o1
    refine rl'.nl j s P h1 o1 ?_ (P, .lst ws) (List.mem_cons_self ..) rfl
    rw [wipe_at, if_neg hj]
    exact h3
  | some d =>
    obtain ⟨g1, g2⟩ := t2 d hd
    have e := drop_at hd
    rw [e] at po'
    refine .inr ⟨g1, fun H2 => ∃ G2 env2 acc2 ws2, Same G1 G2 ∧ Ste B ((P, .lst ws2) :: L) G2 H2 ∧ Rel K S B ((P, .lst ws2) :: L) G2 H2 (wipeE env2 vs) (wipe σ vs) ∧ RepL K S G2 acc2 ws2 ∧
      Post K S E B L σ G2 (fun G' H' d e => ∀ a o, G' a = none → B.H a = none → H' a = some o → (∀ (i : Nat) (s : Sl), e[i]? = some s → isOwn s = true → σ[i]? ≠ some (some (V.ref a))) → (∀ p ∈ L, p.1 ≠ a) → RepO K S G' d o → Q (.ref a) H') ((cmpL eg et ee vs (ds.drop (i + 1)) acc2 env2).bind fun acc e' => .ok (.lst acc) (wipeE e' vs)),
      fun H2 ⟨G2, env2, acc2, ws2, a1, a2, a3, a4, a5⟩ => ⟨(ds.drop (i + 1)).length, by rw [e, List.length_cons]; omega, G2, env2, acc2, ws2, a1, a2, a3, a4, rfl, a5⟩, fun x H2 hy => ?_⟩
    obtain ⟨G2, ex, rx⟩ := g2 x H2 hy
    have st2 := st'.ex ex
    have rl2 := rl'.ex ex
    have cm : cmpL eg et ee vs (d :: ds.drop (i + 1)) acc env' = match eg d (wipeE env' vs) with
      | none => .no
      | some e1 => match et e1 with
        | .ok true e2 => match ee e2 with
          | .ok y e3 => if acc.length < 1000000 then cmpL eg et ee vs (ds.drop (i + 1)) (acc ++ [y]) e3 else .no
          | _ => .no
        | .ok false e2 => cmpL eg et ee vs (ds.drop (i + 1)) acc e2
        | _ => .no := rfl
    rw [cm] at po'
    cases hg : eg d (wipeE env' vs) with
    | none => rw [hg] at po'; exact po'.elim
    | some e3 =>
      rw [hg] at po'
      dsimp only at po'
      refine sg B _ G2 H2 (wipeE env' vs) e3 (wipe σ vs) d x _ st2 rl2 rx hg fun σ3 rl3 w3 => ⟨(w3 vs hv).trans wipe_wipe, ?_⟩
      have hσ : wipe σ3 vs = wipe σ vs := (w3 vs hv).trans wipe_wipe
      have lσ : σ3.length = σ.length := by
        have := congrArg List.length hσ
        rw [wipe_length, wipe_length] at this
        exact this
      refine htt _ _ _ ⟨B, _, G2, e3, st2, rl3, ?_⟩
      cases ht : et e3 with
      | no => rw [ht] at po'; exact po'.elim
      | ex C fs e4 => rw [ht] at po'; exact po'.elim
      | ok b e4 =>
        rw [ht] at po'
        intro G4 H4 sm4 st4 rl4 c hc
        cases hc
        cases b with
        | false =>
          rw [if_neg (by decide)]
          exact ⟨G4, e4, acc, ws, (sm.trans ex.g).trans sm4, st4, rel_off (rel_wipes rl4) (by rw [wipe_wipe]; exact hσ.symm) (by rw [wipe_length, lσ]), (ra.mono ex.g).mono sm4, po'.up (ex.g.trans sm4)⟩
        | true =>
          rw [if_pos rfl]
          dsimp only at po'
          refine ⟨B, _, G4, e4, st4, rl4, ?_⟩
          cases he : ee e4 with
          | no => rw [he] at po'; exact po'.elim
          | ex C fs e5 => rw [he] at po'; exact po'.elim
          | ok y e5 =>
            rw [he] at po'
            dsimp only at po'
            intro G5 H5 sm5 st5 rl5 v rv
            by_cases hz : acc.length < 1000000
            · rw [if_pos hz] at po'
              have sm15 := ((sm.trans ex.g).trans sm4).trans sm5
              refine ⟨ws, st5.lock _ (List.mem_cons_self ..), len9 (by rw [← hlen]; exact hz), G5, e5, acc ++ [y], ws ++ [v], sm15, ste_repin st5 hbP hlP (fun _ _ h => by cases h), ?_, (((ra.mono ex.g).mono sm4).mono sm5).app (.cons rv .nil), po'.up ((ex.g.trans sm4).trans sm5)⟩
              exact rel_off (rel_wipes (rel_repin rl5)) (by rw [wipe_wipe]; exact hσ.symm) (by rw [wipe_length, lσ])
            · rw [if_neg hz] at po'
              exact po'.elim
theorem sndf_lc {wi : TI} {tt : TT} {σ : L2.St} {H : Hp} {Q : VK} (hwi : ∀ σ H R, TIt K S E ei σ H R → wi σ H R) (sg : SndG K S gs eg g) (hv : ∀ i ∈ gs, i ∈ vs) (htt : ∀ σ H Q, TB K S E0 et σ H Q → tt σ H Q) (q : TF K S E (xLc ei eg et ee vs) σ H Q) : tLc wi g tt (TD K S E0 ee) vs σ H Q := by
  obtain ⟨B, L, G, env, st, rl, po⟩ := q
  refine hwi _ _ _ ⟨B, L, G, env, st, rl, po.then fun G1 H1 ds e1 sm1 st1 rl1 p1 J hJ => lc_core sg hv htt st1 rl1 hJ p1⟩
def xYes : EvT := fun env => .ok true env
theorem yes_ok {σ : L2.St} {H : Hp} {Q : Bool → Hp → Prop} (q : TB K S E xYes σ H Q) : tYes σ H Q := by
  obtain ⟨B, L, G, env, st, rl, po⟩ := q
  exact po G H (.refl _) st rl true rfl
theorem qf_lc {ifs : List Expr} {scope : Scope} {own : List (Str × Nat)} {tt : TT} (hc : X.calm = true) (hN : X.N.Nodup) (hi : QI S X E tg iter ei) (ok : BlkOk X.N X.env.scope scope own) (hvs : own.map (·.2) = vs)
    (hg : ∀ (s : Shared) (H : Hp) (C : Addr) (cl : List (Str × Addr)) (fp : List Addr), PG (X.blk s H scope (compEnvC scope cl C X.env) fp) tg g) (sg : SndG X.K S gs eg g) (hv : ∀ i ∈ gs, i ∈ vs)
    (ht : ∀ (s : Shared) (H : Hp) (C : Addr) (cl : List (Str × Addr)) (fp : List Addr), PTs (X.blk s H scope (compEnvC scope cl C X.env) fp) ifs tt) (htt : ∀ σ H Q, TB X.K S E0 et σ H Q → tt σ H Q)
    (he : ∀ (s : Shared) (H : Hp) (C : Addr) (cl : List (Str × Addr)) (fp : List Addr), QE S (X.blk s H scope (compEnvC scope cl C X.env) fp) E0 elt ee) (hs : ∀ x, foldedSetIterable iter X.env x = pure x := by intro _; rfl) :
    QF S X E (.ListComp elt [⟨tg, iter, ifs, 0⟩] scope pos) (xLc ei eg et ee vs) := by
  subst hvs
  exact pe_of (pe_lc hc hN hi ok hg ht he hs) fun _ _ _ q => sndf_lc (fun _ _ _ h => h) sg hv htt q
/-! x = [..] -/
theorem s_setLc {ifs : List Expr} {scope : Scope} {own : List (Str × Nat)} {tt : TT} {i : Nat} {y : Str} {py spos : Pos} (hc : X.calm = true) (hN : X.N.Nodup) (hy : X.N[i]? = some y) (hyl : X.env.scope.names.lookup y = some .local)
    (hsw : swapsWith (.ListComp elt [⟨tg, iter, ifs, 0⟩] scope pos) (some (.Name y py)) spos.line X.env = pure true) (hi : QI S X E tg iter ei) (ok : BlkOk X.N X.env.scope scope own) (hvs : own.map (·.2) = vs)
    (hg : ∀ (s : Shared) (H : Hp) (C : Addr) (cl : List (Str × Addr)) (fp : List Addr), PG (X.blk s H scope (compEnvC scope cl C X.env) fp) tg g) (sg : SndG X.K S gs eg g) (hv : ∀ i ∈ gs, i ∈ vs)
    (ht : ∀ (s : Shared) (H : Hp) (C : Addr) (cl : List (Str × Addr)) (fp : List Addr), PTs (X.blk s H scope (compEnvC scope cl C X.env) fp) ifs tt) (htt : ∀ σ H Q, TB X.K S E0 et σ H Q → tt σ H Q)
    (he : ∀ (s : Shared) (H : Hp) (C : Addr) (cl : List (Str × Addr)) (fp : List Addr), QE S (X.blk s H scope (compEnvC scope cl C X.env) fp) E0 elt ee) (hs : ∀ x, foldedSetIterable iter X.env x = pure x := by intro _; rfl) :
    QS S X E (.Assign [.Name y py] (.ListComp elt [⟨tg, iter, ifs, 0⟩] scope pos) spos) (xBox i (xLc ei eg et ee vs)) := by
  subst hvs
  refine ps_of (ps_setLc (te := TD X.K S E0 ee) hc hN hy hyl hsw hi ok hg ht he hs) fun D σ H q => ?_
  obtain ⟨B, L, G, env, st, rl, po⟩ := q
  refine sndf_lc (fun _ _ _ h => h) sg hv htt ⟨B, L, G, env, st, rl, Post.st po fun G' H' d e s st' rl' p a o h1 h2 h3 h4 h5 h6 => ?_⟩
  split at p
  · exact p.elim
  · exact p _ G' H' (.refl _) st' (rel_box rl' h1 h2 h3 h4 h5 h6)
  · exact p.elim
end
/-! ### a def's run -/
def parOf : Env → Option D
  | [] => none
  | .par d :: _ => some d
  | _ :: r => parOf r
def start (n : Nat) (as : List Ar) : Env := as.map Ar.sl ++ List.replicate (n - as.length) .no
def runF (fr : Bool) (n : Nat) (b : EvS) : Fn := fun as => match b (start n as) with
  | .nx e => if fr = true then .no else .ok .non (parOf e)
  | .rt d e => if fr = true then .no else .ok d (parOf e)
  | .rf d e => if fr = true then .ok d (parOf e) else .no
  | .ex C fs e => .ex C fs (parOf e)
  | _ => .no
section
variable {K : PySem.W.Frag} {S : Nat → Addr} {X : Cx} {E : XK}
theorem par_ok {B : Base} {G H : Hp} : ∀ {env : Env} {σ : L2.St}, Paired (SlOk K S B G H) env σ → ParOk K S B.r (parOf env) G H
  | [], _, .nil => fun d e => by cases e
  | s :: r, _, .cons q t => by
    cases s with
    | par d =>
      intro d' e
      cases e
      obtain ⟨a, o, _, b, h, r⟩ := q
      exact ⟨a, o, b, h, r⟩
    | no => exact par_ok (env := r) t
    | val d => exact par_ok (env := r) t
    | box d => exact par_ok (env := r) t
theorem start_rel {G H : Hp} {r : Option Addr} {N : List Str} {as : List Ar} {vs : List V} (ok : ArgsOk K S G H r as vs) (hl : as.length ≤ N.length) : Rel K S ⟨G, H, r⟩ [] G H (start N.length as) (L2.start N vs) := by
  have hvs := paired_len ok.at_
  have e1 : L2.start N vs = vs.map some ++ List.replicate (N.length - vs.length) none := rfl
  have own1 : ∀ (l : List Ar) (j k : Nat) (s t : Sl), ownN l ≤ 1 → (l.map Ar.sl)[j]? = some s → (l.map Ar.sl)[k]? = some t → isOwn s = true → isOwn t = true → j = k := by
    intro l
    induction l with
    | nil => intro j k s t _ h; simp at h
    | cons a l ih =>
      intro j k s t h1 h2 h3 o1 o2
      have z : ∀ (l : List Ar) (k : Nat) (t : Sl), ownN l = 0 → (l.map Ar.sl)[k]? = some t → isOwn t = true → False := by
        intro l
        induction l with
        | nil => intro k t _ h; simp at h
        | cons a l ih =>
          intro k t h0 h o
          cases a with
          | par d =>
            have : (List.filter Ar.own (Ar.par d :: l)).length = 0 := h0
            rw [List.filter_cons_of_pos rfl, List.length_cons] at this
            omega
          | val d =>
            cases k with
            | zero => simp at h; subst h; cases o
            | succ k => exact ih k t h0 (by simpa using h) o
      cases a with
      | val d =>
        cases j with
        | zero => simp at h2; subst h2; cases o1
        | succ j =>
          cases k with
          | zero => simp at h3; subst h3; cases o2
          | succ k => rw [ih j k s t h1 (by simpa using h2) (by simpa using h3) o1 o2]
      | par d =>
        have h1' : (List.filter Ar.own (Ar.par d :: l)).length ≤ 1 := h1
        rw [List.filter_cons_of_pos rfl, List.length_cons] at h1'
        have h0 : ownN l = 0 := by unfold ownN; omega
        cases j with
        | zero =>
          cases k with
          | zero => rfl
          | succ k => exact (z l k t h0 (by simpa using h3) o2).elim
        | succ j => exact (z l j s h0 (by simpa using h2) o1).elim
  have at0 : ∀ (j : Nat) (s : Sl), (start N.length as)[j]? = some s → isOwn s = true → (as.map Ar.sl)[j]? = some s := fun j s h o => by
    unfold start at h
    by_cases hj : j < (as.map Ar.sl).length
    · rw [List.getElem?_append_left hj] at h
      exact h
    · rw [List.getElem?_append_right (by omega)] at h
      have := List.mem_of_getElem? h
      rw [(List.mem_replicate.mp this).2] at o
      cases o
  refine ⟨?_, fun j k s t a hjk h1 h2 o1 o2 _ _ => hjk (own1 as j k s t ok.one (at0 j s h1 o1) (at0 k t h2 o2) o1 o2), fun j s a _ _ _ p hp => by cases hp⟩
  refine paired_of (by simp [start, e1]; omega) fun j s x h1 h2 => ?_
  by_cases hj : j < as.length
  · have h1' : (as.map Ar.sl)[j]? = some s := by
      unfold start at h1
      rw [List.getElem?_append_left (by rw [List.length_map]; exact hj)] at h1
      exact h1
    rw [List.getElem?_map] at h1'
    cases ha : as[j]? with
    | none => rw [ha] at h1'; cases h1'
    | some a =>
      rw [ha] at h1'
      cases h1'
      obtain ⟨v, hv, q⟩ := paired_get ok.at_ ha
      rw [e1, List.getElem?_append_left (by rw [List.length_map]; omega), List.getElem?_map, hv] at h2
      cases h2
      cases a with
      | val d => exact ⟨v, rfl, q⟩
      | par d =>
        obtain ⟨p, o, rfl, hr, hp, ro⟩ := q
        exact ⟨p, o, rfl, hr, hp, ro⟩
  · unfold start at h1
    rw [List.getElem?_append_right (by rw [List.length_map]; omega)] at h1
    have := List.mem_of_getElem? h1
    rw [(List.mem_replicate.mp this).2]
    trivial
theorem ste_start {G H : Hp} {r : Option Addr} {as : List Ar} {vs : List V} (i : Inn G H) (ok : ArgsOk K S G H r as vs) : Ste ⟨G, H, r⟩ [] G H :=
  ⟨.refl _, i, fun a h e => (h e).elim, fun a o e _ _ => e, (fun p hp => by cases hp), fun a e => let ⟨h1, h2, _⟩ := ok.par a e; ⟨h1, h2, h2, fun p hp => by cases hp⟩, fun p hp => by cases hp⟩
theorem ste_end {G H G' H' : Hp} {r : Option Addr} (st : Ste ⟨G, H, r⟩ [] G' H') : Fin G H r G' H' := ⟨st.g0, st.inn, st.new, fun a o e hr => st.keep a o e hr fun p hp => by cases hp⟩
theorem bodyD {sts : List Stmt} {f : EvS} {N : List Str} {n : Nat} {fr : Bool} {vs : List V} {H : Hp} {Q : VK} {g : Fn} (b : QSs S X E sts f) (hg : g = runF fr N.length f) (hn : n ≤ N.length) (h : spD X.K S fr n g vs H Q E) :
    ∃ t, PSs X sts t ∧ t { nx := fun x H' => Q V.non H', rt := Q } (L2.start N vs) H := by
  subst hg
  obtain ⟨G, as, r, i, ok, hl, po⟩ := h
  refine ⟨_, b, ⟨G, H, r⟩, [], G, start N.length as, ste_start i ok, start_rel ok (by omega), ?_⟩
  unfold runF at po
  cases hb : f (start N.length as) with
  | nx e =>
    rw [hb] at po
    cases fr with
    | true => exact po.elim
    | false => exact fun σ' G' H' sm st rl => po G' H' (ste_end st) (par_ok rl.at_) .non rfl
  | rt d e =>
    rw [hb] at po
    cases fr with
    | true => exact po.elim
    | false => exact fun σ' G' H' sm st rl v rv => po G' H' (ste_end st) (par_ok rl.at_) v rv
  | rf d e =>
    rw [hb] at po
    cases fr with
    | false => exact po.elim
    | true => exact fun σ' G' H' sm st rl a o h1 h2 h3 h4 => po G' H' (ste_end st) (par_ok rl.at_) a o h2 h1 h3 h4
  | ex C fs e => rw [hb] at po; exact fun σ' od G' H' sm st rl xd => po od G' H' (ste_end st) (par_ok rl.at_) xd
  | bk e => rw [hb] at po; exact po.elim
  | ct e => rw [hb] at po; exact po.elim
  | no => rw [hb] at po; exact po.elim
end
end
end Dv
namespace Dv
open PySem PySem.Spec PyProof.Rows L2
set_option autoImplicit false
noncomputable section
section
variable {K : PySem.W.Frag} {S : Nat → Addr} {X : Cx} {E : XK} {a b e : Expr} {es : List Expr} {ea eb ee : Ev} {er : EvA} {pos p p2 : Pos}
theorem u1 {k : Nat} {A : Around} (h : Room k A) : A.units + 1 < cLine := by
  have := h.un
  omega
theorem u64 {k : Nat} {A : Around} (h : Room k A) : A.units + 64 < cLine := by
  have := h.un
  omega
theorem u65 {k : Nat} {A : Around} (h : Room k A) : A.units + 65 < cLine := by
  have := h.un
  omega
/-! ### ints -/
def oI (f : Int → Int → D) : FO := fun x y => match x, y with
  | .int i, .int j => some (f i j)
  | _, _ => none
theorem so_I {f : Int → Int → D} {f' : Int → Int → V} (h : ∀ i j G, Rep K S G (f i j) (f' i j)) : SOp K S (oI f) (rI0 f') := fun G H x y d v w Q i rx ry e k => by
  cases x <;> first
    | (cases y <;> first
      | (cases e; done)
      | (cases e; cases rx; cases ry; exact ⟨_, _, rfl, rfl, k G H _ (.refl i) (h _ _ G)⟩))
    | (cases y <;> cases e)
def oSub : FO := oI fun i j => .int (i - j)
theorem so_sub : SOp K S oSub (rI0 fun i j => .int (i - j)) := so_I fun _ _ _ => rfl
def oIc (c : Int → Int → Bool) (f : Int → Int → D) : FO := fun x y => match x, y with
  | .int i, .int j => if c i j = true then some (f i j) else none
  | _, _ => none
theorem so_Ic {c : Int → Int → Bool} {C : Int → Int → Prop} {f : Int → Int → D} {f' : Int → Int → V} (hc : ∀ i j, c i j = true → C i j) (h : ∀ i j G, Rep K S G (f i j) (f' i j)) : SOp K S (oIc c f) (rI C f') := fun G H x y d v w Q i rx ry e k => by
  cases x <;> first
    | (cases y <;> first
      | (cases e; done)
      | (rename_i m n
         have e : (if c m n = true then some (f m n) else none) = some d := e
         by_cases q : c m n = true
         · rw [if_pos q] at e
           cases e; cases rx; cases ry
           exact ⟨_, _, rfl, rfl, hc _ _ q, k G H _ (.refl i) (h _ _ G)⟩
         · rw [if_neg q] at e; cases e))
    | (cases y <;> cases e)
def cMul (i j : Int) : Bool := decide (-(2 ^ 64) < i ∧ i < 2 ^ 64) || decide (-(2 ^ 64) < j ∧ j < 2 ^ 64)
def oMul : FO := oIc cMul fun i j => .int (i * j)
theorem so_mul : SOp K S oMul (rI CMul fun i j => .int (i * j)) := so_Ic (fun i j h => by
  rcases Bool.or_eq_true_iff.mp h with h | h
  · exact .inl (of_decide_eq_true h)
  · exact .inr (of_decide_eq_true h)) fun _ _ _ => rfl
def cDivN (i j : Int) : Bool := decide (j ≠ 0 ∧ j.natAbs < 1073741824)
def oFdv : FO := oIc cDivN fun i j => .int (i.fdiv j)
theorem so_fdv : SOp K S oFdv (rI CDivN fun i j => .int (i.fdiv j)) := so_Ic (fun i j h => (of_decide_eq_true h : j ≠ 0 ∧ j.natAbs < 1073741824)) fun _ _ _ => rfl
def oMod : FO := oIc (fun _ j => decide (j ≠ 0)) fun i j => .int (i.fmod j)
theorem so_mod : SOp K S oMod (rI (fun _ j => j ≠ 0) fun i j => .int (i.fmod j)) := so_Ic (fun i j h => of_decide_eq_true h) fun _ _ _ => rfl
def uNeg : FU := fun x => match x with
  | .int i => some (.int (-i))
  | _ => none
theorem su_neg : SUn K S uNeg (rU fun i => .int (-i)) := fun G H x d v Q i rx e k => by
  cases x with
  | int m => cases e; cases rx; exact ⟨_, rfl, k G H _ (.refl i) rfl⟩
  | _ => cases e
/-! + of ints, texts, lists -/
def rAddS : R2 := fun x y H Q => ∃ i j, x = .str i ∧ y = .str j ∧ i.length + j.length ≤ sizeLine ∧ Q (.str (i ++ j)) H
def oAdd : FO := fun x y => match x, y with
  | .int i, .int j => some (.int (i + j))
  | .str a, .str b => if a.length + b.length ≤ 1000000 then some (.str (a ++ b)) else none
  | .lst xs, .lst ys => if xs.length + ys.length ≤ 1000000 then some (.lst (xs ++ ys)) else none
  | _, _ => none
theorem so_add : SOp K S oAdd (r2or (rI0 fun i j => .int (i + j)) (r2or rAddS rCat)) := fun G H x y d v w Q i rx ry e k => by
  cases x with
  | int m =>
    cases y with
    | int n => cases e; cases rx; cases ry; exact .inl ⟨_, _, rfl, rfl, k G H _ (.refl i) rfl⟩
    | _ => cases e
  | str m =>
    cases y with
    | str n =>
      have e : (if m.length + n.length ≤ 1000000 then some (D.str (m ++ n)) else none) = some d := e
      split at e
      · rename_i h
        cases e; cases rx; cases ry
        exact .inr (.inl ⟨_, _, rfl, rfl, line10 h, k G H _ (.refl i) rfl⟩)
      · cases e
    | _ => cases e
  | lst xs =>
    cases y with
    | lst ys =>
      have e : (if xs.length + ys.length ≤ 1000000 then some (D.lst (xs ++ ys)) else none) = some d := e
      split at e
      · rename_i h
        cases e
        obtain ⟨a, vs, rfl, ga, ra⟩ := rx
        obtain ⟨b, ws, rfl, gb, rb⟩ := ry
        refine .inr (.inr ⟨a, b, vs, ws, rfl, rfl, i.lst ga, i.lst gb, line10 (by rw [← ra.length, ← rb.length]; exact h), fun q hq => ?_⟩)
        have x := Ex.new1 (o := .lst (vs ++ ws)) i hq
        exact k _ _ _ x ⟨q, _, rfl, upd_same, (ra.app rb).mono x.g⟩
      · cases e
    | _ => cases e
  | _ => cases e
/-! order -/
def oCmp (f : Int → Int → Bool) (g : Str → Str → Bool) : FO := fun x y => match x, y with
  | .int i, .int j => some (.bl (f i j))
  | .str i, .str j => some (.bl (g i j))
  | _, _ => none
def rS0 (g : Str → Str → Bool) : R2 := fun x y H Q => ∃ i j, x = .str i ∧ y = .str j ∧ Q (.bl (g i j)) H
theorem so_cmp {f : Int → Int → Bool} {g : Str → Str → Bool} : SOp K S (oCmp f g) (r2or (rI0 fun i j => .bl (f i j)) (rS0 g)) := fun G H x y d v w Q i rx ry e k => by
  cases x with
  | int m =>
    cases y with
    | int n => cases e; cases rx; cases ry; exact .inl ⟨_, _, rfl, rfl, k G H _ (.refl i) rfl⟩
    | _ => cases e
  | str m =>
    cases y with
    | str n => cases e; cases rx; cases ry; exact .inr ⟨_, _, rfl, rfl, k G H _ (.refl i) rfl⟩
    | _ => cases e
  | _ => cases e
def ltS (i j : Str) : Bool := decide (i.cps.toList < j.cps.toList)
def oLt : FO := oCmp (fun i j => decide (i < j)) ltS
def oLe : FO := oCmp (fun i j => decide (i ≤ j)) fun i j => !ltS j i
def oGt : FO := oCmp (fun i j => decide (j < i)) fun i j => ltS j i
def oGe : FO := oCmp (fun i j => decide (j ≤ i)) fun i j => !ltS i j
/-! == -/
mutual
def dat : D → Option PyData
  | .non => some .none
  | .bl b => some (.bool b)
  | .int i => some (.int i)
  | .str s => some (.str s)
  | .lst xs => (datL xs).map PyData.list
  | .scr xs => (datL xs).map PyData.list
  | .tup xs => (datL xs).map PyData.tuple
  | _ => none
def datL : List D → Option (List PyData)
  | [] => some []
  | x :: xs => match dat x, datL xs with
    | some a, some r => some (a :: r)
    | _, _ => none
end
mutual
theorem dat_ok {G H : Hp} (i : Inn G H) : ∀ {d : D} {v : V} {a : PyData}, Rep K S G d v → dat d = some a → Dp K H v a
  | .non, _, _, r, e => by cases e; cases r; exact .non
  | .bl _, _, _, r, e => by cases e; cases r; exact .bl _
  | .int _, _, _, r, e => by cases e; cases r; exact .int _
  | .str _, _, _, r, e => by cases e; cases r; exact .str _
  | .lst xs, _, a, ⟨q, vs, e1, g, r⟩, e => by
    have e : (datL xs).map PyData.list = some a := e
    cases h : datL xs with
    | none => rw [h] at e; cases e
    | some ds => rw [h] at e; cases e; subst e1; exact .lst (.inl (.inl (i.lst g))) (datL_ok i r h)
  | .scr xs, _, a, ⟨q, vs, e1, g, r⟩, e => by
    have e : (datL xs).map PyData.list = some a := e
    cases h : datL xs with
    | none => rw [h] at e; cases e
    | some ds => rw [h] at e; cases e; subst e1; exact .lst (i.seq g) (datL_ok i r h)
  | .tup xs, _, a, ⟨q, vs, e1, g, r⟩, e => by
    have e : (datL xs).map PyData.tuple = some a := e
    cases h : datL xs with
    | none => rw [h] at e; cases e
    | some ds => rw [h] at e; cases e; subst e1; exact .tup (i.tup g) (datL_ok i r h)
  | .st _, _, _, _, e => by cases e
  | .ty _, _, _, _, e => by cases e
  | .dct _, _, _, _, e => by cases e
  | .ins _ _, _, _, _, e => by cases e
theorem datL_ok {G H : Hp} (i : Inn G H) : ∀ {ds : List D} {vs : List V} {as : List PyData}, RepL K S G ds vs → datL ds = some as → DpAll K H vs as
  | [], _, _, r, e => by cases e; cases r; exact .nil
  | x :: xs, _, as, ⟨v, ws, e1, q, r⟩, e => by
    have e : (match dat x, datL xs with
      | some a, some r => some (a :: r)
      | _, _ => none) = some as := e
    cases h1 : dat x with
    | none => rw [h1] at e; cases e
    | some a =>
      cases h2 : datL xs with
      | none => rw [h1, h2] at e; cases e
      | some r' => rw [h1, h2] at e; cases e; subst e1; exact .cons (dat_ok i q h1) (datL_ok i r h2)
end
/-- plain values -/
def scalD (x y : D) : Option Bool := match x, y with
  | .non, .non => some true
  | .non, .int _ => some false
  | .int _, .non => some false
  | .non, .str _ => some false
  | .str _, .non => some false
  | .non, .bl _ => some false
  | .bl _, .non => some false
  | .int i, .int j => some (decide (i = j))
  | .bl i, .bl j => some (i == j)
  | .str i, .str j => some (decide (i = j))
  | .str _, .int _ => some false
  | .int _, .str _ => some false
  | .str _, .bl _ => some false
  | .bl _, .str _ => some false
  | _, _ => none
theorem scalD_ok {G : Hp} {x y : D} {v w : V} {c : Bool} (r : Rep K S G x v) (q : Rep K S G y w) (e : scalD x y = some c) : scal v w = true ∧ decide (v = w) = c := by
  cases x <;> cases y <;> first
    | (cases e; done)
    | (cases r; cases q; cases e; exact ⟨rfl, rfl⟩)
    | (cases r; cases q; cases e; refine ⟨rfl, ?_⟩; first | (rw [dec_int, Bool.beq_eq_decide_eq]; done) | (rw [dec_str, Bool.beq_eq_decide_eq]; done) | rw [dec_bl])
def eqD (x y : D) : Option Bool := match scalD x y with
  | some b => some b
  | none => match dat x, dat y with
    | some a, some b => if SeqAt.shaped a = true ∧ SeqAt.shaped b = true then some (PyData.eqv a b) else none
    | _, _ => none
def oEq : FO := fun x y => (eqD x y).map D.bl
def oNe : FO := fun x y => (eqD x y).map fun b => D.bl (!b)
theorem so_eq : SOp K S oEq (r2or rEq (rEqD K)) := fun G H x y d v w Q i rx ry e k => by
  unfold oEq eqD at e
  cases h : scalD x y with
  | some b =>
    rw [h] at e
    cases e
    obtain ⟨h1, h2⟩ := scalD_ok rx ry h
    exact .inl ⟨h1, by rw [h2]; exact k G H _ (.refl i) rfl⟩
  | none =>
    rw [h] at e
    dsimp only at e
    cases h1 : dat x with
    | none => rw [h1] at e; cases e
    | some a =>
      cases h2 : dat y with
      | none => rw [h1, h2] at e; cases e
      | some b =>
        rw [h1, h2] at e
        dsimp only at e
        split at e
        · rename_i hs
          cases e
          exact .inr ⟨a, b, dat_ok i rx h1, dat_ok i ry h2, hs.1, hs.2, k G H _ (.refl i) rfl⟩
        · cases e
theorem so_ne : SOp K S oNe (r2or rNe (rNeD K)) := fun G H x y d v w Q i rx ry e k => by
  unfold oNe eqD at e
  cases h : scalD x y with
  | some b =>
    rw [h] at e
    cases e
    obtain ⟨h1, h2⟩ := scalD_ok rx ry h
    exact .inl ⟨h1, by rw [h2]; exact k G H _ (.refl i) rfl⟩
  | none =>
    rw [h] at e
    dsimp only at e
    cases h1 : dat x with
    | none => rw [h1] at e; cases e
    | some a =>
      cases h2 : dat y with
      | none => rw [h1, h2] at e; cases e
      | some b =>
        rw [h1, h2] at e
        dsimp only at e
        split at e
        · rename_i hs
          cases e
          exact .inr ⟨a, b, dat_ok i rx h1, dat_ok i ry h2, hs.1, hs.2, k G H _ (.refl i) rfl⟩
        · cases e
/-! is None -/
def rIsN0 : R2 := fun x y H Q => y = .non ∧ Q (.bl (decide (x = .non))) H
def rNotN0 : R2 := fun x y H Q => y = .non ∧ Q (.bl (!decide (x = .non))) H
def isNon : D → Bool
  | .non => true
  | _ => false
theorem isNon_ok {G : Hp} {x : D} {v : V} (r : Rep K S G x v) : decide (v = .non) = isNon x := by
  cases x with
  | non => cases r; rfl
  | bl _ => cases r; rfl
  | int _ => cases r; rfl
  | str _ => cases r; rfl
  | st _ => cases r; rfl
  | ty _ => cases r; rfl
  | lst _ => obtain ⟨a, vs, rfl, _⟩ := r; rfl
  | scr _ => obtain ⟨a, vs, rfl, _⟩ := r; rfl
  | tup _ => obtain ⟨a, vs, rfl, _⟩ := r; rfl
  | dct _ => obtain ⟨a, vs, rfl, _⟩ := r; rfl
  | ins _ _ => obtain ⟨a, dx, vs, rfl, _⟩ := r; rfl
def oIs : FO := fun x y => match y with
  | .non => some (.bl (isNon x))
  | _ => none
def oIsnt : FO := fun x y => match y with
  | .non => some (.bl (!isNon x))
  | _ => none
theorem so_is : SOp K S oIs rIsN0 := fun G H x y d v w Q i rx ry e k => by
  cases y with
  | non => cases e; cases ry; exact ⟨rfl, by rw [isNon_ok rx]; exact k G H _ (.refl i) rfl⟩
  | _ => cases e
theorem so_isnt : SOp K S oIsnt rNotN0 := fun G H x y d v w Q i rx ry e k => by
  cases y with
  | non => cases e; cases ry; exact ⟨rfl, by rw [isNon_ok rx]; exact k G H _ (.refl i) rfl⟩
  | _ => cases e
/-! in: lists of plain data; lists and tuples of plain values -/
def flatD : D → Bool
  | .non => true
  | .bl _ => true
  | .int _ => true
  | .str _ => true
  | _ => false
def anyEq (x : D) : List D → Option Bool
  | [] => some false
  | y :: l => match flatD y, scalD y x, anyEq x l with
    | true, some b, some r => some (b || r)
    | _, _, _ => none
theorem flatD_ok {G : Hp} {x : D} {v : V} (r : Rep K S G x v) (h : flatD x = true) : flatV v = true := by
  cases x <;> first
    | (cases h; done)
    | (cases r; rfl)
theorem scal_eqV {G : Hp} {x y : D} {v w : V} {c : Bool} (r : Rep K S G x v) (q : Rep K S G y w) (e : scalD x y = some c) : eqV v w = c := by
  cases x <;> cases y <;> first
    | (cases e; done)
    | (cases r; cases q; cases e; rfl)
    | (cases r; cases q; cases e; show (_ == _) = _; first | rw [Bool.beq_eq_decide_eq] | rfl)
theorem anyEq_ok {G : Hp} {x : D} {v : V} (r : Rep K S G x v) : ∀ {l : List D} {vs : List V} {c : Bool}, RepL K S G l vs → anyEq x l = some c → vs.all flatV = true ∧ inV v vs = c
  | [], _, _, t, e => by cases t; cases e; exact ⟨rfl, rfl⟩
  | y :: l, _, c, ⟨w, ws, e1, q, t⟩, e => by
    subst e1
    have e : (match flatD y, scalD y x, anyEq x l with
      | true, some b, some r => some (b || r)
      | _, _, _ => none) = some c := e
    split at e
    · rename_i b r' h1 h2 h3
      cases e
      obtain ⟨i1, i2⟩ := anyEq_ok r t h3
      refine ⟨by rw [List.all_cons, flatD_ok q h1, i1]; rfl, ?_⟩
      show (eqV w v || inV v ws) = (b || r')
      rw [scal_eqV q r h2, i2]
    · cases e
def oIn (neg : Bool) : FO := fun x y => match seqD y with
  | some l => match flatD x, anyEq x l with
    | true, some b => some (.bl (if neg then !b else b))
    | _, _ => none
  | none => none
theorem so_in (neg : Bool) : SOp K S (oIn neg) (rIn K neg) := fun G H x y d v w Q i rx ry e k => by
  unfold oIn at e
  split at e
  · rename_i l hl
    split at e
    · rename_i b h1 h2
      cases e
      obtain ⟨q, vs, rfl, hq, t⟩ := seq_sq ry hl
      obtain ⟨i1, i2⟩ := anyEq_ok rx t h2
      refine ⟨q, vs, rfl, hq.elim (fun h => .inl (i.seq h)) fun h => .inr (i.tup h), flatD_ok rx h1, i1, ?_⟩
      rw [i2]
      exact k G H _ (.refl i) rfl
    · cases e
  · cases e
def oInD (neg : Bool) : FO := fun x y => match dat x, y with
  | some a, .lst l => match datL l with
    | some ds => if SeqAt.shaped a = true ∧ SeqAt.shaped (.list ds) = true then some (.bl (if neg then !ds.any (fun z => PyData.eqv z a) else ds.any (fun z => PyData.eqv z a))) else none
    | none => none
  | _, _ => none
theorem so_inD : SOp K S (oInD false) (rInD K) := fun G H x y d v w Q i rx ry e k => by
  unfold oInD at e
  split at e
  · rename_i a l h1
    split at e
    · rename_i ds h2
      split at e
      · rename_i hs
        cases e
        have q : Dp K H w (.list ds) := dat_ok i ry (by show (datL l).map PyData.list = _; rw [h2]; rfl)
        exact ⟨a, ds, dat_ok i rx h1, q, hs.1, hs.2, k G H _ (.refl i) rfl⟩
      · cases e
    · cases e
  · cases e
theorem so_notInD : SOp K S (oInD true) (rNotInD K) := fun G H x y d v w Q i rx ry e k => by
  unfold oInD at e
  split at e
  · rename_i a l h1
    split at e
    · rename_i ds h2
      split at e
      · rename_i hs
        cases e
        have q : Dp K H w (.list ds) := dat_ok i ry (by show (datL l).map PyData.list = _; rw [h2]; rfl)
        exact ⟨a, ds, dat_ok i rx h1, q, hs.1, hs.2, k G H _ (.refl i) rfl⟩
      · cases e
    · cases e
  · cases e
/-- try the first -/
def oOr (f g : FO) : FO := fun x y => match f x y with
  | some d => some d
  | none => g x y
theorem so_or {f g : FO} {r r' : R2} (h1 : SOp K S f r) (h2 : SOp K S g r') : SOp K S (oOr f g) (r2or r r') := fun G H x y d v w Q i rx ry e k => by
  unfold oOr at e
  split at e
  · rename_i d' h
    cases e
    exact .inl (h1 G H x y _ v w Q i rx ry h k)
  · exact .inr (h2 G H x y d v w Q i rx ry e k)
/-! subscripts -/
def oIx : FO := fun x y => match y with
  | .int i => match x with
    | .str s => if s.length ≤ 1000000 then (atI s.cps.toList i).map fun c => D.str ⟨#[c]⟩ else none
    | c => match seqD c with
      | some l => atI l i
      | none => none
  | _ => none
theorem atI_rep {G : Hp} {l : List D} {vs : List V} {i : Int} {d : D} (t : RepL K S G l vs) (h : atI l i = some d) : ∃ v, atI vs i = some v ∧ Rep K S G d v := by
  unfold atI at h ⊢
  rw [t.length] at h
  cases hi : ixN vs.length i with
  | none => rw [hi] at h; cases h
  | some j =>
    rw [hi] at h
    exact t.get h
theorem so_ix : SOp K S oIx (rIx K) := fun G H x y d v w Q i rx ry e k => by
  cases y with
  | int j =>
    cases ry
    have key : (match seqD x with
      | some l => atI l j
      | none => none) = some d → rIx K v (.int j) H Q := fun e => by
      split at e
      · rename_i l hl
        obtain ⟨q, vs, rfl, hq, t⟩ := seq_sq rx hl
        obtain ⟨u, hu, ru⟩ := atI_rep t e
        rcases hq with hq | hq
        · exact .inl ⟨q, vs, j, u, rfl, rfl, i.seq hq, hu, k G H u (.refl i) ru⟩
        · exact .inr (.inl ⟨q, vs, j, u, rfl, rfl, i.tup hq, hu, k G H u (.refl i) ru⟩)
      · cases e
    cases x with
    | str s =>
      have e : (if s.length ≤ 1000000 then (atI s.cps.toList j).map fun c => D.str ⟨#[c]⟩ else none) = some d := e
      split at e
      · rename_i h
        cases hc : atI s.cps.toList j with
        | none => rw [hc] at e; cases e
        | some c =>
          rw [hc] at e
          cases e
          cases rx
          exact .inr (.inr ⟨s, j, c, rfl, rfl, line10 h, hc, k G H _ (.refl i) rfl⟩)
      · cases e
    | _ => exact key e
  | _ => cases e
/-! slices -/
abbrev EvO := Env → Res (Option Int)
abbrev TOp (K : PySem.W.Frag) (S : Nat → Addr) (E : XK) (f : EvO) : TO := Tx K S E (fun _ _ d v => d = v) f
abbrev QO (S : Nat → Addr) (X : Cx) (E : XK) (e : Option Expr) (f : EvO) : Prop := PO X e (TOp X.K S E f)
def pNone : EvO := fun env => .ok none env
def pSome (a : Ev) : EvO := fun env => (a env).bind fun d e => match d with
  | .int i => .ok (some i) e
  | _ => .no
theorem po_of {e : Option Expr} {t u : TO} (p : PO X e t) (h : ∀ σ H Q, u σ H Q → t σ H Q) : PO X e u := ⟨fun pins s σ H Q I q => p.run pins s σ H Q I (h σ H Q q)⟩
theorem o_none : QO S X E none pNone := po_of po_none fun σ H Q ⟨B, L, G, env, st, rl, po⟩ => po G H (.refl _) st rl none rfl
theorem o_some (h : QE S X E e ee) : QO S X E (some e) (pSome ee) := po_of (po_some h) fun σ H Q ⟨B, L, G, env, st, rl, po⟩ => ⟨B, L, G, env, st, rl, po.then fun G1 H1 d e1 sm1 st1 rl1 p1 v rv => by
  cases d with
  | int i => exact ⟨i, rv, p1 G1 H1 (.refl _) st1 rl1 _ rfl⟩
  | _ => exact p1.elim⟩
def cutD (xs : List D) (lo hi : Option Int) : List D := (xs.drop (HT.sIx xs.length 0 lo)).take (HT.sIx xs.length xs.length hi - HT.sIx xs.length 0 lo)
theorem cut_rep {G : Hp} {xs : List D} {vs : List V} (t : RepL K S G xs vs) (lo hi : Option Int) : RepL K S G (cutD xs lo hi) (cutV vs lo hi) := by
  unfold cutD cutV
  rw [t.length]
  exact (t.drop _).take _
variable {lo hi : Option Expr} {el eh : EvO}
def xSl (a : Ev) (l h : EvO) : Ev := fun env => (a env).bind fun x e1 => (l e1).bind fun i e2 => (h e2).bind fun j e3 => match x with
  | .str s => if s.length ≤ 1000000 then .ok (.str (cutS s i j)) e3 else .no
  | _ => .no
theorem q_slS (he : QE S X E e ee) (hl : QO S X E lo el) (hh : QO S X E hi eh) : QE S X E (.Subscript e (.Slice lo hi none p2) pos) (xSl ee el eh) := pe_of (pe_slice sl_str he hl hh) fun σ H Q ⟨B, L, G, env, st, rl, po⟩ => ⟨B, L, G, env, st, rl, po.then fun G1 H1 x e1 sm1 st1 rl1 p1 v rv => ⟨B, L, G1, e1, st1, rl1, p1.then fun G2 H2 i e2 sm2 st2 rl2 p2 i' hi => ⟨B, L, G2, e2, st2, rl2, p2.then fun G3 H3 j e3 sm3 st3 rl3 p3 j' hj => by
  cases hi
  cases hj
  cases x with
  | str s =>
    have p3 : Post X.K S E B L σ G3 (fun G' H' d _ => ∀ v, Rep X.K S G' d v → Q v H') (if s.length ≤ 1000000 then Res.ok (D.str (cutS s i j)) e3 else Res.no) := p3
    split at p3
    · rename_i h
      exact ⟨s, rv, line10 h, p3 G3 H3 (.refl _) st3 rl3 _ rfl⟩
    · exact p3.elim
  | _ => exact p3.elim⟩⟩⟩
def xSlL (a : Ev) (l h : EvO) : Ev := fun env => (a env).bind fun x e1 => (l e1).bind fun i e2 => (h e2).bind fun j e3 => match lstD x with
  | some xs => .ok (.lst (cutD xs i j)) e3
  | none => .no
theorem qf_slL (he : QE S X E e ee) (hl : QO S X E lo el) (hh : QO S X E hi eh) : QF S X E (.Subscript e (.Slice lo hi none p2) pos) (xSlL ee el eh) := pe_of (pe_slice sl_list he hl hh) fun σ H Q ⟨B, L, G, env, st, rl, po⟩ => ⟨B, L, G, env, st, rl, po.then fun G1 H1 x e1 sm1 st1 rl1 p1 v rv => ⟨B, L, G1, e1, st1, rl1, p1.then fun G2 H2 i e2 sm2 st2 rl2 p2 i' hi => ⟨B, L, G2, e2, st2, rl2, p2.then fun G3 H3 j e3 sm3 st3 rl3 p3 j' hj => by
  cases hi
  cases hj
  split at p3
  · rename_i xs h
    obtain ⟨q, vs, rfl, hq, t⟩ := lst_sq rv h
    exact ⟨q, vs, rfl, st3.inn.seq (sm3.seq (sm2.seq hq)), fresh_ok st3 rl3 p3 ⟨_, rfl, cut_rep ((t.mono sm2).mono sm3) i j⟩⟩
  · exact p3.elim⟩⟩⟩
/-! ### built-ins -/
def fLen : FC := fun xs => match xs with
  | [.str s] => if s.length ≤ 1000000 then some (.int s.length) else none
  | [x] => match seqD x with
    | some l => some (.int l.length)
    | none => none
  | _ => none
def rLen (K : PySem.W.Frag) : List V → Hp → VK → Prop := fun xs H Q => ∃ x n, xs = [x] ∧ LenV K x H n ∧ Q (.int n) H
theorem sc_len : SCl K S fLen (rLen K) := fun G H xs d vs Q i r e k => by
  have key : ∀ x, xs = [x] → (match seqD x with
      | some l => some (D.int l.length)
      | none => none) = some d → rLen K vs H Q := fun x hx e' => by
    subst hx
    obtain ⟨v, rfl, rx⟩ := r.one
    split at e'
    · rename_i l hl
      cases e'
      obtain ⟨q, us, rfl, hq, t⟩ := seq_sq rx hl
      refine ⟨_, us.length, rfl, hq.elim (fun h => .inl ⟨us, i.seq h, rfl⟩) fun h => .inr ⟨us, i.tup h, rfl⟩, ?_⟩
      exact k G H _ (.refl i) (by rw [← t.length]; rfl)
    · cases e'
  unfold fLen at e
  split at e
  · rename_i s
    split at e
    · rename_i h
      cases e
      obtain ⟨v, rfl, rx⟩ := r.one
      cases rx
      exact ⟨.str s, s.length, rfl, ⟨line10 h, rfl⟩, k G H _ (.refl i) rfl⟩
    · cases e
  · rename_i x _
    exact key x rfl e
  · cases e
def intL : List D → Option (List Int)
  | [] => some []
  | .int i :: r => (intL r).map (i :: ·)
  | _ => none
theorem intL_ok {G : Hp} : ∀ {l : List D} {vs : List V} {ns : List Int}, RepL K S G l vs → intL l = some ns → vs = ns.map V.int
  | [], _, _, t, e => by cases t; cases e; rfl
  | x :: r, _, ns, ⟨v, ws, e1, q, t⟩, e => by
    subst e1
    cases x with
    | int i =>
      have e : (intL r).map (i :: ·) = some ns := e
      cases h : intL r with
      | none => rw [h] at e; cases e
      | some ms =>
        rw [h] at e
        cases e
        cases q
        rw [intL_ok t h]
        rfl
    | _ => cases e
def fSum : FC := fun xs => match xs with
  | [x] => match lstD x with
    | some l => (intL l).map fun ns => .int ns.sum
    | none => none
  | _ => none
theorem sc_sum : SCl K S fSum (rSum K) := fun G H xs d vs Q i r e k => by
  unfold fSum at e
  split at e
  · rename_i x
    obtain ⟨v, rfl, rx⟩ := r.one
    split at e
    · rename_i l hl
      cases h : intL l with
      | none => rw [h] at e; cases e
      | some ns =>
        rw [h] at e
        cases e
        obtain ⟨q, us, rfl, hq, t⟩ := lst_sq rx hl
        rw [intL_ok t h] at hq
        exact ⟨q, ns, rfl, i.seq hq, k G H _ (.refl i) rfl⟩
    · cases e
  · cases e
def blL : List D → Option (List Bool)
  | [] => some []
  | .bl i :: r => (blL r).map (i :: ·)
  | _ => none
theorem blL_ok {G : Hp} : ∀ {l : List D} {vs : List V} {ns : List Bool}, RepL K S G l vs → blL l = some ns → vs = ns.map V.bl
  | [], _, _, t, e => by cases t; cases e; rfl
  | x :: r, _, ns, ⟨v, ws, e1, q, t⟩, e => by
    subst e1
    cases x with
    | bl i =>
      have e : (blL r).map (i :: ·) = some ns := e
      cases h : blL r with
      | none => rw [h] at e; cases e
      | some ms =>
        rw [h] at e
        cases e
        cases q
        rw [blL_ok t h]
        rfl
    | _ => cases e
def fBls (f : List Bool → Bool) : FC := fun xs => match xs with
  | [x] => match lstD x with
    | some l => (blL l).map fun bs => .bl (f bs)
    | none => none
  | _ => none
def fAny : FC := fBls fun l => l.any id
def fAll : FC := fBls fun l => l.all id
theorem sc_bls {f : List Bool → Bool} : SCl K S (fBls f) (fun vs H Q => ∃ (a : Addr) (bs : List Bool), vs = [V.ref a] ∧ SqL K H a (bs.map V.bl) ∧ Q (.bl (f bs)) H) := fun G H xs d vs Q i r e k => by
  unfold fBls at e
  split at e
  · rename_i x
    obtain ⟨v, rfl, rx⟩ := r.one
    split at e
    · rename_i l hl
      cases h : blL l with
      | none => rw [h] at e; cases e
      | some ns =>
        rw [h] at e
        cases e
        obtain ⟨q, us, rfl, hq, t⟩ := lst_sq rx hl
        rw [blL_ok t h] at hq
        exact ⟨q, ns, rfl, i.seq hq, k G H _ (.refl i) rfl⟩
    · cases e
  · cases e
theorem sc_any : SCl K S fAny (rAny K) := sc_bls
theorem sc_all : SCl K S fAll (rAll K) := sc_bls
def fInt : FC := fun xs => match xs with
  | [.int i] => some (.int i)
  | [.bl b] => some (.int (if b = true then 1 else 0))
  | _ => none
def rInt1 : List V → Hp → VK → Prop := fun xs H Q => (∃ i, xs = [.int i] ∧ Q (.int i) H) ∨ ∃ k, xs = [.bl k] ∧ Q (.int (if k then 1 else 0)) H
theorem sc_int : SCl K S fInt rInt1 := fun G H xs d vs Q i r e k => by
  unfold fInt at e
  split at e
  · cases e
    obtain ⟨v, rfl, rx⟩ := r.one
    cases rx
    exact .inl ⟨_, rfl, k G H _ (.refl i) rfl⟩
  · cases e
    obtain ⟨v, rfl, rx⟩ := r.one
    cases rx
    exact .inr ⟨_, rfl, k G H _ (.refl i) rfl⟩
  · cases e
def fAbs : FC := fun xs => match xs with
  | [.int i] => some (.int (if i < 0 then -i else i))
  | _ => none
theorem sc_abs : SCl K S fAbs (fun xs H Q => ∃ i, xs = [.int i] ∧ Q (.int (if i < 0 then -i else i)) H) := fun G H xs d vs Q i r e k => by
  unfold fAbs at e
  split at e
  · cases e
    obtain ⟨v, rfl, rx⟩ := r.one
    cases rx
    exact ⟨_, rfl, k G H _ (.refl i) rfl⟩
  · cases e
def fI2 (f : Int → Int → Int) : FC := fun xs => match xs with
  | [.int i, .int j] => some (.int (f i j))
  | _ => none
def fMax2 : FC := fI2 fun i j => if j > i then j else i
def fMin2 : FC := fI2 fun i j => if j < i then j else i
theorem sc_I2 {f : Int → Int → Int} : SCl K S (fI2 f) (fun xs H Q => ∃ i j, xs = [.int i, .int j] ∧ Q (.int (f i j)) H) := fun G H xs d vs Q i r e k => by
  unfold fI2 at e
  split at e
  · cases e
    obtain ⟨v, w, rfl, rx, ry⟩ := r.two
    cases rx
    cases ry
    exact ⟨_, _, rfl, k G H _ (.refl i) rfl⟩
  · cases e
theorem call_divmodN : CallR X (.builtin "divmod") (fun xs H Q => ∃ i j, xs = [.int i, .int j] ∧ CDivN i j ∧ ∀ p, H p = none → Q (.ref p) (upd H p (.tup [.int (i.fdiv j), .int (i.fmod j)]))) := by
  intro pins s σ H xs us Q I r h
  obtain ⟨i, j, rfl, ⟨h1, h2⟩, q⟩ := h
  obtain ⟨u, w', rfl, ⟨t, rfl⟩, ⟨t', rfl⟩⟩ := vals2 r
  refine divmod_int h1 ?_ (.inl (PyProof.noPylong_small h2))
  have hn : H s.heap.objs.size = none := I.hok.fresh (Nat.le_refl _)
  refine ⟨.ref s.heap.objs.size, _, ?_, rfl, q _ hn⟩
  refine I.laid (fun b o e => Heap.get?_push_of_some _ e) (Nat.le_refl _) ⟨by simp only [List.length_cons, List.length_nil]; rw [sizeLine_eq]; decide, [.int (i.fdiv j) s.toks, .int (i.fmod j) (s.toks + 1)], .cons ⟨_, rfl⟩ (.cons ⟨_, rfl⟩ .nil), ?_⟩
  exact ⟨_, Heap.get?_push_size s.heap rfl, rfl, 0, rfl⟩
def fDivmod : FC := fun xs => match xs with
  | [.int i, .int j] => if cDivN i j = true then some (.tup [.int (i.fdiv j), .int (i.fmod j)]) else none
  | _ => none
theorem sc_divmod : SCl K S fDivmod (fun xs H Q => ∃ i j, xs = [.int i, .int j] ∧ CDivN i j ∧ ∀ p, H p = none → Q (.ref p) (upd H p (.tup [.int (i.fdiv j), .int (i.fmod j)]))) := fun G H xs d vs Q i r e k => by
  unfold fDivmod at e
  split at e
  · rename_i m n
    split at e
    · rename_i hc
      cases e
      obtain ⟨v, w, rfl, rx, ry⟩ := r.two
      cases rx
      cases ry
      refine ⟨_, _, rfl, (of_decide_eq_true hc : _ ≠ _ ∧ _), fun q hq => ?_⟩
      have x := Ex.new1 (o := .tup [.int (Int.fdiv m n), .int (Int.fmod m n)]) i hq
      exact k _ _ _ x ⟨q, _, rfl, .inl (.inl upd_same), .cons rfl (.cons rfl .nil)⟩
    · cases e
  · cases e
/-! new objects of one's own -/
def SClF (K : PySem.W.Frag) (S : Nat → Addr) (f : FC) (r : List V → Hp → VK → Prop) : Prop := ∀ (G H : Hp) (xs : List D) (d : D) (vs : List V) (Q : VK), Inn G H → RepL K S G xs vs → f xs = some d → (∀ p o, H p = none → RepO K S G d o → Q (.ref p) (upd H p o)) → r vs H Q
theorem sndf_cb {f : FC} {r : List V → Hp → VK → Prop} {σ : L2.St} {H : Hp} {Q : VK} (so : SClF K S f r) (q : TF K S E (xCB f er) σ H Q) : tCB r (TAe K S E er) σ H Q := by
  obtain ⟨B, L, G, env, st, rl, po⟩ := q
  refine ⟨B, L, G, env, st, rl, po.then fun G1 H1 xs e1 sm1 st1 rl1 p1 vs rv => ?_⟩
  cases hf : f xs with
  | none => rw [hf] at p1; exact p1.elim
  | some d =>
    rw [hf] at p1
    exact so G1 H1 xs d vs Q st1.inn rv hf fun p o hp ro => fresh_ok st1 rl1 p1 ro p hp
theorem qf_callB {id : String} {x : Str} {p : Pos} {f : FC} {r : List V → Hp → VK → Prop} (hc : CallR X (.builtin id) r) (so : SClF X.K S f r) (hg : Gl X x) (hm : X.mg x = none) (hv : bootBuiltins x = some (.builtin id)) (ha : QA S X E (a :: es) er) (hn : x ≠ "__name__" := by decide) (hdb : (x == ("__debug__" : Str)) = false := by decide)
    (he : starEach (a :: es) X.env = (false, eval a X.env) :: starEach es X.env := by rfl) (hpl : (backTo pos (starEach es X.env)).any (·.1) = false := by rfl) : QF S X E (.Call (.Name x p) (a :: es) [] pos) (xCB f er) := pe_of (pe_callB hc hg hm hv ha hn hdb he hpl) fun _ _ _ q => sndf_cb so q
theorem qf_callTy {T : String} {x : Str} {p : Pos} {f : FC} {r : List V → Hp → VK → Prop} (hc : CallR X (.type T) r) (so : SClF X.K S f r) (hg : Gl X x) (hm : X.mg x = none) (hv : bootBuiltins x = some (.type T)) (ha : QA S X E (a :: es) er) (hn : x ≠ "__name__" := by decide) (hdb : (x == ("__debug__" : Str)) = false := by decide)
    (he : starEach (a :: es) X.env = (false, eval a X.env) :: starEach es X.env := by rfl) (hpl : (backTo pos (starEach es X.env)).any (·.1) = false := by rfl) : QF S X E (.Call (.Name x p) (a :: es) [] pos) (xCB f er) := pe_of (pe_callTy hc hg hm hv ha hn hdb he hpl) fun _ _ _ q => sndf_cb so q
def fList : FC := fun xs => match xs with
  | [x] => (seqD x).map D.lst
  | _ => none
def rListOf (K : PySem.W.Frag) : List V → Hp → VK → Prop := fun xs H Q => ∃ p ys, xs = [.ref p] ∧ (SqL K H p ys ∨ SqT K H p ys) ∧ ∀ l, H l = none → Q (.ref l) (upd H l (.lst ys))
theorem sc_list : SClF K S fList (rListOf K) := fun G H xs d vs Q i r e k => by
  unfold fList at e
  split at e
  · rename_i x
    obtain ⟨v, rfl, rx⟩ := r.one
    cases h : seqD x with
    | none => rw [h] at e; cases e
    | some l =>
      rw [h] at e
      cases e
      obtain ⟨q, us, rfl, hq, t⟩ := seq_sq rx h
      exact ⟨q, us, rfl, hq.elim (fun h => .inl (i.seq h)) (fun h => .inr (i.tup h)), fun p hp => k p _ hp ⟨us, rfl, t⟩⟩
  · cases e
/-- list(x) of a list of one's own at a slot -/
def xListV (i : Nat) : Ev := fun env => match env[i]? with
  | some (.box (.lst xs)) => .ok (.lst xs) env
  | some (.par (.lst xs)) => .ok (.lst xs) env
  | _ => .no
/-! stars in displays -/
def xStar (a : Ev) (r : EvA) : EvA := fun env => (a env).bind fun x e1 => match seqD x with
  | some l => (r e1).bind fun xs e2 => .ok (l ++ xs) e2
  | none => .no
theorem q_star {p : Pos} (he : QE S X E e ee) (hr : QA S X E es er) (hs : starEach (.Starred e p :: es) X.env = (true, eval e X.env) :: starEach es X.env := by rfl) : QA S X E (.Starred e p :: es) (xStar ee er) := pa_of (StX.pa_star he hr hs) fun σ H Q ⟨B, L, G, env, st, rl, po⟩ => ⟨B, L, G, env, st, rl, po.then fun G1 H1 x e1 sm1 st1 rl1 p1 v rv => by
  split at p1
  · rename_i l hl
    obtain ⟨q, us, rfl, hq, t⟩ := seq_sq rv hl
    exact ⟨q, us, rfl, hq.elim (fun h => .inr (st1.inn.seq h)) (fun h => .inl (st1.inn.tup h)), B, L, G1, e1, st1, rl1, p1.then fun G2 H2 xs e2 sm2 st2 rl2 p2 ys rvs => p2 G2 H2 (.refl _) st2 rl2 _ ((t.mono sm2).app rvs)⟩
  · exact p1.elim⟩
end
end
end Dv
namespace Dv
open PySem PySem.Spec PyProof.Rows L2
set_option autoImplicit false
noncomputable section
/-! ### what is one's own, read for a moment -/
def borE (env : Env) : Env := env.map fun s => match s with
  | .box d => .val d
  | .par d => .val d
  | s => s
def scalR : D → Bool
  | .non => true
  | .bl _ => true
  | .int _ => true
  | .str _ => true
  | .st _ => true
  | .ty _ => true
  | _ => false
def xBor (f : Ev) : Ev := fun env => match f (borE env) with
  | .ok d _ => if scalR d = true then .ok d env else .no
  | _ => .no
def xBorT (f : EvT) : EvT := fun env => match f (borE env) with
  | .ok b _ => .ok b env
  | _ => .no
section
variable {K : PySem.W.Frag} {S : Nat → Addr} {X : Cx} {E : XK}
theorem scalR_any {G G' : Hp} {d : D} {v : V} (h : scalR d = true) (r : Rep K S G d v) : Rep K S G' d v := by
  cases d <;> first
    | (cases h; done)
    | exact r
def OwnAt (env : Env) (σ : L2.St) (a : Addr) : Prop := ∃ (i : Nat) (s : Sl), env[i]? = some s ∧ isOwn s = true ∧ σ[i]? = some (some (V.ref a))
open Classical in
def borG (env : Env) (σ : L2.St) (G H : Hp) : Hp := fun a => if OwnAt env σ a then H a else G a
theorem bor_ok {B : Base} {L : Lk} {G H : Hp} {env : Env} {σ : L2.St} (st : Ste B L G H) (rl : Rel K S B L G H env σ) :
    Ste ⟨borG env σ G H, H, none⟩ [] (borG env σ G H) H ∧ Rel K S ⟨borG env σ G H, H, none⟩ [] (borG env σ G H) H (borE env) σ := by
  have sm : Same G (borG env σ G H) := fun a o e => by
    unfold borG
    by_cases h : OwnAt env σ a
    · obtain ⟨i, s, h1, h2, h3⟩ := h
      have := (own_free st rl h1 h2 h3).1
      rw [e] at this
      cases this
    · rw [if_neg h]; exact e
  have own : ∀ (i : Nat) (s : Sl) (a : Addr), env[i]? = some s → isOwn s = true → σ[i]? = some (some (V.ref a)) → borG env σ G H a = H a := fun i s a h1 h2 h3 => by
    unfold borG
    rw [if_pos ⟨i, s, h1, h2, h3⟩]
  refine ⟨⟨.refl _, fun a u e => ?_, fun a h e => (h e).elim, fun a o e _ _ => e, (fun p hp => by cases hp), (fun a e => by cases e), fun p hp => by cases hp⟩, ?_, fun i j s t a _ h1 _ o1 => ?_, fun i s a h1 o1 _ p hp => by cases hp⟩
  · unfold borG at e
    by_cases h : OwnAt env σ a
    · rw [if_pos h] at e; exact .inl e
    · rw [if_neg h] at e; exact st.inn a u e
  · refine paired_of (by unfold borE; rw [List.length_map]; exact paired_len rl.at_) fun i s x h1 h2 => ?_
    unfold borE at h1
    rw [List.getElem?_map] at h1
    cases he : env[i]? with
    | none => rw [he] at h1; cases h1
    | some s' =>
      rw [he] at h1
      cases h1
      obtain ⟨y, hy, q⟩ := rel_at rl he
      rw [h2] at hy
      cases hy
      cases s' with
      | no => trivial
      | val d => obtain ⟨v, e, r⟩ := q; exact ⟨v, e, r.mono sm⟩
      | box d =>
        obtain ⟨a, o, rfl, _, _, ha, r⟩ := q
        have hg := own i _ a he rfl h2
        rw [ha] at hg
        refine ⟨_, rfl, ?_⟩
        cases d with
        | lst xs => obtain ⟨vs, rfl, q⟩ := r; exact ⟨a, vs, rfl, hg, q.mono sm⟩
        | dct xs => obtain ⟨vs, rfl, q⟩ := r; exact ⟨a, vs, rfl, hg, q.mono sm⟩
        | ins C fs => obtain ⟨dx, vs, rfl, q⟩ := r; exact ⟨a, dx, vs, rfl, hg, q.mono sm⟩
        | _ => exact r.elim
      | par d =>
        obtain ⟨a, o, rfl, _, ha, r⟩ := q
        have hg := own i _ a he rfl h2
        rw [ha] at hg
        refine ⟨_, rfl, ?_⟩
        cases d with
        | lst xs => obtain ⟨vs, rfl, q⟩ := r; exact ⟨a, vs, rfl, hg, q.mono sm⟩
        | dct xs => obtain ⟨vs, rfl, q⟩ := r; exact ⟨a, vs, rfl, hg, q.mono sm⟩
        | ins C fs => obtain ⟨dx, vs, rfl, q⟩ := r; exact ⟨a, dx, vs, rfl, hg, q.mono sm⟩
        | _ => exact r.elim
  · unfold borE at h1
    rw [List.getElem?_map] at h1
    cases he : env[i]? with
    | none => rw [he] at h1; cases h1
    | some s' =>
      rw [he] at h1
      cases h1
      cases s' <;> cases o1
theorem bor_end {G0 H H' G' : Hp} (st : Ste ⟨G0, H, none⟩ [] G' H') : Same H H' := fun a o e => st.keep a o e (by intro q; cases q) fun p hp => by cases hp
theorem q_bor {e : Expr} {f : Ev} (h : QE S X E e f) : QE S X E e (xBor f) := pe_of h fun σ H Q ⟨B, L, G, env, st, rl, po⟩ => by
  obtain ⟨s1, r1⟩ := bor_ok st rl
  refine ⟨_, [], _, _, s1, r1, ?_⟩
  unfold xBor at po
  cases hf : f (borE env) with
  | no => rw [hf] at po; exact po.elim
  | ex C fs e' => rw [hf] at po; exact po.elim
  | ok d e' =>
    rw [hf] at po
    dsimp only at po
    split at po
    · rename_i hs
      intro G' H' sm st' rl' v rv
      have x := Ex.same st.inn (bor_end st')
      exact po G H' (.refl _) (st.ex x) (rl.ex x) v (scalR_any hs rv)
    · exact po.elim
theorem q_borT {e : Expr} {f : EvT} (h : QT S X E e f) : QT S X E e (xBorT f) := pt_of h fun σ H Q ⟨B, L, G, env, st, rl, po⟩ => by
  obtain ⟨s1, r1⟩ := bor_ok st rl
  refine ⟨_, [], _, _, s1, r1, ?_⟩
  unfold xBorT at po
  cases hf : f (borE env) with
  | no => rw [hf] at po; exact po.elim
  | ex C fs e' => rw [hf] at po; exact po.elim
  | ok d e' =>
    rw [hf] at po
    intro G' H' sm st' rl' v rv
    have x := Ex.same st.inn (bor_end st')
    exact po G H' (.refl _) (st.ex x) (rl.ex x) v rv
/-! ### methods of what is one's own -/
def cont : Sl → Option D
  | .box d => some d
  | .par d => some d
  | _ => none
def isLst : D → Bool
  | .lst _ => true
  | _ => false
abbrev FM := D → List D → Option (D × D)
def xOwnM (f : FM) (i : Nat) (r : EvA) : Ev := fun env => match env[i]? with
  | some s => match cont s with
    | some (.lst _) => (r env).bind fun xs e => match e[i]? with
      | some t => match cont t with
        | some c => match f c xs with
          | some (d, c') => .ok d (e.set i (putSl t c'))
          | none => .no
        | none => .no
      | none => .no
    | _ => .no
  | none => .no
def SMo (K : PySem.W.Frag) (S : Nat → Addr) (f : FM) (r : V → List V → Hp → VK → Prop) : Prop := ∀ (G H : Hp) (p : Addr) (o : HO) (c : D) (xs : List D) (vs : List V) (d c' : D) (Q : VK), Inn G H → G p = none → H p = some o → RepO K S G c o → RepL K S G xs vs → f c xs = some (d, c') → (∀ o' u, RepO K S G c' o' → Rep K S G d u → Q u (upd H p o')) → r (.ref p) vs H Q
theorem own_cont {B : Base} {L : Lk} {G H : Hp} {env : Env} {σ : L2.St} {i : Nat} {s : Sl} {c : D} (rl : Rel K S B L G H env σ) (h : env[i]? = some s) (hc : cont s = some c) : isOwn s = true ∧ ∃ p o, σ[i]? = some (some (V.ref p)) ∧ H p = some o ∧ RepO K S G c o := by
  obtain ⟨x, hx, q⟩ := rel_at rl h
  cases s with
  | box d => cases hc; obtain ⟨p, o, rfl, _, _, hp, r⟩ := q; exact ⟨rfl, p, o, hx, hp, r⟩
  | par d => cases hc; obtain ⟨p, o, rfl, _, hp, r⟩ := q; exact ⟨rfl, p, o, hx, hp, r⟩
  | _ => cases hc
variable {o e : Expr} {es : List Expr} {name : Str} {apos cpos : Pos} {id : String} {r : V → List V → Hp → VK → Prop} {f : FM} {er : EvA} {i : Nat}
theorem snd_own {σ : L2.St} {H : Hp} {Q : VK} (so : SMo K S f r) (q : TD K S E (xOwnM f i er) σ H Q) : tBM K "list" r (tVar i) (TAe K S E er) σ H Q := by
  obtain ⟨B, L, G, env, st, rl, po⟩ := q
  unfold xOwnM at po
  split at po
  · rename_i s hs
    split at po
    · rename_i ys hc
      obtain ⟨ho, p, ob, hx, hp, vs, rfl, ro⟩ := own_cont rl hs hc
      refine ⟨.ref p, hx, .inl ⟨rfl, _, SqL.of hp⟩, B, L, G, env, st, rl, po.then fun G1 H1 xs e1 sm1 st1 rl1 p1 us rv => ?_⟩
      split at p1
      · rename_i t ht
        split at p1
        · rename_i c hc1
          split at p1
          · rename_i d c' hf
            obtain ⟨ho1, p', o1, hx1, hp1, ro1⟩ := own_cont rl1 ht hc1
            rw [hx] at hx1
            cases hx1
            refine so G1 H1 p o1 c xs us d c' Q st1.inn (own_free st1 rl1 ht ho1 hx).1 hp1 ro1 rv hf fun o' u h1 h2 => ?_
            obtain ⟨s1, s2⟩ := own_set st1 rl1 ht ho1 hx h1
            exact p1 G1 _ (.refl _) s1 s2 u h2
          · exact p1.elim
        · exact p1.elim
      · exact p1.elim
    · exact po.elim
  · exact po.elim
theorem q_own (pa : PlainAttrs "list") (slot : Slot "list" name id) (hty : typeOf (.builtin id) = pure (.type "method_descriptor")) (hm : MtR X id r) (so : SMo X.K S f r) (ho : PE X o (tVar i)) (ha : QA S X E (e :: es) er)
    (hbase : attributeBase o name X.env (eval o X.env) = eval o X.env := by rfl)
    (hfew : ((backTo cpos (starEach (e :: es) X.env)).all (fun x => !x.1) && (backToKw cpos (keywordEach [] X.env)).all (fun x => x.1.isSome)
      && decide ((e :: es).length + ([] : List Keyword).length + (if ([] : List Keyword).isEmpty then 0 else 1) < 30)) = true := by rfl)
    (hline : (apos.endLine == cpos.line) = true := by rfl) (hs : starEach (e :: es) X.env = (false, eval e X.env) :: starEach es X.env := by rfl) (hplain : (backTo cpos (starEach es X.env)).any (·.1) = false := by rfl) :
    QE S X E (.Call (.Attribute o name apos) (e :: es) [] cpos) (xOwnM f i er) := pe_of (pe_bm pa slot hty hm ho ha hbase hfew hline hs hplain) fun _ _ _ q => snd_own so q
def mApp : FM := fun c xs => match c, xs with
  | .lst l, [x] => if l.length < 1000000 then some (.non, .lst (l ++ [x])) else none
  | _, _ => none
theorem sm_app : SMo K S mApp rAppend := fun G H p o c xs vs d c' Q i gp hp ro rx hf k => by
  unfold mApp at hf
  split at hf
  · rename_i l x
    split at hf
    · rename_i hl
      cases hf
      obtain ⟨ws, rfl, t⟩ := ro
      obtain ⟨v, rfl, rv⟩ := rx.one
      exact ⟨p, ws, v, rfl, rfl, hp, len9 (by rw [← t.length]; exact hl), k _ _ ⟨_, rfl, t.app (.cons rv .nil)⟩ rfl⟩
    · cases hf
  · cases hf
def mExt : FM := fun c xs => match c, xs with
  | .lst l, [.lst z] => if l.length + z.length ≤ 1000000 then some (.non, .lst (l ++ z)) else none
  | _, _ => none
theorem sm_ext : SMo K S mExt rExtend := fun G H p o c xs vs d c' Q i gp hp ro rx hf k => by
  unfold mExt at hf
  split at hf
  · rename_i l z
    split at hf
    · rename_i hl
      cases hf
      obtain ⟨ws, rfl, t⟩ := ro
      obtain ⟨v, rfl, b, zs, rfl, gb, tz⟩ := rx.one
      exact ⟨p, b, ws, zs, rfl, rfl, hp, i.lst gb, line10 (by rw [← t.length, ← tz.length]; exact hl), k _ _ ⟨_, rfl, t.app tz⟩ rfl⟩
    · cases hf
  · cases hf
theorem RepL.erase {G : Hp} : ∀ {xs : List D} {vs : List V} (n : Nat), RepL K S G xs vs → RepL K S G (xs.eraseIdx n) (vs.eraseIdx n)
  | [], _, _, r => by cases r; rfl
  | x :: xs, _, 0, ⟨v, ws, e, q, r⟩ => by subst e; exact r
  | x :: xs, _, n + 1, ⟨v, ws, e, q, r⟩ => by subst e; exact ⟨v, _, rfl, q, r.erase n⟩
/-- x.pop(k), k from the beginning -/
def mPopAt : FM := fun c xs => match c, xs with
  | .lst l, [.int (.ofNat j)] => if j < 1000000 then match l[j]? with
    | some x => some (x, .lst (l.eraseIdx j))
    | none => none else none
  | _, _ => none
theorem sm_popAt : SMo K S mPopAt rPopAt := fun G H p o c xs vs d c' Q i gp hp ro rx hf k => by
  unfold mPopAt at hf
  split at hf
  · rename_i l j
    split at hf
    · rename_i hj
      split at hf
      · rename_i x hx
        cases hf
        obtain ⟨ws, rfl, t⟩ := ro
        obtain ⟨v, rfl, rv⟩ := rx.one
        cases rv
        obtain ⟨y, hy, ry⟩ := t.get hx
        have hl := (List.getElem?_eq_some_iff.mp hy).1
        refine ⟨p, ws, (j : Int), j, y, rfl, rfl, hp, by omega, by omega, ?_, hy, k _ _ ⟨_, rfl, t.erase j⟩ ry⟩
        exact (ixN_seq (show ixN ws.length (j : Int) = some j by unfold ixN; rw [if_pos (Int.natCast_nonneg j), if_pos (by omega)]; rfl)).1
      · cases hf
    · cases hf
  · cases hf
/-! x[k] = v, x a list of one's own -/
def xSetIx (i : Nat) (ek ev : Ev) : EvS := fun env => (ev env).st fun v e1 => match e1[i]? with
  | some t0 => if isOwn t0 = true then (ek e1).st fun y e2 => match e2[i]?, y with
    | some t, .int j => match cont t with
      | some (.lst l) => match ixN l.length j with
        | some n => .nx (e2.set i (putSl t (.lst (l.set n v))))
        | none => .no
      | _ => .no
    | _, _ => .no else .no
  | none => .no
theorem RepL.set {G : Hp} {d : D} {v : V} (q : Rep K S G d v) : ∀ {xs : List D} {vs : List V} (n : Nat), RepL K S G xs vs → RepL K S G (xs.set n d) (vs.set n v)
  | [], _, _, r => by cases r; rfl
  | x :: xs, _, 0, ⟨w, ws, e, _, r⟩ => by subst e; exact ⟨v, ws, rfl, q, r⟩
  | x :: xs, _, n + 1, ⟨w, ws, e, q', r⟩ => by subst e; exact ⟨w, _, rfl, q', r.set q n⟩
theorem s_setIx {ix value : Expr} {ek ev : Ev} {pos pos' : Pos} (ho : PE X o (tVar i)) (hi : QE S X E ix ek) (hv : QE S X E value ev) (hc : PG X (.Subscript o ix pos') (gSub (tVar i) (TD X.K S E ek) rSetL)) (hs : swapsWithSole [.Subscript o ix pos'] value pos.line X.env = pure false := by rfl) (hw : swappedStores [.Subscript o ix pos'] value X.env = pure none := by rfl)
    (h1 : (assignEach [.Subscript o ix pos'] X.env).map (·.2) = [assign (.Subscript o ix pos') X.env] := by rfl) : QS S X E (.Assign [.Subscript o ix pos'] value pos) (xSetIx i ek ev) := ps_of (ps_asg hv hc hs hw h1) fun D σ H ⟨B, L, G, env, st, rl, po⟩ => ⟨B, L, G, env, st, rl, Post.st po fun G1 H1 d e1 sm1 st1 rl1 p1 v rv => by
  split at p1
  · rename_i t0 ht0
    split at p1
    · rename_i ho0
      obtain ⟨p, hx⟩ := own_at rl1 ht0 ho0
      exact ⟨.ref p, hx, B, L, G1, e1, st1, rl1, Post.st p1 fun G2 H2 y e2 sm2 st2 rl2 p2 k rk => by
        split at p2
        · rename_i t j ht
          split at p2
          · rename_i l hc
            split at p2
            · rename_i n hn
              obtain ⟨ho, p', o', hx', hp, ws, rfl, t'⟩ := own_cont rl2 ht hc
              rw [hx] at hx'
              cases hx'
              cases rk
              obtain ⟨s1, s2⟩ := own_set (d := .lst (l.set n d)) st2 rl2 ht ho hx ⟨_, rfl, t'.set (rv.mono sm2) n⟩
              exact ⟨p, ws, j, n, rfl, rfl, hp, by rw [← t'.length]; exact hn, p2 σ G2 _ (.refl _) s1 s2⟩
            · exact p2.elim
          · exact p2.elim
        · exact p2.elim⟩
    · exact p1.elim
  · exact p1.elim⟩
end
end
end Dv
namespace Dv
open PySem PySem.Spec PyProof.Rows L2
set_option autoImplicit false
noncomputable section
/-! ### isinstance -/
def tyName : D → Option String
  | .non => some "NoneType"
  | .bl _ => some "bool"
  | .int _ => some "int"
  | .str _ => some "str"
  | .lst _ => some "list"
  | .scr _ => some "list"
  | .dct _ => some "dict"
  | _ => none
/-- of built-in types -/
def tyIs (t n : String) : Option Bool := match t, n with
  | "NoneType", "list" => some false
  | "bool", "list" => some false
  | "int", "list" => some false
  | "str", "list" => some false
  | "list", "list" => some true
  | "dict", "list" => some false
  | "NoneType", "int" => some false
  | "bool", "int" => some true
  | "int", "int" => some true
  | "str", "int" => some false
  | "list", "int" => some false
  | "dict", "int" => some false
  | "NoneType", "str" => some false
  | "bool", "str" => some false
  | "int", "str" => some false
  | "str", "str" => some true
  | "list", "str" => some false
  | "dict", "str" => some false
  | "NoneType", "bool" => some false
  | "bool", "bool" => some true
  | "int", "bool" => some false
  | "str", "bool" => some false
  | "list", "bool" => some false
  | "dict", "bool" => some false
  | _, _ => none
theorem tyIs_ok {t n : String} {b : Bool} (h : tyIs t n = some b) : kitB t n = some b := by
  unfold tyIs at h
  split at h <;> first
    | (cases h; decide +kernel)
    | cases h
section
variable {K : PySem.W.Frag} {S : Nat → Addr}
theorem tyX_of {G H : Hp} (i : Inn G H) {x : D} {v : V} {t : String} (r : Rep K S G x v) (h : tyName x = some t) : TyX K H v (.type t) := by
  cases x with
  | non => cases h; cases r; exact .base .non
  | bl _ => cases h; cases r; exact .base (.bl _)
  | int _ => cases h; cases r; exact .base (.int _)
  | str _ => cases h; cases r; exact .base (.str _)
  | lst _ => cases h; obtain ⟨a, vs, rfl, g, _⟩ := r; exact .base (.lst (i.lst g))
  | scr _ =>
    cases h
    obtain ⟨a, vs, rfl, g, _⟩ := r
    rcases i.seq g with (q | ⟨o, q⟩) | ⟨o, its, n, q, c, _⟩
    · exact .base (.lst q)
    · exact .base (.frz q)
    · exact .kList q c
  | dct _ =>
    cases h
    obtain ⟨a, vs, rfl, g, _⟩ := r
    rcases i.dct (.inl g) with q | ⟨o, q⟩
    · exact .base (.dK q)
    · exact .fDict q
  | _ => cases h
/-- oo: own class, own class; ob: own class, built-in type; bo: built-in type, own class -/
structure IsOk (K : PySem.W.Frag) (S : Nat → Addr) (oo : Nat → Nat → Option Bool) (ob : Nat → String → Option Bool) (bo : String → Nat → Option Bool) : Prop where
  ti : ∀ C k b, oo C k = some b → (∀ (H : Hp) (a dx : Addr) (fs : List (Str × V)), H a = some (.ins (S C) dx fs) → TyX K H (.ref a) (.ref (S C))) ∧ PySem.W.kitOne K (.ref (S C)) (.ref (S k)) = some b
  tb : ∀ C n b, ob C n = some b → (∀ (H : Hp) (a dx : Addr) (fs : List (Str × V)), H a = some (.ins (S C) dx fs) → TyX K H (.ref a) (.ref (S C))) ∧ PySem.W.kitOne K (.ref (S C)) (.type n) = some b
  bt : ∀ t k b, bo t k = some b → PySem.W.kitOne K (.type t) (.ref (S k)) = some b
def fIs (oo : Nat → Nat → Option Bool) (ob : Nat → String → Option Bool) (bo : String → Nat → Option Bool) : FC := fun xs => match xs with
  | [.ins C _, .st k] => (oo C k).map D.bl
  | [.ins C _, .ty n] => (ob C n).map D.bl
  | [x, .ty n] => match tyName x with
    | some t => (tyIs t n).map D.bl
    | none => none
  | [x, .st k] => match tyName x with
    | some t => (bo t k).map D.bl
    | none => none
  | _ => none
theorem sc_is {oo : Nat → Nat → Option Bool} {ob : Nat → String → Option Bool} {bo : String → Nat → Option Bool} (T : IsOk K S oo ob bo) : SCl K S (fIs oo ob bo) (rIsi K) := fun G H xs d vs Q i r e k => by
  unfold fIs at e
  split at e
  · rename_i C fs m
    obtain ⟨v, w, rfl, rx, ry⟩ := r.two
    cases h : oo C m with
    | none => rw [h] at e; cases e
    | some b =>
      rw [h] at e
      cases e
      cases ry
      obtain ⟨a, dx, ws, rfl, g, _⟩ := rx
      obtain ⟨t1, t2⟩ := T.ti C m b h
      exact ⟨_, _, _, _, b, rfl, .own _, t1 H a dx ws (i.ins g), t2, k G H _ (.refl i) rfl⟩
  · rename_i C fs n
    obtain ⟨v, w, rfl, rx, ry⟩ := r.two
    cases h : ob C n with
    | none => rw [h] at e; cases e
    | some b =>
      rw [h] at e
      cases e
      cases ry
      obtain ⟨a, dx, ws, rfl, g, _⟩ := rx
      obtain ⟨t1, t2⟩ := T.tb C n b h
      exact ⟨_, _, _, _, b, rfl, .ty _, t1 H a dx ws (i.ins g), t2, k G H _ (.refl i) rfl⟩
  · rename_i x n _
    obtain ⟨v, w, rfl, rx, ry⟩ := r.two
    split at e
    · rename_i t ht
      cases h : tyIs t n with
      | none => rw [h] at e; cases e
      | some b =>
        rw [h] at e
        cases e
        cases ry
        exact ⟨_, _, _, _, b, rfl, .ty _, tyX_of i rx ht, L2.kit_ty (tyIs_ok h), k G H _ (.refl i) rfl⟩
    · cases e
  · rename_i x m _
    obtain ⟨v, w, rfl, rx, ry⟩ := r.two
    split at e
    · rename_i t ht
      cases h : bo t m with
      | none => rw [h] at e; cases e
      | some b =>
        rw [h] at e
        cases e
        cases ry
        exact ⟨_, _, _, _, b, rfl, .own _, tyX_of i rx ht, T.bt t m b h, k G H _ (.refl i) rfl⟩
    · cases e
  · cases e
theorem is_none : IsOk K S (fun _ _ => none) (fun _ _ => none) (fun _ _ => none) := ⟨fun _ _ _ e => (by cases e), fun _ _ _ e => (by cases e), fun _ _ _ e => (by cases e)⟩
/-! x, y = a, b -/
def xPar (i j : Nat) (r : EvA) : EvS := fun env => (r env).st fun ds e => match ds with
  | [d1, d2] => match setE e i d1 with
    | some e1 => match setE e1 j d2 with
      | some e2 => .nx e2
      | none => .no
    | none => .no
  | _ => .no
theorem s_par {X : Cx} {E : XK} {i j : Nat} {x y : Str} {a b : Expr} {er : EvA} {px py pt pos : Pos} {kt k2 pt2} (hp : PS X (.Assign [.Tuple [.Name x px, .Name y py] kt pt] (.Tuple [a, b] k2 pt2) pos) (tPar i j (TAe X.K S E er))) :
    QS S X E (.Assign [.Tuple [.Name x px, .Name y py] kt pt] (.Tuple [a, b] k2 pt2) pos) (xPar i j er) := ps_of hp fun D σ H ⟨B, L, G, env, st, rl, po⟩ => ⟨B, L, G, env, st, rl, Post.st po fun G1 H1 ds e1 sm1 st1 rl1 p1 vs rv => by
  split at p1
  · rename_i d1 d2
    obtain ⟨v, w, rfl, rx, ry⟩ := rv.two
    split at p1
    · rename_i e2 h1
      split at p1
      · rename_i e3 h2
        exact ⟨v, w, rfl, p1 _ G1 H1 (.refl _) st1 (rel_set (rel_set rl1 h1 rx) h2 ry)⟩
      · exact p1.elim
    · exact p1.elim
  · exact p1.elim⟩
theorem kit_ty {K : PySem.W.Frag} {C : Addr} {T : String} {r : Bool} (h1 : PySem.W.isClsIn K C = true) (h2 : PySem.W.typeIn K (.ref C) = some (.type "type")) (h3 : PySem.W.subIn K (.type T) (.ref C) = some r) :
    PySem.W.kitOne K (.type T) (.ref C) = some r := by
  have a1 : ((PySem.W.clsIn K C).isSome && PySem.W.typeIn K (.ref C) == some (.type "type")) = true := by
    rw [h2, show (PySem.W.clsIn K C).isSome = true from h1] <;> rfl
  have a2 : PySem.W.kitCls K (.type T) (.ref C) = some r := Eq.trans (if_pos a1) h3
  exact Eq.trans (if_neg (by simp)) a2
theorem kit_typ {K : PySem.W.Frag} {C : Addr} {n : String} {r : Bool} (hn : PySem.W.kitMeta n = true) (h : PySem.W.subIn K (.ref C) (.type n) = some r) : PySem.W.kitOne K (.ref C) (.type n) = some r := by
  have a : PySem.W.kitCls K (.ref C) (.type n) = some r := by
    show (if PySem.W.kitMeta n = true then PySem.W.subIn K (.ref C) (.type n) else none) = some r
    rw [if_pos hn]
    exact h
  exact Eq.trans (if_neg (by simp)) a
/-! l.index(x) -/
theorem q_cons1 {X : Cx} {E : XK} {a : Expr} {ea : Ev} (ha : QE S X E a ea) (hs : starEach [a] X.env = (false, eval a X.env) :: starEach [] X.env := by rfl) : QA S X E [a] (fun env => (ea env).bind fun x e => .ok [x] e) := pa_of (pa_cons ha pa_nil hs) fun σ H Q ⟨B, L, G, env, st, rl, po⟩ => ⟨B, L, G, env, st, rl, po.then fun G1 H1 x e1 sm1 st1 rl1 p1 v rv => p1 G1 H1 (.refl _) st1 rl1 _ (RepL.cons rv rfl)⟩
def idxD (a : PyData) : List PyData → Option Nat
  | [] => none
  | d :: r => if PyData.eqv d a = true then some 0 else (idxD a r).map (· + 1)
theorem idxD_ok {a : PyData} : ∀ {ds : List PyData} {j : Nat}, idxD a ds = some j → ∃ z, ds[j]? = some z ∧ PyData.eqv z a = true ∧ ∀ (m : Nat) (z' : PyData), m < j → ds[m]? = some z' → PyData.eqv z' a = false
  | [], _, e => by cases e
  | d :: r, j, e => by
    have e : (if PyData.eqv d a = true then some 0 else (idxD a r).map (· + 1)) = some j := e
    by_cases h : PyData.eqv d a = true
    · rw [if_pos h] at e; cases e
      exact ⟨d, rfl, h, fun m z' hm => absurd hm (Nat.not_lt_zero _)⟩
    · rw [if_neg h] at e
      cases hr : idxD a r with
      | none => rw [hr] at e; cases e
      | some k =>
        rw [hr] at e
        cases e
        obtain ⟨z, h1, h2, h3⟩ := idxD_ok hr
        refine ⟨z, by simpa using h1, h2, fun m z' hm hz => ?_⟩
        cases m with
        | zero => simp at hz; subst hz; exact Bool.eq_false_iff.mpr h
        | succ m => exact h3 m z' (Nat.lt_of_succ_lt_succ (show m + 1 < k + 1 from hm)) (by simpa using hz)
def xIndex (o a : Ev) : Ev := fun env => (o env).bind fun x e1 => match x with
  | .lst l => (a e1).bind fun y e2 => match datL l, dat y with
    | some ds, some d => if SeqAt.shaped (.list ds) = true ∧ SeqAt.shaped d = true then match idxD d ds with
      | some j => .ok (.int (j : Int)) e2
      | none => .no else .no
    | _, _ => .no
  | _ => .no
theorem q_index {X : Cx} {E : XK} {o e : Expr} {eo ee : Ev} {apos cpos : Pos} (hu : X.A.units + 65 < cLine) (ho : QE S X E o eo) (he : QE S X E e ee)
    (hbase : attributeBase o "index" X.env (eval o X.env) = eval o X.env := by rfl)
    (hfew : ((backTo cpos (starEach [e] X.env)).all (fun x => !x.1) && (backToKw cpos (keywordEach [] X.env)).all (fun x => x.1.isSome)
      && decide ([e].length + ([] : List Keyword).length + (if ([] : List Keyword).isEmpty then 0 else 1) < 30)) = true := by rfl)
    (hline : (apos.endLine == cpos.line) = true := by rfl) (hs : starEach [e] X.env = (false, eval e X.env) :: starEach [] X.env := by rfl) (hplain : (backTo cpos (starEach [] X.env)).any (·.1) = false := by rfl) :
    QE S X E (.Call (.Attribute o "index" apos) [e] [] cpos) (xIndex eo ee) := pe_of (pe_bm PySem.F.plainAttrs_list PySem.F.slot_list_index PySem.F.type_list_index (mt_indexD hu) ho (q_cons1 he hs) hbase hfew hline hs hplain) fun σ H Q ⟨B, L, G, env, st, rl, po⟩ => ⟨B, L, G, env, st, rl, po.then fun G1 H1 x e1 sm1 st1 rl1 p1 v rv => by
  cases x with
  | lst l =>
    obtain ⟨q, vs, rfl, gq, t⟩ := rv
    refine ⟨.inl ⟨rfl, vs, .inl (.inl (st1.inn.lst gq))⟩, B, L, G1, e1, st1, rl1, ?_⟩
    cases hy : ee e1 with
    | no => rw [hy] at p1; exact p1.elim
    | ex C fs e2 => rw [hy] at p1; show Post X.K S E B L σ G1 _ ((ee e1).bind _); rw [hy]; exact p1
    | ok y e2 =>
      rw [hy] at p1
      show Post X.K S E B L σ G1 _ ((ee e1).bind _)
      rw [hy]
      intro G2 H2 sm2 st2 rl2 us rus
      obtain ⟨u, rfl, ru⟩ := rus.one
      dsimp only [Res.bind] at p1
      split at p1
      · rename_i ds d h1 h2
        split at p1
        · rename_i hs
          split at p1
          · rename_i j hj
            obtain ⟨z, k1, k2, k3⟩ := idxD_ok hj
            have hl : Dp X.K H2 (.ref q) (.list ds) := dat_ok st2.inn (d := .lst l) ⟨q, vs, rfl, sm2 _ _ gq, t.mono sm2⟩ (by show (datL l).map PyData.list = _; rw [h1]; rfl)
            exact ⟨q, u, d, ds, j, z, rfl, rfl, hl, dat_ok st2.inn ru h2, hs.1, hs.2, k1, k2, k3, p1 G2 H2 sm2 st2 rl2 _ rfl⟩
          · exact p1.elim
        · exact p1.elim
      · exact p1.elim
  | _ => exact p1.elim⟩
/-! ### tables -/
theorem fo_nil {f : Str} : FldOk K S f [] := fun C h => by cases h
theorem fo_cons {f : Str} {C : Nat} {cs : List Nat} (h : Cls K (S C) ∧ NoAttr K (S C) f) (t : FldOk K S f cs) : FldOk K S f (C :: cs) := fun D hD => by
  rcases List.mem_cons.mp hD with rfl | hD
  · exact h
  · exact t D hD
theorem mt_nil {P : Nat → Nat → Fn → Prop} : MT.All [] P := trivial
theorem mt_cons {P : Nat → Nat → Fn → Prop} {c j : Nat} {g : Fn} {t : MT} (h : P c j g) (r : MT.All t P) : MT.All ((c, j, g) :: t) P := ⟨h, r⟩
end
end
end Dv
namespace Dv
open PySem PySem.Spec PyProof.Rows L2
set_option autoImplicit false
noncomputable section
/-! ### dicts -/
def keyD : D → Option Key
  | .int i => some (.inl i)
  | .str s => some (.inr s)
  | _ => none
def kD : Key → D
  | .inl i => .int i
  | .inr s => .str s
def valD (kvs : List (Key × D)) (k : Key) : Option D := match kvs with
  | [] => none
  | a :: r => if a.1 = k then some a.2 else valD r k
/-- in its place, or at the end -/
def putKD (kvs : List (Key × D)) (k : Key) (v : D) : List (Key × D) :=
  if (kvs.any fun kv => decide (kv.1 = k)) = true then kvs.map (fun kv => if kv.1 = k then (kv.1, v) else kv) else kvs ++ [(k, v)]
def dropKD (kvs : List (Key × D)) (k : Key) : List (Key × D) := kvs.filter fun kv => decide (kv.1 ≠ k)
section
variable {K : PySem.W.Frag} {S : Nat → Addr} {X : Cx} {E : XK} {G H : Hp}
theorem key_rep {y : D} {v : V} {k : Key} (r : Rep K S G y v) (h : keyD y = some k) : v = kV k := by
  cases y with
  | int i => cases h; cases r; rfl
  | str s => cases h; cases r; rfl
  | _ => cases h
theorem kD_rep {k : Key} : Rep K S G (kD k) (kV k) := by cases k <;> rfl
theorem valV_cons' {k k' : Key} {v : V} {r : List (Key × V)} : valV ((k', v) :: r) k = if k' = k then some v else valV r k := by
  by_cases h : k' = k
  · rw [if_pos h]
    simp [valV, h]
  · rw [if_neg h]
    simp [valV, h]
theorem valD_ok {k : Key} : ∀ {kvs : List (Key × D)} {ws : List (Key × V)}, RepK K S G kvs ws → (valD kvs k = none → valV ws k = none) ∧ ∀ d, valD kvs k = some d → ∃ v, valV ws k = some v ∧ Rep K S G d v
  | [], _, r => by cases r; exact ⟨fun _ => rfl, fun d e => by cases e⟩
  | a :: r, _, ⟨v, ws, e, q, t⟩ => by
    subst e
    obtain ⟨h1, h2⟩ := valD_ok (k := k) t
    have e1 : valD (a :: r) k = if a.1 = k then some a.2 else valD r k := rfl
    rw [e1, valV_cons']
    by_cases h : a.1 = k
    · rw [if_pos h, if_pos h]
      exact ⟨fun e => (by cases e), fun d e => (by cases e; exact ⟨v, rfl, q⟩)⟩
    · rw [if_neg h, if_neg h]
      exact ⟨h1, h2⟩
theorem repK_len : ∀ {kvs : List (Key × D)} {ws : List (Key × V)}, RepK K S G kvs ws → kvs.length = ws.length
  | [], _, r => by cases r; rfl
  | a :: r, _, ⟨v, ws, e, q, t⟩ => by subst e; rw [List.length_cons, List.length_cons, repK_len t]
theorem repK_keys : ∀ {kvs : List (Key × D)} {ws : List (Key × V)}, RepK K S G kvs ws → kvs.map (·.1) = ws.map (·.1)
  | [], _, r => by cases r; rfl
  | a :: r, _, ⟨v, ws, e, q, t⟩ => by subst e; rw [List.map_cons, List.map_cons, repK_keys t]
theorem repK_any {k : Key} : ∀ {kvs : List (Key × D)} {ws : List (Key × V)}, RepK K S G kvs ws → (kvs.any fun kv => decide (kv.1 = k)) = (ws.any fun kv => decide (kv.1 = k))
  | [], _, r => by cases r; rfl
  | a :: r, _, ⟨v, ws, e, q, t⟩ => by subst e; rw [List.any_cons, List.any_cons, repK_any t]
theorem repK_map {k : Key} {d : D} {v : V} (rd : Rep K S G d v) : ∀ {kvs : List (Key × D)} {ws : List (Key × V)}, RepK K S G kvs ws → RepK K S G (kvs.map fun kv => if kv.1 = k then (kv.1, d) else kv) (ws.map fun kv => if kv.1 = k then (kv.1, v) else kv)
  | [], _, r => by cases r; rfl
  | a :: r, _, ⟨w, ws, e, q, t⟩ => by
    subst e
    rw [List.map_cons, List.map_cons]
    by_cases h : a.1 = k
    · rw [if_pos h, if_pos h]; exact ⟨v, _, rfl, rd, repK_map rd t⟩
    · rw [if_neg h, if_neg h]; exact ⟨w, _, rfl, q, repK_map rd t⟩
theorem repK_app {k : Key} {d : D} {v : V} (rd : Rep K S G d v) : ∀ {kvs : List (Key × D)} {ws : List (Key × V)}, RepK K S G kvs ws → RepK K S G (kvs ++ [(k, d)]) (ws ++ [(k, v)])
  | [], _, r => by cases r; exact ⟨v, [], rfl, rd, rfl⟩
  | a :: r, _, ⟨w, ws, e, q, t⟩ => by subst e; exact ⟨w, _, rfl, q, repK_app rd t⟩
theorem repK_put {k : Key} {d : D} {v : V} (rd : Rep K S G d v) {kvs : List (Key × D)} {ws : List (Key × V)} (r : RepK K S G kvs ws) : RepK K S G (putKD kvs k d) (putK ws k v) := by
  unfold putKD putK
  rw [repK_any r]
  by_cases h : (ws.any fun kv => decide (kv.1 = k)) = true
  · rw [if_pos h, if_pos h]; exact repK_map rd r
  · rw [if_neg h, if_neg h]; exact repK_app rd r
theorem repK_drop {k : Key} : ∀ {kvs : List (Key × D)} {ws : List (Key × V)}, RepK K S G kvs ws → RepK K S G (dropKD kvs k) (dropK ws k)
  | [], _, r => by cases r; rfl
  | a :: r, _, ⟨w, ws, e, q, t⟩ => by
    subst e
    unfold dropKD dropK
    by_cases h : a.1 = k
    · rw [List.filter_cons_of_neg (by simp [h]), List.filter_cons_of_neg (by simp [h])]; exact repK_drop t
    · rw [List.filter_cons_of_pos (by simp [h]), List.filter_cons_of_pos (by simp [h])]; exact ⟨w, _, rfl, q, repK_drop t⟩
theorem repK_at : ∀ {kvs : List (Key × D)} {ws : List (Key × V)} {i : Nat} {k : Key} {d : D}, RepK K S G kvs ws → kvs[i]? = some (k, d) → ∃ v, ws[i]? = some (k, v) ∧ Rep K S G d v
  | [], _, i, k, d, _, h => by simp at h
  | a :: r, _, 0, k, d, ⟨w, ws, e, q, t⟩, h => by
    subst e
    have h : a = (k, d) := by simpa using h
    subst h
    exact ⟨w, rfl, q⟩
  | a :: r, _, i + 1, k, d, ⟨w, ws, e, q, t⟩, h => by
    subst e
    exact repK_at (i := i) t (by simpa using h)
theorem repK_end {kvs : List (Key × D)} {ws : List (Key × V)} {i : Nat} (r : RepK K S G kvs ws) (h : kvs[i]? = none) : ws.length ≤ i := by
  have := List.getElem?_eq_none_iff.mp h
  rw [← repK_len r]
  exact this
/-! d[k], k in d, d.get(k) -/
def dctD : D → Option (List (Key × D))
  | .dct kvs => some kvs
  | _ => none
theorem dct_rep {y : D} {v : V} {kvs : List (Key × D)} (i : Inn G H) (r : Rep K S G y v) (h : dctD y = some kvs) : ∃ a ws, v = .ref a ∧ G a = some (.dK ws) ∧ Rd H a (.dK ws) ∧ RepK K S G kvs ws := by
  cases y with
  | dct l =>
    cases h
    obtain ⟨a, ws, rfl, g, t⟩ := r
    exact ⟨a, ws, rfl, g, i.dct (.inl g), t⟩
  | _ => cases h
def oDGet : FO := fun d y => (dctD d).bind fun kvs => (keyD y).bind fun k => valD kvs k
def xDGet1 (a b : Ev) : Ev := fun env => (a env).bind fun d e1 => match dctD d with
  | some kvs => (b e1).bind fun y e2 => .of ((keyD y).map fun k => (valD kvs k).getD .non) e2
  | none => .no
def oDIn (neg : Bool) : FO := fun y d => (dctD d).bind fun kvs => (keyD y).bind fun k => some (.bl ((valD kvs k).isSome != neg))
theorem valD_some {k : Key} {kvs : List (Key × D)} {ws : List (Key × V)} (r : RepK K S G kvs ws) : (valV ws k).isSome = (valD kvs k).isSome := by
  obtain ⟨h1, h2⟩ := valD_ok (k := k) r
  cases e : valD kvs k with
  | none => rw [h1 e]; rfl
  | some d => obtain ⟨v, hv, _⟩ := h2 d e; rw [hv]; rfl
theorem valD_getD {k : Key} {kvs : List (Key × D)} {ws : List (Key × V)} (r : RepK K S G kvs ws) : Rep K S G ((valD kvs k).getD .non) ((valV ws k).getD .non) := by
  obtain ⟨h1, h2⟩ := valD_ok (k := k) r
  cases e : valD kvs k with
  | none => rw [h1 e]; rfl
  | some d => obtain ⟨v, hv, q⟩ := h2 d e; rw [hv]; exact q
theorem pc_of {op : CmpOp} {a b : Expr} {t u : TE} (p : PC X op a b t) (h : ∀ σ H Q, u σ H Q → t σ H Q) : PC X op a b u := ⟨fun pins s σ H Q I q => p.run pins s σ H Q I (h σ H Q q)⟩
variable {a b d e i : Expr} {ea eb ed ei : Ev} {pos apos cpos : Pos}
theorem q_dget (hu : X.A.units + 1 < cLine) (ho : QE S X E d ed) (hi : QE S X E i ei) (hs : NoSl i) : QE S X E (.Subscript d i pos) (xOp oDGet ed ei) := pe_of (pe_dget hu ho hi hs) fun σ H Q ⟨B, L, G, env, st, rl, po⟩ => ⟨B, L, G, env, st, rl, po.then fun G1 H1 x e1 sm1 st1 rl1 p1 v rv => ⟨B, L, G1, e1, st1, rl1, p1.then fun G2 H2 y e2 sm2 st2 rl2 p2 w rw => by
  obtain ⟨c, hc, k⟩ := p2.of st2 rl2
  unfold oDGet at hc
  obtain ⟨kvs, h1, hc⟩ := Option.bind_eq_some_iff.mp hc
  obtain ⟨key, h2, hc⟩ := Option.bind_eq_some_iff.mp hc
  obtain ⟨p, ws, rfl, _, rd, t⟩ := dct_rep st2.inn (rv.mono sm2) h1
  obtain ⟨u, hu, ru⟩ := (valD_ok (k := key) t).2 c hc
  rw [key_rep rw h2]
  exact ⟨p, u, rfl, .inl ⟨ws, key, rd, rfl, hu.symm⟩, k G2 H2 (.refl st2.inn) u ru⟩⟩⟩
theorem q_dget1 (hu : X.A.units + 1 < cLine) (ho : QE S X E d ed) (hi : QE S X E i ei) (m : M1 X d "get" apos i cpos) : QE S X E (.Call (.Attribute d "get" apos) [i] [] cpos) (xDGet1 ed ei) := pe_of (pe_dget1 hu ho hi m) fun σ H Q ⟨B, L, G, env, st, rl, po⟩ => ⟨B, L, G, env, st, rl, po.then fun G1 H1 x e1 sm1 st1 rl1 p1 v rv => by
  split at p1
  · rename_i kvs hx
    obtain ⟨p, ws, rfl, gp, rd, t⟩ := dct_rep st1.inn rv hx
    refine ⟨p, rfl, .inl ⟨ws, rd⟩, B, L, G1, e1, st1, rl1, p1.then fun G2 H2 y e2 sm2 st2 rl2 p2 w rw => ?_⟩
    obtain ⟨c, hc, k⟩ := p2.of st2 rl2
    obtain ⟨key, h2, hc⟩ := Option.map_eq_some_iff.mp hc
    subst hc
    rw [key_rep rw h2]
    exact ⟨valV ws key, .inl ⟨ws, key, st2.inn.dct (.inl (sm2 _ _ gp)), rfl, rfl⟩, k G2 H2 (.refl st2.inn) _ (valD_getD (t.mono sm2))⟩
  · exact p1.elim⟩
theorem snd_din {neg : Bool} {σ : L2.St} {H : Hp} {Q : VK} (q : TD K S E (xOp (oDIn neg) ea ed) σ H Q) : (fun σ H Q => TD K S E ea σ H fun y H1 => TD K S E ed σ H1 fun x H2 => ∃ p o, x = .ref p ∧ DGet H2 p y o ∧ Q (.bl (o.isSome != neg)) H2) σ H Q := by
  obtain ⟨B, L, G, env, st, rl, po⟩ := q
  exact ⟨B, L, G, env, st, rl, po.then fun G1 H1 y e1 sm1 st1 rl1 p1 v rv => ⟨B, L, G1, e1, st1, rl1, p1.then fun G2 H2 x e2 sm2 st2 rl2 p2 w rw => by
    obtain ⟨c, hc, k⟩ := p2.of st2 rl2
    unfold oDIn at hc
    obtain ⟨kvs, h1, hc⟩ := Option.bind_eq_some_iff.mp hc
    obtain ⟨key, h2, hc⟩ := Option.bind_eq_some_iff.mp hc
    cases hc
    obtain ⟨p, ws, rfl, _, rd, t⟩ := dct_rep st2.inn rw h1
    rw [key_rep rv h2]
    refine ⟨p, _, rfl, .inl ⟨ws, key, rd, rfl, rfl⟩, ?_⟩
    rw [valD_some t]
    exact k G2 H2 (.refl st2.inn) _ rfl⟩⟩
theorem td_congr {t u : VK} {f : Ev} {σ : L2.St} {H : Hp} (h : ∀ v H, t v H → u v H) (q : TD K S E f σ H t) : TD K S E f σ H u := by
  obtain ⟨B, L, G, env, st, rl, po⟩ := q
  exact ⟨B, L, G, env, st, rl, po.imp fun G' H' a e _ _ _ k v rv => h _ _ (k v rv)⟩
theorem c_din (hu : X.A.units + 1 < cLine) (ha : QE S X E a ea) (hd : QE S X E d ed) : PC X .In a d (TD X.K S E (xOp (oDIn false) ea ed)) := pc_of (pc_din hu ha hd) fun σ H Q q => td_congr (fun y H1 q => td_congr (fun x H2 ⟨p, o, h1, h2, h3⟩ => ⟨p, o, h1, h2, by simpa using h3⟩) q) (snd_din q)
theorem c_dnotin (hu : X.A.units + 1 < cLine) (ha : QE S X E a ea) (hd : QE S X E d ed) : PC X .NotIn a d (TD X.K S E (xOp (oDIn true) ea ed)) := pc_of (pc_dnotin hu ha hd) fun σ H Q q => td_congr (fun y H1 q => td_congr (fun x H2 ⟨p, o, h1, h2, h3⟩ => ⟨p, o, h1, h2, by simpa using h3⟩) q) (snd_din q)
end
end
end Dv
namespace Dv
open PySem PySem.Spec PyProof.Rows L2
set_option autoImplicit false
noncomputable section
/-! ### dicts, second part: new ones, one's own, locks -/
section
variable {K : PySem.W.Frag} {S : Nat → Addr} {X : Cx} {E : XK} {a d e i o value : Expr} {ea ed ee ei ev : Ev} {pos pos' tpos apos cpos : Pos}
theorem q_din (hu : X.A.units + 1 < cLine) (ha : QE S X E a ea) (hd : QE S X E d ed) (h1 : behindInMarks .In d = false := by first | exact nobehind _ (by decide) (by decide) | rfl) : QE S X E (.Compare a [.In] [d] pos) (xOp (oDIn false) ea ed) := pe_cmp (c_din hu ha hd) h1
theorem q_dnotin (hu : X.A.units + 1 < cLine) (ha : QE S X E a ea) (hd : QE S X E d ed) (h1 : behindInMarks .NotIn d = false := by first | exact nobehind _ (by decide) (by decide) | rfl) : QE S X E (.Compare a [.NotIn] [d] pos) (xOp (oDIn true) ea ed) := pe_cmp (c_dnotin hu ha hd) h1
theorem q_dinT (hu : X.A.units + 1 < cLine) (ha : QE S X E a ea) (hd : QE S X E d ed) (h1 : behindInMarks .In d = false := by first | exact nobehind _ (by decide) (by decide) | rfl) : QT S X E (.Compare a [.In] [d] pos) (xTest (xOp (oDIn false) ea ed)) := pt_of (pt_cmp (c_din hu ha hd) h1) fun _ _ _ q => snd_test (fun _ h => h) q
theorem q_dnotinT (hu : X.A.units + 1 < cLine) (ha : QE S X E a ea) (hd : QE S X E d ed) (h1 : behindInMarks .NotIn d = false := by first | exact nobehind _ (by decide) (by decide) | rfl) : QT S X E (.Compare a [.NotIn] [d] pos) (xTest (xOp (oDIn true) ea ed)) := pt_of (pt_cmp (c_dnotin hu ha hd) h1) fun _ _ _ q => snd_test (fun _ h => h) q
/-! {} -/
def xDNew : Ev := fun env => .ok (.dct []) env
theorem qf_dnew : QF S X E (.Dict [] [] pos) xDNew := pe_of pe_dnewK fun σ H Q ⟨B, L, G, env, st, rl, po⟩ => fresh_ok st rl po ⟨[], rfl, rfl⟩
/-! d[k] = v, d one's own -/
def isDct : D → Bool
  | .dct _ => true
  | _ => false
def xDPut (i : Nat) (ek ev : Ev) : EvS := fun env => (ev env).st fun v e1 => match e1[i]? with
  | some t0 => if isOwn t0 = true then (ek e1).st fun y e2 => match e2[i]?, keyD y with
    | some t, some k => match cont t with
      | some (.dct l) => if l.length < 1000000 then .nx (e2.set i (putSl t (.dct (putKD l k v)))) else .no
      | _ => .no
    | _, _ => .no else .no
  | none => .no
theorem s_dput {i : Nat} {ix : Expr} {ek : Ev} (hu : X.A.units + 1 < cLine) (ho : PE X o (tVar i)) (hi : QE S X E ix ek) (hv : QE S X E value ev) (hs : swapsWith value (some (.Subscript o ix pos')) pos.line X.env = pure false) : QS S X E (.Assign [.Subscript o ix pos'] value pos) (xDPut i ek ev) := ps_of (ps_dput hu ho hi hv hs) fun D σ H ⟨B, L, G, env, st, rl, po⟩ => ⟨B, L, G, env, st, rl, Post.st po fun G1 H1 d e1 sm1 st1 rl1 p1 v rv => by
  split at p1
  · rename_i t0 ht0
    split at p1
    · rename_i ho0
      obtain ⟨p, hx⟩ := own_at rl1 ht0 ho0
      exact ⟨.ref p, hx, B, L, G1, e1, st1, rl1, Post.st p1 fun G2 H2 y e2 sm2 st2 rl2 p2 k rk => by
        split at p2
        · rename_i t key ht hk
          split at p2
          · rename_i l hc
            split at p2
            · rename_i hl
              obtain ⟨ho, p', o', hx', hp, ws, rfl, t'⟩ := own_cont rl2 ht hc
              rw [hx] at hx'
              cases hx'
              rw [key_rep rk hk]
              obtain ⟨s1, s2⟩ := own_set (d := .dct (putKD l key d)) (o := .dK (putK ws key v)) st2 rl2 ht ho hx ⟨_, rfl, repK_put (rv.mono sm2) t'⟩
              exact ⟨p, _, rfl, .inl ⟨ws, key, hp, rfl, len9 (by rw [← repK_len t']; exact hl), rfl⟩, p2 σ G2 _ (.refl _) s1 s2⟩
            · exact p2.elim
          · exact p2.elim
        · exact p2.elim⟩
    · exact p1.elim
  · exact p1.elim⟩
/-! list(d) -/
def fListD : FC := fun xs => match xs with
  | [x] => (dctD x).map fun kvs => .lst (kvs.map fun kv => kD kv.1)
  | _ => none
def rListD : List V → Hp → VK → Prop := fun xs H Q => ∃ (a : Addr) (kvs : List (Key × V)), xs = [.ref a] ∧ Rd H a (.dK kvs) ∧ ∀ p, H p = none → Q (.ref p) (upd H p (.lst (kvs.map fun kv => kV kv.1)))
theorem repK_keyL {G : Hp} : ∀ {kvs : List (Key × D)} {ws : List (Key × V)}, RepK K S G kvs ws → RepL K S G (kvs.map fun kv => kD kv.1) (ws.map fun kv => kV kv.1)
  | [], _, r => by cases r; rfl
  | a :: r, _, ⟨v, ws, e, q, t⟩ => by subst e; exact ⟨_, _, rfl, kD_rep, repK_keyL t⟩
theorem sc_listD : SClF K S fListD rListD := fun G H xs d vs Q i r e k => by
  unfold fListD at e
  split at e
  · rename_i x
    obtain ⟨v, rfl, rx⟩ := r.one
    obtain ⟨kvs, h, e⟩ := Option.map_eq_some_iff.mp e
    subst e
    obtain ⟨q, ws, rfl, gq, hq, t⟩ := dct_rep i rx h
    exact ⟨q, ws, rfl, hq, fun p hp => k p _ hp ⟨_, rfl, repK_keyL t⟩⟩
  · cases e
/-! sorted, ints -/
def insI (x : Int) : List Int → List Int
  | [] => [x]
  | y :: r => if x ≤ y then x :: y :: r else y :: insI x r
def sortI : List Int → List Int
  | [] => []
  | x :: r => insI x (sortI r)
theorem insI_perm (x : Int) : ∀ l : List Int, (insI x l).Perm (x :: l)
  | [] => .refl _
  | y :: r => by
    unfold insI
    split
    · exact .refl _
    · exact ((insI_perm x r).cons y).trans (.swap x y r)
theorem sortI_perm : ∀ ns : List Int, (sortI ns).Perm ns
  | [] => .refl _
  | x :: r => (insI_perm x (sortI r)).trans ((sortI_perm r).cons x)
theorem insI_le (x : Int) : ∀ l : List Int, l.Pairwise (· ≤ ·) → (insI x l).Pairwise (· ≤ ·)
  | [], _ => by simp [insI]
  | y :: r, h => by
    unfold insI
    split
    · rename_i hx
      refine List.pairwise_cons.mpr ⟨fun z hz => ?_, h⟩
      rcases List.mem_cons.mp hz with rfl | hz
      · exact hx
      · exact Int.le_trans hx ((List.pairwise_cons.mp h).1 z hz)
    · rename_i hx
      refine List.pairwise_cons.mpr ⟨fun z hz => ?_, insI_le x r (List.pairwise_cons.mp h).2⟩
      rcases List.mem_cons.mp ((insI_perm x r).mem_iff.mp hz) with rfl | hz
      · omega
      · exact (List.pairwise_cons.mp h).1 z hz
theorem sortI_le : ∀ ns : List Int, (sortI ns).Pairwise (· ≤ ·)
  | [] => .nil
  | x :: r => insI_le x _ (sortI_le r)
theorem sortI_eq {ns ms : List Int} (h : ms.Perm ns) (hl : ms.Pairwise (· ≤ ·)) : ms = sortI ns := List.Perm.eq_of_pairwise (le := (· ≤ ·)) (fun a b _ _ h1 h2 => Int.le_antisymm h1 h2) hl (sortI_le ns) (h.trans (sortI_perm ns).symm)
theorem ints_rep {G : Hp} : ∀ (ns : List Int), RepL K S G (ns.map D.int) (ns.map V.int)
  | [] => rfl
  | n :: r => ⟨_, _, rfl, rfl, ints_rep r⟩
def fSorted : FC := fun xs => match xs with
  | [x] => (lstD x).bind fun l => (intL l).map fun ns => .lst ((sortI ns).map D.int)
  | _ => none
theorem sc_sorted : SClF K S fSorted (rSortedI K) := fun G H xs d vs Q i r e k => by
  unfold fSorted at e
  split at e
  · rename_i x
    obtain ⟨v, rfl, rx⟩ := r.one
    obtain ⟨l, h, e⟩ := Option.bind_eq_some_iff.mp e
    obtain ⟨ns, h2, e⟩ := Option.map_eq_some_iff.mp e
    subst e
    obtain ⟨q, us, rfl, hq, t⟩ := lst_sq rx h
    have := intL_ok t h2
    subst this
    exact ⟨q, ns, rfl, i.seq hq, fun ns' p h1 h2 hp => k p _ hp ⟨_, rfl, by rw [sortI_eq h1 h2]; exact ints_rep _⟩⟩
  · cases e
/-! ### locks -/
variable {B : Base} {L : Lk} {G H : Hp} {env : Env} {σ : L2.St}
theorem ste_lk {p : Addr} (st : Ste B L G H) {o : HO} {H1 : Hp} (hn : ∀ b, b ≠ p → H1 b = H b) (h1 : H1 p = some o) {od : Obj} {ws : List (Key × V)} (ho : o = .frz od (.dK ws)) (gp : G p = some (.dK ws)) (hl : ∀ q ∈ L, q.1 = p → q.2 = o) : Ste B ((p, o) :: L) G H1 := by
  refine ⟨st.g0, fun b w e => ?_, st.new, fun b w e r l => ?_, fun q hq => ?_, fun b e => ?_, fun q hq hf => ?_⟩
  · by_cases hb : b = p
    · subst hb
      rw [gp] at e
      cases e
      exact .inr ⟨od, ws, rfl, by rw [h1, ho]⟩
    · rw [hn b hb]; exact st.inn b w e
  · have hb : b ≠ p := fun q => l _ (List.mem_cons_self ..) q.symm
    rw [hn b hb]
    exact st.keep b w e r fun q hq => l q (List.mem_cons_of_mem _ hq)
  · rcases List.mem_cons.mp hq with rfl | hq
    · exact h1
    · by_cases hb : q.1 = p
      · rw [hl q hq hb, hb]; exact h1
      · rw [hn _ hb]; exact st.lock q hq
  · obtain ⟨g1, h2, h3, h4⟩ := st.par b e
    have hb : b ≠ p := fun q => by rw [q, gp] at g1; cases g1
    refine ⟨g1, by rw [hn b hb]; exact h2, h3, fun q hq => ?_⟩
    rcases List.mem_cons.mp hq with rfl | hq
    · exact fun q => hb q.symm
    · exact h4 q hq
  · rcases List.mem_cons.mp hq with rfl | hq
    · exact (hf _ _ ho).elim
    · exact st.out q hq hf
theorem rel_lk {p : Addr} (st : Ste B L G H) (rl : Rel K S B L G H env σ) {o : HO} {L' : Lk} {H1 : Hp} (hn : ∀ b, b ≠ p → H1 b = H b) (hL : ∀ q ∈ L', q.1 = p ∨ q ∈ L) (gp : G p ≠ none) : Rel K S B L' G H1 env σ := by
  have hne : ∀ (j : Nat) (s : Sl) (a : Addr), env[j]? = some s → isOwn s = true → σ[j]? = some (some (V.ref a)) → a ≠ p := fun j s a h1 o1 h3 e => by
    subst e
    exact gp (own_free st rl h1 o1 h3).1
  refine ⟨paired_of (paired_len rl.at_) fun j s x h1 h2 => ?_, rl.nd, fun j s a h1 o1 h3 q hq => ?_⟩
  · obtain ⟨y, hy, q⟩ := rel_at rl h1
    rw [h2] at hy
    cases hy
    cases s with
    | no => trivial
    | val d => exact q
    | box d =>
      obtain ⟨a, w, rfl, g, b, ha, r⟩ := q
      exact ⟨a, w, rfl, g, b, by rw [hn a (hne j _ a h1 rfl h2)]; exact ha, r⟩
    | par d =>
      obtain ⟨a, w, rfl, b, ha, r⟩ := q
      exact ⟨a, w, rfl, b, by rw [hn a (hne j _ a h1 rfl h2)]; exact ha, r⟩
  · rcases hL q hq with e | hq
    · rw [e]; exact fun e => hne j s a h1 o1 h3 e.symm
    · exact rl.nl j s a h1 o1 h3 q hq
/-- what a lock gives: the state under it, and the state behind it -/
structure Lkd (K : PySem.W.Frag) (S : Nat → Addr) (B : Base) (L L1 : Lk) (G H H1 : Hp) (env : Env) (σ : L2.St) (p : Addr) (o : HO) (fin : Hp → Hp) : Prop where
  st : Ste B L1 G H1
  rl : Rel K S B L1 G H1 env σ
  ne : ∀ b u, H b = some u → (∀ kvs, u ≠ .dK kvs) → H1 b = some u
  at_ : ∀ G' H', Ste B L1 G' H' → H' p = some o
  st' : ∀ G' H', Same G G' → Ste B L1 G' H' → Ste B L G' (fin H')
  rl' : ∀ G' H' env σ, Same G G' → Ste B L1 G' H' → Rel K S B L1 G' H' env σ → Rel K S B L G' (fin H') env σ
  fin : ∀ H' b, b ≠ p → fin H' b = H' b
  sub : ∀ q ∈ L, q ∈ L1
  gp : G p ≠ none
theorem lk_ok {p : Addr} (st : Ste B L G H) (rl : Rel K S B L G H env σ) {ws : List (Key × V)} (gp : G p = some (.dK ws)) :
    (H p = some (.dK ws) ∧ ∀ od, ∃ L1, Lkd K S B L L1 G H (upd H p (.frz od (.dK ws))) env σ p (.frz od (.dK ws)) fun H' => upd H' p (.dK ws)) ∨ ∃ od L1, H p = some (.frz od (.dK ws)) ∧ Lkd K S B L L1 G H H env σ p (.frz od (.dK ws)) fun H' => H' := by
  have gn : G p ≠ none := by rw [gp]; exact fun e => nomatch e
  rcases st.inn p _ gp with hp | ⟨od, kvs, e, hp⟩
  · refine .inl ⟨hp, fun od => ⟨(p, .frz od (.dK ws)) :: L, ?_⟩⟩
    have nl : ∀ q ∈ L, q.1 ≠ p := fun q hq hb => by
      have h1 := st.lock q hq
      rw [hb, hp] at h1
      have h2 := st.out q hq fun o u e => by rw [e] at h1; cases h1
      rw [hb, gp] at h2
      cases h2
    have s1 : Ste B ((p, .frz od (.dK ws)) :: L) G (upd H p (.frz od (.dK ws))) := ste_lk (H1 := upd H p (.frz od (.dK ws))) st (fun b hb => upd_ne hb) upd_same rfl gp fun q hq hb => (nl q hq hb).elim
    have back : ∀ G' H', Same G G' → Ste B ((p, .frz od (.dK ws)) :: L) G' H' → Ste B L G' (upd H' p (.dK ws)) := fun G' H' sm s2 => by
      refine ⟨s2.g0, fun b w e => ?_, s2.new, fun b w e r l => ?_, fun q hq => ?_, fun b e => ?_, fun q hq hf => s2.out q (List.mem_cons_of_mem _ hq) hf⟩
      · by_cases hb : b = p
        · subst hb
          rw [sm _ _ gp] at e
          cases e
          exact .inl upd_same
        · rw [upd_ne hb]; exact s2.inn b w e
      · by_cases hb : b = p
        · subst hb
          have := st.keep b w e r l
          rw [hp] at this
          cases this
          exact upd_same
        · rw [upd_ne hb]
          refine s2.keep b w e r fun q hq => ?_
          rcases List.mem_cons.mp hq with rfl | hq
          · exact fun e => hb e.symm
          · exact l q hq
      · rw [upd_ne (nl q hq)]
        exact s2.lock q (List.mem_cons_of_mem _ hq)
      · obtain ⟨h1, h2, h3, h4⟩ := s2.par b e
        have hb : b ≠ p := fun q => by subst q; rw [sm _ _ gp] at h1; cases h1
        exact ⟨h1, by rw [upd_ne hb]; exact h2, h3, fun q hq => h4 q (List.mem_cons_of_mem _ hq)⟩
    refine ⟨s1, rel_lk (o := .dK ws) st rl (fun b hb => upd_ne hb) (fun q hq => (List.mem_cons.mp hq).elim (fun e => .inl (by rw [e])) .inr) gn, fun b u e hk => ?_, fun G' H' s2 => s2.lock _ (List.mem_cons_self ..), back, fun G' H' env σ sm s2 r2 => ?_, fun H' b hb => upd_ne hb, fun q hq => List.mem_cons_of_mem _ hq, gn⟩
    · have hb : b ≠ p := fun q => by subst q; rw [hp] at e; cases e; exact hk _ rfl
      rw [upd_ne hb]; exact e
    · exact rel_lk (o := .dK ws) s2 r2 (fun b hb => upd_ne hb) (fun q hq => .inr (List.mem_cons_of_mem _ hq)) (by rw [sm _ _ gp]; exact fun e => nomatch e)
  · cases e
    refine .inr ⟨od, (p, .frz od (.dK ws)) :: L, hp, ?_⟩
    have hl : ∀ q ∈ L, q.1 = p → q.2 = .frz od (.dK ws) := fun q hq hb => by
      have h1 := st.lock q hq
      rw [hb, hp] at h1
      exact (Option.some.inj h1).symm
    refine ⟨ste_lk st (fun b hb => rfl) hp rfl gp hl, rel_lk (o := .dK ws) st rl (fun b hb => rfl) (fun q hq => (List.mem_cons.mp hq).elim (fun e => .inl (by rw [e])) .inr) gn, fun b u e hk => e, fun G' H' s2 => s2.lock _ (List.mem_cons_self ..), fun G' H' sm s2 => ?_, fun G' H' env σ sm s2 r2 => ?_, fun H' b hb => rfl, fun q hq => List.mem_cons_of_mem _ hq, gn⟩
    · refine ⟨s2.g0, s2.inn, s2.new, fun b w e r l => ?_, fun q hq => s2.lock q (List.mem_cons_of_mem _ hq), fun b e => ?_, fun q hq hf => s2.out q (List.mem_cons_of_mem _ hq) hf⟩
      · by_cases hb : b = p
        · subst hb
          have := st.keep b w e r l
          rw [hp] at this
          cases this
          exact s2.lock _ (List.mem_cons_self ..)
        · refine s2.keep b w e r fun q hq => ?_
          rcases List.mem_cons.mp hq with rfl | hq
          · exact fun e => hb e.symm
          · exact l q hq
      · obtain ⟨h1, h2, h3, h4⟩ := s2.par b e
        exact ⟨h1, h2, h3, fun q hq => h4 q (List.mem_cons_of_mem _ hq)⟩
    · exact ⟨r2.at_, r2.nd, fun j s a h1 o1 h3 q hq => r2.nl j s a h1 o1 h3 q (List.mem_cons_of_mem _ hq)⟩
/-! paths: slots and their fields -/
abbrev Pth := Env → Option (D × Env)
def PthOk (K : PySem.W.Frag) (S : Nat → Addr) (p : Pth) (td : TE) : Prop := ∀ (B : Base) (L : Lk) (G H : Hp) (env env' : Env) (σ : L2.St) (d : D), Ste B L G H → Rel K S B L G H env σ → p env = some (d, env') →
  ∃ G' v, Same G G' ∧ Ste B L G' H ∧ Rel K S B L G' H env' σ ∧ Rep K S G' d v ∧ ∀ (H' : Hp) (R : VK), (∀ b u, H b = some u → (∀ kvs, u ≠ .dK kvs) → H' b = some u) → R v H' → td σ H' R
def pSlot (i : Nat) : Pth := fun env => match env[i]? with
  | some (.val d) => some (d, env)
  | some (.box d) => some (d, env.set i (.val d))
  | _ => none
def pFld (cs : List Nat) (f : Str) (p : Pth) : Pth := fun env => match p env with
  | some (.ins C fs, e) => if C ∈ cs then (fs.lookup f).map fun d => (d, e) else none
  | _ => none
theorem p_slot {i : Nat} : PthOk K S (pSlot i) (tVar i) := fun B L G H env env' σ d st rl h => by
  unfold pSlot at h
  split at h
  · rename_i d' h'
    cases h
    obtain ⟨x, hx, v, rfl, r⟩ := rel_at rl h'
    exact ⟨G, v, .refl _, st, rl, r, fun H' R _ q => ⟨v, hx, q⟩⟩
  · rename_i d' h'
    cases h
    obtain ⟨v, G', hx, s1, s2, s3, s4⟩ := thaw st rl h'
    exact ⟨G', v, s1, s2, s3, s4, fun H' R _ q => ⟨v, hx, q⟩⟩
  · cases h
theorem p_fld {cs : List Nat} {f : Str} {p : Pth} {td : TE} (hc : FldOk K S f cs) (hp : PthOk K S p td) : PthOk K S (pFld cs f p) (tFld K td f) := fun B L G H env env' σ d st rl h => by
  unfold pFld at h
  split at h
  · rename_i C fs e he
    split at h
    · rename_i hC
      obtain ⟨d', h1, h2⟩ := Option.map_eq_some_iff.mp h
      cases h2
      obtain ⟨G', v, s1, s2, s3, ⟨a, dx, ws, rfl, ga, rf⟩, s5⟩ := hp B L G H env _ σ _ st rl he
      obtain ⟨u, hu, ru⟩ := (lookF rf).2 d h1
      have ha := s2.inn.ins ga
      exact ⟨G', u, s1, s2, s3, ru, fun H' R hn q => s5 H' _ hn ⟨a, S C, dx, ws, u, rfl, hn a _ ha (fun kvs e => nomatch e), (hc C hC).1, (hc C hC).2, hu, q⟩⟩
    · cases h
  · cases h
/-! what is walked in a locked dict -/
inductive Wk where
  | keys | vals | items
def Wk.ds (w : Wk) (kvs : List (Key × D)) : List D := match w with
  | .keys => kvs.map fun kv => kD kv.1
  | .vals => kvs.map fun kv => kv.2
  | .items => kvs.map fun kv => .tup [kD kv.1, kv.2]
def Wk.it (w : Wk) (p : Addr) (od : Obj) (ws : List (Key × V)) : It := match w with
  | .keys => Itk p od ws
  | .vals => Itd p od ws
  | .items => Iti p od ws
def Wk.ti (w : Wk) (td : TE) : TI := fun σ H R => td σ H fun x H1 => ∃ d o kvs, x = .ref d ∧ H1 d = some (.frz o (.dK kvs)) ∧ R (w.it d o kvs) H1
theorem wk_ok {w : Wk} {L1 : Lk} {p : Addr} {od : Obj} {ws : List (Key × V)} {kvs : List (Key × D)} (r : RepK K S G kvs ws) (hl : ∀ G' H', Ste B L1 G' H' → H' p = some (.frz od (.dK ws))) : ItOk K S B L1 G (w.it p od ws) (w.ds kvs) := fun i G1 H1 sm st => by
  have hp := hl _ _ st
  have hlen : (w.ds kvs).length = ws.length := by cases w <;> simp [Wk.ds, repK_len r]
  refine ⟨fun h => ?_, fun d h => ?_⟩
  · have := List.getElem?_eq_none_iff.mp h
    cases w <;> exact ⟨hp, by omega⟩
  · have hi : i < ws.length := by
      have := (List.getElem?_eq_some_iff.mp h).1
      omega
    have hk : i < kvs.length := by rw [repK_len r]; exact hi
    have hg : kvs[i]? = some kvs[i] := by simp [hk]
    obtain ⟨v, hv, rv⟩ := repK_at (k := kvs[i].1) (d := kvs[i].2) r hg
    cases w with
    | keys =>
      refine ⟨⟨hp, hi⟩, fun x H2 ⟨e1, k, u, e2, e3⟩ => ?_⟩
      have : (kvs.map fun kv => kD kv.1)[i]? = some d := h
      rw [List.getElem?_map, hg] at this
      cases this
      rw [hv] at e2
      cases e2
      subst e1
      subst e3
      exact ⟨G1, .refl st.inn, kD_rep⟩
    | vals =>
      refine ⟨⟨hp, hi⟩, fun x H2 ⟨e1, k, e2⟩ => ?_⟩
      have : (kvs.map fun kv => kv.2)[i]? = some d := h
      rw [List.getElem?_map, hg] at this
      cases this
      rw [hv] at e2
      cases e2
      subst e1
      exact ⟨G1, .refl st.inn, rv.mono sm⟩
    | items =>
      refine ⟨⟨hp, hi⟩, fun x H2 ⟨T, k, u, e2, e3, hT, e4⟩ => ?_⟩
      have : (kvs.map fun kv => D.tup [kD kv.1, kv.2])[i]? = some d := h
      rw [List.getElem?_map, hg] at this
      cases this
      rw [hv] at e2
      cases e2
      subst e3
      subst e4
      have ex := Ex.new1 (o := .tup [kV kvs[i].1, v]) st.inn hT
      exact ⟨_, ex, T, _, rfl, .inl (.inl upd_same), .cons kD_rep (.cons ((rv.mono sm).mono ex.g) .nil)⟩
end
end
end Dv
namespace Dv
open PySem PySem.Spec PyProof.Rows L2
set_option autoImplicit false
noncomputable section
/-! ### walks over dicts, comprehensions of dicts -/
def noEx : Sr → Sr
  | .ex _ _ _ => .no
  | r => r
def noR {α : Type} : Res α → Res α
  | .ex _ _ _ => .no
  | r => r
def xForD (p : Pth) (w : Wk) (eg : Eg) (b : EvS) : EvS := fun env => match p env with
  | some (d, e) => match dctD d with
    | some kvs => noEx (forL eg b (w.ds kvs) e)
    | none => .no
  | none => .no
def xLcD (p : Pth) (w : Wk) (eg : Eg) (et : EvT) (ee : Ev) (vs : List Nat) : Ev := fun env => match p env with
  | some (d, e) => match dctD d with
    | some kvs => noR ((cmpL eg et ee vs (w.ds kvs) [] e).bind fun acc e' => .ok (.lst acc) (wipeE e' vs))
    | none => .no
  | none => .no
section
variable {K : PySem.W.Frag} {S : Nat → Addr} {X : Cx} {E : XK} {B : Base} {L L1 : Lk} {G H H1 : Hp} {env : Env} {σ : L2.St} {p : Addr} {o : HO} {fin : Hp → Hp}
theorem s_lk {st : Stmt} {t : TS} (h : PS X st t) : PS X st fun D σ H => t D σ H ∨ tLock t D σ H := ⟨fun pins s σ H D I q => q.elim (h.run pins s σ H D I) ((ps_lock h).run pins s σ H D I)⟩
theorem e_lk {e : Expr} {t : TE} (h : PE X e t) : PE X e fun σ H Q => t σ H Q ∨ tLockE t σ H Q := ⟨fun pins s σ H Q I q => q.elim (h.run pins s σ H Q I) ((pe_lock h).run pins s σ H Q I)⟩
/-- wi walks, as w says, the dict that td tells -/
def WkR (w : Wk) (td : TE) (wi : TI) : Prop := ∃ F : (It → Hp → Prop) → VK, (∀ σ H R, td σ H (F R) → wi σ H R) ∧ ∀ R a o kvs H1, H1 a = some (.frz o (.dK kvs)) → R (w.it a o kvs) H1 → F R (.ref a) H1
theorem wk_keys {td : TE} : WkR .keys td (iKeys td) := ⟨_, fun _ _ _ q => q, fun R a o kvs H1 h q => ⟨a, o, rfl, .inl ⟨kvs, h, q⟩⟩⟩
theorem wk_keysM {td : TE} : WkR .keys td (iKeysM td) := ⟨_, fun _ _ _ q => q, fun R a o kvs H1 h q => ⟨a, o, kvs, rfl, h, q⟩⟩
theorem wk_vals {td : TE} : WkR .vals td (iVals td) := ⟨_, fun _ _ _ q => q, fun R a o kvs H1 h q => ⟨a, o, kvs, rfl, h, q⟩⟩
theorem wk_items {td : TE} : WkR .items td (iItems td) := ⟨_, fun _ _ _ q => q, fun R a o kvs H1 h q => ⟨a, o, kvs, rfl, h, q⟩⟩
structure LkE (D D1 : Ends) (p : Addr) (o : HO) (fin : Hp → Hp) : Prop where
  nx : ∀ σ' H', H' p = some o → D.nx σ' (fin H') → D1.nx σ' H'
  rt : ∀ v H', H' p = some o → D.rt v (fin H') → D1.rt v H'
  bk : ∀ σ' H', H' p = some o → D.bk σ' (fin H') → D1.bk σ' H'
  ct : ∀ σ' H', H' p = some o → D.ct σ' (fin H') → D1.ct σ' H'
theorem PostS.lk {D D1 : Ends} {r : Sr} (lk : Lkd K S B L L1 G H H1 env σ p o fin) (hD : LkE D D1 p o fin) (h : PostS K S E B L G D (noEx r)) : PostS K S E B L1 G D1 r := by
  cases r with
  | no => exact h
  | nx e => exact fun σ' G' H' s st rl => hD.nx _ _ (lk.at_ _ _ st) (h σ' G' _ s (lk.st' _ _ s st) (lk.rl' _ _ _ _ s st rl))
  | rt d e => exact fun σ' G' H' s st rl v rv => hD.rt _ _ (lk.at_ _ _ st) (h σ' G' _ s (lk.st' _ _ s st) (lk.rl' _ _ _ _ s st rl) v rv)
  | rf d e => exact fun σ' G' H' s st rl a o ga ba ha r => hD.rt _ _ (lk.at_ _ _ st) (h σ' G' _ s (lk.st' _ _ s st) (lk.rl' _ _ _ _ s st rl) a o ga ba (by
      rw [lk.fin H' a (fun e => by
        subst e
        cases q : G a with
        | none => exact lk.gp q
        | some u => rw [s _ _ q] at ga; cases ga)]
      exact ha) r)
  | bk e => exact fun σ' G' H' s st rl => hD.bk _ _ (lk.at_ _ _ st) (h σ' G' _ s (lk.st' _ _ s st) (lk.rl' _ _ _ _ s st rl))
  | ct e => exact fun σ' G' H' s st rl => hD.ct _ _ (lk.at_ _ _ st) (h σ' G' _ s (lk.st' _ _ s st) (lk.rl' _ _ _ _ s st rl))
  | ex C fs e => exact h.elim
theorem s_forD {st : Stmt} {w : Wk} {pt : Pth} {td : TE} {wi : TI} {g : TG} {gs : List Nat} {eg : Eg} {eb : EvS} (hw : WkR w td wi) (hs : PS X st (tFor wi g (TS' X.K S E eb))) (hp : PthOk X.K S pt td) (sg : SndG X.K S gs eg g) : QS S X E st (xForD pt w eg eb) := ps_of (s_lk hs) fun D σ H ⟨B, L, G, env, st, rl, po⟩ => by
  obtain ⟨F, w1, w2⟩ := hw
  unfold xForD at po
  split at po
  · rename_i d e he
    split at po
    · rename_i kvs hd
      obtain ⟨G', v, sm, st', rl', rv, hr⟩ := hp B L G H env e σ d st rl he
      obtain ⟨a, ws, rfl, ga, _, t⟩ := dct_rep st'.inn rv hd
      have po' := po.up sm
      rcases lk_ok st' rl' ga with ⟨hpk, k⟩ | ⟨od, L1, hpk, lk⟩
      · refine .inr ⟨a, .dK ws, hpk, trivial, fun od => ?_⟩
        obtain ⟨L1, lk⟩ := k od
        exact w1 _ _ _ (hr _ _ lk.ne (w2 _ a od ws _ (lk.at_ _ _ lk.st) (for_core sg lk.st lk.rl (wk_ok t lk.at_) (PostS.lk lk ⟨fun _ _ h q => ⟨h, q⟩, fun _ _ h q => ⟨h, q⟩, fun _ _ h q => ⟨h, q⟩, fun _ _ h q => ⟨h, q⟩⟩ po'))))
      · exact .inl (w1 _ _ _ (hr _ _ lk.ne (w2 _ a od ws _ (lk.at_ _ _ lk.st) (for_core sg lk.st lk.rl (wk_ok t lk.at_) (PostS.lk lk ⟨fun _ _ h q => q, fun _ _ h q => q, fun _ _ h q => q, fun _ _ h q => q⟩ po')))))
    · exact po.elim
  · exact po.elim
theorem Post.lk {α : Type} {r : Res α} {P P1 : Hp → Hp → α → Env → Prop} (lk : Lkd K S B L L1 G H H1 env σ p o fin) (h : Post K S E B L σ G P (noR r)) (f : ∀ G' H' a e, Same G G' → Ste B L1 G' H' → P G' (fin H') a e → P1 G' H' a e) : Post K S E B L1 σ G P1 r := by
  cases r with
  | no => exact h
  | ex C fs e => exact h.elim
  | ok a e => exact fun G' H' s st rl => f _ _ _ _ s st (h G' _ s (lk.st' _ _ s st) (lk.rl' _ _ _ _ s st rl))
theorem plc_lk {Q Q1 : VK} {G' H' : Hp} {d : D} {e : Env} (lk : Lkd K S B L L1 G H H1 env σ p o fin) (hQ : ∀ v H', H' p = some o → Q v (fin H') → Q1 v H') (s : Same G G') (st : Ste B L1 G' H') (h : PLc K S B L σ Q G' (fin H') d e) : PLc K S B L1 σ Q1 G' H' d e := fun a u ga ba ha ho hl r => hQ _ _ (lk.at_ _ _ st) (h a u ga ba (by
  rw [lk.fin H' a (fun e => by
    subst e
    cases q : G a with
    | none => exact lk.gp q
    | some u => rw [s _ _ q] at ga; cases ga)]
  exact ha) ho (fun q hq => hl q (lk.sub q hq)) r)
/-- a comprehension over a locked dict -/
theorem lcD {w : Wk} {pt : Pth} {td : TE} {wi : TI} {g : TG} {gs vs : List Nat} {eg : Eg} {et : EvT} {ee : Ev} {tt : TT} {Q : VK} (hw : WkR w td wi) (hp : PthOk K S pt td) (sg : SndG K S gs eg g) (hv : ∀ i ∈ gs, i ∈ vs) (htt : ∀ σ H Q, TB K S E0 et σ H Q → tt σ H Q) (q : TF K S E (xLcD pt w eg et ee vs) σ H Q) :
    tLc wi g tt (TD K S E0 ee) vs σ H Q ∨ ∃ a u, H a = some u ∧ Mut (some u) ∧ ∀ od, tLc wi g tt (TD K S E0 ee) vs σ (upd H a (.frz od u)) fun v H' => H' a = some (.frz od u) ∧ Q v (upd H' a u) := by
  obtain ⟨F, w1, w2⟩ := hw
  obtain ⟨B, L, G, env, st, rl, po⟩ := q
  unfold xLcD at po
  split at po
  · rename_i d e he
    split at po
    · rename_i kvs hd
      obtain ⟨G', v, sm, st', rl', rv, hr⟩ := hp B L G H env e σ d st rl he
      obtain ⟨a, ws, rfl, ga, _, t⟩ := dct_rep st'.inn rv hd
      have po' := po.up sm
      rcases lk_ok st' rl' ga with ⟨hpk, k⟩ | ⟨od, L1, hpk, lk⟩
      · refine .inr ⟨a, .dK ws, hpk, trivial, fun od => ?_⟩
        obtain ⟨L1, lk⟩ := k od
        exact w1 _ _ _ (hr _ _ lk.ne (w2 _ a od ws _ (lk.at_ _ _ lk.st) (lc_core sg hv htt lk.st lk.rl (wk_ok t lk.at_) (Post.lk lk po' fun G' H' a' e s st h => plc_lk (Q1 := fun v H' => H' a = some (.frz od (.dK ws)) ∧ Q v (upd H' a (.dK ws))) lk (fun _ _ h q => ⟨h, q⟩) s st h))))
      · exact .inl (w1 _ _ _ (hr _ _ lk.ne (w2 _ a od ws _ (lk.at_ _ _ lk.st) (lc_core sg hv htt lk.st lk.rl (wk_ok t lk.at_) (Post.lk lk po' fun G' H' a' e s st h => plc_lk lk (fun _ _ h q => q) s st h)))))
    · exact po.elim
  · exact po.elim
variable {iter tg elt kx vx : Expr} {ee ek ev : Ev} {eg : Eg} {g : TG} {gs vs : List Nat} {et : EvT} {pos : Pos} {ei : EvI}
theorem qf_lcD {ifs : List Expr} {scope : Scope} {own : List (Str × Nat)} {tt : TT} {w : Wk} {pt : Pth} {td : TE} {wi : TI} (hc : X.calm = true) (hN : X.N.Nodup) (hi : PI X tg iter wi) (hw : WkR w td wi) (hp : PthOk X.K S pt td) (ok : BlkOk X.N X.env.scope scope own) (hvs : own.map (·.2) = vs)
    (hg : ∀ (s : Shared) (H : Hp) (C : Addr) (cl : List (Str × Addr)) (fp : List Addr), PG (X.blk s H scope (compEnvC scope cl C X.env) fp) tg g) (sg : SndG X.K S gs eg g) (hv : ∀ i ∈ gs, i ∈ vs)
    (ht : ∀ (s : Shared) (H : Hp) (C : Addr) (cl : List (Str × Addr)) (fp : List Addr), PTs (X.blk s H scope (compEnvC scope cl C X.env) fp) ifs tt) (htt : ∀ σ H Q, TB X.K S E0 et σ H Q → tt σ H Q)
    (he : ∀ (s : Shared) (H : Hp) (C : Addr) (cl : List (Str × Addr)) (fp : List Addr), QE S (X.blk s H scope (compEnvC scope cl C X.env) fp) E0 elt ee) (hs : ∀ x, foldedSetIterable iter X.env x = pure x := by intro _; rfl) :
    QF S X E (.ListComp elt [⟨tg, iter, ifs, 0⟩] scope pos) (xLcD pt w eg et ee vs) := by
  subst hvs
  exact pe_of (e_lk (pe_lc hc hN hi ok hg ht he hs)) fun _ _ _ q => lcD hw hp sg hv htt q
theorem s_setLcD {ifs : List Expr} {scope : Scope} {own : List (Str × Nat)} {tt : TT} {w : Wk} {pt : Pth} {td : TE} {wi : TI} {i : Nat} {y : Str} {py spos : Pos} (hc : X.calm = true) (hN : X.N.Nodup) (hy : X.N[i]? = some y) (hyl : X.env.scope.names.lookup y = some .local)
    (hsw : swapsWith (.ListComp elt [⟨tg, iter, ifs, 0⟩] scope pos) (some (.Name y py)) spos.line X.env = pure true) (hi : PI X tg iter wi) (hw : WkR w td wi) (hp : PthOk X.K S pt td) (ok : BlkOk X.N X.env.scope scope own) (hvs : own.map (·.2) = vs)
    (hg : ∀ (s : Shared) (H : Hp) (C : Addr) (cl : List (Str × Addr)) (fp : List Addr), PG (X.blk s H scope (compEnvC scope cl C X.env) fp) tg g) (sg : SndG X.K S gs eg g) (hv : ∀ i ∈ gs, i ∈ vs)
    (ht : ∀ (s : Shared) (H : Hp) (C : Addr) (cl : List (Str × Addr)) (fp : List Addr), PTs (X.blk s H scope (compEnvC scope cl C X.env) fp) ifs tt) (htt : ∀ σ H Q, TB X.K S E0 et σ H Q → tt σ H Q)
    (he : ∀ (s : Shared) (H : Hp) (C : Addr) (cl : List (Str × Addr)) (fp : List Addr), QE S (X.blk s H scope (compEnvC scope cl C X.env) fp) E0 elt ee) (hs : ∀ x, foldedSetIterable iter X.env x = pure x := by intro _; rfl) :
    QS S X E (.Assign [.Name y py] (.ListComp elt [⟨tg, iter, ifs, 0⟩] scope pos) spos) (xBox i (xLcD pt w eg et ee vs)) := by
  subst hvs
  refine ps_of (s_lk (ps_setLc (te := TD X.K S E0 ee) hc hN hy hyl hsw hi ok hg ht he hs)) fun D σ H q => ?_
  obtain ⟨B, L, G, env, st, rl, po⟩ := q
  refine lcD (Q := fun v H' => D.nx (σ.set i (some v)) H') hw hp sg hv htt ⟨B, L, G, env, st, rl, Post.st po fun G' H' d e s st' rl' p a o h1 h2 h3 h4 h5 h6 => ?_⟩
  split at p
  · exact p.elim
  · exact p _ G' H' (.refl _) st' (rel_box rl' h1 h2 h3 h4 h5 h6)
  · exact p.elim
/-! comprehensions of dicts -/
def dcmpL (eg : Eg) (et : EvT) (ek ev : Ev) (vs : List Nat) : List D → List (Key × D) → Env → Res (List (Key × D))
  | [], acc, env => .ok acc env
  | x :: xs, acc, env => match eg x (wipeE env vs) with
    | none => .no
    | some e1 => match et e1 with
      | .ok true e2 => match ek e2 with
        | .ok y e3 => match ev e3 with
          | .ok z e4 => match keyD y with
            | some k => if acc.length < 1000000 then dcmpL eg et ek ev vs xs (putKD acc k z) e4 else .no
            | none => .no
          | _ => .no
        | _ => .no
      | .ok false e2 => dcmpL eg et ek ev vs xs acc e2
      | _ => .no
theorem dc_core' {tt : TT} {Q : VK} {G1 : Hp} {e1 : Env} {J : It} {ds : List D} (sg : SndG K S gs eg g) (hv : ∀ i ∈ gs, i ∈ vs) (htt : ∀ σ H Q, TB K S E0 et σ H Q → tt σ H Q) (st1 : Ste B L G1 H1) (rl1 : Rel K S B L G1 H1 e1 σ) (hJ : ItOk K S B L G1 J ds)
    (p1 : Post K S E B L σ G1 (PLc K S B L σ Q) ((dcmpL eg et ek ev vs ds [] e1).bind fun acc e' => .ok (.dct acc) (wipeE e' vs))) :
    ∀ P, H1 P = none → ∃ W : Nat → Nat → Hp → Prop, (∃ m, W 0 m (upd H1 P (.dK []))) ∧ ∀ i m H, W i m H →
      (J.stop i H ∧ Q (.ref P) H) ∨ (J.go i H ∧ ∃ Nx : Hp → Prop, (∀ H', Nx H' → ∃ m', m' < m ∧ W (i + 1) m' H') ∧ ∀ x H', J.yld i H x H' → g x (wipe σ vs) H' fun σ2 H2 => wipe σ2 vs = wipe σ vs ∧ tt σ2 H2 fun b H3 =>
        if b = true then TD K S E0 ek σ2 H3 fun y H4 => TD K S E0 ev σ2 H4 fun z H5 => ∃ kvs k, y = kV k ∧ H5 P = some (.dK kvs) ∧ kvs.length < sizeLine ∧ Nx (upd H5 P (.dK (putK kvs k z))) else Nx H3) := by
  intro P hP
  have hbP := st1.free hP
  have hlP := st1.nolock hP
  refine ⟨fun i m H' => ∃ G' env' acc ws, Same G1 G' ∧ Ste B ((P, .dK ws) :: L) G' H' ∧ Rel K S B ((P, .dK ws) :: L) G' H' (wipeE env' vs) (wipe σ vs) ∧ RepK K S G' acc ws ∧ m = (ds.drop i).length ∧
    Post K S E B L σ G' (PLc K S B L σ Q) ((dcmpL eg et ek ev vs (ds.drop i) acc env').bind fun acc e' => .ok (.dct acc) (wipeE e' vs)),
    ⟨_, G1, e1, [], [], .refl _, ste_pin st1 hP, ?_, rfl, rfl, p1⟩, ?_⟩
  · exact rel_off (rel_wipes (rel_pin rl1 st1.inn hP)) wipe_wipe (wipe_length _ _)
  rintro i m H' ⟨G', env', acc, ws, sm, st', rl', ra, rfl, po'⟩
  have stU := ste_unpin st' hbP
  obtain ⟨t1, t2⟩ := hJ i G' H' sm stU
  have hlen : acc.length = ws.length := repK_len ra
  cases hd : ds[i]? with
  | none =>
    have e : ds.drop i = [] := List.drop_eq_nil_iff.mpr (List.getElem?_eq_none_iff.mp hd)
    rw [e] at po'
    have rlE : Rel K S B L G' H' (wipeE env' vs) σ := rel_off (rel_unpin rl') wipe_wipe.symm (wipe_length _ _).symm
    refine .inl ⟨t1 hd, po' G' H' (.refl _) stU rlE P (.dK ws) (st'.out _ (List.mem_cons_self ..) (fun _ _ h => by cases h)) hbP (st'.lock _ (List.mem_cons_self ..)) (fun j s h1 o1 h3 => ?_) hlP ⟨ws, rfl, ra⟩⟩
    have hj : j ∉ vs := fun hj => by
      rw [wipeE_at, if_pos hj] at h1
      split at h1 <;> cases h1
      cases o1
    refine rl'.nl j s P h1 o1 ?_ (P, .dK ws) (List.mem_cons_self ..) rfl
    rw [wipe_at, if_neg hj]
    exact h3
  | some d =>
    obtain ⟨g1, g2⟩ := t2 d hd
    have e := drop_at hd
    rw [e] at po'
    refine .inr ⟨g1, fun H2 => ∃ G2 env2 acc2 ws2, Same G1 G2 ∧ Ste B ((P, .dK ws2) :: L) G2 H2 ∧ Rel K S B ((P, .dK ws2) :: L) G2 H2 (wipeE env2 vs) (wipe σ vs) ∧ RepK K S G2 acc2 ws2 ∧
      Post K S E B L σ G2 (PLc K S B L σ Q) ((dcmpL eg et ek ev vs (ds.drop (i + 1)) acc2 env2).bind fun acc e' => .ok (.dct acc) (wipeE e' vs)),
      fun H2 ⟨G2, env2, acc2, ws2, a1, a2, a3, a4, a5⟩ => ⟨(ds.drop (i + 1)).length, by rw [e, List.length_cons]; omega, G2, env2, acc2, ws2, a1, a2, a3, a4, rfl, a5⟩, fun x H2 hy => ?_⟩
    obtain ⟨G2, ex, rx⟩ := g2 x H2 hy
    have st2 := st'.ex ex
    have rl2 := rl'.ex ex
    have cm : dcmpL eg et ek ev vs (d :: ds.drop (i + 1)) acc env' = match eg d (wipeE env' vs) with
      | none => .no
      | some e1 => match et e1 with
        | .ok true e2 => match ek e2 with
          | .ok y e3 => match ev e3 with
            | .ok z e4 => match keyD y with
              | some k => if acc.length < 1000000 then dcmpL eg et ek ev vs (ds.drop (i + 1)) (putKD acc k z) e4 else .no
              | none => .no
            | _ => .no
          | _ => .no
        | .ok false e2 => dcmpL eg et ek ev vs (ds.drop (i + 1)) acc e2
        | _ => .no := rfl
    rw [cm] at po'
    cases hg : eg d (wipeE env' vs) with
    | none => rw [hg] at po'; exact po'.elim
    | some e3 =>
      rw [hg] at po'
      dsimp only at po'
      refine sg B _ G2 H2 (wipeE env' vs) e3 (wipe σ vs) d x _ st2 rl2 rx hg fun σ3 rl3 w3 => ⟨(w3 vs hv).trans wipe_wipe, ?_⟩
      have hσ : wipe σ3 vs = wipe σ vs := (w3 vs hv).trans wipe_wipe
      have lσ : σ3.length = σ.length := by
        have := congrArg List.length hσ
        rw [wipe_length, wipe_length] at this
        exact this
      refine htt _ _ _ ⟨B, _, G2, e3, st2, rl3, ?_⟩
      cases ht : et e3 with
      | no => rw [ht] at po'; exact po'.elim
      | ex C fs e4 => rw [ht] at po'; exact po'.elim
      | ok b e4 =>
        rw [ht] at po'
        intro G4 H4 sm4 st4 rl4 c hc
        cases hc
        cases b with
        | false =>
          rw [if_neg (by decide)]
          exact ⟨G4, e4, acc, ws, (sm.trans ex.g).trans sm4, st4, rel_off (rel_wipes rl4) (by rw [wipe_wipe]; exact hσ.symm) (by rw [wipe_length, lσ]), (ra.mono ex.g).mono sm4, po'.up (ex.g.trans sm4)⟩
        | true =>
          rw [if_pos rfl]
          dsimp only at po'
          refine ⟨B, _, G4, e4, st4, rl4, ?_⟩
          cases he : ek e4 with
          | no => rw [he] at po'; exact po'.elim
          | ex C fs e5 => rw [he] at po'; exact po'.elim
          | ok y e5 =>
            rw [he] at po'
            dsimp only at po'
            intro G5 H5 sm5 st5 rl5 v rv
            refine ⟨B, _, G5, e5, st5, rl5, ?_⟩
            cases he2 : ev e5 with
            | no => rw [he2] at po'; exact po'.elim
            | ex C fs e6 => rw [he2] at po'; exact po'.elim
            | ok z e6 =>
              rw [he2] at po'
              dsimp only at po'
              intro G6 H6 sm6 st6 rl6 u ru
              cases hk : keyD y with
              | none => rw [hk] at po'; exact po'.elim
              | some k =>
                rw [hk] at po'
                dsimp only at po'
                by_cases hz : acc.length < 1000000
                · rw [if_pos hz] at po'
                  refine ⟨ws, k, key_rep rv hk, st6.lock _ (List.mem_cons_self ..), len9 (by rw [← hlen]; exact hz), G6, e6, putKD acc k z, putK ws k u, (((sm.trans ex.g).trans sm4).trans sm5).trans sm6, ste_repin st6 hbP hlP (fun _ _ h => by cases h), ?_, repK_put ru ((((ra.mono ex.g).mono sm4).mono sm5).mono sm6), po'.up (((ex.g.trans sm4).trans sm5).trans sm6)⟩
                  exact rel_off (rel_wipes (rel_repin rl6)) (by rw [wipe_wipe]; exact hσ.symm) (by rw [wipe_length, lσ])
                · rw [if_neg hz] at po'
                  exact po'.elim
def xDc (ei : EvI) (eg : Eg) (et : EvT) (ek ev : Ev) (vs : List Nat) : Ev := fun env => (ei env).bind fun ds e => (dcmpL eg et ek ev vs ds [] e).bind fun acc e' => .ok (.dct acc) (wipeE e' vs)
def xDcD (p : Pth) (w : Wk) (eg : Eg) (et : EvT) (ek ev : Ev) (vs : List Nat) : Ev := fun env => match p env with
  | some (d, e) => match dctD d with
    | some kvs => noR ((dcmpL eg et ek ev vs (w.ds kvs) [] e).bind fun acc e' => .ok (.dct acc) (wipeE e' vs))
    | none => .no
  | none => .no
theorem dcD {w : Wk} {pt : Pth} {td : TE} {wi : TI} {tt : TT} {Q : VK} (hw : WkR w td wi) (hp : PthOk K S pt td) (sg : SndG K S gs eg g) (hv : ∀ i ∈ gs, i ∈ vs) (htt : ∀ σ H Q, TB K S E0 et σ H Q → tt σ H Q) (q : TF K S E (xDcD pt w eg et ek ev vs) σ H Q) :
    tDc wi g tt (TD K S E0 ek) (TD K S E0 ev) vs σ H Q ∨ ∃ a u, H a = some u ∧ Mut (some u) ∧ ∀ od, tDc wi g tt (TD K S E0 ek) (TD K S E0 ev) vs σ (upd H a (.frz od u)) fun v H' => H' a = some (.frz od u) ∧ Q v (upd H' a u) := by
  obtain ⟨F, w1, w2⟩ := hw
  obtain ⟨B, L, G, env, st, rl, po⟩ := q
  unfold xDcD at po
  split at po
  · rename_i d e he
    split at po
    · rename_i kvs hd
      obtain ⟨G', v, sm, st', rl', rv, hr⟩ := hp B L G H env e σ d st rl he
      obtain ⟨a, ws, rfl, ga, _, t⟩ := dct_rep st'.inn rv hd
      have po' := po.up sm
      rcases lk_ok st' rl' ga with ⟨hpk, k⟩ | ⟨od, L1, hpk, lk⟩
      · refine .inr ⟨a, .dK ws, hpk, trivial, fun od => ?_⟩
        obtain ⟨L1, lk⟩ := k od
        exact w1 _ _ _ (hr _ _ lk.ne (w2 _ a od ws _ (lk.at_ _ _ lk.st) (dc_core' sg hv htt lk.st lk.rl (wk_ok t lk.at_) (Post.lk lk po' fun G' H' a' e s st h => plc_lk (Q1 := fun v H' => H' a = some (.frz od (.dK ws)) ∧ Q v (upd H' a (.dK ws))) lk (fun _ _ h q => ⟨h, q⟩) s st h))))
      · exact .inl (w1 _ _ _ (hr _ _ lk.ne (w2 _ a od ws _ (lk.at_ _ _ lk.st) (dc_core' sg hv htt lk.st lk.rl (wk_ok t lk.at_) (Post.lk lk po' fun G' H' a' e s st h => plc_lk lk (fun _ _ h q => q) s st h)))))
    · exact po.elim
  · exact po.elim
theorem qf_dcD {ifs : List Expr} {scope : Scope} {own : List (Str × Nat)} {tt : TT} {w : Wk} {pt : Pth} {td : TE} {wi : TI} (hc : X.calm = true) (hN : X.N.Nodup) (hi : PI X tg iter wi) (hw : WkR w td wi) (hp : PthOk X.K S pt td) (ok : BlkOk X.N X.env.scope scope own) (hvs : own.map (·.2) = vs)
    (hg : ∀ (s : Shared) (H : Hp) (C : Addr) (cl : List (Str × Addr)) (fp : List Addr), PG (X.blk s H scope (compEnvC scope cl C X.env) fp) tg g) (sg : SndG X.K S gs eg g) (hv : ∀ i ∈ gs, i ∈ vs)
    (ht : ∀ (s : Shared) (H : Hp) (C : Addr) (cl : List (Str × Addr)) (fp : List Addr), PTs (X.blk s H scope (compEnvC scope cl C X.env) fp) ifs tt) (htt : ∀ σ H Q, TB X.K S E0 et σ H Q → tt σ H Q)
    (hk : ∀ (s : Shared) (H : Hp) (C : Addr) (cl : List (Str × Addr)) (fp : List Addr), QE S (X.blk s H scope (compEnvC scope cl C X.env) fp) E0 kx ek) (he : ∀ (s : Shared) (H : Hp) (C : Addr) (cl : List (Str × Addr)) (fp : List Addr), QE S (X.blk s H scope (compEnvC scope cl C X.env) fp) E0 vx ev) (hs : ∀ x, foldedSetIterable iter X.env x = pure x := by intro _; rfl) :
    QF S X E (.DictComp kx vx [⟨tg, iter, ifs, 0⟩] scope pos) (xDcD pt w eg et ek ev vs) := by
  subst hvs
  exact pe_of (e_lk (pe_dc hc hN hi ok hg ht hk he hs)) fun _ _ _ q => dcD hw hp sg hv htt q
theorem qf_dc {ifs : List Expr} {scope : Scope} {own : List (Str × Nat)} {tt : TT} (hc : X.calm = true) (hN : X.N.Nodup) (hi : QI S X E tg iter ei) (ok : BlkOk X.N X.env.scope scope own) (hvs : own.map (·.2) = vs)
    (hg : ∀ (s : Shared) (H : Hp) (C : Addr) (cl : List (Str × Addr)) (fp : List Addr), PG (X.blk s H scope (compEnvC scope cl C X.env) fp) tg g) (sg : SndG X.K S gs eg g) (hv : ∀ i ∈ gs, i ∈ vs)
    (ht : ∀ (s : Shared) (H : Hp) (C : Addr) (cl : List (Str × Addr)) (fp : List Addr), PTs (X.blk s H scope (compEnvC scope cl C X.env) fp) ifs tt) (htt : ∀ σ H Q, TB X.K S E0 et σ H Q → tt σ H Q)
    (hk : ∀ (s : Shared) (H : Hp) (C : Addr) (cl : List (Str × Addr)) (fp : List Addr), QE S (X.blk s H scope (compEnvC scope cl C X.env) fp) E0 kx ek) (he : ∀ (s : Shared) (H : Hp) (C : Addr) (cl : List (Str × Addr)) (fp : List Addr), QE S (X.blk s H scope (compEnvC scope cl C X.env) fp) E0 vx ev) (hs : ∀ x, foldedSetIterable iter X.env x = pure x := by intro _; rfl) :
    QF S X E (.DictComp kx vx [⟨tg, iter, ifs, 0⟩] scope pos) (xDc ei eg et ek ev vs) := by
  subst hvs
  exact pe_of (pe_dc hc hN hi ok hg ht hk he hs) fun σ H Q ⟨B, L, G, env, st, rl, po⟩ => ⟨B, L, G, env, st, rl, po.then fun G1 H1 ds e1 sm1 st1 rl1 p1 J hJ => dc_core' sg hv htt st1 rl1 hJ p1⟩
end
end
end Dv
namespace Dv
open PySem PySem.Spec PyProof.Rows L2
set_option autoImplicit false
noncomputable section
/-! ### texts: f-strings, join -/
def xFmt (a : Ev) : Ev := fun env => (a env).bind fun x e => match x with
  | .str s => if s.length ≤ 1000000 then .ok (.str s) e else .no
  | .int i => if i.natAbs.log2 < 1920 then .ok (.str (toString i)) e else .no
  | _ => .no
abbrev EvJ := Str → Env → Res Str
def jNil : EvJ := fun acc env => .ok acc env
def jCons (a : Ev) (r : EvJ) : EvJ := fun acc env => (a env).bind fun x e => match x with
  | .str y => if (acc ++ y).length ≤ 1000000 then r (acc ++ y) e else .no
  | _ => .no
def xJoined (f : EvJ) : Ev := fun env => (f Str.empty env).bind fun s e => .ok (.str s) e
def strL : List D → Option (List Str)
  | [] => some []
  | .str s :: r => (strL r).map (s :: ·)
  | _ => none
def xJoin (a l : Ev) : Ev := fun env => (a env).bind fun x e1 => match x with
  | .str s => (l e1).bind fun y e2 => match seqD y with
    | some ds => match strL ds with
      | some ys => if (ys.map (·.length)).sum + ys.length * s.length ≤ 1000000 then .ok (.str (Txt.join s ys)) e2 else .no
      | none => .no
    | none => .no
  | _ => .no
section
variable {K : PySem.W.Frag} {S : Nat → Addr} {X : Cx} {E : XK} {a e l : Expr} {es : List Expr} {ea ee el : Ev} {f : EvJ} {pos apos : Pos}
theorem line10' {n : Nat} (h : n ≤ 1000000) : n ≤ sizeLine := by
  have : sizeLine = 16777216 := sizeLine_eq
  omega
theorem q_fmt (h : QE S X E e ee) : QE S X E (.FormattedValue e (-1) none pos) (xFmt ee) := pe_of (pe_fmt h) fun σ H Q ⟨B, L, G, env, st, rl, po⟩ => ⟨B, L, G, env, st, rl, po.then fun G1 H1 x e1 sm1 st1 rl1 p1 v rv => by
  split at p1
  · rename_i s
    split at p1
    · rename_i hs
      exact .inl ⟨s, rv, line10' hs, p1 G1 H1 (.refl _) st1 rl1 _ rfl⟩
    · exact p1.elim
  · rename_i i
    split at p1
    · rename_i hs
      exact .inr ⟨i, rv, hs, p1 G1 H1 (.refl _) st1 rl1 _ rfl⟩
    · exact p1.elim
  · exact p1.elim⟩
def QJ (S : Nat → Addr) (X : Cx) (E : XK) (es : List Expr) (f : EvJ) : Prop := ∃ ts, PJ X es ts ∧ ∀ (acc : Str) (σ : L2.St) (H : Hp) (Q : Str → Hp → Prop), Tx X.K S E (fun _ _ b c => b = c) (f acc) σ H Q → tJs ts acc σ H Q
theorem j_nil : QJ S X E [] jNil := ⟨[], .nil, fun acc σ H Q ⟨B, L, G, env, st, rl, po⟩ => po G H (.refl _) st rl acc rfl⟩
theorem j_cons (h : QE S X E e ee) (hr : QJ S X E es f) : QJ S X E (e :: es) (jCons ee f) := by
  obtain ⟨ts, p, k⟩ := hr
  refine ⟨_, .cons h p, fun acc σ H Q ⟨B, L, G, env, st, rl, po⟩ => ⟨B, L, G, env, st, rl, po.then fun G1 H1 x e1 sm1 st1 rl1 p1 v rv => ?_⟩⟩
  split at p1
  · rename_i y
    split at p1
    · rename_i hs
      exact ⟨y, rv, line10' hs, k _ _ _ _ ⟨B, L, G1, e1, st1, rl1, p1⟩⟩
    · exact p1.elim
  · exact p1.elim
theorem q_joined {v1 v2 : Expr} {rest : List Expr} (h : QJ S X E (v1 :: v2 :: rest) f) : QE S X E (.JoinedStr (v1 :: v2 :: rest) pos) (xJoined f) := by
  obtain ⟨ts, p, k⟩ := h
  exact pe_of (pe_joined p) fun σ H Q ⟨B, L, G, env, st, rl, po⟩ => k _ _ _ _ ⟨B, L, G, env, st, rl, po.then fun G1 H1 x e1 sm1 st1 rl1 p1 v rv => by
    subst rv
    exact p1 G1 H1 (.refl _) st1 rl1 _ rfl⟩
theorem q_joined1 (h : QE S X E e ee) : QE S X E (.JoinedStr [e] pos) ee := pe_joined1 h
theorem strL_ok {G : Hp} : ∀ {ds : List D} {vs : List V} {ys : List Str}, RepL K S G ds vs → strL ds = some ys → vs = ys.map V.str
  | [], _, ys, t, e => by cases t; cases e; rfl
  | x :: r, _, ys, ⟨v, ws, e1, q, t⟩, e => by
    subst e1
    cases x with
    | str s =>
      obtain ⟨zs, h1, h2⟩ := Option.map_eq_some_iff.mp (show (strL r).map (s :: ·) = some ys from e)
      subst h2
      cases q
      rw [strL_ok t h1]
      rfl
    | _ => cases e
theorem q_join (ho : QE S X E a ea) (hl : QE S X E l el) (hs : starEach [l] X.env = [(false, eval l X.env)] := by rfl) (hbase : attributeBase a "join" X.env (eval a X.env) = eval a X.env := by rfl) (hline : (apos.endLine == pos.line) = true := by rfl) : QE S X E (.Call (.Attribute a "join" apos) [l] [] pos) (xJoin ea el) := pe_of (pe_join ho hl hs hbase hline) fun σ H Q ⟨B, L, G, env, st, rl, po⟩ => ⟨B, L, G, env, st, rl, po.then fun G1 H1 x e1 sm1 st1 rl1 p1 v rv => by
  split at p1
  · rename_i s
    refine ⟨⟨s, rv⟩, B, L, G1, e1, st1, rl1, p1.then fun G2 H2 y e2 sm2 st2 rl2 p2 w rw' => ?_⟩
    split at p2
    · rename_i ds hd
      split at p2
      · rename_i ys hy
        split at p2
        · rename_i hz
          obtain ⟨q, vs, rfl, hq, t⟩ := seq_sq rw' hd
          have := strL_ok t hy
          subst this
          exact ⟨s, q, ys, rv, rfl, hq.elim (fun h => .inl (st2.inn.seq h)) (fun h => .inr (st2.inn.tup h)), by omega, p2 G2 H2 (.refl _) st2 rl2 _ rfl⟩
        · exact p2.elim
      · exact p2.elim
    · exact p2.elim
  · exact p1.elim⟩
end
end
end Dv
namespace Dv
open PySem PySem.Spec PyProof.Rows L2
set_option autoImplicit false
noncomputable section
/-! ### x == y, x != y by the class's own __eq__, any answer -/
structure EqOf (K : PySem.W.Frag) (C f : Addr) : Prop where
  eq : PySem.W.findIn K (.ref C) "__eq__" = some (some (.ref f))
  ne : PySem.W.findIn K (.ref C) "__ne__" = some (some (.builtin "object.__ne__"))
  fn : PySem.W.isFn K (.ref f) = true
  ob : PySem.W.subIn K (.ref C) (.type "object") = some true
/-- what may stand on the right -/
def YT (K : PySem.W.Frag) (C : Addr) (H : Hp) (y : V) : Prop := (∃ b dy gs, y = .ref b ∧ H b = some (.ins C dy gs)) ∨ (∃ i, y = .int i ∧ PySem.W.subIn K (.type "int") (.ref C) = some false)
def rOwn (K : PySem.W.Frag) (C : Addr) (sp : Sp) (E : XK) (neg : Bool) : R2 := fun x y H Q => ∃ a dx fs, x = .ref a ∧ H a = some (.ins C dx fs) ∧ YT K C H y ∧ sp [x, y] H (fun v H' => ∃ b, v = .bl b ∧ Q (.bl (if neg then !b else b)) H') E
section
variable {X : Cx} {pins : List (Addr × Obj)} {σ : L2.St} {H : Hp} {s : Shared} {C f : Addr} {fd : FuncData} {ps : List Str} {sp : Sp} {CX : CXT} {n : Nat} {E : XK}
theorem yt_looks (I : Inv X pins σ H s) {y : V} {u : Value} (ry : RelV y u) (h : YT X.K C H y) : ∃ tb, PySem.W.Looks (model X.prog X.w) s.heap (typeOf u) tb ∧ PySem.W.notFirst X.K C tb = true := by
  rcases h with ⟨b, dy, gs, rfl, hb⟩ | ⟨i, rfl, hs⟩
  · cases ry
    obtain ⟨mB, J, _⟩ := ins_get I.hok hb
    obtain ⟨od, J, _⟩ := J.look
    exact ⟨.ref C, J.type, by simp [PySem.W.notFirst]⟩
  · obtain ⟨t, rfl⟩ := ry
    refine ⟨.type "int", PySem.W.Looks.of_pure rfl, ?_⟩
    unfold PySem.W.notFirst
    rw [hs]
    simp
/-- the own def runs at A -/
theorem own_run {A : Around} {neg : Bool} (F : FnOk X.prog X.w X.K X.mg X.base CX n f fd ps sp) (hb : Binds X.K fd ps []) (hx : Passes CX X E) (hr : Room n A) (hfr : A.frames = X.A.frames) (I : Inv X pins σ H s) {x y : V} {v u : Value} (rx : RelV x v) (ry : RelV y u) {Q : VK}
    (h : sp [x, y] H (fun z H' => ∃ b, z = .bl b ∧ Q (.bl (if neg then !b else b)) H') E) :
    wpAny (model X.prog X.w) A (call (.ref f) [v, u]) (fun r s' => ∃ b, r = .bool b ∧ EP X pins σ Q (.bool (if neg then !b else b)) s') X.xe s := by
  have e := I.env0
  have e0 : Env0 X.prog X.w X.K X.mg X.base A X.stack s H := ⟨hfr.trans e.frames, e.mod, e.bs, e.bsz, e.funs, e.frf, e.hok, e.bare⟩
  have hl := F.len _ _ _ _ h
  have r2 : Vals [x, y] [v, u] := .cons rx (.cons ry .nil)
  have hbb := hb s [v, u] I.kIn (by simpa using hl)
  refine wpAny_call (codeAny_mono (F.run A X.stack s H ⟨[v, u], []⟩ [v, u] [x, y] _ E hr e0 (by simpa using hbb) r2 h) fun r s' hq => ?_)
  match r, hq with
  | .error e, hq => exact hx pins σ H s e s' I hq
  | .ok (.ret w), hq =>
    obtain ⟨z, H', I', rz, b, ez, q⟩ := I.after hq
    subst ez
    cases rz
    exact ⟨b, rfl, .bl (if neg then !b else b), H', I', rfl, q⟩
  | .ok .next, hq => exact False.elim hq
  | .ok .brk, hq => exact False.elim hq
  | .ok .cont, hq => exact False.elim hq
theorem op_ownEq (O : EqOf X.K C f) (F : FnOk X.prog X.w X.K X.mg X.base CX n f fd ps sp) (hb : Binds X.K fd ps []) (hx : Passes CX X E) (hr : Room n X.A) : OpR X (compareOp .Eq) (rOwn X.K C sp E false) := by
  intro pins s σ H x y v u Q I rx ry h
  obtain ⟨a, dx, fs, rfl, ha, yt, q⟩ := h
  obtain ⟨tb, lk, nf⟩ := yt_looks I ry yt
  obtain rfl : v = Value.ref a := rx
  obtain ⟨mA, J, _⟩ := ins_get I.hok ha
  obtain ⟨od, J, _⟩ := J.look
  obtain ⟨m, hF⟩ := I.fr
  show wpAny (model X.prog X.w) X.A (richCompare .Eq (.ref a) u) (EP X pins σ Q) X.xe s
  refine PySem.W.cmp_K (op := .Eq) (tb := tb) hr.units0 hF I.ok.mod.kin J lk nf O.eq O.fn (wpAny_mono (own_run (neg := false) F hb hx hr rfl I (x := .ref a) (v := .ref a) rfl ry q) (fun r s' hq => ?_) fun _ _ z => z)
  obtain ⟨b, rfl, hq⟩ := hq
  exact hq
theorem slot_ne : Slot "object" "__ne__" "object.__ne__" :=
  Slot.of (T := "object") (name := "__ne__") (owner := "object") (n := "__ne__") (by rw [typeLookup_type, builtinLookup_eq_fast]; kernel_rfl) (by decide +kernel) (by decide +kernel) (by decide +kernel)
    (.inl (by decide +kernel)) (by rw [isSubtype_type]; kernel_rfl)
/-- object.__ne__ over an own __eq__ -/
theorem ne_entry {A : Around} {a : Addr} {u : Value} {ox : Obj} {od : Option Obj} {Q : PySem.Fin → Shared → Prop} (O : EqOf X.K C f) (KX : X.K.In s.heap) (J : PySem.W.InstAt s.heap a ox C od) (hu : A.units < cLine)
    (hc : wpAny (model X.prog X.w) A (call (.ref f) [.ref a, u]) (fun r s' => ∃ b, r = .bool b ∧ Q (.done (.ret (.bool (!b)))) s') X.xe s) :
    wpAny (model X.prog X.w) A (Builtin.«object.__ne__» ⟨[.ref a, u], []⟩) Q X.xe s := by
  unfold Builtin.«object.__ne__»
  refine wpAny_bind (m := slotArgs "__ne__" 1 _) (wpAny_pure ?_)
  refine wpAny_bind (m := cRoomFor _ _) (wpAny_cRoomFor hu ?_)
  refine wpAny_bind (m := callSpecialIfBound? (.ref a) (Str.ofString "__eq__") [u]) (PySem.W.ifBound_K KX J O.eq O.fn (wpAny_mono hc (fun r s' hq => ?_) fun _ _ e => e))
  obtain ⟨b, rfl, hq⟩ := hq
  refine wpAny_bind (m := truthy (.bool b)) (wpAny_truthy_bool ?_)
  exact wpAny_pure hq
theorem op_ownNe (O : EqOf X.K C f) (F : FnOk X.prog X.w X.K X.mg X.base CX n f fd ps sp) (hb : Binds X.K fd ps []) (hx : Passes CX X E) (hr : Room (n + 1) X.A) : OpR X (compareOp .NotEq) (rOwn X.K C sp E true) := by
  intro pins s σ H x y v u Q I rx ry h
  obtain ⟨a, dx, fs, rfl, ha, yt, q⟩ := h
  obtain ⟨tb, lk, nf⟩ := yt_looks I ry yt
  obtain rfl : v = Value.ref a := rx
  obtain ⟨mA, J, _⟩ := ins_get I.hok ha
  obtain ⟨od, J, _⟩ := J.look
  have KX := I.kIn
  show wpAny (model X.prog X.w) X.A (richCompare .NotEq (.ref a) u) (EP X pins σ Q) X.xe s
  have one : wpAny (model X.prog X.w) X.A (tryCompare (.ref a) "__ne__" u) (fun r s' => ∃ z, r = some z ∧ EP X pins σ Q z s') X.xe s := by
    unfold tryCompare
    refine wpAny_bind ?_
    simp only [callSpecialIfBound?, bindSpecialIfBound?]
    refine wpAny_holding (wpAny_bind (wpAny_bind (wpAny_bind (J.type.here ((PySem.W.looks_findIn KX O.ne).here ?_)))))
    refine wpAny_bind (wpAny_askSetting (wpAny_ite ?_))
    have fin : wpAny (model X.prog X.w) X.A (call (.builtin "object.__ne__") ([.ref a] ++ [u]) >>= fun v => pure (some v)) (fun r s' => wpAny (model X.prog X.w) X.A (match r with
        | some .notImplemented | none => pure none
        | some v => pure (some v)) (fun r s' => ∃ z, r = some z ∧ EP X pins σ Q z s') X.xe s') X.xe s := by
      refine wpAny_bind (wpAny_call (codeAny_call_builtin slot_ne.plain PySem.F.cmpEntry_ne (PySem.W.check_slot PySem.F.cmpKind_ne PySem.F.cmpSplit_ne ?_ (PySem.F.cmpArgs_ne _ _) (ne_entry O KX J (show X.A.in1.units < cLine from hr.in1.units0) (wpAny_mono (own_run (neg := true) F hb hx hr.in1 rfl I (x := .ref a) (v := .ref a) rfl ry q) (fun r s' hq => ?_) fun _ _ z => z)))))
      · exact (J.type.andThen (PySem.W.looks_subIn KX O.ob))
      · obtain ⟨b, rfl, hq⟩ := hq
        exact ⟨b, rfl, wpAny_pure (wpAny_pure ⟨_, rfl, hq⟩)⟩
    split
    · rw [slot_ne.bind]
      exact wpAny_bind (wpAny_pure (wpAny_pure fin))
    · rw [slot_ne.bind]
      exact wpAny_tryCatch (wpAny_bind (wpAny_pure (wpAny_pure fin)))
  have out : ∀ {t : Sem (Option Value)}, wpAny (model X.prog X.w) X.A t (fun r s' => ∃ z, r = some z ∧ EP X pins σ Q z s') X.xe s → ∀ (g : Option Value → Sem Value), (∀ z, g (some z) = pure z) → wpAny (model X.prog X.w) X.A (t >>= g) (EP X pins σ Q) X.xe s :=
    fun h g hg => wpAny_bind (wpAny_mono h (fun r s' ⟨z, e, hq⟩ => by subst e; rw [hg]; exact wpAny_pure hq) fun _ _ e => e)
  unfold richCompare
  simp only [oneThing_ref]
  refine wpAny_holding (wpAny_bind (wpAny_cRoomFor hr.units0 (wpAny_bind (J.type.here (wpAny_bind (lk.here ?_))))))
  split
  next hq =>
    have hsub : PySem.W.subIn X.K tb (.ref C) = some false := by
      unfold PySem.W.notFirst at nf
      cases ht : tb == Value.ref C with
      | true => rw [beq_iff_eq.mp ht] at hq; simp at hq
      | false => rw [ht] at nf; simpa using nf
    refine wpAny_bind ((PySem.W.looks_subIn KX hsub).here ?_)
    rw [if_neg Bool.false_ne_true]
    exact out one _ fun _ => rfl
  next =>
    refine wpAny_bind (wpAny_pure ?_)
    rw [if_neg Bool.false_ne_true]
    exact out one _ fun _ => rfl
end
end
end Dv
namespace Dv
open PySem PySem.Spec PyProof.Rows L2
set_option autoImplicit false
noncomputable section
/-! ### repr of data, of a dict of data -/
/-- room for what is shown -/
def okShow (d : PyData) : Bool := d.showable && d.leavesShort 13 && decide (d.weight ≤ 2 ^ 20) && decide (d.depth ≤ 60)
theorem okShow.s {d : PyData} (h : okShow d = true) : d.showable = true ∧ d.shown.length ≤ sizeLine ∧ d.depth ≤ 60 := by
  unfold okShow at h
  simp only [Bool.and_eq_true, decide_eq_true_eq] at h
  exact ⟨h.1.1.1, PyData.shown_fits (B := 13) (by decide) (by decide) h.1.1.2 h.1.2, h.2⟩
def keyP : Key → PyData
  | .inl i => .int i
  | .inr z => .str z
/-- a dict's pairs as data -/
def DpK (K : PySem.W.Frag) (H : Hp) : List (Key × V) → List (Key × PyData) → Prop := Paired fun p q => p.1 = q.1 ∧ Dp K H p.2 q.2
def pyK (kds : List (Key × PyData)) : PyData := .dict (kds.map fun q => (keyP q.1, q.2))
def rRepr (K : PySem.W.Frag) : List V → Hp → VK → Prop := fun vs H Q => ∃ v, vs = [v] ∧
  ((∃ d, Dp K H v d ∧ okShow d = true ∧ Q (.str d.shown) H) ∨ ∃ a kvs kds, v = .ref a ∧ Rd H a (.dK kvs) ∧ DpK K H kvs kds ∧ okShow (pyK kds) = true ∧ Q (.str (pyK kds).shown) H)
mutual
theorem Dp.noDict {K : PySem.W.Frag} {H : Hp} : ∀ (d : PyData) (v : V), Dp K H v d → d.hasDict = false
  | .none, _, _ => rfl
  | .bool _, _, _ => rfl
  | .int _, _, _ => rfl
  | .str _, _, _ => rfl
  | .list ds, _, h => by
    cases h with
    | lst hs ha =>
      rw [PyData.hasDict]
      exact Dp.noDictAll ds _ ha
  | .tuple ds, _, h => by
    cases h with
    | tup hs ha =>
      rw [PyData.hasDict]
      exact Dp.noDictAll ds _ ha
  | .dict _, _, h => by cases h
theorem Dp.noDictAll {K : PySem.W.Frag} {H : Hp} : ∀ (ds : List PyData) (vs : List V), DpAll K H vs ds → PyData.hasDictAll ds = false
  | [], _, _ => rfl
  | d :: ds, _, h => by
    cases h with
    | cons h1 h2 => rw [PyData.hasDictAll, Dp.noDict d _ h1, Dp.noDictAll ds _ h2]; rfl
end
section
variable {X : Cx} {pins : List (Addr × Obj)} {σ : L2.St} {H : Hp} {s : Shared}
theorem key_reads {P : Program} {w : World} {h : Heap} {k : Key} {u : Value} (e : (mixKind P w).is k u = true) : Reads h u (keyP k) [] := by
  rcases keyIs_shape (show keyIs k u = true from e) with ⟨i, t, rfl, rfl⟩ | ⟨x, t, rfl, rfl⟩
  · exact .int i t
  · exact .str x t
/-- the entries of a dict, read -/
theorem ents_reads (I : Inv X pins σ H s) : ∀ {es : List DictEntry} {vs : List (Key × Value)} {kvs : List (Key × V)} {kds : List (Key × PyData)}, Pairs (mixKind X.prog X.w) es vs → KV kvs vs → DpK X.K H kvs kds →
    ∃ as, ReadsAll s.heap (es.map (·.key)) ((kds.map fun q => (keyP q.1, q.2)).map (·.1)) [] ∧ ReadsAll s.heap (es.map (·.val)) ((kds.map fun q => (keyP q.1, q.2)).map (·.2)) as := by
  intro es vs kvs kds p
  induction p generalizing kvs kds with
  | nil =>
    intro r d
    cases r
    cases d
    exact ⟨[], .nil, .nil⟩
  | cons h1 h2 _ ih =>
    intro r d
    cases r with
    | cons r1 r2 =>
      cases d with
      | cons d1 d2 =>
        obtain ⟨as, q1, q2⟩ := ih r2 d2
        obtain ⟨bs, q3⟩ := Dp.reads I _ _ _ d1.2 r1.2
        refine ⟨bs ++ as, ?_, ?_⟩
        · refine ReadsAll.cons (as := []) (bs := []) ?_ q1
          have h3 := key_reads (h := s.heap) h1
          rw [← r1.1, d1.1] at h3
          exact h3
        · exact ReadsAll.cons (by rw [← h2] at q3; exact q3) q2
theorem dictV_noDict {K : PySem.W.Frag} : ∀ {kvs : List (Key × V)} {kds : List (Key × PyData)}, DpK K H kvs kds → PyData.hasDictAll ((kds.map fun q => (keyP q.1, q.2)).map (·.2)) = false ∧ PyData.hasDictAll ((kds.map fun q => (keyP q.1, q.2)).map (·.1)) = false
  | _, _, .nil => ⟨rfl, rfl⟩
  | _, _, .cons (b := q) h t => by
    obtain ⟨t1, t2⟩ := dictV_noDict t
    refine ⟨?_, ?_⟩
    · show (PyData.hasDict q.2 || PyData.hasDictAll _) = false
      rw [Dp.noDict _ _ h.2, t1]
      rfl
    · show (PyData.hasDict (keyP q.1) || PyData.hasDictAll _) = false
      rw [t2]
      cases q.1 <;> rfl
theorem call_reprD (hg : X.A.guards = some []) (hu : X.A.units + 80 < cLine) : CallR X (.builtin "repr") (rRepr X.K) := by
  intro pins s σ H xs us Q I r h
  obtain ⟨v, rfl, h⟩ := h
  cases r with
  | cons rv rt =>
    cases rt
    rcases h with ⟨d, hd, ok, q⟩ | ⟨a, kvs, kds, rfl, he, hk, ok, q⟩
    · obtain ⟨os, oz, od⟩ := okShow.s ok
      obtain ⟨as, rd⟩ := Dp.reads I d _ _ hd rv
      cases hd with
      | non =>
        cases rv
        simp only [PyData.shown] at q
        exact PySem.P.repr_of_none ⟨.str _, H, I.tok _, ⟨_, rfl⟩, q⟩
      | bl b =>
        cases rv
        simp only [PyData.shown] at q
        exact PySem.P.repr_of_bool ⟨.str _, H, I.tok _, ⟨_, rfl⟩, q⟩
      | int i =>
        obtain ⟨t, rfl⟩ := rv
        have os' : i.natAbs.log2 < 1920 := by simpa [PyData.showable] using os
        simp only [PyData.shown] at q
        exact PySem.P.repr_of_int os' ⟨.str _, H, I.tok _, ⟨_, rfl⟩, q⟩
      | str x =>
        obtain ⟨t, rfl⟩ := rv
        simp only [PyData.shown] at q
        exact PySem.P.repr_of_str ⟨.str _, H, I.tok _, ⟨_, rfl⟩, q⟩ (by simpa only [PyData.shown] using oz)
      | lst hs ha =>
        cases rv
        refine repr_of_reads' rd os (fun e => by rw [Dp.noDict _ _ (Dp.lst hs ha)] at e; cases e) hg (by omega) (fun _ _ e => e) (fun h' u tk hk => ?_) oz
        exact ⟨.str _, H, I.kept (t' := tk) hk, ⟨_, rfl⟩, q⟩
      | tup hs ha =>
        cases rv
        refine repr_of_reads' rd os (fun e => by rw [Dp.noDict _ _ (Dp.tup hs ha)] at e; cases e) hg (by omega) (fun _ _ e => e) (fun h' u tk hk => ?_) oz
        exact ⟨.str _, H, I.kept (t' := tk) hk, ⟨_, rfl⟩, q⟩
    · obtain ⟨os, oz, od⟩ := okShow.s ok
      cases rv
      obtain ⟨_, hsys, vs, rel, o, es, ep, ho, hex, hdt, _, hp, _⟩ := dk_rd I.hok he
      obtain ⟨as, q1, q2⟩ := ents_reads I hp rel hk
      obtain ⟨n1, n2⟩ := dictV_noDict hk
      have rd : Reads s.heap (.ref a) (pyK kds) (a :: [] ++ as) := Reads.dict ho hex.1 hdt q1 q2
      unfold pyK at os oz od q
      generalize hkk : (kds.map fun q => (keyP q.1, q.2)) = kk at *
      rw [show pyK kds = .dict kk by unfold pyK; rw [hkk]] at rd
      have hz' : (dictText (PyData.shownKv kk)).length ≤ sizeLine := by simpa only [PyData.shown] using oz
      obtain ⟨hs1, hs2⟩ := PyData.showableKv_split kk (by simpa [PyData.showable] using os)
      obtain ⟨b1, hb1, k1⟩ := ReprAllK.of_readsAll (prog := X.prog) (w := X.w) q1 hs1 (fun hx => by rw [n2] at hx; cases hx) (fun t ht => let ⟨p, hp, hl⟩ := PyData.shownKv_key_le kk t ht; Nat.le_trans hl (Nat.le_trans (dictText_mem_le hp) hz'))
      obtain ⟨b2, hb2, k2⟩ := ReprAllK.of_readsAll (prog := X.prog) (w := X.w) q2 hs2 (fun hx => by rw [n1] at hx; cases hx) (fun t ht => let ⟨p, hp, hl⟩ := PyData.shownKv_val_le kk t ht; Nat.le_trans hl (Nat.le_trans (dictText_mem_le hp) hz'))
      have hb : ReadAtMost s.heap (PyData.depthKv kk) (b1 ++ b2) := (hb1.mono (PyData.depthAll_keys_le kk)).append (hb2.mono (PyData.depthAll_vals_le kk))
      have hna : a ∉ b1 ++ b2 := not_mem_of_deeper rd (by simp only [PyData.depth]; omega) hb
      simp only [PyData.depth] at od
      simp only [PyData.shown, PyData.shownKv_eq] at q
      refine call_repr_slot (by omega) ⟨o, ho, hex.1⟩ PySem.F.slot_dict_repr ?_
      refine call_dict_reprK ho hex.1 hdt hsys hna (ReprEntriesK.of_two es.toList _ _ (k1.more_le (fun b hb => List.mem_append_left _ hb) (PyData.depthAll_keys_le kk)) (k2.more_le (fun b hb => List.mem_append_right _ hb) (PyData.depthAll_vals_le kk)))
        (g := []) hg (fun b _ => Clear.nil b) (by show X.A.units + 1 + _ < cLine; omega) (fun _ _ e => e) (fun h' u tk hk => ⟨_, _, rfl, ?_⟩) (by rw [← PyData.shownKv_eq]; exact hz')
      exact ⟨.str _, H, I.kept (t' := tk) hk, ⟨_, rfl⟩, q⟩
end
end
end Dv
namespace Dv
open PySem PySem.Spec PyProof.Rows L2
set_option autoImplicit false
noncomputable section
/-! ### repr and == of dicts, on trees -/
def datK : List (Key × D) → Option (List (Key × PyData))
  | [] => some []
  | p :: r => match dat p.2, datK r with
    | some a, some l => some ((p.1, a) :: l)
    | _, _ => none
section
variable {K : PySem.W.Frag} {S : Nat → Addr}
theorem datK_ok {G H : Hp} (i : Inn G H) : ∀ {kvs : List (Key × D)} {ws : List (Key × V)} {kds : List (Key × PyData)}, RepK K S G kvs ws → datK kvs = some kds → DpK K H ws kds
  | [], _, _, r, e => by
    cases e
    cases r
    exact .nil
  | p :: kvs, _, kds, ⟨v, ws, e1, q, r⟩, e => by
    subst e1
    have e : (match dat p.2, datK kvs with
      | some a, some l => some ((p.1, a) :: l)
      | _, _ => none) = some kds := e
    split at e
    · rename_i a l h1 h2
      cases e
      exact .cons ⟨rfl, dat_ok i q h1⟩ (datK_ok i r h2)
    · cases e
def fRepr : FC := fun xs => match xs with
  | [x] => match dat x with
    | some d => if okShow d = true then some (.str d.shown) else none
    | none => match x with
      | .dct kvs => match datK kvs with
        | some kds => if okShow (pyK kds) = true then some (.str (pyK kds).shown) else none
        | none => none
      | _ => none
  | _ => none
theorem sc_repr : SCl K S fRepr (rRepr K) := fun G H xs d vs Q i r e k => by
  match xs, r, e with
  | [], r, e => cases e
  | _ :: _ :: _, r, e => cases e
  | [x], r, e =>
    obtain ⟨v, rfl, rx⟩ := r.one
    refine ⟨v, rfl, ?_⟩
    unfold fRepr at e
    dsimp only at e
    split at e
    · rename_i dd hd
      split at e
      · rename_i ok
        cases e
        exact .inl ⟨dd, dat_ok i rx hd, ok, k G H _ (.refl i) rfl⟩
      · cases e
    · split at e
      · rename_i kvs
        obtain ⟨a, ws, rfl, g, rk⟩ := rx
        split at e
        · rename_i kds hk
          split at e
          · rename_i ok
            cases e
            exact .inr ⟨a, ws, kds, rfl, i.dct (.inl g), datK_ok i rk hk, ok, k G H _ (.refl i) rfl⟩
          · cases e
        · cases e
      · cases e
end
/-! == of two dicts -/
def findK (k : Key) : List (Key × PyData) → Option PyData
  | [] => none
  | p :: r => if p.1 = k then some p.2 else findK k r
def eqAllK (lds : List (Key × PyData)) : List (Key × PyData) → Bool
  | [] => true
  | p :: r => match findK p.1 lds with
    | some d => PyData.eqv p.2 d && eqAllK lds r
    | none => false
def eqK (kds lds : List (Key × PyData)) : Bool := (kds.length == lds.length) && eqAllK lds kds
def layK (kds : List (Key × PyData)) : Bool := kds.all fun p => SeqAt.shaped p.2
def rEqK (K : PySem.W.Frag) : R2 := fun x y H Q => ∃ a b ks ls kds lds, x = .ref a ∧ y = .ref b ∧ Rd H a (.dK ks) ∧ Rd H b (.dK ls) ∧ DpK K H ks kds ∧ DpK K H ls lds ∧ layK kds = true ∧ layK lds = true ∧ Q (.bl (eqK kds lds)) H
theorem findK_at {K : PySem.W.Frag} {H : Hp} {k : Key} : ∀ {ls : List (Key × V)} {lds : List (Key × PyData)} {vs : List (Key × Value)}, DpK K H ls lds → KV ls vs → layK lds = true →
    (findK k lds = none ∧ valueAt vs k = none) ∨ ∃ d v u, findK k lds = some d ∧ valueAt vs k = some u ∧ RelV v u ∧ Dp K H v d ∧ SeqAt.shaped d = true
  | [], _, _, .nil, .nil, _ => .inl ⟨rfl, rfl⟩
  | p :: ls, q :: lds, r :: vs, .cons h1 h2, .cons r1 r2, hl => by
    have hl2 : (SeqAt.shaped q.2 && lds.all fun p => SeqAt.shaped p.2) = true := hl
    obtain ⟨l1, l2⟩ := Bool.and_eq_true_iff.mp hl2
    by_cases e : q.1 = k
    · refine .inr ⟨q.2, p.2, r.2, if_pos e, ?_, r1.2, h1.2, l1⟩
      have e2 : r.1 = k := by rw [← r1.1, h1.1, e]
      unfold valueAt
      rw [List.find?_cons_of_pos (by simpa using e2)]
      rfl
    · have e2 : ¬ r.1 = k := fun z => e (by rw [← h1.1, r1.1, z])
      have s1 : findK k (q :: lds) = findK k lds := if_neg e
      have s2 : valueAt (r :: vs) k = valueAt vs k := by
        unfold valueAt
        rw [List.find?_cons_of_neg (by simpa using e2)]
      rw [s1, s2]
      exact findK_at h2 r2 l2
section
variable {X : Cx}
theorem hits_of {pins : List (Addr × Obj)} {σ : L2.St} {H : Hp} {s : Shared} (I : Inv X pins σ H s) {A : Around} (hu : A.units + 64 < cLine) {ls : List (Key × V)} {lds : List (Key × PyData)} {vb : List (Key × Value)} (db : DpK X.K H ls lds) (rb : KV ls vb) (lb : layK lds = true) :
    ∀ {ks : List (Key × V)} {kds : List (Key × PyData)} {va : List (Key × Value)}, DpK X.K H ks kds → KV ks va → layK kds = true → PySem.W.KeqHitsP X.prog X.w A s vb va (eqAllK lds kds)
  | [], _, _, .nil, .nil, _ => .nil
  | p :: ks, q :: kds, (k0, v0) :: va, .cons h1 h2, .cons r1 r2, hl => by
    have hl2 : (SeqAt.shaped q.2 && kds.all fun p => SeqAt.shaped p.2) = true := hl
    obtain ⟨l1, l2⟩ := Bool.and_eq_true_iff.mp hl2
    have ek : q.1 = k0 := by rw [← h1.1]; exact r1.1
    have st : eqAllK lds (q :: kds) = match findK q.1 lds with
      | some d => PyData.eqv q.2 d && eqAllK lds kds
      | none => false := rfl
    rw [st, ek]
    rcases findK_at (k := k0) db rb lb with ⟨e1, e2⟩ | ⟨d, v, u, e1, e2, rv, dv, sd⟩
    · rw [e1]
      exact .miss e2
    · rw [e1]
      obtain ⟨as, ra⟩ := Dp.reads I _ _ _ h1.2 r1.2
      obtain ⟨bs, rb'⟩ := Dp.reads I _ _ _ dv rv
      have c1 := SeqAt.canLay_of_shaped l1
      have c2 := SeqAt.canLay_of_shaped sd
      exact .hit e2 (SeqAt.eqAt_reads _ _ A s _ _ _ _ ra rb' c1 c2 (SeqAt.room_of_shaped l1 hu)).eqP (hits_of I hu db rb lb h2 r2 l2)
theorem kv_len {ks : List (Key × V)} {va : List (Key × Value)} (h : KV ks va) : ks.length = va.length := Paired.length h
theorem op_eqK (hu : X.A.units + 80 < cLine) : OpR X (compareOp .Eq) (rEqK X.K) := by
  intro pins s σ H x y v u Q I rx ry h
  obtain ⟨a, b, ks, ls, kds, lds, rfl, rfl, ha, hb, da, db, la, lb, q⟩ := h
  obtain rfl : v = Value.ref a := rx
  obtain rfl : u = Value.ref b := ry
  obtain ⟨_, ya, va, ra, oa⟩ := dk_rd I.hok ha
  obtain ⟨_, yb, vb, rb, ob⟩ := dk_rd I.hok hb
  show wpAny (model X.prog X.w) X.A (richCompare .Eq (.ref a) (.ref b)) _ _ s
  refine PySem.W.rcP_dicts (knd := mixKind X.prog X.w) ya yb oa ob (by omega) (fun _ => hits_of I (A := X.A.in1) (by show X.A.units + 1 + 64 < cLine; omega) db rb lb da ra la) _ _ ?_
  refine ⟨.bl (eqK kds lds), H, I, ?_, q⟩
  have l1 : va.length = kds.length := by rw [← kv_len ra]; exact Paired.length da
  have l2 : vb.length = lds.length := by rw [← kv_len rb]; exact Paired.length db
  show Value.bool _ = Value.bool (eqK kds lds)
  unfold eqK
  rw [l1, l2]
end
section
variable {K : PySem.W.Frag} {S : Nat → Addr}
def oEqK : FO := fun x y => match x, y with
  | .dct a, .dct b => match datK a, datK b with
    | some k, some l => if layK k = true ∧ layK l = true then some (.bl (eqK k l)) else none
    | _, _ => none
  | _, _ => none
theorem so_eqK : SOp K S oEqK (rEqK K) := fun G H x y d v w Q i rx ry e k => by
  unfold oEqK at e
  split at e
  · rename_i a b
    obtain ⟨p, ws, rfl, g, rk⟩ := rx
    obtain ⟨q, us, rfl, g2, rk2⟩ := ry
    split at e
    · rename_i kk ll h1 h2
      split at e
      · rename_i hl
        cases e
        exact ⟨p, q, ws, us, kk, ll, rfl, rfl, i.dct (.inl g), i.dct (.inl g2), datK_ok i rk h1, datK_ok i rk2 h2, hl.1, hl.2, k G H _ (.refl i) rfl⟩
      · cases e
    · cases e
  · cases e
end
end
end Dv
namespace Dv
open PySem PySem.Spec PyProof.Rows L2
set_option autoImplicit false
noncomputable section
/-! ### defs that run where no repr is under way -/
structure FnG (P : Program) (w : World) (K : PySem.W.Frag) (mg : Str → Option Value) (base : Heap) (CX : CXT) (k : Nat) (f : Addr) (fd : FuncData) (ps : List Str) (sp : Sp) : Prop where
  len : ∀ vs H Q E, sp vs H Q E → vs.length = ps.length
  run : ∀ (A : Around), A.guards = some [] → ∀ (outer : List PySem.Env) (s : Shared) (H : Hp) (args : Args) (us : List Value) (vs : List V) (Q : VK) (E : XK), Room k A → Env0 P w K mg base A outer s H → BindsTo s fd args (ps.zip us) → Vals vs us → sp vs H Q E →
    codeAny (model P w) A (.call (.ref f) args) (CR CX outer P w H s Q E) s
section
variable {P : Program} {w : World} {K : PySem.W.Frag} {mg : Str → Option Value} {base : Heap} {CX : CXT} {k : Nat} {f : Addr} {fd : FuncData} {ps N : List Str} {sp : Sp} {x qual : Str} {params : Arguments} {body : List Stmt} {scope : Scope} {dvs : List V} {kws : List (Str × V)}
theorem FnG.of (F : FnOk P w K mg base CX k f fd ps sp) : FnG P w K mg base CX k f fd ps sp := ⟨F.len, fun A _ => F.run A⟩
theorem FnG.mono {j : Nat} (F : FnG P w K mg base CX j f fd ps sp) (h : j ≤ k) : FnG P w K mg base CX k f fd ps sp := ⟨F.len, fun A g outer s H args us vs Q E hr => F.run A g outer s H args us vs Q E (hr.mono h)⟩
/-- what a def's body leaves is the call's end -/
theorem ends_of {A : Around} {cdv : Value} {outer : List PySem.Env} {s s1 : Shared} {H : Hp} {Q : VK} {E : XK} {t : TS} {σ : L2.St} (I : Inv (cxOf CX P w K mg base N qual scope f cdv A outer s H E) [] σ H s1)
    (ht : PSs (cxOf CX P w K mg base N qual scope f cdv A outer s H E) body t) (hq : t { nx := fun _ H' => Q .non H', rt := Q } σ H) :
    wpAny (model P w) (cxOf CX P w K mg base N qual scope f cdv A outer s H E).A (execs body (cxOf CX P w K mg base N qual scope f cdv A outer s H E).env) (fun fl s' => CE outer P w H s Q (match fl with | .ret v => v | _ => .none) s') (cxOf CX P w K mg base N qual scope f cdv A outer s H E).xe s1 := by
  have key : ∀ {σ' : L2.St} {H' : Hp} {s' : Shared} {v : V} {u : Value}, Inv (cxOf CX P w K mg base N qual scope f cdv A outer s H E) [] σ' H' s' → RelV v u → Q v H' → CE outer P w H s Q u s' :=
    fun J r q => ⟨_, _, J.os, J.bare, J.base, J.hok, r, q⟩
  refine wpAny_mono (ht.run [] s1 σ H _ I hq) (fun fl s' z => ?_) fun _ _ z => z
  match fl, z with
  | .ret u, ⟨v, σ', H', J, r, q⟩ => exact key J r q
  | .next, ⟨σ', H', J, q⟩ => exact key (v := V.non) J rfl q
  | .brk, ⟨_, _, _, q⟩ => exact q.elim
  | .cont, ⟨_, _, _, q⟩ => exact q.elim
/-- a def by its body, the guards known -/
theorem okG_of {oc : Value} {od : Option Addr} {dV kV doc pm cdv ct : Value} {an : Option Addr} {osl : Array (Option Value)} (lk : K.lookup f = some ⟨oc, od, .func (PySem.W.fnOf x qual params body scope dV kV doc pm an cdv ct), osl⟩) (hcd : PySem.W.codeIn K cdv qual = true) (S : FnScope N ps scope) (len : ∀ vs H Q E, sp vs H Q E → vs.length = ps.length)
    (hbody : ∀ (A : Around), A.guards = some [] → ∀ (outer : List PySem.Env) (s : Shared) (H : Hp) (vs : List V) (Q : VK) (E : XK), Room k (A.deeper (envOfC qual scope s.heap.objs.size f cdv)) → sp vs H Q E →
      ∃ t, PSs (cxOf CX P w K mg base N qual scope f cdv A outer s H E) body t ∧ t { nx := fun _ H' => Q .non H', rt := Q } (L2.start N vs) H) : FnG P w K mg base CX (k + 1) f (PySem.W.fnOf x qual params body scope dV kV doc pm an cdv ct) ps sp := by
  refine ⟨len, fun A g outer s H args us vs Q E hr e0 hb r hsp => ?_⟩
  have inS : ∀ b o, base.get? b = some o → s.heap.get? b = some o := fun b o e => (e0.bs b o e).1
  have KX : K.In s.heap := e0.mod.kin.keeps inS
  refine codeAny_call_function hr.depth (KX _ _ lk) rfl S.co S.gen rfl (PySem.W.codeRec_of KX hcd) (hb _ _ _ _ (wpAny_newFunctionEnv_cells S.kind (fun y hy => ?_) fun env he s1 ic => ?_))
  · rcases S.par y.1 (List.of_mem_zip (a := y.1) (b := y.2) hy).1 with q | q
    · exact .inl q
    · exact .inr ⟨q, PySem.W.cellsFrom_some _ _ _ (.inl q)⟩
  · subst he
    obtain ⟨t, ht, hq⟩ := hbody A g outer s H vs Q E (hr.deeper _) hsp
    have I : Inv (cxOf CX P w K mg base N qual scope f cdv A outer s H E) [] (L2.start N vs) H s1 := inv_start S hr.hd e0 (len _ _ _ _ hsp) r ic
    exact ⟨(e0.mod.nolimit.keeps inS).keeps ic.toInCall.keep, codeAny_func (ends_of I ht hq)⟩
theorem okG {st : Stmt} (F : Fun K x qual st f fd) (S : FnScope N ps (defScope st)) (len : ∀ vs H Q E, sp vs H Q E → vs.length = ps.length)
    (hbody : ∀ (cdv : Value) (A : Around), A.guards = some [] → ∀ (outer : List PySem.Env) (s : Shared) (H : Hp) (vs : List V) (Q : VK) (E : XK), Room k (A.deeper (envOfC qual (defScope st) s.heap.objs.size f cdv)) → sp vs H Q E →
      ∃ t, PSs (cxOf CX0 P w K mg base N qual (defScope st) f cdv A outer s H E).nox (defBody st) t ∧ t { nx := fun _ H' => Q .non H', rt := Q } (L2.start N vs) H) : FnG P w K mg base CX0 (k + 1) f fd ps sp := by
  obtain ⟨oc, od, kV, doc, pm, an, cdv, ct, osl, rfl, lk, hcd⟩ := F.ex
  refine okG_of lk hcd S len fun A g outer s H vs Q E hr hsp => ?_
  obtain ⟨t, h, q⟩ := hbody cdv A g outer s H vs Q E hr hsp
  exact ⟨t, h.nox, q⟩
end
section
variable {X : Cx} {CX : CXT} {k : Nat} {f : Addr} {fd : FuncData} {ps : List Str} {sp : Sp} {dvs : List V} {ds : List Value} {E : XK} {x : Str} {p pos : Pos} {e : Expr} {es : List Expr} {t : TA}
theorem run_fnG {pins : List (Addr × Obj)} {σ : L2.St} {H : Hp} {s : Shared} {Q : VK} {us : List Value} {vs : List V} (F : FnG X.prog X.w X.K X.mg X.base CX k f fd ps sp) (hg : X.A.guards = some []) (hr : Room k X.A) (hb : Binds X.K fd ps ds) (hd : Vals dvs ds) (hx : Passes CX X E)
    (I : Inv X pins σ H s) (r : Vals vs us) (h : sp (vs ++ dvs) H Q E) : wpAny (model X.prog X.w) X.A (call (.ref f) us) (EP X pins σ Q) X.xe s := by
  have r2 : Vals (vs ++ dvs) (us ++ ds) := r.append hd
  have hl : (us ++ ds).length = ps.length := r2.length.symm.trans (F.len _ _ _ _ h)
  refine wpAny_call (codeAny_mono (F.run X.A hg X.stack s H ⟨us, []⟩ (us ++ ds) (vs ++ dvs) Q E hr I.env0 (hb s us I.kIn hl) r2 h) fun r s' hq => ?_)
  match r, hq with
  | .error e, hq => exact hx pins σ H s e s' I hq
  | .ok (.ret u), hq => exact I.after hq
  | .ok .next, hq => exact hq.elim
  | .ok .brk, hq => exact hq.elim
  | .ok .cont, hq => exact hq.elim
theorem pe_callG (F : FnG X.prog X.w X.K X.mg X.base CX k f fd ps sp) (gd : X.A.guards = some []) (hr : Room k X.A) (hg : Gl X x) (hm : X.mg x = some (.ref f)) (hk : PySem.W.keepIn X.K (.ref f) = true) (hb : Binds X.K fd ps ds) (hd : Vals dvs ds) (hx : Passes CX X E)
    (ha : PA X (e :: es) t) (hdb : (x == ("__debug__" : Str)) = false := by decide) (he : starEach (e :: es) X.env = (false, eval e X.env) :: starEach es X.env := by rfl) (hpl : (backTo pos (starEach es X.env)).any (·.1) = false := by rfl) :
    PE X (.Call (.Name x p) (e :: es) [] pos) (tCall sp dvs E t) := ⟨fun pins s σ H Q I h =>
  wpAny_Call_Name_kw (ld_glob I hg hm (PySem.W.callWith_K (h₀ := X.base) I.ok.mod.kin hk (thn (ha.run pos pins s σ H _ I h) fun us s1 ⟨vs, H1, I1, r, q⟩ => ⟨I1.kIn, run_fnG F gd hr hb hd hx I1 r q⟩) he hpl) hdb)⟩
end
end
end Dv
namespace Dv
open PySem PySem.Spec PyProof.Rows L2
set_option autoImplicit false
noncomputable section
/-! ### a law's end, its def a FnG -/
/-- one object is tracked, no other -/
def trk (a : Addr) (o : Option HO) : Hp := fun b => if b = a then o else none
theorem trk_at {a b : Addr} {o : Option HO} {u : HO} (e : trk a o b = some u) : b = a ∧ o = some u := by
  unfold trk at e
  by_cases h : b = a
  · rw [if_pos h] at e; exact ⟨h, e⟩
  · rw [if_neg h] at e; cases e
theorem trk_none {h : Heap} {a b : Addr} {o : Option HO} (hb : b ≠ a) : trk a o b = none := if_neg hb
/-- what the list at a does not hide -/
theorem ns_hid {h : Heap} {a b : Addr} {o : Option HO} {m : Str → Option Value} {vs : Array Value} (ha : h.get? a = some { cls := .type "list", data := .seq vs }) (n : h.Ns b m) : (hidT h (trk a o)).Ns b m := by
  obtain ⟨oo, es, ep, e, d, r⟩ := n
  refine ⟨oo, es, ep, hidT_get e (if_neg fun q => ?_), d, r⟩
  rw [q, ha] at e
  cases e
  cases d
section
variable {P : Program} {w : World} {K : PySem.W.Frag} {mg mb : Str → Option Value} {k : Nat} {fa a : Addr} {fd : FuncData} {x : Str} {sp : Sp} {s₁ : Shared} {vs : List Value} {ns : List Int}
/-- from the state behind the top, with the script tracked or a part of the module -/
theorem law_from (o : Option HO) (KX : K.In s₁.heap) (hns : s₁.heap.Ns mainGlobals mg) (hb : s₁.heap.Ns builtinsNs mb) (hbb : ∀ x : Str, x ≠ "__name__" → mb x = bootBuiltins x) (hlim : s₁.heap.NoLimit) (hg : s₁.gens = #[])
    (ha : s₁.heap.get? a = some { cls := .type "list", data := .seq vs.toArray }) (hr : Room k callerA) (hK : o ≠ none → K.lookup a = none) (hfz : ∀ u, o = some u → ∃ ob xs, u = .frz ob (.lst xs)) (hok : HOk P w (trk a o) s₁.heap)
    (F : ∀ base : Heap, K.In base → base.Ns mainGlobals mg → FnG P w K mg base CX0 k fa fd [x] sp) (hbind : ∀ (s : Shared) (u : Value), BindsTo s fd ⟨[u], []⟩ [(x, u)])
    (hsp : sp [.ref a] (trk a o) (fun v _ => v = .bl true) fun _ _ _ => False) :
    codeAny (model P w) callerA (.call (.ref fa) ⟨[.ref a], []⟩) (fun r s' => r = .ok (.ret (.bool true)) ∧ OldK s₁.heap s'.heap ∧ s'.os = s₁.os ∧ AllBare s'.gens) s₁ := by
  have KB : K.In (hidT s₁.heap (trk a o)) := fun b ob e => hidT_get (KX b ob e) (by
    by_cases q : b = a
    · cases ho : o with
      | none => unfold trk; rw [ite_self]
      | some u => rw [q, hK (by rw [ho]; exact Option.some_ne_none u)] at e; cases e
    · exact if_neg q)
  have M : Mod K mg (hidT s₁.heap (trk a o)) := ⟨KB, ns_hid ha hns, ⟨mb, ns_hid ha hb, hbb⟩, hlim.elim fun mc h => ⟨mc, ns_hid ha h.1, h.2⟩⟩
  have e0 : Env0 P w K mg (hidT s₁.heap (trk a o)) callerA [] s₁ (trk a o) := { frames := rfl, mod := M, bs := fun b ob e => of_hidT e, bsz := Nat.le_of_eq (hidT_size _ _), funs := trivial, frf := fun b h => (nomatch h), hok := hok, bare := .of_eq hg }
  refine codeAny_mono ((F _ KB (ns_hid ha hns)).run callerA rfl [] s₁ _ ⟨[.ref a], []⟩ [.ref a] [.ref a] _ _ hr e0 (hbind s₁ (.ref a)) (.cons rfl .nil) hsp) fun r s' h => ?_
  match r, h with
  | .ok (.ret u), ⟨v, H', os, bare, un, hok', rv, q⟩ =>
    have q : v = .bl true := q
    subst q
    cases rv
    refine ⟨rfl, OldK.of_keep fun b ob e => ?_, os, bare⟩
    cases hb : trk a o b with
    | none => exact un.keep b ob e hb (fun z => nomatch z) (fun z => nomatch z)
    | some u =>
      obtain ⟨z1, z2⟩ := trk_at hb
      obtain ⟨o2, xs, rfl⟩ := hfz u z2
      have b1 := (hok b _ hb).1
      have b2 := (hok' b _ (un.frzs b o2 _ hb)).1
      rw [e] at b1
      cases b1
      exact b2
  | .ok .next, h => exact h.elim
  | .ok .brk, h => exact h.elim
  | .ok .cont, h => exact h.elim
  | .error e, h => exact h.elim
end
theorem walk_G {l : PySem.W.OpenLaw} {n k : Nat} {q : Program} {loose : List Str} {XP : (Str → Option Value) → Heap → Prop} {YP : World → Heap → Prop} {d : DefRec} {x : Str}
    (hn : l.most = some n) (hn2 : n ≤ sizeLine) (hdf : d.params.defaults = []) (hr : Room k callerA)
    (F : ∀ (w : World) (mg : Str → Option Value) (fa : Addr) (h : Heap), YP w h → h.Ns mainGlobals mg → mg d.name = some (.ref fa) →
      ∃ (K : PySem.W.Frag) (fd : FuncData) (sp : Sp), K.In h ∧ (∀ (s : Shared) (u : Value), BindsTo s fd ⟨[u], []⟩ [(x, u)]) ∧
        (∀ (H : Hp) (a : Addr) (ns : List Int), ns.length ≤ n → Only H → SqL K H a (ns.map V.int) → sp [.ref a] H (fun v _ => v = .bl true) fun _ _ _ => False) ∧
        ∀ base : Heap, K.In base → base.Ns mainGlobals mg → FnG l.prog w K mg base CX0 k fa fd [x] sp) :
    PySem.W.WalkO q loose XP YP l.row.toRowW d [] (fun f vs => PySem.call f vs) := by
  refine Att.attach_call hn hdf fun w s₀ s₁ mg mb fa o pm cd doc a vs ns G Y ho hd hcd hmg hobj hints hlen hg => ?_
  obtain ⟨K, fd, sp, KX, hb, hsp, hF⟩ := F w mg fa _ Y G.T.g hmg
  have rv : Vals (ns.map V.int) vs := vals_ints hints
  have hsz : ns.length ≤ sizeLine := Nat.le_trans hlen hn2
  have only : ∀ u : Option HO, (∀ z, u = some z → ∃ ob xs, z = .frz ob (.lst xs)) → Only (trk a u) := fun u h b => by
    cases e : trk a u b with
    | none => exact .inl rfl
    | some z =>
      obtain ⟨ob, xs, rfl⟩ := h z (trk_at e).2
      exact .inr ⟨ob, xs, rfl⟩
  cases hk : K.lookup a with
  | some ob =>
    have e := KX a ob hk
    rw [hobj] at e
    cases e
    refine law_from none KX G.T.g G.T.b G.T.builtins G.T.nolimit hg hobj hr (fun z => (z rfl).elim) (fun _ z => nomatch z) (fun b u z => ?_) hF hb (hsp _ a ns hlen (only none fun _ z => nomatch z) ?_)
    · have := (trk_at z).2
      cases this
    · exact .inr ⟨_, vs.toArray, _, hk, rfl, rfl, rfl, by rw [List.size_toArray, ← rv.length, List.length_map]; exact hsz, by simpa using rv⟩
  | none =>
    have fz : ∀ u, some (HO.frz { cls := .type "list", data := .seq vs.toArray } (.lst (ns.map V.int))) = some u → ∃ ob xs, u = .frz ob (.lst xs) := fun u z => by
      cases z
      exact ⟨_, _, rfl⟩
    refine law_from _ KX G.T.g G.T.b G.T.builtins G.T.nolimit hg hobj hr (fun _ => hk) fz (fun b u z => ?_) hF hb (hsp _ a ns hlen (only _ fz) (.inl (.inr ⟨_, if_pos rfl⟩)))
    obtain ⟨z1, z2⟩ := trk_at z
    subst z1
    obtain rfl := Option.some.inj z2
    exact ⟨hobj, by rw [List.length_map]; exact hsz, vs, _, rv, hobj⟩
end
end Dv
namespace Dv
open PySem PySem.Spec PyProof.Rows L2
set_option autoImplicit false
noncomputable section
/-! ### what is returned is a new object of one's own, or no object -/
def isObj : D → Bool
  | .lst _ => true
  | .dct _ => true
  | .ins _ _ => true
  | _ => false
section
variable (K : PySem.W.Frag) (S : Nat → Addr) (E : XK)
def FPostY (G H : Hp) (r : Option Addr) (Q : VK) : FRes → Prop
  | .ok d p => ∀ G' H', Fin G H r G' H' → ParOk K S r p G' H' → if isObj d = true then ∀ a o, H a = none → G' a = none → H' a = some o → RepO K S G' d o → Q (.ref a) H' else ∀ v, Rep K S G' d v → Q v H'
  | .ex C fs p => ∀ od G' H', Fin G H r G' H' → ParOk K S r p G' H' → XD K S G' H' fs od → E (Value.ref (S C)) od H'
  | .no => False
def spY (n : Nat) (g : Fn) : Sp := fun vs H Q E => ∃ (G : Hp) (as : List Ar) (r : Option Addr), Inn G H ∧ ArgsOk K S G H r as vs ∧ as.length = n ∧ FPostY K S E G H r Q (g as)
theorem spY_len {n : Nat} {g : Fn} {vs : List V} {H : Hp} {Q : VK} (h : spY K S n g vs H Q E) : vs.length = n := by
  obtain ⟨G, as, r, _, ok, hl, _⟩ := h
  rw [← hl, paired_len ok.at_]
end
def runY (n : Nat) (b : EvS) : Fn := fun as => match b (start n as) with
  | .nx e => .ok .non (parOf e)
  | .rt d e => if isObj d = true then .no else .ok d (parOf e)
  | .rf d e => if isObj d = true then .ok d (parOf e) else .no
  | .ex C fs e => .ex C fs (parOf e)
  | _ => .no
section
variable {K : PySem.W.Frag} {S : Nat → Addr} {X : Cx} {E : XK}
theorem bodyY {sts : List Stmt} {f : EvS} {N : List Str} {n : Nat} {vs : List V} {H : Hp} {Q : VK} {g : Fn} (b : QSs S X E sts f) (hg : g = runY N.length f) (hn : n ≤ N.length) (h : spY X.K S n g vs H Q E) :
    ∃ t, PSs X sts t ∧ t { nx := fun x H' => Q V.non H', rt := Q } (L2.start N vs) H := by
  subst hg
  obtain ⟨G, as, r, i, ok, hl, po⟩ := h
  refine ⟨_, b, ⟨G, H, r⟩, [], G, start N.length as, ste_start i ok, start_rel ok (by omega), ?_⟩
  unfold runY at po
  cases hb : f (start N.length as) with
  | nx e =>
    rw [hb] at po
    exact fun σ' G' H' sm st rl => po G' H' (ste_end st) (par_ok rl.at_) .non rfl
  | rt d e =>
    rw [hb] at po
    cases hd : isObj d with
    | true => simp only [hd, if_true] at po; exact po.elim
    | false =>
      simp only [hd] at po
      intro σ' G' H' sm st rl v rv
      have := po G' H' (ste_end st) (par_ok rl.at_)
      rw [hd] at this
      exact this v rv
  | rf d e =>
    rw [hb] at po
    cases hd : isObj d with
    | false => simp only [hd] at po; exact po.elim
    | true =>
      simp only [hd, if_true] at po
      intro σ' G' H' sm st rl a o h1 h2 h3 h4
      have := po G' H' (ste_end st) (par_ok rl.at_)
      rw [hd] at this
      exact this a o h2 h1 h3 h4
  | ex C fs e => rw [hb] at po; exact fun σ' od G' H' sm st rl xd => po od G' H' (ste_end st) (par_ok rl.at_) xd
  | bk e => rw [hb] at po; exact po.elim
  | ct e => rw [hb] at po; exact po.elim
  | no => rw [hb] at po; exact po.elim
/-- a call meets such a promise -/
theorem call_okY {B : Base} {L : Lk} {G H : Hp} {env : Env} {σ : L2.St} {g : Fn} {n : Nat} {as : List Ag} {vs : List V} {Q : VK} (st : Ste B L G H) (rl : Rel K S B L G H env σ) (ra : Paired (AgOk K S G σ) as vs) (hn : as.length = n)
    {P : Hp → Hp → D → Env → Prop} (p : Post K S E B L σ G P (callG g as env))
    (hP : ∀ G' H' d e, (∀ (j : Nat) (s : Sl), e[j]? = some s → isOwn s = true → ∃ s', env[j]? = some s' ∧ isOwn s' = true) → Ste B L G' H' → Rel K S B L G' H' e σ → P G' H' d e → if isObj d = true then ∀ a o, H a = none → G' a = none → H' a = some o → RepO K S G' d o → Q (.ref a) H' else ∀ v, Rep K S G' d v → Q v H') : spY K S n g vs H Q E := by
  unfold callG at p
  split at p
  · exact p.elim
  · rename_i args hres
    have hlen : args.length = n := by rw [resv_len hres, hn]
    split at p
    · rename_i hsl
      obtain ⟨t1, t2⟩ := resv_none (H := H) hres hsl ra
      refine ⟨G, args, none, st.inn, ⟨t1, by omega, fun a e => by cases e⟩, hlen, ?_⟩
      split at p
      · rename_i d pp hg
        rw [hg]
        intro G' H' f _
        have st' := st.fin rl f fun a e => by cases e
        have rl' := rl.fin0 f
        exact hP G' H' d env (fun j s h1 h2 => ⟨s, h1, h2⟩) st' rl' (p G' H' f.g st' rl')
      · rename_i C fs pp hg
        rw [hg]
        intro od G' H' f _ x
        exact p od G' H' f.g (st.fin rl f fun a e => by cases e) (rl.fin0 f) x
      · exact p.elim
    · rename_i i hsl
      obtain ⟨a, s, h1, h2, h3, h4, h5⟩ := resv_one rl hres hsl ra
      obtain ⟨ga, ha⟩ := own_free st rl h2 h3 h1
      rw [h2] at p
      refine ⟨G, args, some a, st.inn, ⟨h4, by omega, fun b e => by cases e; exact ⟨ga, ha, by omega⟩⟩, hlen, ?_⟩
      dsimp only at p
      split at p
      · rename_i d pp hg
        rw [hg]
        intro G' H' f po
        obtain ⟨b, o, e, hb, ho⟩ := po pp rfl
        cases e
        have st' := st.fin rl f fun b e => by cases e; exact ⟨⟨i, s, h2, h3, h1⟩, by rw [hb]; intro e; cases e⟩
        have rl' := rl.fin1 f h2 h3 h1 hb ho
        exact hP G' H' d _ (fun j t e1 e2 => by
          rcases set_at e1 with ⟨rfl, rfl⟩ | ⟨_, e1⟩
          · exact ⟨s, h2, h3⟩
          · exact ⟨t, e1, e2⟩) st' rl' (p G' H' f.g st' rl')
      · rename_i C fs pp hg
        rw [hg]
        intro od G' H' f po x
        obtain ⟨b, o, e, hb, ho⟩ := po pp rfl
        cases e
        exact p od G' H' f.g (st.fin rl f fun b e => by cases e; exact ⟨⟨i, s, h2, h3, h1⟩, by rw [hb]; intro e; cases e⟩) (rl.fin1 f h2 h3 h1 hb ho) x
      · exact p.elim
    · exact p.elim
end
/-- an expression's value is a new object of one's own, or no object -/
def TY (K : PySem.W.Frag) (S : Nat → Addr) (E : XK) (f : Ev) : TE := fun σ H Q =>
  ∃ (B : Base) (L : Lk) (G : Hp) (env : Env), Ste B L G H ∧ Rel K S B L G H env σ ∧ Post K S E B L σ G (fun G' H' d e => if isObj d = true then ∀ a o, G' a = none → B.H a = none → H' a = some o → (∀ (i : Nat) (s : Sl), e[i]? = some s → isOwn s = true → σ[i]? ≠ some (some (V.ref a))) → (∀ p ∈ L, p.1 ≠ a) → RepO K S G' d o → Q (.ref a) H' else ∀ v, Rep K S G' d v → Q v H') (f env)
section
variable {S : Nat → Addr} {X : Cx} {E : XK} {e : Expr} {es : List Expr} {ee : Ev} {pos p : Pos} {CX : CXT} {k : Nat} {f : Addr} {fd : FuncData} {ps : List Str} {n : Nat} {g : Fn} {x : Str} {eg : EvG'}
abbrev QY (S : Nat → Addr) (X : Cx) (E : XK) (e : Expr) (f : Ev) : Prop := PE X e (TY X.K S E f)
theorem qy_call (F : FnOk X.prog X.w X.K X.mg X.base CX k f fd ps (spY X.K S n g)) (hr : Room k X.A) (hg : Gl X x) (hm : X.mg x = some (.ref f)) (hk : PySem.W.keepIn X.K (.ref f) = true) (hb : Binds X.K fd ps []) (hx : Passes CX X E)
    (ha : QG S X E (e :: es) eg) (hdb : (x == ("__debug__" : Str)) = false := by decide) (he : starEach (e :: es) X.env = (false, eval e X.env) :: starEach es X.env := by rfl) (hpl : (backTo pos (starEach es X.env)).any (·.1) = false := by rfl) :
    QY S X E (.Call (.Name x p) (e :: es) [] pos) (xCall n g eg) := pe_of (pe_call F hr hg hm hk hb .nil hx ha hdb he hpl) fun σ H Q q => by
  obtain ⟨B, L, G, env, st, rl, po⟩ := q
  refine ⟨B, L, G, env, st, rl, po.then fun G1 H1 as e1 sm1 st1 rl1 p1 vs rv => ?_⟩
  obtain ⟨hn, p1⟩ := len_of p1
  rw [List.append_nil]
  refine call_okY st1 rl1 rv hn p1 fun G' H' d e hown st' rl' h => ?_
  cases hd : isObj d with
  | false =>
    rw [hd] at h
    exact h
  | true =>
    rw [hd] at h
    intro q o hq gq hq' r
    refine h q o gq (st1.free hq) hq' (fun i s h1 h2 h3 => ?_) (st1.nolock hq) r
    obtain ⟨s', e1, e2⟩ := hown i s h1 h2
    exact rl1.fresh hq i s' e1 e2 h3
def xSetY (i : Nat) (a : Ev) : EvS := fun env => (a env).st fun d e => if isObj d = true then (match e[i]? with
  | some (.par _) => .no
  | some _ => .nx (e.set i (.box d))
  | none => .no) else match setE e i d with
  | some e' => .nx e'
  | none => .no
theorem s_setY {i : Nat} {pos' : Pos} (hN : X.N.Nodup) (hi : X.N[i]? = some x) (hx : Loc X.env.scope x) (he : QY S X E e ee) (hs : swapsWith e (some (.Name x pos')) pos.line X.env = pure false := by rfl) (hf : X.fn x = true ∨ X.env.scope.names.lookup x = some .local := by first | exact .inl rfl | exact .inr rfl | assumption) :
    QS S X E (.Assign [.Name x pos'] e pos) (xSetY i ee) := ps_of (ps_set hN hi hx he hs hf) fun D σ H q => by
  obtain ⟨B, L, G, env, st, rl, po⟩ := q
  refine ⟨B, L, G, env, st, rl, Post.st po fun G' H' d e s st' rl' p => ?_⟩
  cases hd : isObj d with
  | true =>
    simp only [hd, if_true] at p ⊢
    intro a o h1 h2 h3 h4 h5 h6
    split at p
    · exact p.elim
    · exact p _ G' H' (.refl _) st' (rel_box rl' h1 h2 h3 h4 h5 h6)
    · exact p.elim
  | false =>
    simp only [hd, Bool.false_eq_true, if_false] at p ⊢
    intro v rv
    split at p
    · rename_i e' h
      exact p _ G' H' (.refl _) st' (rel_set rl' h rv)
    · exact p.elim
end
end
end Dv
namespace Dv
open PySem PySem.Spec PyProof.Rows L2
set_option autoImplicit false
noncomputable section
/-! ### x == y, x != y by an own __eq__, on trees -/
def yOk (bt : String → Nat → Option Bool) (ci : Nat) (y : D) : Bool := match y with
  | .ins C _ => decide (C = ci)
  | .int _ => match bt "int" ci with
    | some false => true
    | _ => false
  | _ => false
def xOeq (neg : Bool) (bt : String → Nat → Option Bool) (ci : Nat) (g : Fn) (a b : Ev) : Ev := fun env => (a env).bind fun x e1 => (b e1).bind fun y e2 => match x with
  | .ins C _ => if C = ci ∧ yOk bt ci y = true then match g [.val x, .val y] with
    | .ok (.bl c) _ => .ok (.bl (if neg then !c else c)) e2
    | _ => .no else .no
  | _ => .no
theorem u80 {k : Nat} {A : Around} (h : Room k A) : A.units + 80 < cLine := by
  have := h.un
  omega
section
variable {S : Nat → Addr} {X : Cx} {E : XK} {a b : Expr} {ea eb : Ev} {pos : Pos} {CX : CXT} {k : Nat} {fd : FuncData} {ps : List Str} {g : Fn} {ci fi : Nat} {bt : String → Nat → Option Bool}
theorem snd_oeq {neg : Bool} {σ : L2.St} {H : Hp} {Q : VK} (hbt : bt "int" ci = some false → PySem.W.subIn X.K (.type "int") (.ref (S ci)) = some false)
    (q : TD X.K S E (xOeq neg bt ci g ea eb) σ H Q) : tOp (rOwn X.K (S ci) (spD X.K S false 2 g) E neg) (TD X.K S E ea) (TD X.K S E eb) σ H Q := by
  obtain ⟨B, L, G, env, st, rl, po⟩ := q
  refine ⟨B, L, G, env, st, rl, po.then fun G1 H1 x e1 sm1 st1 rl1 p1 v rv => ⟨B, L, G1, e1, st1, rl1, p1.then fun G2 H2 y e2 sm2 st2 rl2 p2 w rw' => ?_⟩⟩
  split at p2
  · rename_i C fs
    split at p2
    · rename_i hh
      obtain ⟨rfl, hy⟩ := hh
      split at p2
      · rename_i c pp hg
        have rv2 := rv.mono sm2
        obtain ⟨p, dx, ws, rfl, hp, rf⟩ := id rv2
        refine ⟨p, dx, ws, rfl, st2.inn.ins hp, ?_, G2, [.val (.ins C fs), .val y], none, st2.inn, ⟨.cons rv2 (.cons rw' .nil), (by decide : (0 : Nat) ≤ 1), fun a e => by cases e⟩, rfl, ?_⟩
        · unfold yOk at hy
          split at hy
          · rename_i C' fs'
            obtain rfl := of_decide_eq_true hy
            obtain ⟨p2, dx2, ws2, rfl, hp2, _⟩ := rw'
            exact .inl ⟨p2, dx2, ws2, rfl, st2.inn.ins hp2⟩
          · rename_i i
            split at hy
            · rename_i hb
              exact .inr ⟨i, rw', hbt hb⟩
            · cases hy
          · cases hy
        · rw [hg]
          intro G' H' f _
          rw [if_neg (by decide)]
          intro u ru
          have ru : u = .bl c := ru
          refine ⟨c, ru, ?_⟩
          have x : Ex G2 H2 G' H' := ⟨f.g, fun a o e => f.keep a o e (by intro q; cases q), f.inn, f.new⟩
          exact p2 G' H' x.g (st2.ex x) (rl2.ex x) _ rfl
      · exact p2.elim
    · exact p2.elim
  · exact p2.elim
theorem q_ownNe (O : EqOf X.K (S ci) (S fi)) (F : FnOk X.prog X.w X.K X.mg X.base CX k (S fi) fd ps (spD X.K S false 2 g)) (hb : Binds X.K fd ps []) (hx : Passes CX X E) (hr : Room (k + 1) X.A)
    (hbt : bt "int" ci = some false → PySem.W.subIn X.K (.type "int") (.ref (S ci)) = some false)
    (ha : QE S X E a ea) (hb2 : QE S X E b eb) (hm : behindInMarks .NotEq b = false) : QE S X E (.Compare a [.NotEq] [b] pos) (xOeq true bt ci g ea eb) := pe_of (pe_cmpR (op_ownNe O F hb hx hr) ha hb2 hm) fun _ _ _ q => snd_oeq hbt q
theorem q_ownEq (O : EqOf X.K (S ci) (S fi)) (F : FnOk X.prog X.w X.K X.mg X.base CX k (S fi) fd ps (spD X.K S false 2 g)) (hb : Binds X.K fd ps []) (hx : Passes CX X E) (hr : Room k X.A)
    (hbt : bt "int" ci = some false → PySem.W.subIn X.K (.type "int") (.ref (S ci)) = some false)
    (ha : QE S X E a ea) (hb2 : QE S X E b eb) (hm : behindInMarks .Eq b = false) : QE S X E (.Compare a [.Eq] [b] pos) (xOeq false bt ci g ea eb) := pe_of (pe_cmpR (op_ownEq O F hb hx hr) ha hb2 hm) fun _ _ _ q => snd_oeq hbt q
theorem q_ownNeT (O : EqOf X.K (S ci) (S fi)) (F : FnOk X.prog X.w X.K X.mg X.base CX k (S fi) fd ps (spD X.K S false 2 g)) (hb : Binds X.K fd ps []) (hx : Passes CX X E) (hr : Room (k + 1) X.A)
    (hbt : bt "int" ci = some false → PySem.W.subIn X.K (.type "int") (.ref (S ci)) = some false)
    (ha : QE S X E a ea) (hb2 : QE S X E b eb) (hm : behindInMarks .NotEq b = false) : QT S X E (.Compare a [.NotEq] [b] pos) (xTest (xOeq true bt ci g ea eb)) := pt_of (pt_cmpR (op_ownNe O F hb hx hr) ha hb2 hm) fun _ _ _ q => snd_test (fun _ h => snd_oeq hbt h) q
theorem q_ownEqT (O : EqOf X.K (S ci) (S fi)) (F : FnOk X.prog X.w X.K X.mg X.base CX k (S fi) fd ps (spD X.K S false 2 g)) (hb : Binds X.K fd ps []) (hx : Passes CX X E) (hr : Room k X.A)
    (hbt : bt "int" ci = some false → PySem.W.subIn X.K (.type "int") (.ref (S ci)) = some false)
    (ha : QE S X E a ea) (hb2 : QE S X E b eb) (hm : behindInMarks .Eq b = false) : QT S X E (.Compare a [.Eq] [b] pos) (xTest (xOeq false bt ci g ea eb)) := pt_of (pt_cmpR (op_ownEq O F hb hx hr) ha hb2 hm) fun _ _ _ q => snd_test (fun _ h => snd_oeq hbt h) q
/-! a def of the other kind is called -/
variable {f : Addr} {fd : FuncData} {n : Nat} {x : Str} {e : Expr} {es : List Expr} {p : Pos} {eg : EvG'}
theorem q_callG (F : FnG X.prog X.w X.K X.mg X.base CX k f fd ps (spD X.K S false n g)) (gd : X.A.guards = some []) (hr : Room k X.A) (hg : Gl X x) (hm : X.mg x = some (.ref f)) (hk : PySem.W.keepIn X.K (.ref f) = true) (hb : Binds X.K fd ps []) (hx : Passes CX X E)
    (ha : QG S X E (e :: es) eg) (hdb : (x == ("__debug__" : Str)) = false := by decide) (he : starEach (e :: es) X.env = (false, eval e X.env) :: starEach es X.env := by rfl) (hpl : (backTo pos (starEach es X.env)).any (·.1) = false := by rfl) :
    QE S X E (.Call (.Name x p) (e :: es) [] pos) (xCall n g eg) := pe_of (pe_callG F gd hr hg hm hk hb .nil hx ha hdb he hpl) fun _ _ _ q => snd_call q
end
end
end Dv
namespace Rn
open PySem PySem.Spec PyProof.Rows L2
set_option autoImplicit false
noncomputable section
/-! ### the head: facts of a fragment, as Bools -/
def eqF (o : Option (Option Value)) (s : String) : Bool := match o with
  | some (some (.builtin t)) => decide (t = s)
  | _ => false
def eqR (o : Option (Option Value)) (a : Nat) : Bool := match o with
  | some (some (.ref b)) => Nat.beq b a
  | _ => false
def eqN (o : Option (Option Value)) : Bool := match o with
  | some none => true
  | _ => false
def eqB (o : Option Bool) (b : Bool) : Bool := match o, b with
  | some true, true => true
  | some false, false => true
  | _, _ => false
def eqC1 (o : Option PySem.W.CFound) (a : Nat) : Bool := match o with
  | some (.val (.ref b)) => Nat.beq b a
  | _ => false
def eqT (o : Option Value) (s : String) : Bool := match o with
  | some (.type t) => decide (t = s)
  | _ => false
theorem eqF_ok {o : Option (Option Value)} {s : String} (h : eqF o s = true) : o = some (some (.builtin s)) := by
  unfold eqF at h
  split at h
  · rw [of_decide_eq_true h]
  · cases h
theorem eqR_ok {o : Option (Option Value)} {a : Nat} (h : eqR o a = true) : o = some (some (.ref a)) := by
  unfold eqR at h
  split at h
  · rw [Nat.eq_of_beq_eq_true h]
  · cases h
theorem eqN_ok {o : Option (Option Value)} (h : eqN o = true) : o = some none := by
  unfold eqN at h
  split at h
  · rfl
  · cases h
theorem eqB_ok {o : Option Bool} {b : Bool} (h : eqB o b = true) : o = some b := by
  unfold eqB at h
  split at h
  · rfl
  · rfl
  · cases h
theorem eqC1_ok {o : Option PySem.W.CFound} {a : Nat} (h : eqC1 o a = true) : o = some (.val (.ref a)) := by
  unfold eqC1 at h
  split at h
  · rw [Nat.eq_of_beq_eq_true h]
  · cases h
theorem eqT_ok {o : Option Value} {s : String} (h : eqT o s = true) : o = some (.type s) := by
  unfold eqT at h
  split at h
  · rw [of_decide_eq_true h]
  · cases h
def strAt (o : Option (Option Value)) (z : PySem.Str) : Bool := match o with
  | some (some (.str y _)) => decide (y = z)
  | _ => false
def intAt (o : Option (Option Value)) (i : Int) : Bool := match o with
  | some (some (.int j _)) => decide (j = i)
  | _ => false
theorem strAt_ok {o : Option (Option Value)} {z : PySem.Str} (h : strAt o z = true) : ∃ t, o = some (some (.str z t)) := by
  unfold strAt at h
  split at h
  · rw [of_decide_eq_true h]
    exact ⟨_, rfl⟩
  · cases h
theorem intAt_ok {o : Option (Option Value)} {i : Int} (h : intAt o i = true) : ∃ t, o = some (some (.int i t)) := by
  unfold intAt at h
  split at h
  · rw [of_decide_eq_true h]
    exact ⟨_, rfl⟩
  · cases h
def fdOf (K : PySem.W.Frag) (f : Addr) : FuncData := match K.lookup f with
  | some ⟨_, _, .func fd, _⟩ => fd
  | _ => default
abbrev FnX : Type := Option (PySem.Str × PySem.Str × Arguments × FuncBody × Scope × Addr × List (PySem.Str × Addr) × Addr)
def fnX (K : PySem.W.Frag) (f : Addr) : FnX := match K.lookup f with
  | some ⟨_, _, .func fd, _⟩ => some (fd.name, fd.qualname, fd.params, fd.body, fd.scope, fd.globals, fd.closure, fd.builtins)
  | _ => none
def fnV (x qual : PySem.Str) (st : Stmt) : FnX := some (x, qual, defArgs st, .stmts (defBody st), defScope st, mainGlobals, [], builtinsNs)
def fnB (K : PySem.W.Frag) (f : Addr) (qual : PySem.Str) : Bool := match K.lookup f with
  | some ⟨_, _, .func fd, _⟩ => PySem.W.codeIn K fd.code qual && (match fd.defaults with
    | .none => true
    | _ => false)
  | _ => false
theorem fun_of {K : PySem.W.Frag} {f : Addr} {x qual : PySem.Str} {st : Stmt} (h1 : fnX K f = fnV x qual st) (h2 : fnB K f qual = true) (h3 : PySem.W.keepIn K (.ref f) = true) : Fun K x qual st f (fdOf K f) := by
  unfold fnX at h1
  unfold fnB at h2
  unfold fdOf
  split at h1
  · rename_i oc od fd sl hl
    rw [hl] at h2
    obtain ⟨a1, a2, a3, a4, a5, a6, a7, a8, a9, b1, b2, b3, b4, b5, b6⟩ := fd
    unfold fnV at h1
    simp only [Option.some.injEq, Prod.mk.injEq] at h1
    obtain ⟨rfl, rfl, rfl, rfl, rfl, rfl, rfl, rfl⟩ := h1
    rw [Bool.and_eq_true] at h2
    obtain ⟨h4, h5⟩ := h2
    dsimp only at h4 h5
    cases a8 with
    | none => exact ⟨⟨oc, od, _, _, _, _, _, _, _, rfl, hl, h4⟩, h3⟩
    | _ => cases h5
  · cases h1
def valB (v : V) (u : Value) : Bool := match v, u with
  | .str z, .str y _ => decide (y = z)
  | .int i, .int j _ => decide (j = i)
  | .ref a, .ref b => Nat.beq a b
  | .non, .none => true
  | .bl true, .bool true => true
  | .bl false, .bool false => true
  | _, _ => false
theorem valB_ok {v : V} {u : Value} (h : valB v u = true) : RelV v u := by
  unfold valB at h
  split at h
  · rw [of_decide_eq_true h]; exact ⟨_, rfl⟩
  · rw [of_decide_eq_true h]; exact ⟨_, rfl⟩
  · rw [Nat.eq_of_beq_eq_true h]; rfl
  · rfl
  · rfl
  · rfl
  · cases h
def valsB : List V → List Value → Bool
  | [], [] => true
  | v :: vs, u :: us => valB v u && valsB vs us
  | _, _ => false
theorem valsB_ok : ∀ {vs : List V} {us : List Value}, valsB vs us = true → Vals vs us
  | [], [], _ => .nil
  | v :: vs, u :: us, h => by
    unfold valsB at h
    rw [Bool.and_eq_true] at h
    exact .cons (valB_ok h.1) (valsB_ok h.2)
  | [], _ :: _, h => by cases h
  | _ :: _, [], h => by cases h
def tupB (K : PySem.W.Frag) (a : Addr) (vs : List V) : Bool := match K.lookup a with
  | some ⟨.type t, _, .seq its _, _⟩ => decide (t = "tuple") && valsB vs its.toList
  | _ => false
theorem tupB_ok {K : PySem.W.Frag} {a : Addr} {vs : List V} (h : tupB K a vs = true) (hl : vs.length ≤ 1000) : ∀ H, SqT K H a vs := fun H => by
  unfold tupB at h
  split at h
  · rename_i hk
    rw [Bool.and_eq_true] at h
    have v := valsB_ok h.2
    refine .inr ⟨_, _, _, hk, ?_, rfl, ?_, v⟩
    · rw [of_decide_eq_true h.1]
    · have e := Paired.length v
      simp only [Array.length_toList] at e
      have : sizeLine = 16777216 := sizeLine_eq
      omega
  · cases h
def fnBD (K : PySem.W.Frag) (f : Addr) (qual : PySem.Str) (dvs : List V) : Bool := match K.lookup f with
  | some ⟨_, _, .func fd, _⟩ => PySem.W.codeIn K fd.code qual && (match fd.defaults with
    | .ref t => (match K.lookup t with
      | some ⟨_, _, .seq its _, _⟩ => valsB dvs its.toList
      | _ => false)
    | _ => false) && (match fd.kwdefaults with
    | .none => true
    | _ => false)
  | _ => false
theorem funD_of {K : PySem.W.Frag} {f : Addr} {x qual : PySem.Str} {st : Stmt} {dvs : List V} (h0 : dvs ≠ []) (h1 : fnX K f = fnV x qual st) (h2 : fnBD K f qual dvs = true) (h3 : PySem.W.keepIn K (.ref f) = true) : FunD K x qual (defArgs st) (defBody st) (defScope st) dvs [] f (fdOf K f) := by
  unfold fnX at h1
  unfold fnBD at h2
  unfold fdOf
  split at h1
  · rename_i oc od fd sl hl
    rw [hl] at h2
    obtain ⟨a1, a2, a3, a4, a5, a6, a7, a8, a9, b1, b2, b3, b4, b5, b6⟩ := fd
    unfold fnV at h1
    simp only [Option.some.injEq, Prod.mk.injEq] at h1
    obtain ⟨rfl, rfl, rfl, rfl, rfl, rfl, rfl, rfl⟩ := h1
    rw [Bool.and_eq_true, Bool.and_eq_true] at h2
    obtain ⟨⟨h4, h5⟩, h6⟩ := h2
    dsimp only at h4 h5 h6
    cases a9 with
    | none =>
      cases a8 with
      | ref t =>
        dsimp only at h5
        split at h5
        · rename_i hk
          exact ⟨⟨oc, od, _, _, _, _, _, _, _, _, rfl, hl, h4, .inr ⟨h0, _, _, _, _, rfl, hk, rfl, by simpa using valsB_ok h5⟩, .inl rfl⟩, h3⟩
        · cases h5
      | _ => cases h5
    | _ => cases h6
  · cases h1
def fkB (K : PySem.W.Frag) (f : Addr) (qual : PySem.Str) : Bool := match K.lookup f with
  | some ⟨.type t, _, .func fd, _⟩ => decide (t = "function") && (PySem.W.codeIn K fd.code qual && (match fd.defaults with
    | .none => true
    | _ => false))
  | _ => false
theorem fk_ok {K : PySem.W.Frag} {f : Addr} {qual : PySem.Str} (h : fkB K f qual = true) : fnB K f qual = true ∧ PySem.W.keepIn K (.ref f) = true ∧ PySem.W.isFn K (.ref f) = true := by
  unfold fkB at h
  split at h
  · rename_i hl
    rw [Bool.and_eq_true] at h
    have e := of_decide_eq_true h.1
    subst e
    refine ⟨?_, ?_, ?_⟩
    · unfold fnB
      rw [hl]
      exact h.2
    · unfold PySem.W.keepIn
      simp only [hl]
    · unfold PySem.W.isFn PySem.W.typeIn
      simp only [hl]
      rfl
  · cases h
def oexB (K : PySem.W.Frag) (C : Addr) : Bool := match K.lookup C with
  | some ⟨.type t, _, .cls cd, sl⟩ => decide (t = "type") && (match cd.mro with
    | .ref C' :: bm => Nat.beq C' C && HandSPX.refsVE bm
    | _ => false) && (cd.hasDict && !cd.hasDel) && (match sl.toList with
    | [_, _, _, _, some (.builtin n), _] => decide (n = "ValueError.__new__")
    | _ => false)
  | _ => false
theorem oexB_ok {K : PySem.W.Frag} {C : Addr} (h : oexB K C = true) : ∃ nm q N bs bm sn sub ab col dd k0 k1 k2 k3 k5, K.lookup C = some (excClassObj nm q C N bs bm true sn sub ab col dd k0 k1 k2 k3 k5 "ValueError.__new__") ∧ HandSPX.refsVE bm = true := by
  unfold oexB at h
  split at h
  · rename_i t dd cd sl hk
    obtain ⟨c1, c2, c3, c4, c5, c6, c7, c8, c9, d1, d2⟩ := cd
    rw [Bool.and_eq_true, Bool.and_eq_true, Bool.and_eq_true] at h
    obtain ⟨⟨⟨h1, h2⟩, h3⟩, h4⟩ := h
    have h1 := of_decide_eq_true h1
    subst h1
    dsimp only at h2 h3 h4
    rw [Bool.and_eq_true] at h3
    obtain ⟨h5, h6⟩ := h3
    cases h5
    cases d2 with
    | true => cases h6
    | false =>
      split at h2
      · rename_i C' bm
        rw [Bool.and_eq_true] at h2
        have e := Nat.eq_of_beq_eq_true h2.1
        subst e
        split at h4
        · rename_i k0 k1 k2 k3 n k5 hs
          have e := of_decide_eq_true h4
          subst e
          have e2 : sl = #[k0, k1, k2, k3, some (.builtin "ValueError.__new__"), k5] := Array.toList_inj.mp hs
          subst e2
          exact ⟨_, _, _, _, bm, _, _, _, _, _, _, _, _, _, _, hk, h2.2⟩
        · cases h4
      · cases h2
  · cases h
/-! lists of Bools -/
def allB (l : List Bool) : Bool := List.rec (motive := fun _ => Bool) true (fun b _ go => match b with
  | true => go
  | false => false) l
theorem allB_at : ∀ {l : List Bool}, allB l = true → ∀ (i : Nat) {b : Bool}, l[i]? = some b → b = true
  | [], _, i, b, e => by simp at e
  | true :: r, h, 0, b, e => by simp at e; exact e
  | true :: r, h, i + 1, b, e => allB_at (l := r) h i (by simpa using e)
  | false :: r, h, i, b, e => by cases h
/-! the hook -/
structure HdD where
  as : List Addr
  ex : PySem.W.Frag → Bool
  fs : List Addr
  fv : List FnX
  ds : List Addr
  dk : List (List PySem.Str)
abbrev AlH : Type := Bool × List FnX × List (Option (List (Option (PySem.Str × Int))))
def frH (g : Addr → Option Obj) (as : List Addr) : PySem.W.Frag := He.frG g as
def obsH (D : HdD) (g : Addr → Option Obj) : AlH := (D.ex (He.frG g D.as), D.fs.map (fnX (He.frG g D.as)), D.ds.map (He.dicW (He.frG g D.as)))
def valH (D : HdD) (w : World) : AlH := (true, D.fv, D.dk.map fun ks => some (He.keysIn w.params ks))
structure SaysH (D : HdD) (w : World) (K : PySem.W.Frag) : Prop where
  ex : D.ex K = true
  fn : D.fs.map (fnX K) = D.fv
  dc : D.ds.map (He.dicW K) = D.dk.map fun ks => some (He.keysIn w.params ks)
def hookH (D : HdD) : PySem.W.Hook where
  α := AlH
  obs := fun s => obsH D s.heap.get?
  val := valH D
  says := fun w h => ∃ K, K.In h ∧ SaysH D w K
  of := fun w s e => by
    unfold obsH valH at e
    rw [Prod.mk.injEq, Prod.mk.injEq] at e
    exact ⟨He.frG s.heap.get? D.as, He.frG_in, e.1, e.2.1, e.2.2⟩
  keeps := fun w h h' ⟨K, k, s⟩ m => ⟨K, fun a o e => m a o (k a o e), s⟩
def obH (D : HdD) (s : PySem.W.SharedT) : AlH := obsH D (HandSHeadRun.getT s)
theorem obH_eq (D : HdD) (s : PySem.W.SharedT) : obH D s = (hookH D).obs s.abs := by
  show obsH D (HandSHeadRun.getT s) = obsH D s.abs.heap.get?
  rw [show HandSHeadRun.getT s = s.abs.heap.get? from funext (HandSHeadRun.getT_eq s)]
theorem joinH {r : PySem.W.OpenRow} {q : Program} {D : HdD} {M : Nat} {loose : List PySem.Str} {w : World} {os : OsState} (o : Option PySem.W.SharedT) (ho : HandSHeadRun.endF (HandSHeadRun.stepQ (HandSHeadRun.denQ HandSHeadRun.tabQ) r.prog w) M r.prog w os = o)
    (h1 : o.map (fun s => HandSHeadRun.looksF r.prog (PySem.W.boot_heap w.params) s.abs) = some true)
    (h2 : o.map (fun s => HandSHeadRun.seenQ q loose (importedModules r.prog.main.body) (fun s => PySem.W.xlAt q [] s && PySem.W.recOk r.records s) s.abs) = some (PySem.W.openGood q loose))
    (h3 : o.map (fun s => D.ex (He.frG (HandSHeadRun.getT s) D.as)) = some true) (h4 : o.map (fun s => D.fs.map (fnX (He.frG (HandSHeadRun.getT s) D.as))) = some D.fv)
    (h5 : o.map (fun s => D.ds.map (He.dicW (He.frG (HandSHeadRun.getT s) D.as))) = some (D.dk.map fun ks => some (He.keysIn w.params ks))) :
    Option.map (fun s => (HandSHeadRun.looksF r.prog (PySem.W.boot_heap w.params) s.abs, HandSHeadRun.seenQ q loose (importedModules r.prog.main.body) (fun s => PySem.W.xlAt q [] s && PySem.W.recOk r.records s) s.abs, obH D s)) (HandSHeadRun.endF (HandSHeadRun.stepQ (HandSHeadRun.denQ HandSHeadRun.tabQ) r.prog w) M r.prog w os) = some (true, PySem.W.openGood q loose, (hookH D).val w) := by
  rw [ho]
  cases o with
  | none => cases h1
  | some s =>
    have e1 := Option.some.inj h1
    have e2 := Option.some.inj h2
    have e3 := Option.some.inj h3
    have e4 := Option.some.inj h4
    have e5 := Option.some.inj h5
    show some (_, _, (D.ex (He.frG (HandSHeadRun.getT s) D.as), D.fs.map (fnX (He.frG (HandSHeadRun.getT s) D.as)), D.ds.map (He.dicW (He.frG (HandSHeadRun.getT s) D.as)))) = some (true, _, (true, D.fv, D.dk.map fun ks => some (He.keysIn w.params ks)))
    dsimp only at e1 e2 e3 e4 e5
    rw [e1, e2, e3, e4, e5]
theorem fn_at {D : HdD} {w : World} {K : PySem.W.Frag} (s : SaysH D w K) (i : Nat) {f : Addr} {v : FnX} (h1 : D.fs[i]? = some f) (h2 : D.fv[i]? = some v) : fnX K f = v := by
  have e := s.fn
  have e2 : (D.fs.map (fnX K))[i]? = D.fv[i]? := by rw [e]
  rw [List.getElem?_map, h1, h2] at e2
  exact Option.some.inj e2
theorem dc_at {D : HdD} {w : World} {K : PySem.W.Frag} (s : SaysH D w K) (i : Nat) {a : Addr} {ks : List PySem.Str} (h1 : D.ds[i]? = some a) (h2 : D.dk[i]? = some ks) : ∃ es n, KDict K w a es n := by
  have e2 : (D.ds.map (He.dicW K))[i]? = (D.dk.map fun ks => some (He.keysIn w.params ks))[i]? := by rw [s.dc]
  rw [List.getElem?_map, List.getElem?_map, h1, h2] at e2
  exact He.dicW_ok (Option.some.inj e2)
theorem kd_of {w : World} {K : PySem.W.Frag} {a : Addr} {x : PySem.Str} {b : Addr} (h : ∃ es n, KDict K w a es n) (h2 : eqR (PySem.W.nsIn K a x) b = true) : KDct K w a x (.ref b) := by
  obtain ⟨es, n, k⟩ := h
  exact ⟨es, n, .ref b, k.at_, k.lit, eqR_ok h2, rfl⟩
end
end Rn
namespace Ct
open PySem PySem.W PySem.Calls PyProof.Rows HandSHeadRun
set_option autoImplicit false
noncomputable section
/-! ### the top in pieces, each from a written state to a written state -/
section
variable (st : SharedT → Thread → Option (SharedT × Thread)) (n0 : Nat) (ann : Option Value) (b : Nat)
def segF : Nat → SharedT → Thread → Option (Flow × SharedT × Code × Pos)
  | 0, _, _ => none
  | m + 1, s, t => match endAt b t with
    | some f => some (f, s, t.code, t.pos)
    | none => match stepOk n0 ann t with
      | false => none
      | true => match st s t with
        | some (s', t') => frS s' fun s' => segF m s' t'
        | none => none
def preF : Nat → SharedT → Thread → Option (SharedT × Thread)
  | 0, s, t => some (s, t)
  | m + 1, s, t => match through t with
    | true => none
    | false => match stepOk n0 ann t with
      | false => none
      | true => match st s t with
        | some (s', t') => frS s' fun s' => preF m s' t'
        | none => none
end
section
variable {tb : String → Option Builtin} {p : Program} {w : World} {n0 : Nat} {ann : Option Value} {b : Nat}
theorem segF_ok : ∀ {m : Nat} {s s' : SharedT} {t : Thread} {f : Flow} {c : Code} {q : Pos}, segF (stepT (denote tb) p w) n0 ann b m s t = some (f, s', c, q) → segRun tb p w n0 ann b m s.abs t = some (f, s'.abs, c, q)
  | 0, _, _, _, _, _, _, h => by cases h
  | m + 1, s, s', t, f, c, q, h => by
    have h1 : (match endAt b t with
      | some f => some (f, s, t.code, t.pos)
      | none => match stepOk n0 ann t with
        | false => none
        | true => match stepT (denote tb) p w s t with
          | some (s', t') => frS s' fun s' => segF (stepT (denote tb) p w) n0 ann b m s' t'
          | none => none) = some (f, s', c, q) := h
    show (match endAt b t with
      | some f => some (f, s.abs, t.code, t.pos)
      | none => match stepOk n0 ann t with
        | false => none
        | true => match step (denote tb) p w s.abs t with
          | .go s' t' => segRun tb p w n0 ann b m s' t'
          | .halt _ _ => none) = some (f, s'.abs, c, q)
    cases he : endAt b t with
    | some g =>
      rw [he] at h1
      cases h1
      rfl
    | none =>
      rw [he] at h1
      cases hk : stepOk n0 ann t with
      | false =>
        rw [hk] at h1
        cases h1
      | true =>
        rw [hk] at h1
        have h2 : (match stepT (denote tb) p w s t with
          | some (s', t') => frS s' fun s' => segF (stepT (denote tb) p w) n0 ann b m s' t'
          | none => none) = some (f, s', c, q) := h1
        cases hs : stepT (denote tb) p w s t with
        | none =>
          rw [hs] at h2
          cases h2
        | some r =>
          obtain ⟨s2, t2⟩ := r
          rw [hs] at h2
          have h3 : (frS s2 fun s' => segF (stepT (denote tb) p w) n0 ann b m s' t2) = some (f, s', c, q) := h2
          rw [frS_eq] at h3
          have r := segF_ok h3
          show (match step (denote tb) p w s.abs t with
            | .go s' t' => segRun tb p w n0 ann b m s' t'
            | .halt _ _ => none) = _
          rw [stepT_spec hs]
          exact r
theorem preF_ok : ∀ {m : Nat} {s s' : SharedT} {t t' : Thread}, preF (stepT (denote tb) p w) n0 ann m s t = some (s', t') → topGo tb p w n0 ann m s.abs t = some (s'.abs, t')
  | 0, _, _, _, _, h => by cases h; rfl
  | m + 1, s, s', t, t', h => by
    have h1 : (match through t with
      | true => none
      | false => match stepOk n0 ann t with
        | false => none
        | true => match stepT (denote tb) p w s t with
          | some (s', t') => frS s' fun s' => preF (stepT (denote tb) p w) n0 ann m s' t'
          | none => none) = some (s', t') := h
    show (match through t with
      | true => none
      | false => match stepOk n0 ann t with
        | false => none
        | true => match step (denote tb) p w s.abs t with
          | .go s' t' => topGo tb p w n0 ann m s' t'
          | .halt _ _ => none) = some (s'.abs, t')
    cases ht : through t with
    | true =>
      rw [ht] at h1
      cases h1
    | false =>
      rw [ht] at h1
      cases hk : stepOk n0 ann t with
      | false =>
        rw [hk] at h1
        cases h1
      | true =>
        rw [hk] at h1
        have h2 : (match stepT (denote tb) p w s t with
          | some (s', t') => frS s' fun s' => preF (stepT (denote tb) p w) n0 ann m s' t'
          | none => none) = some (s', t') := h1
        cases hs : stepT (denote tb) p w s t with
        | none =>
          rw [hs] at h2
          cases h2
        | some r =>
          obtain ⟨s2, t2⟩ := r
          rw [hs] at h2
          have h3 : (frS s2 fun s' => preF (stepT (denote tb) p w) n0 ann m s' t2) = some (s', t') := h2
          rw [frS_eq] at h3
          have r := preF_ok h3
          show (match step (denote tb) p w s.abs t with
            | .go s' t' => topGo tb p w n0 ann m s' t'
            | .halt _ _ => none) = _
          rw [stepT_spec hs]
          exact r
end
/-! the twins of exec -/
def execsQ : List Stmt → Env → Sem Flow := PySem.W.Fast.tw12563942051412417395
theorem execsQ_eq : @PySem.execs = execsQ := PySem.W.Fast.te12563942051412417395
def blockStartQ : List Stmt → Env → Sem Unit := PySem.W.Fast.tw1066825118222455980
theorem blockStartQ_eq : @PySem.blockStart = blockStartQ := PySem.W.Fast.te1066825118222455980
abbrev piecesQ (l : List Stmt) (env : Env) (c : Code) (p : Pos) (B : List Frame) : Thread := ⟨(execsQ l env).wrap doneF deadEnd id id, c, p, B⟩
abbrev blockQ (b : List Stmt) (env : Env) (c : Code) (p : Pos) (B : List Frame) : Thread := ⟨(blockStartQ b env).wrap (fun _ => doneF .next) deadEnd id id, c, p, B⟩
abbrev stQ (p : Program) (w : World) : SharedT → Thread → Option (SharedT × Thread) := stepQ (denQ tabQ) p w
section
variable {p : Program} {w : World} {n0 : Nat} {ann : Option Value} {env : Env} {q : Pos}
theorem pieceQ {m N : Nat} {s s' : SharedT} {r : Shared} {l rest : List Stmt} {c : Code} {pos p' : Pos} (h : segF (stQ p w) n0 ann 1 m s (piecesQ l env c pos [topFrame q]) = some (.next, s', c, p'))
    (k : topRun treeTable p w n0 ann N s'.abs (restOf rest env c p' [topFrame q]) = some r) : topRun treeTable p w n0 ann (m + N) s.abs (restOf (l ++ rest) env c pos [topFrame q]) = some r := by
  unfold stQ piecesQ at h
  rw [← stepQ_eq, ← denQ_eq, ← tabQ_eq, ← execsQ_eq] at h
  exact piece_app (segF_ok h) k
theorem blockQ_ok {m N : Nat} {s s' : SharedT} {r : Shared} {b : List Stmt} {c : Code} {pos p' : Pos} (h : segF (stQ p w) n0 ann 1 m s (blockQ b env c pos [topFrame q]) = some (.next, s', c, p'))
    (k : topRun treeTable p w n0 ann N s'.abs (restOf b env c p' [topFrame q]) = some r) : topRun treeTable p w n0 ann (m + N) s.abs ⟨denote treeTable (.body b env), c, pos, [topFrame q]⟩ = some r := by
  unfold stQ blockQ at h
  rw [← stepQ_eq, ← denQ_eq, ← tabQ_eq, ← blockStartQ_eq] at h
  exact piece_block (segF_ok h) k
theorem preQ {m N : Nat} {s s' : SharedT} {r : Shared} {b : List Stmt} {c : Code} {pos : Pos} {t : Thread} {B : List Frame} (h : preF (stQ p w) n0 ann m s t = some (s', ⟨denQ tabQ (.body b env), c, pos, B⟩))
    (k : topRun treeTable p w n0 ann N s'.abs ⟨denote treeTable (.body b env), c, pos, B⟩ = some r) : topRun treeTable p w n0 ann (m + N) s.abs t = some r := by
  unfold stQ at h
  rw [← stepQ_eq, ← denQ_eq, ← tabQ_eq] at h
  exact go_top (preF_ok h) k
theorem finQ {m : Nat} {s s' : SharedT} {c : Code} {pos : Pos} (h : goF (stQ p w) n0 ann m s ⟨doneF .next, c, pos, [topFrame q]⟩ = some s') : topRun treeTable p w n0 ann m s.abs (restOf [] env c pos [topFrame q]) = some s'.abs := by
  unfold stQ at h
  rw [← stepQ_eq, ← denQ_eq, ← tabQ_eq] at h
  exact piece_nil (goF_ok h)
end
theorem left_cut {p q : Program} {loose : List PySem.Str} {Xt : Shared → Bool} {α : Type} {Yf : Shared → α} {Ya : World → α} {N M : Nat} {SF : World → OsState → SharedT}
    (e : opening p = plainProg p.main.scope.names) (hN : Nat.ble 600 N = true) (f : ∀ s, fenceModules? p s = some s) (le : Nat.ble M N = true)
    (top : ∀ (w : World) (os : OsState), topRun treeTable p w (boot_heap w.params).objs.size (bootAnn w) M ⟨boot_heap w.params, #[], boot_drawn, boot_toks, os⟩ (topStub p) = some (SF w os).abs)
    (run : ∀ (w : World) (os : OsState), (some (SF w os)).map (fun s => (looksF p (boot_heap w.params) s.abs, openSeen q loose (importedModules p.main.body) Xt true s.abs, Yf s.abs)) = some (true, openGood q loose, Ya w)) :
    LeftO p q loose Xt Yf Ya N true := fun w => by
  obtain ⟨⟨h, gs, d, k, os⟩, a, a'⟩ := Option.map_eq_some_iff.mp (boot_open e hN f w)
  obtain ⟨rfl, rfl, rfl, rfl⟩ : h = boot_heap w.params ∧ gs = Array.mk [] ∧ d = boot_drawn ∧ k = boot_toks := by simpa using a'
  have hv := Option.some.inj (run w os)
  obtain ⟨l1, l2, l3⟩ : _ ∧ _ ∧ _ := by simpa only [Prod.mk.injEq] using hv
  have r := topRun_mono (N - M) _ _ _ _ (top w os)
  rw [show M + (N - M) = N by have := Nat.le_of_ble_eq_true le; omega] at r
  have l1' : (staticsOk (importedModules p.main.body) (boot_heap w.params) (SF w os).abs.heap && namesBound p (SF w os).abs.heap && gensDone (SF w os).abs && laidKept (boot_heap w.params) (SF w os).abs.heap) = true := l1
  have t : topFrom treeTable p w N ⟨boot_heap w.params, Array.mk [], boot_drawn, boot_toks, os⟩ = some (SF w os).abs := by
    unfold topFrom
    dsimp only
    rw [boot_ns]
    show (topRun treeTable p w (boot_heap w.params).objs.size (bootAnn w) N ⟨boot_heap w.params, #[], boot_drawn, boot_toks, os⟩ (topStub p)).bind _ = _
    rw [r]
    show (match staticsOk (importedModules p.main.body) (boot_heap w.params) (SF w os).abs.heap && namesBound p (SF w os).abs.heap && gensDone (SF w os).abs && laidKept (boot_heap w.params) (SF w os).abs.heap with | true => some (SF w os).abs | false => none) = _
    rw [l1']
  unfold openEnds
  rw [a]
  show (topFrom treeTable p w N _).map _ = _
  rw [t]
  exact congrArg some (Prod.ext l2 l3)
def RunEq (r : OpenRow) (q : Program) (H : Hook) (ob : SharedT → H.α) (SF : World → OsState → SharedT) (loose : List PySem.Str) (w : World) : Prop :=
  ∀ os : OsState, (some (SF w os)).map (fun s => (looksF r.prog (boot_heap w.params) s.abs, seenQ q loose (importedModules r.prog.main.body) (fun s => xlAt q [] s && recOk r.toRowW.records s) s.abs, ob s)) = some (true, openGood q loose, H.val w)
theorem head_cut {r : OpenRow} {q : Program} {H : Hook} {ob : SharedT → H.α} {M : Nat} {SF : World → OsState → SharedT} {loose : List PySem.Str} {d : DefRec} {kwd : List (PySem.Str × PySem.Expr)} (ho : ∀ s : SharedT, ob s = H.obs s.abs)
    (e : opening r.prog = plainProg r.prog.main.scope.names) (f : ∀ s, fenceModules? r.prog s = some s)
    (top : ∀ (w : World) (os : OsState), topRun treeTable r.prog w (boot_heap w.params).objs.size (bootAnn w) M ⟨boot_heap w.params, #[], boot_drawn, boot_toks, os⟩ (topStub r.prog) = some (SF w os).abs)
    (run : ∀ w, RunEq r q H ob SF loose w)
    (hdef : defOf q r.name = some (d, kwd)) (hp : r.prog.theDef r.name = some (d.params, d.body, d.scope)) (hk : kwWritten? d.params.kwonlyargs d.params.kw_defaults = some kwd)
    (hwr : (!r.writes || r.records.isEmpty) = true) (k1 : r.wellSaid = true) (ok : (chainsOk q && opensWell r.prog && (frees r.toRowW && r.within.isEmpty)) = true) (hb : r.prog.bare) (hw : r.toRowW.promised)
    (call : WalkO q loose (XL q []) H.says r.toRowW d kwd fun f vs => PySem.call f vs) : r.Holds := by
  have left : LeftO r.prog q loose (fun s => xlAt q [] s && recOk r.toRowW.records s) H.obs H.val (M + 600) true :=
    left_cut (M := M) e (Nat.ble_eq_true_of_le (by omega)) f (Nat.ble_eq_true_of_le (by omega)) top fun w os => by
      have z := run w os
      have eo : ob = fun s => H.obs s.abs := funext ho
      rw [eo] at z
      simp only [seenQ_eq]
      exact z
  exact holds_open (r := r) (q := q) (loose := loose) (XP := XL q []) (YP := H.says) (d := d) (kwd := kwd) left H.of H.keeps (fun s z => xl_of s (Bool.and_eq_true_iff.mp z).1) XL.keeps hdef hp hk (fun s z => recFacts_of (Bool.and_eq_true_iff.mp z).2) hwr k1 ok hb hw call
theorem joinC {r : PySem.W.OpenRow} {q : Program} {D : Rn.HdD} {loose : List PySem.Str} {w : World} {x : PySem.W.SharedT} (o : Option PySem.W.SharedT) (ho : some x = o)
    (h1 : o.map (fun s => HandSHeadRun.looksF r.prog (PySem.W.boot_heap w.params) s.abs) = some true)
    (h2 : o.map (fun s => HandSHeadRun.seenQ q loose (importedModules r.prog.main.body) (fun s => PySem.W.xlAt q [] s && PySem.W.recOk r.records s) s.abs) = some (PySem.W.openGood q loose))
    (h3 : o.map (fun s => D.ex (He.frG (HandSHeadRun.getT s) D.as)) = some true) (h4 : o.map (fun s => D.fs.map (Rn.fnX (He.frG (HandSHeadRun.getT s) D.as))) = some D.fv)
    (h5 : o.map (fun s => D.ds.map (He.dicW (He.frG (HandSHeadRun.getT s) D.as))) = some (D.dk.map fun ks => some (He.keysIn w.params ks))) :
    Option.map (fun s => (HandSHeadRun.looksF r.prog (PySem.W.boot_heap w.params) s.abs, HandSHeadRun.seenQ q loose (importedModules r.prog.main.body) (fun s => PySem.W.xlAt q [] s && PySem.W.recOk r.records s) s.abs, Rn.obH D s)) (some x) = some (true, PySem.W.openGood q loose, (Rn.hookH D).val w) := by
  rw [ho]
  cases o with
  | none => cases h1
  | some s =>
    have e1 := Option.some.inj h1
    have e2 := Option.some.inj h2
    have e3 := Option.some.inj h3
    have e4 := Option.some.inj h4
    have e5 := Option.some.inj h5
    show some (_, _, (D.ex (He.frG (HandSHeadRun.getT s) D.as), D.fs.map (Rn.fnX (He.frG (HandSHeadRun.getT s) D.as)), D.ds.map (He.dicW (He.frG (HandSHeadRun.getT s) D.as)))) = some (true, _, (true, D.fv, D.dk.map fun ks => some (He.keysIn w.params ks)))
    dsimp only at e1 e2 e3 e4 e5
    rw [e1, e2, e3, e4, e5]
end
end Ct
namespace K48
open PySem PySem.Spec PyProof.Rows L2 Dv
set_option autoImplicit false
noncomputable section
theorem kit_self {K : PySem.W.Frag} {C : Addr} : PySem.W.kitOne K (.ref C) (.ref C) = some true := if_pos (beq_self_eq_true _)
theorem kit_own {K : PySem.W.Frag} {C D : Addr} {r : Bool} (h1 : PySem.W.isClsIn K D = true) (h2 : PySem.W.typeIn K (.ref D) = some (.type "type")) (h3 : PySem.W.subIn K (.ref C) (.ref D) = some r) (h4 : (Value.ref C == Value.ref D) = false) :
    PySem.W.kitOne K (.ref C) (.ref D) = some r := by
  have a1 : ((PySem.W.clsIn K D).isSome && PySem.W.typeIn K (.ref D) == some (.type "type")) = true := by
    rw [h2, show (PySem.W.clsIn K D).isSome = true from h1] <;> rfl
  have a2 : PySem.W.kitCls K (.ref C) (.ref D) = some r := Eq.trans (if_pos a1) h3
  exact Eq.trans (if_neg (by rw [h4] <;> decide)) a2
def topS (i : Nat) : Stmt := PySem.Challenge.pw_oneheap_k48_numbers_leave_contents.main.body.getD i (.Pass ⟨0, 0, 0, 0⟩)
structure Ad where
  C_IntSort : Addr
  C_TextSort : Addr
  C_RefSort : Addr
  C_ListSort : Addr
  C_Thing : Addr
  C_Heap : Addr
  C_Field : Addr
  C_Kind : Addr
  C_Schema : Addr
  f_IntSort___init__ : Addr
  fd_IntSort___init__ : FuncData
  f_TextSort___init__ : Addr
  fd_TextSort___init__ : FuncData
  f_RefSort___init__ : Addr
  fd_RefSort___init__ : FuncData
  f_ListSort___init__ : Addr
  fd_ListSort___init__ : FuncData
  f_Thing___init__ : Addr
  fd_Thing___init__ : FuncData
  f_Thing_copied : Addr
  fd_Thing_copied : FuncData
  f_Thing___eq__ : Addr
  fd_Thing___eq__ : FuncData
  f_Heap___init__ : Addr
  fd_Heap___init__ : FuncData
  f_Heap_picture_of : Addr
  fd_Heap_picture_of : FuncData
  f_Heap_copied : Addr
  fd_Heap_copied : FuncData
  f_Heap___eq__ : Addr
  fd_Heap___eq__ : FuncData
  f_Field___init__ : Addr
  fd_Field___init__ : FuncData
  f_Kind___init__ : Addr
  fd_Kind___init__ : FuncData
  f_Kind_field_of : Addr
  fd_Kind_field_of : FuncData
  f_Schema___init__ : Addr
  fd_Schema___init__ : FuncData
  f_Schema_kind_of : Addr
  fd_Schema_kind_of : FuncData
  f_Schema_field_of : Addr
  fd_Schema_field_of : FuncData
  f_is_reference : Addr
  fd_is_reference : FuncData
  f_is_list : Addr
  fd_is_list : FuncData
  f_is_link : Addr
  fd_is_link : FuncData
  f_content_copy : Addr
  fd_content_copy : FuncData
  f_holds_number : Addr
  fd_holds_number : FuncData
  f_picture_copy : Addr
  fd_picture_copy : FuncData
  f_without_any : Addr
  fd_without_any : FuncData
  f_holds_any : Addr
  fd_holds_any : FuncData
  f_without_numbers : Addr
  fd_without_numbers : FuncData
  f_thing_without : Addr
  fd_thing_without : FuncData
  f__law_cells : Addr
  fd__law_cells : FuncData
  f__law_draw : Addr
  fd__law_draw : FuncData
  f__law_pick : Addr
  fd__law_pick : FuncData
  f__law_names : Addr
  fd__law_names : FuncData
  f__law_rules : Addr
  fd__law_rules : FuncData
  f__law_schema : Addr
  fd__law_schema : FuncData
  f__law_number : Addr
  fd__law_number : FuncData
  f__law_list : Addr
  fd__law_list : FuncData
  f__law_contents : Addr
  fd__law_contents : FuncData
  f__law_picture : Addr
  fd__law_picture : FuncData
  f__law_shown : Addr
  fd__law_shown : FuncData
  f__law_due : Addr
  fd__law_due : FuncData
  f_law : Addr
  fd_law : FuncData
/-- what the top leaves, as the proofs of the defs ask it -/
structure Txt (K : PySem.W.Frag) (mg : Str → Option Value) (A : Ad) : Prop where
  b_any : mg "any" = none
  b_int : mg "int" = none
  b_isinstance : mg "isinstance" = none
  b_len : mg "len" = none
  b_list : mg "list" = none
  b_range : mg "range" = none
  b_repr : mg "repr" = none
  b_sorted : mg "sorted" = none
  g_IntSort : mg "IntSort" = some (.ref A.C_IntSort)
  cl_IntSort : Cls K A.C_IntSort
  mk_IntSort : Mk K A.C_IntSort A.f_IntSort___init__
  na_IntSort_low : NoAttr K A.C_IntSort "low"
  na_IntSort_high : NoAttr K A.C_IntSort "high"
  ii_IntSort : ∀ (H : Hp) (a dx : Addr) (fs : List (Str × V)), H a = some (.ins A.C_IntSort dx fs) → TyX K H (.ref a) (.ref A.C_IntSort)
  g_TextSort : mg "TextSort" = some (.ref A.C_TextSort)
  cl_TextSort : Cls K A.C_TextSort
  mk_TextSort : Mk K A.C_TextSort A.f_TextSort___init__
  na_TextSort_longest : NoAttr K A.C_TextSort "longest"
  na_TextSort_without : NoAttr K A.C_TextSort "without"
  ii_TextSort : ∀ (H : Hp) (a dx : Addr) (fs : List (Str × V)), H a = some (.ins A.C_TextSort dx fs) → TyX K H (.ref a) (.ref A.C_TextSort)
  g_RefSort : mg "RefSort" = some (.ref A.C_RefSort)
  cl_RefSort : Cls K A.C_RefSort
  mk_RefSort : Mk K A.C_RefSort A.f_RefSort___init__
  na_RefSort_kinds : NoAttr K A.C_RefSort "kinds"
  na_RefSort_rule : NoAttr K A.C_RefSort "rule"
  ii_RefSort : ∀ (H : Hp) (a dx : Addr) (fs : List (Str × V)), H a = some (.ins A.C_RefSort dx fs) → TyX K H (.ref a) (.ref A.C_RefSort)
  g_ListSort : mg "ListSort" = some (.ref A.C_ListSort)
  cl_ListSort : Cls K A.C_ListSort
  mk_ListSort : Mk K A.C_ListSort A.f_ListSort___init__
  na_ListSort_kinds : NoAttr K A.C_ListSort "kinds"
  ii_ListSort : ∀ (H : Hp) (a dx : Addr) (fs : List (Str × V)), H a = some (.ins A.C_ListSort dx fs) → TyX K H (.ref a) (.ref A.C_ListSort)
  g_Thing : mg "Thing" = some (.ref A.C_Thing)
  cl_Thing : Cls K A.C_Thing
  mk_Thing : Mk K A.C_Thing A.f_Thing___init__
  na_Thing_kind : NoAttr K A.C_Thing "kind"
  na_Thing_contents : NoAttr K A.C_Thing "contents"
  me_Thing_copied : Meth K A.C_Thing "copied" A.f_Thing_copied
  me_Thing___eq__ : Meth K A.C_Thing "__eq__" A.f_Thing___eq__
  ii_Thing : ∀ (H : Hp) (a dx : Addr) (fs : List (Str × V)), H a = some (.ins A.C_Thing dx fs) → TyX K H (.ref a) (.ref A.C_Thing)
  g_Heap : mg "Heap" = some (.ref A.C_Heap)
  cl_Heap : Cls K A.C_Heap
  mk_Heap : Mk K A.C_Heap A.f_Heap___init__
  na_Heap_pictures : NoAttr K A.C_Heap "pictures"
  me_Heap_picture_of : Meth K A.C_Heap "picture_of" A.f_Heap_picture_of
  me_Heap_copied : Meth K A.C_Heap "copied" A.f_Heap_copied
  me_Heap___eq__ : Meth K A.C_Heap "__eq__" A.f_Heap___eq__
  ii_Heap : ∀ (H : Hp) (a dx : Addr) (fs : List (Str × V)), H a = some (.ins A.C_Heap dx fs) → TyX K H (.ref a) (.ref A.C_Heap)
  g_Field : mg "Field" = some (.ref A.C_Field)
  cl_Field : Cls K A.C_Field
  mk_Field : Mk K A.C_Field A.f_Field___init__
  na_Field_name : NoAttr K A.C_Field "name"
  na_Field_shape : NoAttr K A.C_Field "shape"
  na_Field_needed : NoAttr K A.C_Field "needed"
  g_Kind : mg "Kind" = some (.ref A.C_Kind)
  cl_Kind : Cls K A.C_Kind
  mk_Kind : Mk K A.C_Kind A.f_Kind___init__
  na_Kind_name : NoAttr K A.C_Kind "name"
  na_Kind_fields : NoAttr K A.C_Kind "fields"
  na_Kind_key_rows : NoAttr K A.C_Kind "key_rows"
  me_Kind_field_of : Meth K A.C_Kind "field_of" A.f_Kind_field_of
  g_Schema : mg "Schema" = some (.ref A.C_Schema)
  cl_Schema : Cls K A.C_Schema
  mk_Schema : Mk K A.C_Schema A.f_Schema___init__
  na_Schema_kinds : NoAttr K A.C_Schema "kinds"
  me_Schema_kind_of : Meth K A.C_Schema "kind_of" A.f_Schema_kind_of
  me_Schema_field_of : Meth K A.C_Schema "field_of" A.f_Schema_field_of
  is_IntSort_RefSort : PySem.W.kitOne K (.ref A.C_IntSort) (.ref A.C_RefSort) = some false
  is_TextSort_RefSort : PySem.W.kitOne K (.ref A.C_TextSort) (.ref A.C_RefSort) = some false
  is_RefSort_RefSort : PySem.W.kitOne K (.ref A.C_RefSort) (.ref A.C_RefSort) = some true
  is_ListSort_RefSort : PySem.W.kitOne K (.ref A.C_ListSort) (.ref A.C_RefSort) = some false
  is_IntSort_ListSort : PySem.W.kitOne K (.ref A.C_IntSort) (.ref A.C_ListSort) = some false
  is_TextSort_ListSort : PySem.W.kitOne K (.ref A.C_TextSort) (.ref A.C_ListSort) = some false
  is_RefSort_ListSort : PySem.W.kitOne K (.ref A.C_RefSort) (.ref A.C_ListSort) = some false
  is_ListSort_ListSort : PySem.W.kitOne K (.ref A.C_ListSort) (.ref A.C_ListSort) = some true
  is_Thing_Thing : PySem.W.kitOne K (.ref A.C_Thing) (.ref A.C_Thing) = some true
  is_Heap_Heap : PySem.W.kitOne K (.ref A.C_Heap) (.ref A.C_Heap) = some true
  F_IntSort___init__ : Fun K "__init__" "IntSort.__init__" (inClass (topS 2) 0) A.f_IntSort___init__ A.fd_IntSort___init__
  b_IntSort___init__ : Binds K A.fd_IntSort___init__ ["self", "low", "high"] []
  F_TextSort___init__ : FunD K "__init__" "TextSort.__init__" (defArgs (inClass (topS 3) 0)) (defBody (inClass (topS 3) 0)) (defScope (inClass (topS 3) 0)) [.non] [] A.f_TextSort___init__ A.fd_TextSort___init__
  b_TextSort___init__ : Binds K A.fd_TextSort___init__ ["self", "longest", "without"] []
  F_RefSort___init__ : Fun K "__init__" "RefSort.__init__" (inClass (topS 4) 0) A.f_RefSort___init__ A.fd_RefSort___init__
  b_RefSort___init__ : Binds K A.fd_RefSort___init__ ["self", "kinds", "rule"] []
  F_ListSort___init__ : Fun K "__init__" "ListSort.__init__" (inClass (topS 5) 0) A.f_ListSort___init__ A.fd_ListSort___init__
  b_ListSort___init__ : Binds K A.fd_ListSort___init__ ["self", "kinds"] []
  F_Thing___init__ : Fun K "__init__" "Thing.__init__" (inClass (topS 10) 0) A.f_Thing___init__ A.fd_Thing___init__
  b_Thing___init__ : Binds K A.fd_Thing___init__ ["self", "kind", "contents"] []
  F_Thing_copied : Fun K "copied" "Thing.copied" (inClass (topS 10) 1) A.f_Thing_copied A.fd_Thing_copied
  b_Thing_copied : Binds K A.fd_Thing_copied ["self"] []
  F_Thing___eq__ : Fun K "__eq__" "Thing.__eq__" (inClass (topS 10) 2) A.f_Thing___eq__ A.fd_Thing___eq__
  b_Thing___eq__ : Binds K A.fd_Thing___eq__ ["self", "other"] []
  F_Heap___init__ : Fun K "__init__" "Heap.__init__" (inClass (topS 18) 0) A.f_Heap___init__ A.fd_Heap___init__
  b_Heap___init__ : Binds K A.fd_Heap___init__ ["self", "pictures"] []
  F_Heap_picture_of : Fun K "picture_of" "Heap.picture_of" (inClass (topS 18) 1) A.f_Heap_picture_of A.fd_Heap_picture_of
  b_Heap_picture_of : Binds K A.fd_Heap_picture_of ["self", "number"] []
  F_Heap_copied : Fun K "copied" "Heap.copied" (inClass (topS 18) 2) A.f_Heap_copied A.fd_Heap_copied
  b_Heap_copied : Binds K A.fd_Heap_copied ["self"] []
  F_Heap___eq__ : Fun K "__eq__" "Heap.__eq__" (inClass (topS 18) 3) A.f_Heap___eq__ A.fd_Heap___eq__
  b_Heap___eq__ : Binds K A.fd_Heap___eq__ ["self", "other"] []
  F_Field___init__ : FunD K "__init__" "Field.__init__" (defArgs (inClass (topS 22) 0)) (defBody (inClass (topS 22) 0)) (defScope (inClass (topS 22) 0)) [.bl false] [] A.f_Field___init__ A.fd_Field___init__
  b_Field___init__ : Binds K A.fd_Field___init__ ["self", "name", "shape", "needed"] []
  F_Kind___init__ : Fun K "__init__" "Kind.__init__" (inClass (topS 23) 0) A.f_Kind___init__ A.fd_Kind___init__
  b_Kind___init__ : Binds K A.fd_Kind___init__ ["self", "name", "fields", "key_rows"] []
  F_Kind_field_of : Fun K "field_of" "Kind.field_of" (inClass (topS 23) 1) A.f_Kind_field_of A.fd_Kind_field_of
  b_Kind_field_of : Binds K A.fd_Kind_field_of ["self", "name"] []
  F_Schema___init__ : Fun K "__init__" "Schema.__init__" (inClass (topS 24) 0) A.f_Schema___init__ A.fd_Schema___init__
  b_Schema___init__ : Binds K A.fd_Schema___init__ ["self", "kinds"] []
  F_Schema_kind_of : Fun K "kind_of" "Schema.kind_of" (inClass (topS 24) 1) A.f_Schema_kind_of A.fd_Schema_kind_of
  b_Schema_kind_of : Binds K A.fd_Schema_kind_of ["self", "name"] []
  F_Schema_field_of : Fun K "field_of" "Schema.field_of" (inClass (topS 24) 2) A.f_Schema_field_of A.fd_Schema_field_of
  b_Schema_field_of : Binds K A.fd_Schema_field_of ["self", "kind", "name"] []
  F_is_reference : Fun K "is_reference" "is_reference" (topS 6) A.f_is_reference A.fd_is_reference
  b_is_reference : Binds K A.fd_is_reference ["shape"] []
  g_is_reference : mg "is_reference" = some (.ref A.f_is_reference)
  F_is_list : Fun K "is_list" "is_list" (topS 7) A.f_is_list A.fd_is_list
  b_is_list : Binds K A.fd_is_list ["shape"] []
  g_is_list : mg "is_list" = some (.ref A.f_is_list)
  F_is_link : Fun K "is_link" "is_link" (topS 8) A.f_is_link A.fd_is_link
  b_is_link : Binds K A.fd_is_link ["shape"] []
  g_is_link : mg "is_link" = some (.ref A.f_is_link)
  F_content_copy : Fun K "content_copy" "content_copy" (topS 11) A.f_content_copy A.fd_content_copy
  b_content_copy : Binds K A.fd_content_copy ["content"] []
  g_content_copy : mg "content_copy" = some (.ref A.f_content_copy)
  F_holds_number : Fun K "holds_number" "holds_number" (topS 12) A.f_holds_number A.fd_holds_number
  b_holds_number : Binds K A.fd_holds_number ["content", "number"] []
  g_holds_number : mg "holds_number" = some (.ref A.f_holds_number)
  F_picture_copy : Fun K "picture_copy" "picture_copy" (topS 13) A.f_picture_copy A.fd_picture_copy
  b_picture_copy : Binds K A.fd_picture_copy ["picture"] []
  g_picture_copy : mg "picture_copy" = some (.ref A.f_picture_copy)
  F_without_any : Fun K "without_any" "without_any" (topS 15) A.f_without_any A.fd_without_any
  b_without_any : Binds K A.fd_without_any ["content", "gone"] []
  g_without_any : mg "without_any" = some (.ref A.f_without_any)
  F_holds_any : Fun K "holds_any" "holds_any" (topS 16) A.f_holds_any A.fd_holds_any
  b_holds_any : Binds K A.fd_holds_any ["content", "gone"] []
  g_holds_any : mg "holds_any" = some (.ref A.f_holds_any)
  F_without_numbers : Fun K "without_numbers" "without_numbers" (topS 19) A.f_without_numbers A.fd_without_numbers
  b_without_numbers : Binds K A.fd_without_numbers ["schema", "picture", "gone"] []
  g_without_numbers : mg "without_numbers" = some (.ref A.f_without_numbers)
  F_thing_without : Fun K "thing_without" "thing_without" (topS 20) A.f_thing_without A.fd_thing_without
  b_thing_without : Binds K A.fd_thing_without ["schema", "thing", "gone"] []
  g_thing_without : mg "thing_without" = some (.ref A.f_thing_without)
  F__law_cells : Fun K "_law_cells" "_law_cells" (topS 26) A.f__law_cells A.fd__law_cells
  b__law_cells : Binds K A.fd__law_cells ["script", "count"] []
  g__law_cells : mg "_law_cells" = some (.ref A.f__law_cells)
  F__law_draw : Fun K "_law_draw" "_law_draw" (topS 27) A.f__law_draw A.fd__law_draw
  b__law_draw : Binds K A.fd__law_draw ["draws", "bound"] []
  g__law_draw : mg "_law_draw" = some (.ref A.f__law_draw)
  F__law_pick : Fun K "_law_pick" "_law_pick" (topS 28) A.f__law_pick A.fd__law_pick
  b__law_pick : Binds K A.fd__law_pick ["draws", "row"] []
  g__law_pick : mg "_law_pick" = some (.ref A.f__law_pick)
  F__law_names : Fun K "_law_names" "_law_names" (topS 29) A.f__law_names A.fd__law_names
  b__law_names : Binds K A.fd__law_names ["kind"] []
  g__law_names : mg "_law_names" = some (.ref A.f__law_names)
  F__law_rules : Fun K "_law_rules" "_law_rules" (topS 30) A.f__law_rules A.fd__law_rules
  b__law_rules : Binds K A.fd__law_rules ["draws"] []
  g__law_rules : mg "_law_rules" = some (.ref A.f__law_rules)
  F__law_schema : Fun K "_law_schema" "_law_schema" (topS 31) A.f__law_schema A.fd__law_schema
  b__law_schema : Binds K A.fd__law_schema ["rules", "needed"] []
  g__law_schema : mg "_law_schema" = some (.ref A.f__law_schema)
  F__law_number : Fun K "_law_number" "_law_number" (topS 32) A.f__law_number A.fd__law_number
  b__law_number : Binds K A.fd__law_number ["draws"] []
  g__law_number : mg "_law_number" = some (.ref A.f__law_number)
  F__law_list : Fun K "_law_list" "_law_list" (topS 33) A.f__law_list A.fd__law_list
  b__law_list : Binds K A.fd__law_list ["draws"] []
  g__law_list : mg "_law_list" = some (.ref A.f__law_list)
  F__law_contents : Fun K "_law_contents" "_law_contents" (topS 34) A.f__law_contents A.fd__law_contents
  b__law_contents : Binds K A.fd__law_contents ["draws", "kind"] []
  g__law_contents : mg "_law_contents" = some (.ref A.f__law_contents)
  F__law_picture : Fun K "_law_picture" "_law_picture" (topS 35) A.f__law_picture A.fd__law_picture
  b__law_picture : Binds K A.fd__law_picture ["draws"] []
  g__law_picture : mg "_law_picture" = some (.ref A.f__law_picture)
  F__law_shown : Fun K "_law_shown" "_law_shown" (topS 36) A.f__law_shown A.fd__law_shown
  b__law_shown : Binds K A.fd__law_shown ["picture"] []
  g__law_shown : mg "_law_shown" = some (.ref A.f__law_shown)
  F__law_due : Fun K "_law_due" "_law_due" (topS 37) A.f__law_due A.fd__law_due
  b__law_due : Binds K A.fd__law_due ["picture", "gone"] []
  g__law_due : mg "_law_due" = some (.ref A.f__law_due)
  F_law : Fun K "law" "law" (topS 38) A.f_law A.fd_law
  b_law : Binds K A.fd_law ["script"] []
  isn_int_Thing : PySem.W.kitOne K (.type "int") (.ref A.C_Thing) = some false
  isn_int_Heap : PySem.W.kitOne K (.type "int") (.ref A.C_Heap) = some false
  eqo_Heap : Dv.EqOf K A.C_Heap A.f_Heap___eq__
  sbi_Heap : PySem.W.subIn K (.type "int") (.ref A.C_Heap) = some false
  eqo_Thing : Dv.EqOf K A.C_Thing A.f_Thing___eq__
  sbi_Thing : PySem.W.subIn K (.type "int") (.ref A.C_Thing) = some false
  b1_TextSort___init__ : ∃ ds, Vals [V.non] ds ∧ Binds K A.fd_TextSort___init__ ["self", "longest", "without"] ds
  b1_Field___init__ : ∃ ds, Vals [V.bl false] ds ∧ Binds K A.fd_Field___init__ ["self", "name", "shape", "needed"] ds
def SL (A : Ad) : List Addr := [A.C_IntSort, A.C_TextSort, A.C_RefSort, A.C_ListSort, A.C_Thing, A.C_Heap, A.C_Field, A.C_Kind, A.C_Schema, A.f_IntSort___init__, A.f_TextSort___init__, A.f_RefSort___init__, A.f_ListSort___init__, A.f_is_reference, A.f_is_list, A.f_is_link, A.f_Thing___init__, A.f_Thing_copied, A.f_Thing___eq__, A.f_content_copy, A.f_holds_number, A.f_picture_copy, A.f_without_any, A.f_holds_any, A.f_Heap___init__, A.f_Heap_picture_of, A.f_Heap_copied, A.f_Heap___eq__, A.f_without_numbers, A.f_thing_without, A.f_Field___init__, A.f_Kind___init__, A.f_Kind_field_of, A.f_Schema___init__, A.f_Schema_kind_of, A.f_Schema_field_of, A.f__law_cells, A.f__law_draw, A.f__law_pick, A.f__law_names, A.f__law_rules, A.f__law_schema, A.f__law_number, A.f__law_list, A.f__law_contents, A.f__law_picture, A.f__law_shown, A.f__law_due, A.f_law]
def S (A : Ad) (n : Nat) : Addr := match (SL A)[n]? with
  | some a => a
  | none => A.C_IntSort
def fc_low : List Nat := [0]
def fc_high : List Nat := [0]
def fc_longest : List Nat := [1]
def fc_without : List Nat := [1]
def fc_kinds : List Nat := [2, 3, 8]
def fc_rule : List Nat := [2]
def fc_kind : List Nat := [4]
def fc_contents : List Nat := [4]
def fc_pictures : List Nat := [5]
def fc_name : List Nat := [6, 7]
def fc_shape : List Nat := [6]
def fc_needed : List Nat := [6]
def fc_fields : List Nat := [7]
def fc_key_rows : List Nat := [7]
def isOO (c d : Nat) : Option Bool := match c, d with
  | 0, 2 => some false
  | 1, 2 => some false
  | 2, 2 => some true
  | 3, 2 => some false
  | 0, 3 => some false
  | 1, 3 => some false
  | 2, 3 => some false
  | 3, 3 => some true
  | 4, 4 => some true
  | 5, 5 => some true
  | _, _ => none
def isOB (c : Nat) (d : String) : Option Bool := none
def isBT (c : String) (d : Nat) : Option Bool := match c, d with
  | "int", 4 => some false
  | "int", 5 => some false
  | _, _ => none
def b_IntSort___init__ : EvS := (xSeq (xFldS fc_low "low" 0 (xVal 1))
 (xFldS fc_high "high" 0 (xVal 2)))
@[irreducible] def d_IntSort___init__ : Fn := runF false 3 b_IntSort___init__
theorem e_IntSort___init__ : d_IntSort___init__ = runF false 3 b_IntSort___init__ := by unfold d_IntSort___init__; rfl
def b_TextSort___init__ : EvS := (xSeq (xFldS fc_longest "longest" 0 (xVal 1))
 (xFldS fc_without "without" 0 (xVal 2)))
@[irreducible] def d_TextSort___init__ : Fn := runF false 3 b_TextSort___init__
theorem e_TextSort___init__ : d_TextSort___init__ = runF false 3 b_TextSort___init__ := by unfold d_TextSort___init__; rfl
def b_RefSort___init__ : EvS := (xSeq (xFldS fc_kinds "kinds" 0 (xCB fList (xCons (xVal 1) xNil)))
 (xFldS fc_rule "rule" 0 (xVal 2)))
@[irreducible] def d_RefSort___init__ : Fn := runF false 3 b_RefSort___init__
theorem e_RefSort___init__ : d_RefSort___init__ = runF false 3 b_RefSort___init__ := by unfold d_RefSort___init__; rfl
def b_ListSort___init__ : EvS := (xFldS fc_kinds "kinds" 0 (xCB fList (xCons (xVal 1) xNil)))
@[irreducible] def d_ListSort___init__ : Fn := runF false 2 b_ListSort___init__
theorem e_ListSort___init__ : d_ListSort___init__ = runF false 2 b_ListSort___init__ := by unfold d_ListSort___init__; rfl
def b_is_reference : EvS := (xRet (xCB (fIs isOO isOB isBT) (xCons (xVal 0) (xCons (xC (.st 2)) xNil))))
@[irreducible] def d_is_reference : Fn := runF false 1 b_is_reference
theorem e_is_reference : d_is_reference = runF false 1 b_is_reference := by unfold d_is_reference; rfl
def b_is_list : EvS := (xRet (xCB (fIs isOO isOB isBT) (xCons (xVal 0) (xCons (xC (.st 3)) xNil))))
@[irreducible] def d_is_list : Fn := runF false 1 b_is_list
theorem e_is_list : d_is_list = runF false 1 b_is_list := by unfold d_is_list; rfl
def b_Thing___eq__ : EvS := (xRet (xAndV (xCB (fIs isOO isOB isBT) (xCons (xVal 1) (xCons (xC (.st 4)) xNil))) (xAndV (xOp oEq (xFld fc_kind "kind" (xVal 0)) (xFld fc_kind "kind" (xVal 1))) (xOp oEqK (xFld fc_contents "contents" (xVal 0)) (xFld fc_contents "contents" (xVal 1))))))
@[irreducible] def d_Thing___eq__ : Fn := runF false 2 b_Thing___eq__
theorem e_Thing___eq__ : d_Thing___eq__ = runF false 2 b_Thing___eq__ := by unfold d_Thing___eq__; rfl
def b_content_copy : EvS := (xRet (xIf (xTest (xCB (fIs isOO isOB isBT) (xCons (xVal 0) (xCons (xC (.ty "list")) xNil)))) (xCB fList (xCons (xVal 0) xNil)) (xVal 0)))
@[irreducible] def d_content_copy : Fn := runF false 1 b_content_copy
theorem e_content_copy : d_content_copy = runF false 1 b_content_copy := by unfold d_content_copy; rfl
def b_holds_number : EvS := (xSeq (xIfS (xTest (xCB (fIs isOO isOB isBT) (xCons (xVal 0) (xCons (xC (.ty "list")) xNil))))
 (xRet (xOp (oOr (oIn false) (oInD false)) (xVal 1) (xVal 0)))
 xNx)
 (xRet (xOp oEq (xVal 0) (xVal 1))))
@[irreducible] def d_holds_number : Fn := runF false 2 b_holds_number
theorem e_holds_number : d_holds_number = runF false 2 b_holds_number := by unfold d_holds_number; rfl
def b_Heap_picture_of : EvS := (xRet (xOp oDGet (xFld fc_pictures "pictures" (xVal 0)) (xVal 1)))
@[irreducible] def d_Heap_picture_of : Fn := runF false 2 b_Heap_picture_of
theorem e_Heap_picture_of : d_Heap_picture_of = runF false 2 b_Heap_picture_of := by unfold d_Heap_picture_of; rfl
def b_Field___init__ : EvS := (xSeq (xFldS fc_name "name" 0 (xVal 1))
 (xSeq (xFldS fc_shape "shape" 0 (xVal 2))
 (xFldS fc_needed "needed" 0 (xVal 3))))
@[irreducible] def d_Field___init__ : Fn := runF false 4 b_Field___init__
theorem e_Field___init__ : d_Field___init__ = runF false 4 b_Field___init__ := by unfold d_Field___init__; rfl
def b_Kind___init__ : EvS := (xSeq (xFldS fc_name "name" 0 (xVal 1))
 (xSeq (xFldS fc_fields "fields" 0 (xCB fList (xCons (xVal 2) xNil)))
 (xFldS fc_key_rows "key_rows" 0 (xLc (iSq (xVal 3)) (yName 4) xYes (xCB fList (xCons (xVal 4) xNil)) [4]))))
@[irreducible] def d_Kind___init__ : Fn := runF false 5 b_Kind___init__
theorem e_Kind___init__ : d_Kind___init__ = runF false 5 b_Kind___init__ := by unfold d_Kind___init__; rfl
def b_Kind_field_of : EvS := (xSeq (xFor (iSq (xFld fc_fields "fields" (xVal 0))) (yName 2)
 (xIfS (xTest (xOp oEq (xFld fc_name "name" (xVal 2)) (xVal 1)))
 (xRet (xVal 2))
 xNx))
 (xRet (xC .non)))
@[irreducible] def d_Kind_field_of : Fn := runF false 3 b_Kind_field_of
theorem e_Kind_field_of : d_Kind_field_of = runF false 3 b_Kind_field_of := by unfold d_Kind_field_of; rfl
def b_Schema___init__ : EvS := (xFldS fc_kinds "kinds" 0 (xCB fList (xCons (xVal 1) xNil)))
@[irreducible] def d_Schema___init__ : Fn := runF false 2 b_Schema___init__
theorem e_Schema___init__ : d_Schema___init__ = runF false 2 b_Schema___init__ := by unfold d_Schema___init__; rfl
def b_Schema_kind_of : EvS := (xSeq (xFor (iSq (xFld fc_kinds "kinds" (xVal 0))) (yName 2)
 (xIfS (xTest (xOp oEq (xFld fc_name "name" (xVal 2)) (xVal 1)))
 (xRet (xVal 2))
 xNx))
 (xRet (xC .non)))
@[irreducible] def d_Schema_kind_of : Fn := runF false 3 b_Schema_kind_of
theorem e_Schema_kind_of : d_Schema_kind_of = runF false 3 b_Schema_kind_of := by unfold d_Schema_kind_of; rfl
def b__law_cells : EvS := (xSeq (xBox 2 (xLst xNil))
 (xSeq (xFor (iRg1 (xCons (xVal 1) xNil)) (yName 3)
 (xSeq (xSet 4 (xOp oAdd (xOp oMul (xC (.int 11)) (xVal 3)) (xC (.int 5))))
 (xSeq (xIfS (xTest (xOp oLt (xVal 3) (xCB fLen (xCons (xVal 0) xNil))))
 (xSeq (xSet 4 (xCB fInt (xCons (xOp oIx (xVal 0) (xVal 3)) xNil)))
 (xIfS (xTest (xOp oLt (xVal 4) (xC (.int 0))))
 (xSet 4 (xOp oSub (xC (.int 1)) (xOp oMul (xC (.int 2)) (xVal 4))))
 xNx))
 xNx)
 (xSeq (xIfS (xTest (xOp oLt (xVal 4) (xC (.int 1000000000))))
 (xSeq (xSet 4 (xOp oMod (xCB fInt (xCons (xOp oAdd (xOp oAdd (xOp oMul (xCB fInt (xCons (xVal 4) xNil)) (xC (.int 48271))) (xOp oMul (xC (.int 17)) (xVal 3))) (xC (.int 3))) xNil)) (xC (.int 2147483647))))
 (xSet 4 (xOp oMod (xCB fInt (xCons (xOp oAdd (xOp oMul (xCB fInt (xCons (xVal 4) xNil)) (xC (.int 2862933555777941757))) (xC (.int 3037000493))) xNil)) (xC (.int 18446744073709551557)))))
 xNx)
 (xDrop (xOwnM mApp 2 (xCons (xVal 4) xNil)))))))
 (xRetV 2)))
@[irreducible] def d__law_cells : Fn := runF true 5 b__law_cells
theorem e__law_cells : d__law_cells = runF true 5 b__law_cells := by unfold d__law_cells; rfl
def b__law_draw : EvS := (xSeq (xIfS (xAndT (xBorT (xTest (xOp oEq (xOp oIx (xVal 0) (xC (.int 0))) (xC (.int 0))))) (xBorT (xTest (xOp oGt (xCB fLen (xCons (xVal 0) xNil)) (xC (.int 1))))))
 (xDrop (xOwnM mPopAt 0 (xCons (xC (.int 0)) xNil)))
 xNx)
 (xSeq (xSet 2 (xBor (xOp oMod (xCB fInt (xCons (xOp oIx (xVal 0) (xC (.int 0))) xNil)) (xVal 1))))
 (xSeq (xSetIx 0 (xC (.int 0)) (xBor (xOp oFdv (xOp oIx (xVal 0) (xC (.int 0))) (xVal 1))))
 (xRet (xVal 2)))))
@[irreducible] def d__law_draw : Fn := runF false 3 b__law_draw
theorem e__law_draw : d__law_draw = runF false 3 b__law_draw := by unfold d__law_draw; rfl
def b__law_names : EvS := (xSeq (xIfS (xTest (xOp oEq (xVal 0) (xC (.str "A"))))
 (xRet (xLst (xCons (xC (.str "a")) (xCons (xC (.str "t")) (xCons (xC (.str "r")) (xCons (xC (.str "l")) xNil))))))
 xNx)
 (xRet (xLst (xCons (xC (.str "p")) (xCons (xC (.str "q")) (xCons (xC (.str "m")) xNil))))))
@[irreducible] def d__law_names : Fn := runF false 1 b__law_names
theorem e__law_names : d__law_names = runF false 1 b__law_names := by unfold d__law_names; rfl
def b__law_shown : EvS := (xRet (xLc (iSq (xCB fSorted (xCons (xCB fListD (xCons (xVal 0) xNil)) xNil))) (yName 1) xYes (xTup (xCons (xVal 1) (xCons (xFld fc_kind "kind" (xOp oDGet (xVal 0) (xVal 1))) (xCons (xCB fRepr (xCons (xFld fc_contents "contents" (xOp oDGet (xVal 0) (xVal 1))) xNil)) xNil)))) [1]))
@[irreducible] def d__law_shown : Fn := runF false 2 b__law_shown
theorem e__law_shown : d__law_shown = runF false 2 b__law_shown := by unfold d__law_shown; rfl
def b_is_link : EvS := (xRet (xOrV (xCall 1 d_is_reference (gVal (xVal 0) gNil)) (xCall 1 d_is_list (gVal (xVal 0) gNil))))
@[irreducible] def d_is_link : Fn := runF false 1 b_is_link
theorem e_is_link : d_is_link = runF false 1 b_is_link := by unfold d_is_link; rfl
def b_Thing___init__ : EvS := (xSeq (xFldS fc_kind "kind" 0 (xVal 1))
 (xFldS fc_contents "contents" 0 (xDcD (pSlot 2) .items (yTup 2 (yCons (yName 3) (yCons (yName 4) yNil))) xYes (xVal 3) (xCall 1 d_content_copy (gVal (xVal 4) gNil)) [3, 4])))
@[irreducible] def d_Thing___init__ : Fn := runF false 5 b_Thing___init__
theorem e_Thing___init__ : d_Thing___init__ = runF false 5 b_Thing___init__ := by unfold d_Thing___init__; rfl
def b_holds_any : EvS := (xRet (xCB fAny (xCons (xLc (iSq (xVal 1)) (yName 2) xYes (xCall 2 d_holds_number (gVal (xVal 0) (gVal (xVal 2) gNil))) [2]) xNil)))
@[irreducible] def d_holds_any : Fn := runF false 3 b_holds_any
theorem e_holds_any : d_holds_any = runF false 3 b_holds_any := by unfold d_holds_any; rfl
def b_Schema_field_of : EvS := (xSeq (xSet 3 (xMeth "kind_of" 2 [(8, 34, d_Schema_kind_of)] (xVal 0) (gVal (xVal 1) gNil)))
 (xRet (xIf (xTest (xOp oIs (xVal 3) (xC .non))) (xC .non) (xMeth "field_of" 2 [(7, 32, d_Kind_field_of)] (xVal 3) (gVal (xVal 2) gNil)))))
@[irreducible] def d_Schema_field_of : Fn := runF false 4 b_Schema_field_of
theorem e_Schema_field_of : d_Schema_field_of = runF false 4 b_Schema_field_of := by unfold d_Schema_field_of; rfl
def b__law_pick : EvS := (xRet (xOp oIx (xVal 1) (xCall 2 d__law_draw (gSlot 0 (gVal (xCB fLen (xCons (xVal 1) xNil)) gNil)))))
@[irreducible] def d__law_pick : Fn := runF false 2 b__law_pick
theorem e__law_pick : d__law_pick = runF false 2 b__law_pick := by unfold d__law_pick; rfl
def b__law_number : EvS := (xSeq (xSet 1 (xCall 2 d__law_draw (gSlot 0 (gVal (xC (.int 10)) gNil))))
 (xSeq (xIfS (xTest (xOp oEq (xVal 1) (xC (.int 0))))
 (xRet (xC .non))
 xNx)
 (xRet (xVal 1))))
@[irreducible] def d__law_number : Fn := runF false 2 b__law_number
theorem e__law_number : d__law_number = runF false 2 b__law_number := by unfold d__law_number; rfl
def b__law_list : EvS := (xSeq (xBox 1 (xLst xNil))
 (xSeq (xFor (iRg1 (xCons (xCall 2 d__law_draw (gSlot 0 (gVal (xC (.int 5)) gNil))) xNil)) (yName 2)
 (xSeq (xSet 3 (xOp oAdd (xC (.int 1)) (xCall 2 d__law_draw (gSlot 0 (gVal (xC (.int 9)) gNil)))))
 (xIfS (xBorT (xTest (xOp (oOr (oIn true) (oInD true)) (xVal 3) (xVal 1))))
 (xDrop (xOwnM mApp 1 (xCons (xVal 3) xNil)))
 xNx)))
 (xRet (xVar 1))))
@[irreducible] def d__law_list : Fn := runF false 4 b__law_list
theorem e__law_list : d__law_list = runF false 4 b__law_list := by unfold d__law_list; rfl
def b__law_due : EvS := (xSeq (xBox 2 (xLst xNil))
 (xSeq (xFor (iSq (xCB fSorted (xCons (xCB fListD (xCons (xVal 0) xNil)) xNil))) (yName 3)
 (xSeq (xSet 4 (xOp oDGet (xVal 0) (xVal 3)))
 (xSeq (xBox 5 xDNew)
 (xSeq (xFor (iSq (xCall 1 d__law_names (gVal (xFld fc_kind "kind" (xVal 4)) gNil))) (yName 6)
 (xSeq (xSet 7 (xOp oDGet (xFld fc_contents "contents" (xVal 4)) (xVal 6)))
 (xSeq (xIfS (xAndT (xTest (xOp (oOr (oIn false) (oInD false)) (xVal 6) (xLst (xCons (xC (.str "r")) (xCons (xC (.str "p")) (xCons (xC (.str "q")) xNil)))))) (xTest (xOp (oOr (oIn false) (oInD false)) (xVar 7) (xVal 1))))
 (xSet 7 (xC .non))
 xNx)
 (xSeq (xIfS (xTest (xOp (oOr (oIn false) (oInD false)) (xVal 6) (xLst (xCons (xC (.str "l")) (xCons (xC (.str "m")) xNil)))))
 (xBox 7 (xLc (iSq (xVar 7)) (yName 8) (xTest (xOp (oOr (oIn true) (oInD true)) (xVal 8) (xVal 1))) (xVal 8) [8]))
 xNx)
 (xDPut 5 (xVal 6) (xVar 7))))))
 (xDrop (xOwnM mApp 2 (xCons (xTup (xCons (xVal 3) (xCons (xFld fc_kind "kind" (xVal 4)) (xCons (xBor (xCB fRepr (xCons (xVal 5) xNil))) xNil)))) xNil)))))))
 (xRet (xVar 2))))
@[irreducible] def d__law_due : Fn := runF false 9 b__law_due
theorem e__law_due : d__law_due = runF false 9 b__law_due := by unfold d__law_due; rfl
def b_without_any : EvS := (xSeq (xIfS (xTest (xCB (fIs isOO isOB isBT) (xCons (xVal 0) (xCons (xC (.ty "list")) xNil))))
 (xRet (xLc (iSq (xVal 0)) (yName 2) (xTest (xOp (oOr (oIn true) (oInD true)) (xVal 2) (xVal 1))) (xVal 2) [2]))
 xNx)
 (xRet (xIf (xTest (xCall 2 d_holds_any (gVal (xVal 0) (gVal (xVal 1) gNil)))) (xC .non) (xVal 0))))
@[irreducible] def d_without_any : Fn := runF false 3 b_without_any
theorem e_without_any : d_without_any = runF false 3 b_without_any := by unfold d_without_any; rfl
def b__law_rules : EvS := (xRet (xLc (iRg1 (xCons (xC (.int 3)) xNil)) (yName 1) xYes (xCall 2 d__law_pick (gSlot 0 (gVal (xLst (xCons (xC (.str "clears")) (xCons (xC (.str "refuses")) (xCons (xC (.str "takes")) xNil)))) gNil))) [1]))
@[irreducible] def d__law_rules : Fn := runF false 2 b__law_rules
theorem e__law_rules : d__law_rules = runF false 2 b__law_rules := by unfold d__law_rules; rfl
def b__law_schema : EvS := (xSeq (xSet 2 (xMake 7 4 [] d_Kind___init__ (xCons (xC (.str "A")) (xCons (xLst (xCons (xMake 6 4 [] d_Field___init__ (xCons (xC (.str "a")) (xCons (xMake 0 3 [] d_IntSort___init__ (xCons (xC (.int 0)) (xCons (xC (.int 9)) xNil))) (xCons (xVal 1) xNil)))) (xCons (xMake 6 4 [.bl false] d_Field___init__ (xCons (xC (.str "t")) (xCons (xMake 1 3 [.non] d_TextSort___init__ (xCons (xC (.int 4)) xNil)) xNil))) (xCons (xMake 6 4 [.bl false] d_Field___init__ (xCons (xC (.str "r")) (xCons (xMake 2 3 [] d_RefSort___init__ (xCons (xLst (xCons (xC (.str "A")) (xCons (xC (.str "B")) xNil))) (xCons (xOp oIx (xVal 0) (xC (.int 0))) xNil))) xNil))) (xCons (xMake 6 4 [.bl false] d_Field___init__ (xCons (xC (.str "l")) (xCons (xMake 3 2 [] d_ListSort___init__ (xCons (xLst (xCons (xC (.str "A")) xNil)) xNil)) xNil))) xNil))))) (xCons (xLst (xCons (xLst (xCons (xC (.str "a")) (xCons (xC (.str "t")) xNil))) xNil)) xNil)))))
 (xSeq (xSet 3 (xMake 7 4 [] d_Kind___init__ (xCons (xC (.str "B")) (xCons (xLst (xCons (xMake 6 4 [] d_Field___init__ (xCons (xC (.str "p")) (xCons (xMake 2 3 [] d_RefSort___init__ (xCons (xLst (xCons (xC (.str "A")) xNil)) (xCons (xOp oIx (xVal 0) (xC (.int 1))) xNil))) (xCons (xVal 1) xNil)))) (xCons (xMake 6 4 [.bl false] d_Field___init__ (xCons (xC (.str "q")) (xCons (xMake 2 3 [] d_RefSort___init__ (xCons (xLst (xCons (xC (.str "B")) xNil)) (xCons (xOp oIx (xVal 0) (xC (.int 2))) xNil))) xNil))) (xCons (xMake 6 4 [.bl false] d_Field___init__ (xCons (xC (.str "m")) (xCons (xMake 3 2 [] d_ListSort___init__ (xCons (xLst (xCons (xC (.str "A")) (xCons (xC (.str "B")) xNil))) xNil)) xNil))) xNil)))) (xCons (xLst (xCons (xLst (xCons (xC (.str "q")) xNil)) xNil)) xNil)))))
 (xRet (xMake 8 2 [] d_Schema___init__ (xCons (xLst (xCons (xVal 2) (xCons (xVal 3) xNil))) xNil)))))
@[irreducible] def d__law_schema : Fn := runF false 4 b__law_schema
theorem e__law_schema : d__law_schema = runF false 4 b__law_schema := by unfold d__law_schema; rfl
def b__law_contents : EvS := (xSeq (xBox 2 xDNew)
 (xSeq (xIfS (xTest (xOp oEq (xVal 1) (xC (.str "A"))))
 (xSeq (xDPut 2 (xC (.str "a")) (xCall 2 d__law_pick (gSlot 0 (gVal (xLst (xCons (xC .non) (xCons (xC (.int 0)) (xCons (xC (.int 1)) (xCons (xC (.int 2)) (xCons (xC (.int 9)) xNil)))))) gNil))))
 (xSeq (xDPut 2 (xC (.str "t")) (xCall 2 d__law_pick (gSlot 0 (gVal (xLst (xCons (xC .non) (xCons (xC (.str "")) (xCons (xC (.str "b")) (xCons (xC (.str "ab")) xNil))))) gNil))))
 (xSeq (xDPut 2 (xC (.str "r")) (xCall 1 d__law_number (gSlot 0 gNil)))
 (xSeq (xDPut 2 (xC (.str "l")) (xCall 1 d__law_list (gSlot 0 gNil)))
 (xRet (xVar 2))))))
 xNx)
 (xSeq (xDPut 2 (xC (.str "p")) (xCall 1 d__law_number (gSlot 0 gNil)))
 (xSeq (xDPut 2 (xC (.str "q")) (xCall 1 d__law_number (gSlot 0 gNil)))
 (xSeq (xDPut 2 (xC (.str "m")) (xCall 1 d__law_list (gSlot 0 gNil)))
 (xRet (xVar 2)))))))
@[irreducible] def d__law_contents : Fn := runF false 3 b__law_contents
theorem e__law_contents : d__law_contents = runF false 3 b__law_contents := by unfold d__law_contents; rfl
def b_Thing_copied : EvS := (xRet (xMake 4 3 [] d_Thing___init__ (xCons (xFld fc_kind "kind" (xVal 0)) (xCons (xFld fc_contents "contents" (xVal 0)) xNil))))
@[irreducible] def d_Thing_copied : Fn := runF false 1 b_Thing_copied
theorem e_Thing_copied : d_Thing_copied = runF false 1 b_Thing_copied := by unfold d_Thing_copied; rfl
def b_thing_without : EvS := (xSeq (xBox 3 xDNew)
 (xSeq (xForD (pFld fc_contents "contents" (pSlot 1)) .items (yTup 2 (yCons (yName 4) (yCons (yName 5) yNil)))
 (xSeq (xSet 6 (xMeth "field_of" 3 [(8, 35, d_Schema_field_of)] (xVal 0) (gVal (xFld fc_kind "kind" (xVal 1)) (gVal (xVal 4) gNil))))
 (xDPut 3 (xVal 4) (xIf (xTest (xCall 1 d_is_link (gVal (xFld fc_shape "shape" (xVal 6)) gNil))) (xCall 2 d_without_any (gVal (xVal 5) (gVal (xVal 2) gNil))) (xVal 5)))))
 (xRet (xMake 4 3 [] d_Thing___init__ (xCons (xFld fc_kind "kind" (xVal 1)) (xCons (xVar 3) xNil))))))
@[irreducible] def d_thing_without : Fn := runF false 7 b_thing_without
theorem e_thing_without : d_thing_without = runF false 7 b_thing_without := by unfold d_thing_without; rfl
def b__law_picture : EvS := (xSeq (xBox 1 xDNew)
 (xSeq (xFor (iRg1 (xCons (xCall 2 d__law_draw (gSlot 0 (gVal (xC (.int 8)) gNil))) xNil)) (yName 2)
 (xSeq (xSet 3 (xOp oAdd (xC (.int 1)) (xCall 2 d__law_draw (gSlot 0 (gVal (xC (.int 9)) gNil)))))
 (xSeq (xSet 4 (xCall 2 d__law_pick (gSlot 0 (gVal (xLst (xCons (xC (.str "A")) (xCons (xC (.str "B")) xNil))) gNil))))
 (xDPut 1 (xVal 3) (xMake 4 3 [] d_Thing___init__ (xCons (xVal 4) (xCons (xCall 2 d__law_contents (gSlot 0 (gVal (xVal 4) gNil))) xNil)))))))
 (xRet (xVar 1))))
@[irreducible] def d__law_picture : Fn := runF false 5 b__law_picture
theorem e__law_picture : d__law_picture = runF false 5 b__law_picture := by unfold d__law_picture; rfl
def b_without_numbers : EvS := (xRet (xDcD (pSlot 1) .items (yTup 2 (yCons (yName 3) (yCons (yName 4) yNil))) xYes (xVal 3) (xCall 3 d_thing_without (gVal (xVal 0) (gVal (xVal 4) (gVal (xVal 2) gNil)))) [3, 4]))
@[irreducible] def d_without_numbers : Fn := runF false 5 b_without_numbers
theorem e_without_numbers : d_without_numbers = runF false 5 b_without_numbers := by unfold d_without_numbers; rfl
end
end K48
namespace K48
open PySem PySem.Spec PyProof.Rows L2
open Rn
set_option autoImplicit false
set_option maxHeartbeats 0
noncomputable section
abbrev RR : PySem.W.OpenRow := PySem.W.OpenLaw.row PySem.Challenge.rw_oneheap_k48_numbers_leave_contents
def sv (s : String) (t : Nat) : Value := .str (Str.ofString s) t
def iv (i : Int) : Value := .int i 0
def rv (a : Nat) : Value := .ref a
def nv : Value := .none
def ob (c : Value) (d : PySem.Data) : Obj := Obj.mk c none d #[]
def de (P : Params) (s : String) (t : Nat) (v : Value) : PySem.DictEntry := DictEntry.mk (PyData.keyHash P (Str.ofString s)) (.str (Str.ofString s) t) v
abbrev nD (o : Obj) (l r : PySem.W.BT) : PySem.W.BT := .node o l r
abbrev lF (o : Obj) : PySem.W.BT := .node o .nil .nil
abbrev fdm (n q : String) (st : Stmt) := FuncData.mk (Str.ofString n) (Str.ofString q) (defArgs st) (.stmts (defBody st)) (defScope st)
def o11_1 (P : Params) : Obj := ob (Value.type "tuple") (Data.seq #[])
def o12_1 (P : Params) : Obj := ob nv (Data.fields #[])
def o13_1 (P : Params) : Obj := ob (Value.type "code") (Data.fields #[sv "<module>" 182, sv "<module>" 183, sv "/claim/cut.py" 184, iv 1, iv 0, iv 0, iv 0, iv 0, rv 11, Value.bool false, iv 181, rv 12, nv, nv, nv, nv, iv 185, iv 1, sv "/claim/cut.py" 186])
def o14_1 (P : Params) : Obj := Obj.mk (Value.type "frame") .none Data.plain #[.some (rv 13), .some (rv 3), .some (rv 3), .none, .some (sv "__main__" 164), .none, .some (rv 0)]
def tr1 (P : Params) : PySem.W.BT := (.node (PySem.W.boot_o_0 P) (.node (PySem.W.boot_o_1 P) (.node (PySem.W.boot_o_3 P) (.node (PySem.W.boot_o_7 P) .nil .nil) (.node (o11_1 P) .nil .nil)) (.node (PySem.W.boot_o_5 P) (.node (PySem.W.boot_o_9 P) .nil .nil) (.node (o13_1 P) .nil .nil))) (.node (PySem.W.boot_o_2 P) (.node (PySem.W.boot_o_4 P) (.node (PySem.W.boot_o_8 P) .nil .nil) (.node (o12_1 P) .nil .nil)) (.node (PySem.W.boot_o_6 P) (.node (PySem.W.boot_o_10 P) .nil .nil) (.node (o14_1 P) .nil .nil))))
def sT1 (w : World) (os : OsState) : PySem.W.SharedT := ⟨tr1 w.params, 15, (Life.mk [] [] [] 0 [] [] false #[] [] 0 false false false 0 [2000, 10, 10] false 0 true [] [] 0 false), #[], (Drawn.mk 0 0 0 0), 187, os⟩
def sT2 (w : World) (os : OsState) : PySem.W.SharedT := ⟨tr1 w.params, 15, (Life.mk [] [] [] 0 [] [] false #[] [] 0 false false false 0 [2000, 10, 10] false 0 true [] [] 0 false), #[], (Drawn.mk 0 0 0 0), 187, os⟩
def o3_3 (P : Params) : Obj := ob (Value.type "dict") (Data.dict #[de P "__name__" 165 (sv "oneheap.heap.heap" 516), de P "__doc__" 166 nv, de P "__package__" 167 nv, de P "__loader__" 168 (Value.builtin "__main__.__loader__#opaque"), de P "__spec__" 169 nv, de P "__annotations__" 170 (rv 6), de P "__builtins__" 171 (rv 4), de P "__file__" 173 (sv "/claim/cut.py" 172), de P "__cached__" 174 nv, de P "_wall" 193 (rv 21), de P "IntSort" 250 (rv 59), de P "TextSort" 305 (rv 102), de P "RefSort" 360 (rv 144), de P "ListSort" 413 (rv 186), de P "is_reference" 420 (rv 197), de P "is_list" 427 (rv 204), de P "is_link" 434 (rv 211), de P "Thing" 480 (rv 240), de P "content_copy" 487 (rv 251), de P "holds_number" 495 (rv 258), de P "picture_copy" 501 (rv 263), de P "without_any" 509 (rv 268), de P "holds_any" 515 (rv 273), de P "Heap" 568 (rv 309)] 24)
def o12_3 (P : Params) : Obj := ob nv (Data.fields #[iv 1, iv 0, rv 20, iv 5, iv 0, rv 27, iv 21, iv 0, rv 69, iv 39, iv 0, rv 112, iv 53, iv 0, rv 154, iv 66, iv 0, rv 196, iv 68, iv 0, rv 203, iv 70, iv 0, rv 210, iv 73, iv 0, rv 217, iv 84, iv 0, rv 250, iv 86, iv 0, rv 257, iv 90, iv 0, rv 262, iv 93, iv 0, rv 267, iv 97, iv 0, rv 272, iv 100, iv 0, rv 279])
def o15_3 (P : Params) : Obj := ob (Value.type "tuple") (Data.seq #[])
def o16_3 (P : Params) : Obj := ob nv (Data.fields #[])
def o17_3 (P : Params) : Obj := ob (Value.type "tuple") (Data.seq #[sv "k" 190])
def o18_3 (P : Params) : Obj := ob (Value.type "tuple") (Data.seq #[])
def o19_3 (P : Params) : Obj := ob nv (Data.func (fdm "_wall" "_wall" (topS 0) 0 [] nv nv nv nv .none nv nv 0))
def o20_3 (P : Params) : Obj := ob (Value.type "code") (Data.fields #[sv "_wall" 187, sv "_wall" 188, sv "/claim/cut.py" 189, iv 1, iv 1, iv 0, iv 0, iv 3, rv 15, Value.bool true, iv 181, rv 16, nv, rv 17, rv 18, rv 19, iv 191, iv 1, sv "/claim/cut.py" 192])
def o21_3 (P : Params) : Obj := ob (Value.type "function") (Data.func (fdm "_wall" "_wall" (topS 0) 3 [] nv nv nv (sv "__main__" 164) .none (rv 20) nv 0))
def o22_3 (P : Params) : Obj := ob (Value.type "tuple") (Data.seq #[])
def o23_3 (P : Params) : Obj := ob (Value.type "builtin_function_or_method") (Data.fields #[Value.builtin "type.__prepare__", Value.type "type"])
def o24_3 (P : Params) : Obj := ob (Value.type "dict") (Data.dict #[de P "__module__" 203 (sv "oneheap.schemas.sorts" 194), de P "__qualname__" 205 (sv "IntSort" 204), de P "__firstlineno__" 207 (Value.int 5 206), de P "__init__" 216 (rv 35), de P "holds" 224 (rv 42), de P "written" 231 (rv 49), de P "__eq__" 239 (rv 56), de P "__static_attributes__" 242 (rv 57)] 8)
def o25_3 (P : Params) : Obj := ob (Value.type "tuple") (Data.seq #[])
def o26_3 (P : Params) : Obj := ob nv (Data.fields #[iv 7, iv 4, rv 34, iv 11, iv 4, rv 41, iv 16, iv 4, rv 48, iv 19, iv 4, rv 55])
def o27_3 (P : Params) : Obj := ob (Value.type "code") (Data.fields #[sv "IntSort" 198, sv "IntSort" 199, sv "/claim/cut.py" 200, iv 5, iv 0, iv 0, iv 0, iv 0, rv 25, Value.bool false, iv 181, rv 26, nv, nv, nv, nv, iv 201, iv 5, sv "/claim/cut.py" 202])
def o28_3 (P : Params) : Obj := Obj.mk (Value.type "frame") .none Data.plain #[.some (rv 27), .some (rv 3), .some (rv 24), .none, .some (sv "oneheap.schemas.sorts" 194), .none, .some (rv 0)]
def o29_3 (P : Params) : Obj := ob (Value.type "tuple") (Data.seq #[])
def o30_3 (P : Params) : Obj := ob nv (Data.fields #[])
def o31_3 (P : Params) : Obj := ob (Value.type "tuple") (Data.seq #[sv "self" 211, sv "low" 212, sv "high" 213])
def o32_3 (P : Params) : Obj := ob (Value.type "tuple") (Data.seq #[])
def o33_3 (P : Params) : Obj := ob nv (Data.func (fdm "__init__" "IntSort.__init__" (inClass (topS 2) 0) 0 [] nv nv nv nv .none nv nv 0))
def o34_3 (P : Params) : Obj := ob (Value.type "code") (Data.fields #[sv "__init__" 208, sv "IntSort.__init__" 209, sv "/claim/cut.py" 210, iv 7, iv 3, iv 0, iv 0, iv 3, rv 29, Value.bool true, iv 181, rv 30, nv, rv 31, rv 32, rv 33, iv 214, iv 7, sv "/claim/cut.py" 215])
def o35_3 (P : Params) : Obj := ob (Value.type "function") (Data.func (fdm "__init__" "IntSort.__init__" (inClass (topS 2) 0) 3 [] nv nv nv (sv "oneheap.schemas.sorts" 194) .none (rv 34) nv 0))
def o36_3 (P : Params) : Obj := ob (Value.type "tuple") (Data.seq #[])
def o37_3 (P : Params) : Obj := ob nv (Data.fields #[])
def o38_3 (P : Params) : Obj := ob (Value.type "tuple") (Data.seq #[sv "self" 220, sv "value" 221])
def o39_3 (P : Params) : Obj := ob (Value.type "tuple") (Data.seq #[])
def o40_3 (P : Params) : Obj := ob nv (Data.func (fdm "holds" "IntSort.holds" (inClass (topS 2) 1) 0 [] nv nv nv nv .none nv nv 0))
def o41_3 (P : Params) : Obj := ob (Value.type "code") (Data.fields #[sv "holds" 217, sv "IntSort.holds" 218, sv "/claim/cut.py" 219, iv 11, iv 2, iv 0, iv 0, iv 3, rv 36, Value.bool true, iv 181, rv 37, nv, rv 38, rv 39, rv 40, iv 222, iv 11, sv "/claim/cut.py" 223])
def o42_3 (P : Params) : Obj := ob (Value.type "function") (Data.func (fdm "holds" "IntSort.holds" (inClass (topS 2) 1) 3 [] nv nv nv (sv "oneheap.schemas.sorts" 194) .none (rv 41) nv 0))
def o43_3 (P : Params) : Obj := ob (Value.type "tuple") (Data.seq #[])
def o44_3 (P : Params) : Obj := ob nv (Data.fields #[])
def o45_3 (P : Params) : Obj := ob (Value.type "tuple") (Data.seq #[sv "self" 228])
def o46_3 (P : Params) : Obj := ob (Value.type "tuple") (Data.seq #[])
def o47_3 (P : Params) : Obj := ob nv (Data.func (fdm "written" "IntSort.written" (inClass (topS 2) 2) 0 [] nv nv nv nv .none nv nv 0))
def o48_3 (P : Params) : Obj := ob (Value.type "code") (Data.fields #[sv "written" 225, sv "IntSort.written" 226, sv "/claim/cut.py" 227, iv 16, iv 1, iv 0, iv 0, iv 3, rv 43, Value.bool true, iv 181, rv 44, nv, rv 45, rv 46, rv 47, iv 229, iv 16, sv "/claim/cut.py" 230])
def o49_3 (P : Params) : Obj := ob (Value.type "function") (Data.func (fdm "written" "IntSort.written" (inClass (topS 2) 2) 3 [] nv nv nv (sv "oneheap.schemas.sorts" 194) .none (rv 48) nv 0))
def o50_3 (P : Params) : Obj := ob (Value.type "tuple") (Data.seq #[])
def o51_3 (P : Params) : Obj := ob nv (Data.fields #[])
def o52_3 (P : Params) : Obj := ob (Value.type "tuple") (Data.seq #[sv "self" 235, sv "other" 236])
def o53_3 (P : Params) : Obj := ob (Value.type "tuple") (Data.seq #[])
def o54_3 (P : Params) : Obj := ob nv (Data.func (fdm "__eq__" "IntSort.__eq__" (inClass (topS 2) 3) 0 [] nv nv nv nv .none nv nv 0))
def o55_3 (P : Params) : Obj := ob (Value.type "code") (Data.fields #[sv "__eq__" 232, sv "IntSort.__eq__" 233, sv "/claim/cut.py" 234, iv 19, iv 2, iv 0, iv 0, iv 3, rv 50, Value.bool true, iv 181, rv 51, nv, rv 52, rv 53, rv 54, iv 237, iv 19, sv "/claim/cut.py" 238])
def o56_3 (P : Params) : Obj := ob (Value.type "function") (Data.func (fdm "__eq__" "IntSort.__eq__" (inClass (topS 2) 3) 3 [] nv nv nv (sv "oneheap.schemas.sorts" 194) .none (rv 55) nv 0))
def o57_3 (P : Params) : Obj := ob (Value.type "tuple") (Data.seq #[sv "high" 240, sv "low" 241])
def o58_3 (P : Params) : Obj := ob (Value.type "dict") (Data.dict #[de P "__module__" 203 (sv "oneheap.schemas.sorts" 194), de P "__firstlineno__" 207 (Value.int 5 206), de P "__init__" 216 (rv 35), de P "holds" 224 (rv 42), de P "written" 231 (rv 49), de P "__eq__" 239 (rv 56), de P "__static_attributes__" 242 (rv 57), de P "__dict__" 244 (rv 60), de P "__weakref__" 246 (rv 61), de P "__doc__" 247 nv, de P "__hash__" 248 nv] 5)
def o59_3 (P : Params) : Obj := Obj.mk (Value.type "type") .none (Data.cls (ClassData.mk (Str.ofString "IntSort") [Value.type "object"] [rv 59, Value.type "object"] 58 (Str.ofString "IntSort") true [] [] false .none false)) #[.none, .none, .some (sv "IntSort" 196), .some (sv "IntSort" 204), .some (Value.builtin "object.__new__"), .some (Value.bool true)]
def o60_3 (P : Params) : Obj := ob (Value.type "getset_descriptor") (Data.fields #[sv "__dict__" 243, rv 59, Value.builtin "function.__dict__", Value.builtin "function.__dict__#set"])
def o61_3 (P : Params) : Obj := ob (Value.type "getset_descriptor") (Data.fields #[sv "__weakref__" 245, rv 59, Value.builtin "ExceptionGroup.__weakref__", nv])
def o62_3 (P : Params) : Obj := ob (Value.type "super") (Data.fields #[rv 59, rv 59, rv 59])
def o63_3 (P : Params) : Obj := ob (Value.type "builtin_function_or_method") (Data.fields #[Value.builtin "object.__init_subclass__", rv 59])
def o64_3 (P : Params) : Obj := ob (Value.type "tuple") (Data.seq #[])
def o65_3 (P : Params) : Obj := ob (Value.type "builtin_function_or_method") (Data.fields #[Value.builtin "type.__prepare__", Value.type "type"])
def o66_3 (P : Params) : Obj := ob (Value.type "dict") (Data.dict #[de P "__module__" 258 (sv "oneheap.schemas.sorts" 194), de P "__qualname__" 260 (sv "TextSort" 259), de P "__firstlineno__" 262 (Value.int 21 261), de P "__init__" 271 (rv 78), de P "holds" 279 (rv 85), de P "written" 286 (rv 92), de P "__eq__" 294 (rv 99), de P "__static_attributes__" 297 (rv 100)] 8)
def o67_3 (P : Params) : Obj := ob (Value.type "tuple") (Data.seq #[])
def o68_3 (P : Params) : Obj := ob nv (Data.fields #[iv 23, iv 4, rv 77, iv 27, iv 4, rv 84, iv 34, iv 4, rv 91, iv 37, iv 4, rv 98])
def o69_3 (P : Params) : Obj := ob (Value.type "code") (Data.fields #[sv "TextSort" 253, sv "TextSort" 254, sv "/claim/cut.py" 255, iv 21, iv 0, iv 0, iv 0, iv 0, rv 67, Value.bool false, iv 181, rv 68, nv, nv, nv, nv, iv 256, iv 21, sv "/claim/cut.py" 257])
def o70_3 (P : Params) : Obj := Obj.mk (Value.type "frame") .none Data.plain #[.some (rv 69), .some (rv 3), .some (rv 66), .none, .some (sv "oneheap.schemas.sorts" 194), .none, .some (rv 0)]
def o71_3 (P : Params) : Obj := ob (Value.type "tuple") (Data.seq #[nv])
def o72_3 (P : Params) : Obj := ob (Value.type "tuple") (Data.seq #[])
def o73_3 (P : Params) : Obj := ob nv (Data.fields #[])
def o74_3 (P : Params) : Obj := ob (Value.type "tuple") (Data.seq #[sv "self" 266, sv "longest" 267, sv "without" 268])
def o75_3 (P : Params) : Obj := ob (Value.type "tuple") (Data.seq #[])
def o76_3 (P : Params) : Obj := ob nv (Data.func (fdm "__init__" "TextSort.__init__" (inClass (topS 3) 0) 0 [] nv nv nv nv .none nv nv 0))
def o77_3 (P : Params) : Obj := ob (Value.type "code") (Data.fields #[sv "__init__" 263, sv "TextSort.__init__" 264, sv "/claim/cut.py" 265, iv 23, iv 3, iv 0, iv 0, iv 3, rv 72, Value.bool true, iv 181, rv 73, nv, rv 74, rv 75, rv 76, iv 269, iv 23, sv "/claim/cut.py" 270])
def o78_3 (P : Params) : Obj := ob (Value.type "function") (Data.func (fdm "__init__" "TextSort.__init__" (inClass (topS 3) 0) 3 [] (rv 71) nv nv (sv "oneheap.schemas.sorts" 194) .none (rv 77) nv 0))
def o79_3 (P : Params) : Obj := ob (Value.type "tuple") (Data.seq #[])
def o80_3 (P : Params) : Obj := ob nv (Data.fields #[])
def o81_3 (P : Params) : Obj := ob (Value.type "tuple") (Data.seq #[sv "self" 275, sv "value" 276])
def o82_3 (P : Params) : Obj := ob (Value.type "tuple") (Data.seq #[])
def o83_3 (P : Params) : Obj := ob nv (Data.func (fdm "holds" "TextSort.holds" (inClass (topS 3) 1) 0 [] nv nv nv nv .none nv nv 0))
def o84_3 (P : Params) : Obj := ob (Value.type "code") (Data.fields #[sv "holds" 272, sv "TextSort.holds" 273, sv "/claim/cut.py" 274, iv 27, iv 2, iv 0, iv 0, iv 3, rv 79, Value.bool true, iv 181, rv 80, nv, rv 81, rv 82, rv 83, iv 277, iv 27, sv "/claim/cut.py" 278])
def o85_3 (P : Params) : Obj := ob (Value.type "function") (Data.func (fdm "holds" "TextSort.holds" (inClass (topS 3) 1) 3 [] nv nv nv (sv "oneheap.schemas.sorts" 194) .none (rv 84) nv 0))
def o86_3 (P : Params) : Obj := ob (Value.type "tuple") (Data.seq #[])
def o87_3 (P : Params) : Obj := ob nv (Data.fields #[])
def o88_3 (P : Params) : Obj := ob (Value.type "tuple") (Data.seq #[sv "self" 283])
def o89_3 (P : Params) : Obj := ob (Value.type "tuple") (Data.seq #[])
def o90_3 (P : Params) : Obj := ob nv (Data.func (fdm "written" "TextSort.written" (inClass (topS 3) 2) 0 [] nv nv nv nv .none nv nv 0))
def o91_3 (P : Params) : Obj := ob (Value.type "code") (Data.fields #[sv "written" 280, sv "TextSort.written" 281, sv "/claim/cut.py" 282, iv 34, iv 1, iv 0, iv 0, iv 3, rv 86, Value.bool true, iv 181, rv 87, nv, rv 88, rv 89, rv 90, iv 284, iv 34, sv "/claim/cut.py" 285])
def o92_3 (P : Params) : Obj := ob (Value.type "function") (Data.func (fdm "written" "TextSort.written" (inClass (topS 3) 2) 3 [] nv nv nv (sv "oneheap.schemas.sorts" 194) .none (rv 91) nv 0))
def o93_3 (P : Params) : Obj := ob (Value.type "tuple") (Data.seq #[])
def o94_3 (P : Params) : Obj := ob nv (Data.fields #[])
def o95_3 (P : Params) : Obj := ob (Value.type "tuple") (Data.seq #[sv "self" 290, sv "other" 291])
def o96_3 (P : Params) : Obj := ob (Value.type "tuple") (Data.seq #[])
def o97_3 (P : Params) : Obj := ob nv (Data.func (fdm "__eq__" "TextSort.__eq__" (inClass (topS 3) 3) 0 [] nv nv nv nv .none nv nv 0))
def o98_3 (P : Params) : Obj := ob (Value.type "code") (Data.fields #[sv "__eq__" 287, sv "TextSort.__eq__" 288, sv "/claim/cut.py" 289, iv 37, iv 2, iv 0, iv 0, iv 3, rv 93, Value.bool true, iv 181, rv 94, nv, rv 95, rv 96, rv 97, iv 292, iv 37, sv "/claim/cut.py" 293])
def o99_3 (P : Params) : Obj := ob (Value.type "function") (Data.func (fdm "__eq__" "TextSort.__eq__" (inClass (topS 3) 3) 3 [] nv nv nv (sv "oneheap.schemas.sorts" 194) .none (rv 98) nv 0))
def o100_3 (P : Params) : Obj := ob (Value.type "tuple") (Data.seq #[sv "longest" 295, sv "without" 296])
def o101_3 (P : Params) : Obj := ob (Value.type "dict") (Data.dict #[de P "__module__" 258 (sv "oneheap.schemas.sorts" 194), de P "__firstlineno__" 262 (Value.int 21 261), de P "__init__" 271 (rv 78), de P "holds" 279 (rv 85), de P "written" 286 (rv 92), de P "__eq__" 294 (rv 99), de P "__static_attributes__" 297 (rv 100), de P "__dict__" 299 (rv 103), de P "__weakref__" 301 (rv 104), de P "__doc__" 302 nv, de P "__hash__" 303 nv] 5)
def o102_3 (P : Params) : Obj := Obj.mk (Value.type "type") .none (Data.cls (ClassData.mk (Str.ofString "TextSort") [Value.type "object"] [rv 102, Value.type "object"] 101 (Str.ofString "TextSort") true [] [] false .none false)) #[.none, .none, .some (sv "TextSort" 251), .some (sv "TextSort" 259), .some (Value.builtin "object.__new__"), .some (Value.bool true)]
def o103_3 (P : Params) : Obj := ob (Value.type "getset_descriptor") (Data.fields #[sv "__dict__" 298, rv 102, Value.builtin "function.__dict__", Value.builtin "function.__dict__#set"])
def o104_3 (P : Params) : Obj := ob (Value.type "getset_descriptor") (Data.fields #[sv "__weakref__" 300, rv 102, Value.builtin "ExceptionGroup.__weakref__", nv])
def o105_3 (P : Params) : Obj := ob (Value.type "super") (Data.fields #[rv 102, rv 102, rv 102])
def o106_3 (P : Params) : Obj := ob (Value.type "builtin_function_or_method") (Data.fields #[Value.builtin "object.__init_subclass__", rv 102])
def o107_3 (P : Params) : Obj := ob (Value.type "tuple") (Data.seq #[])
def o108_3 (P : Params) : Obj := ob (Value.type "builtin_function_or_method") (Data.fields #[Value.builtin "type.__prepare__", Value.type "type"])
def o109_3 (P : Params) : Obj := ob (Value.type "dict") (Data.dict #[de P "__module__" 313 (sv "oneheap.schemas.sorts" 194), de P "__qualname__" 315 (sv "RefSort" 314), de P "__firstlineno__" 317 (Value.int 39 316), de P "__init__" 326 (rv 120), de P "holds" 334 (rv 127), de P "written" 341 (rv 134), de P "__eq__" 349 (rv 141), de P "__static_attributes__" 352 (rv 142)] 8)
def o110_3 (P : Params) : Obj := ob (Value.type "tuple") (Data.seq #[])
def o111_3 (P : Params) : Obj := ob nv (Data.fields #[iv 41, iv 4, rv 119, iv 45, iv 4, rv 126, iv 48, iv 4, rv 133, iv 51, iv 4, rv 140])
def o112_3 (P : Params) : Obj := ob (Value.type "code") (Data.fields #[sv "RefSort" 308, sv "RefSort" 309, sv "/claim/cut.py" 310, iv 39, iv 0, iv 0, iv 0, iv 0, rv 110, Value.bool false, iv 181, rv 111, nv, nv, nv, nv, iv 311, iv 39, sv "/claim/cut.py" 312])
def o113_3 (P : Params) : Obj := Obj.mk (Value.type "frame") .none Data.plain #[.some (rv 112), .some (rv 3), .some (rv 109), .none, .some (sv "oneheap.schemas.sorts" 194), .none, .some (rv 0)]
def o114_3 (P : Params) : Obj := ob (Value.type "tuple") (Data.seq #[])
def o115_3 (P : Params) : Obj := ob nv (Data.fields #[])
def o116_3 (P : Params) : Obj := ob (Value.type "tuple") (Data.seq #[sv "self" 321, sv "kinds" 322, sv "rule" 323])
def o117_3 (P : Params) : Obj := ob (Value.type "tuple") (Data.seq #[])
def o118_3 (P : Params) : Obj := ob nv (Data.func (fdm "__init__" "RefSort.__init__" (inClass (topS 4) 0) 0 [] nv nv nv nv .none nv nv 0))
def o119_3 (P : Params) : Obj := ob (Value.type "code") (Data.fields #[sv "__init__" 318, sv "RefSort.__init__" 319, sv "/claim/cut.py" 320, iv 41, iv 3, iv 0, iv 0, iv 3, rv 114, Value.bool true, iv 181, rv 115, nv, rv 116, rv 117, rv 118, iv 324, iv 41, sv "/claim/cut.py" 325])
def o120_3 (P : Params) : Obj := ob (Value.type "function") (Data.func (fdm "__init__" "RefSort.__init__" (inClass (topS 4) 0) 3 [] nv nv nv (sv "oneheap.schemas.sorts" 194) .none (rv 119) nv 0))
def o121_3 (P : Params) : Obj := ob (Value.type "tuple") (Data.seq #[])
def o122_3 (P : Params) : Obj := ob nv (Data.fields #[])
def o123_3 (P : Params) : Obj := ob (Value.type "tuple") (Data.seq #[sv "self" 330, sv "value" 331])
def o124_3 (P : Params) : Obj := ob (Value.type "tuple") (Data.seq #[])
def o125_3 (P : Params) : Obj := ob nv (Data.func (fdm "holds" "RefSort.holds" (inClass (topS 4) 1) 0 [] nv nv nv nv .none nv nv 0))
def o126_3 (P : Params) : Obj := ob (Value.type "code") (Data.fields #[sv "holds" 327, sv "RefSort.holds" 328, sv "/claim/cut.py" 329, iv 45, iv 2, iv 0, iv 0, iv 3, rv 121, Value.bool true, iv 181, rv 122, nv, rv 123, rv 124, rv 125, iv 332, iv 45, sv "/claim/cut.py" 333])
def o127_3 (P : Params) : Obj := ob (Value.type "function") (Data.func (fdm "holds" "RefSort.holds" (inClass (topS 4) 1) 3 [] nv nv nv (sv "oneheap.schemas.sorts" 194) .none (rv 126) nv 0))
def o128_3 (P : Params) : Obj := ob (Value.type "tuple") (Data.seq #[])
def o129_3 (P : Params) : Obj := ob nv (Data.fields #[])
def o130_3 (P : Params) : Obj := ob (Value.type "tuple") (Data.seq #[sv "self" 338])
def o131_3 (P : Params) : Obj := ob (Value.type "tuple") (Data.seq #[])
def o132_3 (P : Params) : Obj := ob nv (Data.func (fdm "written" "RefSort.written" (inClass (topS 4) 2) 0 [] nv nv nv nv .none nv nv 0))
def o133_3 (P : Params) : Obj := ob (Value.type "code") (Data.fields #[sv "written" 335, sv "RefSort.written" 336, sv "/claim/cut.py" 337, iv 48, iv 1, iv 0, iv 0, iv 3, rv 128, Value.bool true, iv 181, rv 129, nv, rv 130, rv 131, rv 132, iv 339, iv 48, sv "/claim/cut.py" 340])
def o134_3 (P : Params) : Obj := ob (Value.type "function") (Data.func (fdm "written" "RefSort.written" (inClass (topS 4) 2) 3 [] nv nv nv (sv "oneheap.schemas.sorts" 194) .none (rv 133) nv 0))
def o135_3 (P : Params) : Obj := ob (Value.type "tuple") (Data.seq #[])
def o136_3 (P : Params) : Obj := ob nv (Data.fields #[])
def o137_3 (P : Params) : Obj := ob (Value.type "tuple") (Data.seq #[sv "self" 345, sv "other" 346])
def o138_3 (P : Params) : Obj := ob (Value.type "tuple") (Data.seq #[])
def o139_3 (P : Params) : Obj := ob nv (Data.func (fdm "__eq__" "RefSort.__eq__" (inClass (topS 4) 3) 0 [] nv nv nv nv .none nv nv 0))
def o140_3 (P : Params) : Obj := ob (Value.type "code") (Data.fields #[sv "__eq__" 342, sv "RefSort.__eq__" 343, sv "/claim/cut.py" 344, iv 51, iv 2, iv 0, iv 0, iv 3, rv 135, Value.bool true, iv 181, rv 136, nv, rv 137, rv 138, rv 139, iv 347, iv 51, sv "/claim/cut.py" 348])
def o141_3 (P : Params) : Obj := ob (Value.type "function") (Data.func (fdm "__eq__" "RefSort.__eq__" (inClass (topS 4) 3) 3 [] nv nv nv (sv "oneheap.schemas.sorts" 194) .none (rv 140) nv 0))
def o142_3 (P : Params) : Obj := ob (Value.type "tuple") (Data.seq #[sv "kinds" 350, sv "rule" 351])
def o143_3 (P : Params) : Obj := ob (Value.type "dict") (Data.dict #[de P "__module__" 313 (sv "oneheap.schemas.sorts" 194), de P "__firstlineno__" 317 (Value.int 39 316), de P "__init__" 326 (rv 120), de P "holds" 334 (rv 127), de P "written" 341 (rv 134), de P "__eq__" 349 (rv 141), de P "__static_attributes__" 352 (rv 142), de P "__dict__" 354 (rv 145), de P "__weakref__" 356 (rv 146), de P "__doc__" 357 nv, de P "__hash__" 358 nv] 5)
def o144_3 (P : Params) : Obj := Obj.mk (Value.type "type") .none (Data.cls (ClassData.mk (Str.ofString "RefSort") [Value.type "object"] [rv 144, Value.type "object"] 143 (Str.ofString "RefSort") true [] [] false .none false)) #[.none, .none, .some (sv "RefSort" 306), .some (sv "RefSort" 314), .some (Value.builtin "object.__new__"), .some (Value.bool true)]
def o145_3 (P : Params) : Obj := ob (Value.type "getset_descriptor") (Data.fields #[sv "__dict__" 353, rv 144, Value.builtin "function.__dict__", Value.builtin "function.__dict__#set"])
def o146_3 (P : Params) : Obj := ob (Value.type "getset_descriptor") (Data.fields #[sv "__weakref__" 355, rv 144, Value.builtin "ExceptionGroup.__weakref__", nv])
def o147_3 (P : Params) : Obj := ob (Value.type "super") (Data.fields #[rv 144, rv 144, rv 144])
def o148_3 (P : Params) : Obj := ob (Value.type "builtin_function_or_method") (Data.fields #[Value.builtin "object.__init_subclass__", rv 144])
def o149_3 (P : Params) : Obj := ob (Value.type "tuple") (Data.seq #[])
def o150_3 (P : Params) : Obj := ob (Value.type "builtin_function_or_method") (Data.fields #[Value.builtin "type.__prepare__", Value.type "type"])
def o151_3 (P : Params) : Obj := ob (Value.type "dict") (Data.dict #[de P "__module__" 368 (sv "oneheap.schemas.sorts" 194), de P "__qualname__" 370 (sv "ListSort" 369), de P "__firstlineno__" 372 (Value.int 53 371), de P "__init__" 380 (rv 162), de P "holds" 388 (rv 169), de P "written" 395 (rv 176), de P "__eq__" 403 (rv 183), de P "__static_attributes__" 405 (rv 184)] 8)
def o152_3 (P : Params) : Obj := ob (Value.type "tuple") (Data.seq #[])
def o153_3 (P : Params) : Obj := ob nv (Data.fields #[iv 55, iv 4, rv 161, iv 58, iv 4, rv 168, iv 61, iv 4, rv 175, iv 64, iv 4, rv 182])
def o154_3 (P : Params) : Obj := ob (Value.type "code") (Data.fields #[sv "ListSort" 363, sv "ListSort" 364, sv "/claim/cut.py" 365, iv 53, iv 0, iv 0, iv 0, iv 0, rv 152, Value.bool false, iv 181, rv 153, nv, nv, nv, nv, iv 366, iv 53, sv "/claim/cut.py" 367])
def o155_3 (P : Params) : Obj := Obj.mk (Value.type "frame") .none Data.plain #[.some (rv 154), .some (rv 3), .some (rv 151), .none, .some (sv "oneheap.schemas.sorts" 194), .none, .some (rv 0)]
def o156_3 (P : Params) : Obj := ob (Value.type "tuple") (Data.seq #[])
def o157_3 (P : Params) : Obj := ob nv (Data.fields #[])
def o158_3 (P : Params) : Obj := ob (Value.type "tuple") (Data.seq #[sv "self" 376, sv "kinds" 377])
def o159_3 (P : Params) : Obj := ob (Value.type "tuple") (Data.seq #[])
def o160_3 (P : Params) : Obj := ob nv (Data.func (fdm "__init__" "ListSort.__init__" (inClass (topS 5) 0) 0 [] nv nv nv nv .none nv nv 0))
def o161_3 (P : Params) : Obj := ob (Value.type "code") (Data.fields #[sv "__init__" 373, sv "ListSort.__init__" 374, sv "/claim/cut.py" 375, iv 55, iv 2, iv 0, iv 0, iv 3, rv 156, Value.bool true, iv 181, rv 157, nv, rv 158, rv 159, rv 160, iv 378, iv 55, sv "/claim/cut.py" 379])
def o162_3 (P : Params) : Obj := ob (Value.type "function") (Data.func (fdm "__init__" "ListSort.__init__" (inClass (topS 5) 0) 3 [] nv nv nv (sv "oneheap.schemas.sorts" 194) .none (rv 161) nv 0))
def o163_3 (P : Params) : Obj := ob (Value.type "tuple") (Data.seq #[])
def o164_3 (P : Params) : Obj := ob nv (Data.fields #[])
def o165_3 (P : Params) : Obj := ob (Value.type "tuple") (Data.seq #[sv "self" 384, sv "value" 385])
def o166_3 (P : Params) : Obj := ob (Value.type "tuple") (Data.seq #[])
def o167_3 (P : Params) : Obj := ob nv (Data.func (fdm "holds" "ListSort.holds" (inClass (topS 5) 1) 0 [] nv nv nv nv .none nv nv 0))
def o168_3 (P : Params) : Obj := ob (Value.type "code") (Data.fields #[sv "holds" 381, sv "ListSort.holds" 382, sv "/claim/cut.py" 383, iv 58, iv 2, iv 0, iv 0, iv 3, rv 163, Value.bool true, iv 181, rv 164, nv, rv 165, rv 166, rv 167, iv 386, iv 58, sv "/claim/cut.py" 387])
def o169_3 (P : Params) : Obj := ob (Value.type "function") (Data.func (fdm "holds" "ListSort.holds" (inClass (topS 5) 1) 3 [] nv nv nv (sv "oneheap.schemas.sorts" 194) .none (rv 168) nv 0))
def o170_3 (P : Params) : Obj := ob (Value.type "tuple") (Data.seq #[])
def o171_3 (P : Params) : Obj := ob nv (Data.fields #[])
def o172_3 (P : Params) : Obj := ob (Value.type "tuple") (Data.seq #[sv "self" 392])
def o173_3 (P : Params) : Obj := ob (Value.type "tuple") (Data.seq #[])
def o174_3 (P : Params) : Obj := ob nv (Data.func (fdm "written" "ListSort.written" (inClass (topS 5) 2) 0 [] nv nv nv nv .none nv nv 0))
def o175_3 (P : Params) : Obj := ob (Value.type "code") (Data.fields #[sv "written" 389, sv "ListSort.written" 390, sv "/claim/cut.py" 391, iv 61, iv 1, iv 0, iv 0, iv 3, rv 170, Value.bool true, iv 181, rv 171, nv, rv 172, rv 173, rv 174, iv 393, iv 61, sv "/claim/cut.py" 394])
def o176_3 (P : Params) : Obj := ob (Value.type "function") (Data.func (fdm "written" "ListSort.written" (inClass (topS 5) 2) 3 [] nv nv nv (sv "oneheap.schemas.sorts" 194) .none (rv 175) nv 0))
def o177_3 (P : Params) : Obj := ob (Value.type "tuple") (Data.seq #[])
def o178_3 (P : Params) : Obj := ob nv (Data.fields #[])
def o179_3 (P : Params) : Obj := ob (Value.type "tuple") (Data.seq #[sv "self" 399, sv "other" 400])
def o180_3 (P : Params) : Obj := ob (Value.type "tuple") (Data.seq #[])
def o181_3 (P : Params) : Obj := ob nv (Data.func (fdm "__eq__" "ListSort.__eq__" (inClass (topS 5) 3) 0 [] nv nv nv nv .none nv nv 0))
def o182_3 (P : Params) : Obj := ob (Value.type "code") (Data.fields #[sv "__eq__" 396, sv "ListSort.__eq__" 397, sv "/claim/cut.py" 398, iv 64, iv 2, iv 0, iv 0, iv 3, rv 177, Value.bool true, iv 181, rv 178, nv, rv 179, rv 180, rv 181, iv 401, iv 64, sv "/claim/cut.py" 402])
def o183_3 (P : Params) : Obj := ob (Value.type "function") (Data.func (fdm "__eq__" "ListSort.__eq__" (inClass (topS 5) 3) 3 [] nv nv nv (sv "oneheap.schemas.sorts" 194) .none (rv 182) nv 0))
def o184_3 (P : Params) : Obj := ob (Value.type "tuple") (Data.seq #[sv "kinds" 404])
def o185_3 (P : Params) : Obj := ob (Value.type "dict") (Data.dict #[de P "__module__" 368 (sv "oneheap.schemas.sorts" 194), de P "__firstlineno__" 372 (Value.int 53 371), de P "__init__" 380 (rv 162), de P "holds" 388 (rv 169), de P "written" 395 (rv 176), de P "__eq__" 403 (rv 183), de P "__static_attributes__" 405 (rv 184), de P "__dict__" 407 (rv 187), de P "__weakref__" 409 (rv 188), de P "__doc__" 410 nv, de P "__hash__" 411 nv] 5)
def o186_3 (P : Params) : Obj := Obj.mk (Value.type "type") .none (Data.cls (ClassData.mk (Str.ofString "ListSort") [Value.type "object"] [rv 186, Value.type "object"] 185 (Str.ofString "ListSort") true [] [] false .none false)) #[.none, .none, .some (sv "ListSort" 361), .some (sv "ListSort" 369), .some (Value.builtin "object.__new__"), .some (Value.bool true)]
def o187_3 (P : Params) : Obj := ob (Value.type "getset_descriptor") (Data.fields #[sv "__dict__" 406, rv 186, Value.builtin "function.__dict__", Value.builtin "function.__dict__#set"])
def o188_3 (P : Params) : Obj := ob (Value.type "getset_descriptor") (Data.fields #[sv "__weakref__" 408, rv 186, Value.builtin "ExceptionGroup.__weakref__", nv])
def o189_3 (P : Params) : Obj := ob (Value.type "super") (Data.fields #[rv 186, rv 186, rv 186])
def o190_3 (P : Params) : Obj := ob (Value.type "builtin_function_or_method") (Data.fields #[Value.builtin "object.__init_subclass__", rv 186])
def o191_3 (P : Params) : Obj := ob (Value.type "tuple") (Data.seq #[])
def o192_3 (P : Params) : Obj := ob nv (Data.fields #[])
def o193_3 (P : Params) : Obj := ob (Value.type "tuple") (Data.seq #[sv "shape" 417])
def o194_3 (P : Params) : Obj := ob (Value.type "tuple") (Data.seq #[])
def o195_3 (P : Params) : Obj := ob nv (Data.func (fdm "is_reference" "is_reference" (topS 6) 0 [] nv nv nv nv .none nv nv 0))
def o196_3 (P : Params) : Obj := ob (Value.type "code") (Data.fields #[sv "is_reference" 414, sv "is_reference" 415, sv "/claim/cut.py" 416, iv 66, iv 1, iv 0, iv 0, iv 3, rv 191, Value.bool true, iv 181, rv 192, nv, rv 193, rv 194, rv 195, iv 418, iv 66, sv "/claim/cut.py" 419])
def o197_3 (P : Params) : Obj := ob (Value.type "function") (Data.func (fdm "is_reference" "is_reference" (topS 6) 3 [] nv nv nv (sv "oneheap.schemas.sorts" 194) .none (rv 196) nv 0))
def o198_3 (P : Params) : Obj := ob (Value.type "tuple") (Data.seq #[])
def o199_3 (P : Params) : Obj := ob nv (Data.fields #[])
def o200_3 (P : Params) : Obj := ob (Value.type "tuple") (Data.seq #[sv "shape" 424])
def o201_3 (P : Params) : Obj := ob (Value.type "tuple") (Data.seq #[])
def o202_3 (P : Params) : Obj := ob nv (Data.func (fdm "is_list" "is_list" (topS 7) 0 [] nv nv nv nv .none nv nv 0))
def o203_3 (P : Params) : Obj := ob (Value.type "code") (Data.fields #[sv "is_list" 421, sv "is_list" 422, sv "/claim/cut.py" 423, iv 68, iv 1, iv 0, iv 0, iv 3, rv 198, Value.bool true, iv 181, rv 199, nv, rv 200, rv 201, rv 202, iv 425, iv 68, sv "/claim/cut.py" 426])
def o204_3 (P : Params) : Obj := ob (Value.type "function") (Data.func (fdm "is_list" "is_list" (topS 7) 3 [] nv nv nv (sv "oneheap.schemas.sorts" 194) .none (rv 203) nv 0))
def o205_3 (P : Params) : Obj := ob (Value.type "tuple") (Data.seq #[])
def o206_3 (P : Params) : Obj := ob nv (Data.fields #[])
def o207_3 (P : Params) : Obj := ob (Value.type "tuple") (Data.seq #[sv "shape" 431])
def o208_3 (P : Params) : Obj := ob (Value.type "tuple") (Data.seq #[])
def o209_3 (P : Params) : Obj := ob nv (Data.func (fdm "is_link" "is_link" (topS 8) 0 [] nv nv nv nv .none nv nv 0))
def o210_3 (P : Params) : Obj := ob (Value.type "code") (Data.fields #[sv "is_link" 428, sv "is_link" 429, sv "/claim/cut.py" 430, iv 70, iv 1, iv 0, iv 0, iv 3, rv 205, Value.bool true, iv 181, rv 206, nv, rv 207, rv 208, rv 209, iv 432, iv 70, sv "/claim/cut.py" 433])
def o211_3 (P : Params) : Obj := ob (Value.type "function") (Data.func (fdm "is_link" "is_link" (topS 8) 3 [] nv nv nv (sv "oneheap.schemas.sorts" 194) .none (rv 210) nv 0))
def o212_3 (P : Params) : Obj := ob (Value.type "tuple") (Data.seq #[])
def o213_3 (P : Params) : Obj := ob (Value.type "builtin_function_or_method") (Data.fields #[Value.builtin "type.__prepare__", Value.type "type"])
def o214_3 (P : Params) : Obj := ob (Value.type "dict") (Data.dict #[de P "__module__" 444 (sv "oneheap.objects.thing" 435), de P "__qualname__" 446 (sv "Thing" 445), de P "__firstlineno__" 448 (Value.int 73 447), de P "__init__" 454 (rv 223), de P "copied" 461 (rv 230), de P "__eq__" 469 (rv 237), de P "__static_attributes__" 472 (rv 238)] 7)
def o215_3 (P : Params) : Obj := ob (Value.type "tuple") (Data.seq #[])
def o216_3 (P : Params) : Obj := ob nv (Data.fields #[iv 75, iv 4, rv 222, iv 79, iv 4, rv 229, iv 82, iv 4, rv 236])
def o217_3 (P : Params) : Obj := ob (Value.type "code") (Data.fields #[sv "Thing" 439, sv "Thing" 440, sv "/claim/cut.py" 441, iv 73, iv 0, iv 0, iv 0, iv 0, rv 215, Value.bool false, iv 181, rv 216, nv, nv, nv, nv, iv 442, iv 73, sv "/claim/cut.py" 443])
def o218_3 (P : Params) : Obj := Obj.mk (Value.type "frame") .none Data.plain #[.some (rv 217), .some (rv 3), .some (rv 214), .none, .some (sv "oneheap.objects.thing" 435), .none, .some (rv 0)]
def o219_3 (P : Params) : Obj := ob (Value.type "tuple") (Data.seq #[])
def o220_3 (P : Params) : Obj := ob nv (Data.fields #[])
def o221_3 (P : Params) : Obj := ob nv (Data.func (fdm "__init__" "Thing.__init__" (inClass (topS 10) 0) 0 [] nv nv nv nv .none nv nv 0))
def o222_3 (P : Params) : Obj := ob (Value.type "code") (Data.fields #[sv "__init__" 449, sv "Thing.__init__" 450, sv "/claim/cut.py" 451, iv 75, iv 3, iv 0, iv 0, iv 3, rv 219, Value.bool true, iv 181, rv 220, nv, nv, nv, rv 221, iv 452, iv 75, sv "/claim/cut.py" 453])
def o223_3 (P : Params) : Obj := ob (Value.type "function") (Data.func (fdm "__init__" "Thing.__init__" (inClass (topS 10) 0) 3 [] nv nv nv (sv "oneheap.objects.thing" 435) .none (rv 222) nv 0))
def o224_3 (P : Params) : Obj := ob (Value.type "tuple") (Data.seq #[])
def o225_3 (P : Params) : Obj := ob nv (Data.fields #[])
def o226_3 (P : Params) : Obj := ob (Value.type "tuple") (Data.seq #[sv "self" 458])
def o227_3 (P : Params) : Obj := ob (Value.type "tuple") (Data.seq #[])
def o228_3 (P : Params) : Obj := ob nv (Data.func (fdm "copied" "Thing.copied" (inClass (topS 10) 1) 0 [] nv nv nv nv .none nv nv 0))
def o229_3 (P : Params) : Obj := ob (Value.type "code") (Data.fields #[sv "copied" 455, sv "Thing.copied" 456, sv "/claim/cut.py" 457, iv 79, iv 1, iv 0, iv 0, iv 3, rv 224, Value.bool true, iv 181, rv 225, nv, rv 226, rv 227, rv 228, iv 459, iv 79, sv "/claim/cut.py" 460])
def o230_3 (P : Params) : Obj := ob (Value.type "function") (Data.func (fdm "copied" "Thing.copied" (inClass (topS 10) 1) 3 [] nv nv nv (sv "oneheap.objects.thing" 435) .none (rv 229) nv 0))
def o231_3 (P : Params) : Obj := ob (Value.type "tuple") (Data.seq #[])
def o232_3 (P : Params) : Obj := ob nv (Data.fields #[])
def o233_3 (P : Params) : Obj := ob (Value.type "tuple") (Data.seq #[sv "self" 465, sv "other" 466])
def o234_3 (P : Params) : Obj := ob (Value.type "tuple") (Data.seq #[])
def o235_3 (P : Params) : Obj := ob nv (Data.func (fdm "__eq__" "Thing.__eq__" (inClass (topS 10) 2) 0 [] nv nv nv nv .none nv nv 0))
def o236_3 (P : Params) : Obj := ob (Value.type "code") (Data.fields #[sv "__eq__" 462, sv "Thing.__eq__" 463, sv "/claim/cut.py" 464, iv 82, iv 2, iv 0, iv 0, iv 3, rv 231, Value.bool true, iv 181, rv 232, nv, rv 233, rv 234, rv 235, iv 467, iv 82, sv "/claim/cut.py" 468])
def o237_3 (P : Params) : Obj := ob (Value.type "function") (Data.func (fdm "__eq__" "Thing.__eq__" (inClass (topS 10) 2) 3 [] nv nv nv (sv "oneheap.objects.thing" 435) .none (rv 236) nv 0))
def o238_3 (P : Params) : Obj := ob (Value.type "tuple") (Data.seq #[sv "contents" 470, sv "kind" 471])
def o239_3 (P : Params) : Obj := ob (Value.type "dict") (Data.dict #[de P "__module__" 444 (sv "oneheap.objects.thing" 435), de P "__firstlineno__" 448 (Value.int 73 447), de P "__init__" 454 (rv 223), de P "copied" 461 (rv 230), de P "__eq__" 469 (rv 237), de P "__static_attributes__" 472 (rv 238), de P "__dict__" 474 (rv 241), de P "__weakref__" 476 (rv 242), de P "__doc__" 477 nv, de P "__hash__" 478 nv] 5)
def o240_3 (P : Params) : Obj := Obj.mk (Value.type "type") .none (Data.cls (ClassData.mk (Str.ofString "Thing") [Value.type "object"] [rv 240, Value.type "object"] 239 (Str.ofString "Thing") true [] [] false .none false)) #[.none, .none, .some (sv "Thing" 437), .some (sv "Thing" 445), .some (Value.builtin "object.__new__"), .some (Value.bool true)]
def o241_3 (P : Params) : Obj := ob (Value.type "getset_descriptor") (Data.fields #[sv "__dict__" 473, rv 240, Value.builtin "function.__dict__", Value.builtin "function.__dict__#set"])
def o242_3 (P : Params) : Obj := ob (Value.type "getset_descriptor") (Data.fields #[sv "__weakref__" 475, rv 240, Value.builtin "ExceptionGroup.__weakref__", nv])
def o243_3 (P : Params) : Obj := ob (Value.type "super") (Data.fields #[rv 240, rv 240, rv 240])
def o244_3 (P : Params) : Obj := ob (Value.type "builtin_function_or_method") (Data.fields #[Value.builtin "object.__init_subclass__", rv 240])
def o245_3 (P : Params) : Obj := ob (Value.type "tuple") (Data.seq #[])
def o246_3 (P : Params) : Obj := ob nv (Data.fields #[])
def o247_3 (P : Params) : Obj := ob (Value.type "tuple") (Data.seq #[sv "content" 484])
def o248_3 (P : Params) : Obj := ob (Value.type "tuple") (Data.seq #[])
def o249_3 (P : Params) : Obj := ob nv (Data.func (fdm "content_copy" "content_copy" (topS 11) 0 [] nv nv nv nv .none nv nv 0))
def o250_3 (P : Params) : Obj := ob (Value.type "code") (Data.fields #[sv "content_copy" 481, sv "content_copy" 482, sv "/claim/cut.py" 483, iv 84, iv 1, iv 0, iv 0, iv 3, rv 245, Value.bool true, iv 181, rv 246, nv, rv 247, rv 248, rv 249, iv 485, iv 84, sv "/claim/cut.py" 486])
def o251_3 (P : Params) : Obj := ob (Value.type "function") (Data.func (fdm "content_copy" "content_copy" (topS 11) 3 [] nv nv nv (sv "oneheap.objects.thing" 435) .none (rv 250) nv 0))
def o252_3 (P : Params) : Obj := ob (Value.type "tuple") (Data.seq #[])
def o253_3 (P : Params) : Obj := ob nv (Data.fields #[])
def o254_3 (P : Params) : Obj := ob (Value.type "tuple") (Data.seq #[sv "content" 491, sv "number" 492])
def o255_3 (P : Params) : Obj := ob (Value.type "tuple") (Data.seq #[])
def o256_3 (P : Params) : Obj := ob nv (Data.func (fdm "holds_number" "holds_number" (topS 12) 0 [] nv nv nv nv .none nv nv 0))
def o257_3 (P : Params) : Obj := ob (Value.type "code") (Data.fields #[sv "holds_number" 488, sv "holds_number" 489, sv "/claim/cut.py" 490, iv 86, iv 2, iv 0, iv 0, iv 3, rv 252, Value.bool true, iv 181, rv 253, nv, rv 254, rv 255, rv 256, iv 493, iv 86, sv "/claim/cut.py" 494])
def o258_3 (P : Params) : Obj := ob (Value.type "function") (Data.func (fdm "holds_number" "holds_number" (topS 12) 3 [] nv nv nv (sv "oneheap.objects.thing" 435) .none (rv 257) nv 0))
def o259_3 (P : Params) : Obj := ob (Value.type "tuple") (Data.seq #[])
def o260_3 (P : Params) : Obj := ob nv (Data.fields #[])
def o261_3 (P : Params) : Obj := ob nv (Data.func (fdm "picture_copy" "picture_copy" (topS 13) 0 [] nv nv nv nv .none nv nv 0))
def o262_3 (P : Params) : Obj := ob (Value.type "code") (Data.fields #[sv "picture_copy" 496, sv "picture_copy" 497, sv "/claim/cut.py" 498, iv 90, iv 1, iv 0, iv 0, iv 3, rv 259, Value.bool true, iv 181, rv 260, nv, nv, nv, rv 261, iv 499, iv 90, sv "/claim/cut.py" 500])
def o263_3 (P : Params) : Obj := ob (Value.type "function") (Data.func (fdm "picture_copy" "picture_copy" (topS 13) 3 [] nv nv nv (sv "oneheap.objects.thing" 435) .none (rv 262) nv 0))
def o264_3 (P : Params) : Obj := ob (Value.type "tuple") (Data.seq #[])
def o265_3 (P : Params) : Obj := ob nv (Data.fields #[])
def o266_3 (P : Params) : Obj := ob nv (Data.func (fdm "without_any" "without_any" (topS 15) 0 [] nv nv nv nv .none nv nv 0))
def o267_3 (P : Params) : Obj := ob (Value.type "code") (Data.fields #[sv "without_any" 504, sv "without_any" 505, sv "/claim/cut.py" 506, iv 93, iv 2, iv 0, iv 0, iv 3, rv 264, Value.bool true, iv 181, rv 265, nv, nv, nv, rv 266, iv 507, iv 93, sv "/claim/cut.py" 508])
def o268_3 (P : Params) : Obj := ob (Value.type "function") (Data.func (fdm "without_any" "without_any" (topS 15) 3 [] nv nv nv (sv "oneheap.objects.edits" 502) .none (rv 267) nv 0))
def o269_3 (P : Params) : Obj := ob (Value.type "tuple") (Data.seq #[])
def o270_3 (P : Params) : Obj := ob nv (Data.fields #[])
def o271_3 (P : Params) : Obj := ob nv (Data.func (fdm "holds_any" "holds_any" (topS 16) 0 [] nv nv nv nv .none nv nv 0))
def o272_3 (P : Params) : Obj := ob (Value.type "code") (Data.fields #[sv "holds_any" 510, sv "holds_any" 511, sv "/claim/cut.py" 512, iv 97, iv 2, iv 0, iv 0, iv 3, rv 269, Value.bool true, iv 181, rv 270, nv, nv, nv, rv 271, iv 513, iv 97, sv "/claim/cut.py" 514])
def o273_3 (P : Params) : Obj := ob (Value.type "function") (Data.func (fdm "holds_any" "holds_any" (topS 16) 3 [] nv nv nv (sv "oneheap.objects.edits" 502) .none (rv 272) nv 0))
def o274_3 (P : Params) : Obj := ob (Value.type "tuple") (Data.seq #[])
def o275_3 (P : Params) : Obj := ob (Value.type "builtin_function_or_method") (Data.fields #[Value.builtin "type.__prepare__", Value.type "type"])
def o276_3 (P : Params) : Obj := ob (Value.type "dict") (Data.dict #[de P "__module__" 525 (sv "oneheap.heap.heap" 516), de P "__qualname__" 527 (sv "Heap" 526), de P "__firstlineno__" 529 (Value.int 100 528), de P "__init__" 535 (rv 285), de P "picture_of" 543 (rv 292), de P "copied" 550 (rv 299), de P "__eq__" 558 (rv 306), de P "__static_attributes__" 560 (rv 307)] 8)
def o277_3 (P : Params) : Obj := ob (Value.type "tuple") (Data.seq #[])
def o278_3 (P : Params) : Obj := ob nv (Data.fields #[iv 102, iv 4, rv 284, iv 105, iv 4, rv 291, iv 108, iv 4, rv 298, iv 111, iv 4, rv 305])
def o279_3 (P : Params) : Obj := ob (Value.type "code") (Data.fields #[sv "Heap" 520, sv "Heap" 521, sv "/claim/cut.py" 522, iv 100, iv 0, iv 0, iv 0, iv 0, rv 277, Value.bool false, iv 181, rv 278, nv, nv, nv, nv, iv 523, iv 100, sv "/claim/cut.py" 524])
def o280_3 (P : Params) : Obj := Obj.mk (Value.type "frame") .none Data.plain #[.some (rv 279), .some (rv 3), .some (rv 276), .none, .some (sv "oneheap.heap.heap" 516), .none, .some (rv 0)]
def o281_3 (P : Params) : Obj := ob (Value.type "tuple") (Data.seq #[])
def o282_3 (P : Params) : Obj := ob nv (Data.fields #[])
def o283_3 (P : Params) : Obj := ob nv (Data.func (fdm "__init__" "Heap.__init__" (inClass (topS 18) 0) 0 [] nv nv nv nv .none nv nv 0))
def o284_3 (P : Params) : Obj := ob (Value.type "code") (Data.fields #[sv "__init__" 530, sv "Heap.__init__" 531, sv "/claim/cut.py" 532, iv 102, iv 2, iv 0, iv 0, iv 3, rv 281, Value.bool true, iv 181, rv 282, nv, nv, nv, rv 283, iv 533, iv 102, sv "/claim/cut.py" 534])
def o285_3 (P : Params) : Obj := ob (Value.type "function") (Data.func (fdm "__init__" "Heap.__init__" (inClass (topS 18) 0) 3 [] nv nv nv (sv "oneheap.heap.heap" 516) .none (rv 284) nv 0))
def o286_3 (P : Params) : Obj := ob (Value.type "tuple") (Data.seq #[])
def o287_3 (P : Params) : Obj := ob nv (Data.fields #[])
def o288_3 (P : Params) : Obj := ob (Value.type "tuple") (Data.seq #[sv "self" 539, sv "number" 540])
def o289_3 (P : Params) : Obj := ob (Value.type "tuple") (Data.seq #[])
def o290_3 (P : Params) : Obj := ob nv (Data.func (fdm "picture_of" "Heap.picture_of" (inClass (topS 18) 1) 0 [] nv nv nv nv .none nv nv 0))
def o291_3 (P : Params) : Obj := ob (Value.type "code") (Data.fields #[sv "picture_of" 536, sv "Heap.picture_of" 537, sv "/claim/cut.py" 538, iv 105, iv 2, iv 0, iv 0, iv 3, rv 286, Value.bool true, iv 181, rv 287, nv, rv 288, rv 289, rv 290, iv 541, iv 105, sv "/claim/cut.py" 542])
def o292_3 (P : Params) : Obj := ob (Value.type "function") (Data.func (fdm "picture_of" "Heap.picture_of" (inClass (topS 18) 1) 3 [] nv nv nv (sv "oneheap.heap.heap" 516) .none (rv 291) nv 0))
def o293_3 (P : Params) : Obj := ob (Value.type "tuple") (Data.seq #[])
def o294_3 (P : Params) : Obj := ob nv (Data.fields #[])
def o295_3 (P : Params) : Obj := ob (Value.type "tuple") (Data.seq #[sv "self" 547])
def o296_3 (P : Params) : Obj := ob (Value.type "tuple") (Data.seq #[])
def o297_3 (P : Params) : Obj := ob nv (Data.func (fdm "copied" "Heap.copied" (inClass (topS 18) 2) 0 [] nv nv nv nv .none nv nv 0))
def o298_3 (P : Params) : Obj := ob (Value.type "code") (Data.fields #[sv "copied" 544, sv "Heap.copied" 545, sv "/claim/cut.py" 546, iv 108, iv 1, iv 0, iv 0, iv 3, rv 293, Value.bool true, iv 181, rv 294, nv, rv 295, rv 296, rv 297, iv 548, iv 108, sv "/claim/cut.py" 549])
def o299_3 (P : Params) : Obj := ob (Value.type "function") (Data.func (fdm "copied" "Heap.copied" (inClass (topS 18) 2) 3 [] nv nv nv (sv "oneheap.heap.heap" 516) .none (rv 298) nv 0))
def o300_3 (P : Params) : Obj := ob (Value.type "tuple") (Data.seq #[])
def o301_3 (P : Params) : Obj := ob nv (Data.fields #[])
def o302_3 (P : Params) : Obj := ob (Value.type "tuple") (Data.seq #[sv "self" 554, sv "other" 555])
def o303_3 (P : Params) : Obj := ob (Value.type "tuple") (Data.seq #[])
def o304_3 (P : Params) : Obj := ob nv (Data.func (fdm "__eq__" "Heap.__eq__" (inClass (topS 18) 3) 0 [] nv nv nv nv .none nv nv 0))
def o305_3 (P : Params) : Obj := ob (Value.type "code") (Data.fields #[sv "__eq__" 551, sv "Heap.__eq__" 552, sv "/claim/cut.py" 553, iv 111, iv 2, iv 0, iv 0, iv 3, rv 300, Value.bool true, iv 181, rv 301, nv, rv 302, rv 303, rv 304, iv 556, iv 111, sv "/claim/cut.py" 557])
def o306_3 (P : Params) : Obj := ob (Value.type "function") (Data.func (fdm "__eq__" "Heap.__eq__" (inClass (topS 18) 3) 3 [] nv nv nv (sv "oneheap.heap.heap" 516) .none (rv 305) nv 0))
def o307_3 (P : Params) : Obj := ob (Value.type "tuple") (Data.seq #[sv "pictures" 559])
def o308_3 (P : Params) : Obj := ob (Value.type "dict") (Data.dict #[de P "__module__" 525 (sv "oneheap.heap.heap" 516), de P "__firstlineno__" 529 (Value.int 100 528), de P "__init__" 535 (rv 285), de P "picture_of" 543 (rv 292), de P "copied" 550 (rv 299), de P "__eq__" 558 (rv 306), de P "__static_attributes__" 560 (rv 307), de P "__dict__" 562 (rv 310), de P "__weakref__" 564 (rv 311), de P "__doc__" 565 nv, de P "__hash__" 566 nv] 5)
def o309_3 (P : Params) : Obj := Obj.mk (Value.type "type") .none (Data.cls (ClassData.mk (Str.ofString "Heap") [Value.type "object"] [rv 309, Value.type "object"] 308 (Str.ofString "Heap") true [] [] false .none false)) #[.none, .none, .some (sv "Heap" 518), .some (sv "Heap" 526), .some (Value.builtin "object.__new__"), .some (Value.bool true)]
def o310_3 (P : Params) : Obj := ob (Value.type "getset_descriptor") (Data.fields #[sv "__dict__" 561, rv 309, Value.builtin "function.__dict__", Value.builtin "function.__dict__#set"])
def o311_3 (P : Params) : Obj := ob (Value.type "getset_descriptor") (Data.fields #[sv "__weakref__" 563, rv 309, Value.builtin "ExceptionGroup.__weakref__", nv])
def o312_3 (P : Params) : Obj := ob (Value.type "super") (Data.fields #[rv 309, rv 309, rv 309])
def o313_3 (P : Params) : Obj := ob (Value.type "builtin_function_or_method") (Data.fields #[Value.builtin "object.__init_subclass__", rv 309])
def tr3 (P : Params) : PySem.W.BT := (.node (PySem.W.boot_o_0 P) (.node (PySem.W.boot_o_1 P) (.node (o3_3 P) (.node (PySem.W.boot_o_7 P) (.node (o15_3 P) (.node (o31_3 P) (.node (o63_3 P) (.node (o127_3 P) (.node (o255_3 P) .nil .nil) .nil) (.node (o191_3 P) .nil .nil)) (.node (o95_3 P) (.node (o159_3 P) (.node (o287_3 P) .nil .nil) .nil) (.node (o223_3 P) .nil .nil))) (.node (o47_3 P) (.node (o79_3 P) (.node (o143_3 P) (.node (o271_3 P) .nil .nil) .nil) (.node (o207_3 P) .nil .nil)) (.node (o111_3 P) (.node (o175_3 P) (.node (o303_3 P) .nil .nil) .nil) (.node (o239_3 P) .nil .nil)))) (.node (o23_3 P) (.node (o39_3 P) (.node (o71_3 P) (.node (o135_3 P) (.node (o263_3 P) .nil .nil) .nil) (.node (o199_3 P) .nil .nil)) (.node (o103_3 P) (.node (o167_3 P) (.node (o295_3 P) .nil .nil) .nil) (.node (o231_3 P) .nil .nil))) (.node (o55_3 P) (.node (o87_3 P) (.node (o151_3 P) (.node (o279_3 P) .nil .nil) .nil) (.node (o215_3 P) .nil .nil)) (.node (o119_3 P) (.node (o183_3 P) (.node (o311_3 P) .nil .nil) .nil) (.node (o247_3 P) .nil .nil))))) (.node (o11_1 P) (.node (o19_3 P) (.node (o35_3 P) (.node (o67_3 P) (.node (o131_3 P) (.node (o259_3 P) .nil .nil) .nil) (.node (o195_3 P) .nil .nil)) (.node (o99_3 P) (.node (o163_3 P) (.node (o291_3 P) .nil .nil) .nil) (.node (o227_3 P) .nil .nil))) (.node (o51_3 P) (.node (o83_3 P) (.node (o147_3 P) (.node (o275_3 P) .nil .nil) .nil) (.node (o211_3 P) .nil .nil)) (.node (o115_3 P) (.node (o179_3 P) (.node (o307_3 P) .nil .nil) .nil) (.node (o243_3 P) .nil .nil)))) (.node (o27_3 P) (.node (o43_3 P) (.node (o75_3 P) (.node (o139_3 P) (.node (o267_3 P) .nil .nil) .nil) (.node (o203_3 P) .nil .nil)) (.node (o107_3 P) (.node (o171_3 P) (.node (o299_3 P) .nil .nil) .nil) (.node (o235_3 P) .nil .nil))) (.node (o59_3 P) (.node (o91_3 P) (.node (o155_3 P) (.node (o283_3 P) .nil .nil) .nil) (.node (o219_3 P) .nil .nil)) (.node (o123_3 P) (.node (o187_3 P) .nil .nil) (.node (o251_3 P) .nil .nil)))))) (.node (PySem.W.boot_o_5 P) (.node (PySem.W.boot_o_9 P) (.node (o17_3 P) (.node (o33_3 P) (.node (o65_3 P) (.node (o129_3 P) (.node (o257_3 P) .nil .nil) .nil) (.node (o193_3 P) .nil .nil)) (.node (o97_3 P) (.node (o161_3 P) (.node (o289_3 P) .nil .nil) .nil) (.node (o225_3 P) .nil .nil))) (.node (o49_3 P) (.node (o81_3 P) (.node (o145_3 P) (.node (o273_3 P) .nil .nil) .nil) (.node (o209_3 P) .nil .nil)) (.node (o113_3 P) (.node (o177_3 P) (.node (o305_3 P) .nil .nil) .nil) (.node (o241_3 P) .nil .nil)))) (.node (o25_3 P) (.node (o41_3 P) (.node (o73_3 P) (.node (o137_3 P) (.node (o265_3 P) .nil .nil) .nil) (.node (o201_3 P) .nil .nil)) (.node (o105_3 P) (.node (o169_3 P) (.node (o297_3 P) .nil .nil) .nil) (.node (o233_3 P) .nil .nil))) (.node (o57_3 P) (.node (o89_3 P) (.node (o153_3 P) (.node (o281_3 P) .nil .nil) .nil) (.node (o217_3 P) .nil .nil)) (.node (o121_3 P) (.node (o185_3 P) (.node (o313_3 P) .nil .nil) .nil) (.node (o249_3 P) .nil .nil))))) (.node (o13_1 P) (.node (o21_3 P) (.node (o37_3 P) (.node (o69_3 P) (.node (o133_3 P) (.node (o261_3 P) .nil .nil) .nil) (.node (o197_3 P) .nil .nil)) (.node (o101_3 P) (.node (o165_3 P) (.node (o293_3 P) .nil .nil) .nil) (.node (o229_3 P) .nil .nil))) (.node (o53_3 P) (.node (o85_3 P) (.node (o149_3 P) (.node (o277_3 P) .nil .nil) .nil) (.node (o213_3 P) .nil .nil)) (.node (o117_3 P) (.node (o181_3 P) (.node (o309_3 P) .nil .nil) .nil) (.node (o245_3 P) .nil .nil)))) (.node (o29_3 P) (.node (o45_3 P) (.node (o77_3 P) (.node (o141_3 P) (.node (o269_3 P) .nil .nil) .nil) (.node (o205_3 P) .nil .nil)) (.node (o109_3 P) (.node (o173_3 P) (.node (o301_3 P) .nil .nil) .nil) (.node (o237_3 P) .nil .nil))) (.node (o61_3 P) (.node (o93_3 P) (.node (o157_3 P) (.node (o285_3 P) .nil .nil) .nil) (.node (o221_3 P) .nil .nil)) (.node (o125_3 P) (.node (o189_3 P) .nil .nil) (.node (o253_3 P) .nil .nil))))))) (.node (PySem.W.boot_o_2 P) (.node (PySem.W.boot_o_4 P) (.node (PySem.W.boot_o_8 P) (.node (o16_3 P) (.node (o32_3 P) (.node (o64_3 P) (.node (o128_3 P) (.node (o256_3 P) .nil .nil) .nil) (.node (o192_3 P) .nil .nil)) (.node (o96_3 P) (.node (o160_3 P) (.node (o288_3 P) .nil .nil) .nil) (.node (o224_3 P) .nil .nil))) (.node (o48_3 P) (.node (o80_3 P) (.node (o144_3 P) (.node (o272_3 P) .nil .nil) .nil) (.node (o208_3 P) .nil .nil)) (.node (o112_3 P) (.node (o176_3 P) (.node (o304_3 P) .nil .nil) .nil) (.node (o240_3 P) .nil .nil)))) (.node (o24_3 P) (.node (o40_3 P) (.node (o72_3 P) (.node (o136_3 P) (.node (o264_3 P) .nil .nil) .nil) (.node (o200_3 P) .nil .nil)) (.node (o104_3 P) (.node (o168_3 P) (.node (o296_3 P) .nil .nil) .nil) (.node (o232_3 P) .nil .nil))) (.node (o56_3 P) (.node (o88_3 P) (.node (o152_3 P) (.node (o280_3 P) .nil .nil) .nil) (.node (o216_3 P) .nil .nil)) (.node (o120_3 P) (.node (o184_3 P) (.node (o312_3 P) .nil .nil) .nil) (.node (o248_3 P) .nil .nil))))) (.node (o12_3 P) (.node (o20_3 P) (.node (o36_3 P) (.node (o68_3 P) (.node (o132_3 P) (.node (o260_3 P) .nil .nil) .nil) (.node (o196_3 P) .nil .nil)) (.node (o100_3 P) (.node (o164_3 P) (.node (o292_3 P) .nil .nil) .nil) (.node (o228_3 P) .nil .nil))) (.node (o52_3 P) (.node (o84_3 P) (.node (o148_3 P) (.node (o276_3 P) .nil .nil) .nil) (.node (o212_3 P) .nil .nil)) (.node (o116_3 P) (.node (o180_3 P) (.node (o308_3 P) .nil .nil) .nil) (.node (o244_3 P) .nil .nil)))) (.node (o28_3 P) (.node (o44_3 P) (.node (o76_3 P) (.node (o140_3 P) (.node (o268_3 P) .nil .nil) .nil) (.node (o204_3 P) .nil .nil)) (.node (o108_3 P) (.node (o172_3 P) (.node (o300_3 P) .nil .nil) .nil) (.node (o236_3 P) .nil .nil))) (.node (o60_3 P) (.node (o92_3 P) (.node (o156_3 P) (.node (o284_3 P) .nil .nil) .nil) (.node (o220_3 P) .nil .nil)) (.node (o124_3 P) (.node (o188_3 P) .nil .nil) (.node (o252_3 P) .nil .nil)))))) (.node (PySem.W.boot_o_6 P) (.node (PySem.W.boot_o_10 P) (.node (o18_3 P) (.node (o34_3 P) (.node (o66_3 P) (.node (o130_3 P) (.node (o258_3 P) .nil .nil) .nil) (.node (o194_3 P) .nil .nil)) (.node (o98_3 P) (.node (o162_3 P) (.node (o290_3 P) .nil .nil) .nil) (.node (o226_3 P) .nil .nil))) (.node (o50_3 P) (.node (o82_3 P) (.node (o146_3 P) (.node (o274_3 P) .nil .nil) .nil) (.node (o210_3 P) .nil .nil)) (.node (o114_3 P) (.node (o178_3 P) (.node (o306_3 P) .nil .nil) .nil) (.node (o242_3 P) .nil .nil)))) (.node (o26_3 P) (.node (o42_3 P) (.node (o74_3 P) (.node (o138_3 P) (.node (o266_3 P) .nil .nil) .nil) (.node (o202_3 P) .nil .nil)) (.node (o106_3 P) (.node (o170_3 P) (.node (o298_3 P) .nil .nil) .nil) (.node (o234_3 P) .nil .nil))) (.node (o58_3 P) (.node (o90_3 P) (.node (o154_3 P) (.node (o282_3 P) .nil .nil) .nil) (.node (o218_3 P) .nil .nil)) (.node (o122_3 P) (.node (o186_3 P) .nil .nil) (.node (o250_3 P) .nil .nil))))) (.node (o14_1 P) (.node (o22_3 P) (.node (o38_3 P) (.node (o70_3 P) (.node (o134_3 P) (.node (o262_3 P) .nil .nil) .nil) (.node (o198_3 P) .nil .nil)) (.node (o102_3 P) (.node (o166_3 P) (.node (o294_3 P) .nil .nil) .nil) (.node (o230_3 P) .nil .nil))) (.node (o54_3 P) (.node (o86_3 P) (.node (o150_3 P) (.node (o278_3 P) .nil .nil) .nil) (.node (o214_3 P) .nil .nil)) (.node (o118_3 P) (.node (o182_3 P) (.node (o310_3 P) .nil .nil) .nil) (.node (o246_3 P) .nil .nil)))) (.node (o30_3 P) (.node (o46_3 P) (.node (o78_3 P) (.node (o142_3 P) (.node (o270_3 P) .nil .nil) .nil) (.node (o206_3 P) .nil .nil)) (.node (o110_3 P) (.node (o174_3 P) (.node (o302_3 P) .nil .nil) .nil) (.node (o238_3 P) .nil .nil))) (.node (o62_3 P) (.node (o94_3 P) (.node (o158_3 P) (.node (o286_3 P) .nil .nil) .nil) (.node (o222_3 P) .nil .nil)) (.node (o126_3 P) (.node (o190_3 P) .nil .nil) (.node (o254_3 P) .nil .nil))))))))
def sT3 (w : World) (os : OsState) : PySem.W.SharedT := ⟨tr3 w.params, 314, (Life.mk [] [] [] 0 [] [] false #[] [] 0 false false false 0 [2000, 10, 10] false 0 true [] [] 0 false), #[], (Drawn.mk 0 0 0 0), 569, os⟩
def o3_4 (P : Params) : Obj := ob (Value.type "dict") (Data.dict #[de P "__name__" 165 (sv "law_oneheap_k48_numbers_leave_contents" 742), de P "__doc__" 166 nv, de P "__package__" 167 nv, de P "__loader__" 168 (Value.builtin "__main__.__loader__#opaque"), de P "__spec__" 169 nv, de P "__annotations__" 170 (rv 6), de P "__builtins__" 171 (rv 4), de P "__file__" 173 (sv "/claim/cut.py" 172), de P "__cached__" 174 nv, de P "_wall" 193 (rv 21), de P "IntSort" 250 (rv 59), de P "TextSort" 305 (rv 102), de P "RefSort" 360 (rv 144), de P "ListSort" 413 (rv 186), de P "is_reference" 420 (rv 197), de P "is_list" 427 (rv 204), de P "is_link" 434 (rv 211), de P "Thing" 480 (rv 240), de P "content_copy" 487 (rv 251), de P "holds_number" 495 (rv 258), de P "picture_copy" 501 (rv 263), de P "without_any" 509 (rv 268), de P "holds_any" 515 (rv 273), de P "Heap" 568 (rv 309), de P "without_numbers" 574 (rv 318), de P "thing_without" 587 (rv 325), de P "Field" 629 (rv 350), de P "Kind" 680 (rv 388), de P "Schema" 741 (rv 435), de P "_law_cells" 754 (rv 446), de P "_law_draw" 763 (rv 453), de P "_law_pick" 771 (rv 460), de P "_law_names" 778 (rv 467), de P "_law_rules" 784 (rv 472), de P "_law_schema" 794 (rv 479), de P "_law_number" 802 (rv 486), de P "_law_list" 812 (rv 493), de P "_law_contents" 821 (rv 500), de P "_law_picture" 832 (rv 507), de P "_law_shown" 838 (rv 512), de P "_law_due" 844 (rv 517), de P "law" 850 (rv 522)] 42)
def o12_4 (P : Params) : Obj := ob nv (Data.fields #[iv 1, iv 0, rv 20, iv 5, iv 0, rv 27, iv 21, iv 0, rv 69, iv 39, iv 0, rv 112, iv 53, iv 0, rv 154, iv 66, iv 0, rv 196, iv 68, iv 0, rv 203, iv 70, iv 0, rv 210, iv 73, iv 0, rv 217, iv 84, iv 0, rv 250, iv 86, iv 0, rv 257, iv 90, iv 0, rv 262, iv 93, iv 0, rv 267, iv 97, iv 0, rv 272, iv 100, iv 0, rv 279, iv 113, iv 0, rv 317, iv 115, iv 0, rv 324, iv 122, iv 0, rv 331, iv 131, iv 0, rv 360, iv 149, iv 0, rv 398, iv 170, iv 0, rv 445, iv 183, iv 0, rv 452, iv 189, iv 0, rv 459, iv 191, iv 0, rv 466, iv 195, iv 0, rv 471, iv 197, iv 0, rv 478, iv 201, iv 0, rv 485, iv 206, iv 0, rv 492, iv 213, iv 0, rv 499, iv 225, iv 0, rv 506, iv 232, iv 0, rv 511, iv 234, iv 0, rv 516, iv 248, iv 0, rv 521])
def o314_4 (P : Params) : Obj := ob (Value.type "tuple") (Data.seq #[])
def o315_4 (P : Params) : Obj := ob nv (Data.fields #[])
def o316_4 (P : Params) : Obj := ob nv (Data.func (fdm "without_numbers" "without_numbers" (topS 19) 0 [] nv nv nv nv .none nv nv 0))
def o317_4 (P : Params) : Obj := ob (Value.type "code") (Data.fields #[sv "without_numbers" 569, sv "without_numbers" 570, sv "/claim/cut.py" 571, iv 113, iv 3, iv 0, iv 0, iv 3, rv 314, Value.bool true, iv 181, rv 315, nv, nv, nv, rv 316, iv 572, iv 113, sv "/claim/cut.py" 573])
def o318_4 (P : Params) : Obj := ob (Value.type "function") (Data.func (fdm "without_numbers" "without_numbers" (topS 19) 3 [] nv nv nv (sv "oneheap.heap.heap" 516) .none (rv 317) nv 0))
def o319_4 (P : Params) : Obj := ob (Value.type "tuple") (Data.seq #[])
def o320_4 (P : Params) : Obj := ob nv (Data.fields #[])
def o321_4 (P : Params) : Obj := ob (Value.type "tuple") (Data.seq #[sv "schema" 578, sv "thing" 579, sv "gone" 580, sv "contents" 581, sv "name" 582, sv "content" 583, sv "field" 584])
def o322_4 (P : Params) : Obj := ob (Value.type "tuple") (Data.seq #[])
def o323_4 (P : Params) : Obj := ob nv (Data.func (fdm "thing_without" "thing_without" (topS 20) 0 [] nv nv nv nv .none nv nv 0))
def o324_4 (P : Params) : Obj := ob (Value.type "code") (Data.fields #[sv "thing_without" 575, sv "thing_without" 576, sv "/claim/cut.py" 577, iv 115, iv 3, iv 0, iv 0, iv 3, rv 319, Value.bool true, iv 181, rv 320, nv, rv 321, rv 322, rv 323, iv 585, iv 115, sv "/claim/cut.py" 586])
def o325_4 (P : Params) : Obj := ob (Value.type "function") (Data.func (fdm "thing_without" "thing_without" (topS 20) 3 [] nv nv nv (sv "oneheap.heap.heap" 516) .none (rv 324) nv 0))
def o326_4 (P : Params) : Obj := ob (Value.type "tuple") (Data.seq #[])
def o327_4 (P : Params) : Obj := ob (Value.type "builtin_function_or_method") (Data.fields #[Value.builtin "type.__prepare__", Value.type "type"])
def o328_4 (P : Params) : Obj := ob (Value.type "dict") (Data.dict #[de P "__module__" 597 (sv "oneheap.schemas.schema" 588), de P "__qualname__" 599 (sv "Field" 598), de P "__firstlineno__" 601 (Value.int 122 600), de P "__init__" 611 (rv 340), de P "written" 618 (rv 347), de P "__static_attributes__" 622 (rv 348)] 6)
def o329_4 (P : Params) : Obj := ob (Value.type "tuple") (Data.seq #[])
def o330_4 (P : Params) : Obj := ob nv (Data.fields #[iv 124, iv 4, rv 339, iv 129, iv 4, rv 346])
def o331_4 (P : Params) : Obj := ob (Value.type "code") (Data.fields #[sv "Field" 592, sv "Field" 593, sv "/claim/cut.py" 594, iv 122, iv 0, iv 0, iv 0, iv 0, rv 329, Value.bool false, iv 181, rv 330, nv, nv, nv, nv, iv 595, iv 122, sv "/claim/cut.py" 596])
def o332_4 (P : Params) : Obj := Obj.mk (Value.type "frame") .none Data.plain #[.some (rv 331), .some (rv 3), .some (rv 328), .none, .some (sv "oneheap.schemas.schema" 588), .none, .some (rv 0)]
def o333_4 (P : Params) : Obj := ob (Value.type "tuple") (Data.seq #[Value.bool false])
def o334_4 (P : Params) : Obj := ob (Value.type "tuple") (Data.seq #[])
def o335_4 (P : Params) : Obj := ob nv (Data.fields #[])
def o336_4 (P : Params) : Obj := ob (Value.type "tuple") (Data.seq #[sv "self" 605, sv "name" 606, sv "shape" 607, sv "needed" 608])
def o337_4 (P : Params) : Obj := ob (Value.type "tuple") (Data.seq #[])
def o338_4 (P : Params) : Obj := ob nv (Data.func (fdm "__init__" "Field.__init__" (inClass (topS 22) 0) 0 [] nv nv nv nv .none nv nv 0))
def o339_4 (P : Params) : Obj := ob (Value.type "code") (Data.fields #[sv "__init__" 602, sv "Field.__init__" 603, sv "/claim/cut.py" 604, iv 124, iv 4, iv 0, iv 0, iv 3, rv 334, Value.bool true, iv 181, rv 335, nv, rv 336, rv 337, rv 338, iv 609, iv 124, sv "/claim/cut.py" 610])
def o340_4 (P : Params) : Obj := ob (Value.type "function") (Data.func (fdm "__init__" "Field.__init__" (inClass (topS 22) 0) 3 [] (rv 333) nv nv (sv "oneheap.schemas.schema" 588) .none (rv 339) nv 0))
def o341_4 (P : Params) : Obj := ob (Value.type "tuple") (Data.seq #[])
def o342_4 (P : Params) : Obj := ob nv (Data.fields #[])
def o343_4 (P : Params) : Obj := ob (Value.type "tuple") (Data.seq #[sv "self" 615])
def o344_4 (P : Params) : Obj := ob (Value.type "tuple") (Data.seq #[])
def o345_4 (P : Params) : Obj := ob nv (Data.func (fdm "written" "Field.written" (inClass (topS 22) 1) 0 [] nv nv nv nv .none nv nv 0))
def o346_4 (P : Params) : Obj := ob (Value.type "code") (Data.fields #[sv "written" 612, sv "Field.written" 613, sv "/claim/cut.py" 614, iv 129, iv 1, iv 0, iv 0, iv 3, rv 341, Value.bool true, iv 181, rv 342, nv, rv 343, rv 344, rv 345, iv 616, iv 129, sv "/claim/cut.py" 617])
def o347_4 (P : Params) : Obj := ob (Value.type "function") (Data.func (fdm "written" "Field.written" (inClass (topS 22) 1) 3 [] nv nv nv (sv "oneheap.schemas.schema" 588) .none (rv 346) nv 0))
def o348_4 (P : Params) : Obj := ob (Value.type "tuple") (Data.seq #[sv "name" 619, sv "needed" 620, sv "shape" 621])
def o349_4 (P : Params) : Obj := ob (Value.type "dict") (Data.dict #[de P "__module__" 597 (sv "oneheap.schemas.schema" 588), de P "__firstlineno__" 601 (Value.int 122 600), de P "__init__" 611 (rv 340), de P "written" 618 (rv 347), de P "__static_attributes__" 622 (rv 348), de P "__dict__" 624 (rv 351), de P "__weakref__" 626 (rv 352), de P "__doc__" 627 nv] 4)
def o350_4 (P : Params) : Obj := Obj.mk (Value.type "type") .none (Data.cls (ClassData.mk (Str.ofString "Field") [Value.type "object"] [rv 350, Value.type "object"] 349 (Str.ofString "Field") true [] [] false .none false)) #[.none, .none, .some (sv "Field" 590), .some (sv "Field" 598), .some (Value.builtin "object.__new__"), .some (Value.bool true)]
def o351_4 (P : Params) : Obj := ob (Value.type "getset_descriptor") (Data.fields #[sv "__dict__" 623, rv 350, Value.builtin "function.__dict__", Value.builtin "function.__dict__#set"])
def o352_4 (P : Params) : Obj := ob (Value.type "getset_descriptor") (Data.fields #[sv "__weakref__" 625, rv 350, Value.builtin "ExceptionGroup.__weakref__", nv])
def o353_4 (P : Params) : Obj := ob (Value.type "super") (Data.fields #[rv 350, rv 350, rv 350])
def o354_4 (P : Params) : Obj := ob (Value.type "builtin_function_or_method") (Data.fields #[Value.builtin "object.__init_subclass__", rv 350])
def o355_4 (P : Params) : Obj := ob (Value.type "tuple") (Data.seq #[])
def o356_4 (P : Params) : Obj := ob (Value.type "builtin_function_or_method") (Data.fields #[Value.builtin "type.__prepare__", Value.type "type"])
def o357_4 (P : Params) : Obj := ob (Value.type "dict") (Data.dict #[de P "__module__" 637 (sv "oneheap.schemas.schema" 588), de P "__qualname__" 639 (sv "Kind" 638), de P "__firstlineno__" 641 (Value.int 131 640), de P "__init__" 647 (rv 366), de P "field_of" 656 (rv 373), de P "names" 662 (rv 378), de P "written" 669 (rv 385), de P "__static_attributes__" 673 (rv 386)] 8)
def o358_4 (P : Params) : Obj := ob (Value.type "tuple") (Data.seq #[])
def o359_4 (P : Params) : Obj := ob nv (Data.fields #[iv 133, iv 4, rv 365, iv 138, iv 4, rv 372, iv 144, iv 4, rv 377, iv 147, iv 4, rv 384])
def o360_4 (P : Params) : Obj := ob (Value.type "code") (Data.fields #[sv "Kind" 632, sv "Kind" 633, sv "/claim/cut.py" 634, iv 131, iv 0, iv 0, iv 0, iv 0, rv 358, Value.bool false, iv 181, rv 359, nv, nv, nv, nv, iv 635, iv 131, sv "/claim/cut.py" 636])
def o361_4 (P : Params) : Obj := Obj.mk (Value.type "frame") .none Data.plain #[.some (rv 360), .some (rv 3), .some (rv 357), .none, .some (sv "oneheap.schemas.schema" 588), .none, .some (rv 0)]
def o362_4 (P : Params) : Obj := ob (Value.type "tuple") (Data.seq #[])
def o363_4 (P : Params) : Obj := ob nv (Data.fields #[])
def o364_4 (P : Params) : Obj := ob nv (Data.func (fdm "__init__" "Kind.__init__" (inClass (topS 23) 0) 0 [] nv nv nv nv .none nv nv 0))
def o365_4 (P : Params) : Obj := ob (Value.type "code") (Data.fields #[sv "__init__" 642, sv "Kind.__init__" 643, sv "/claim/cut.py" 644, iv 133, iv 4, iv 0, iv 0, iv 3, rv 362, Value.bool true, iv 181, rv 363, nv, nv, nv, rv 364, iv 645, iv 133, sv "/claim/cut.py" 646])
def o366_4 (P : Params) : Obj := ob (Value.type "function") (Data.func (fdm "__init__" "Kind.__init__" (inClass (topS 23) 0) 3 [] nv nv nv (sv "oneheap.schemas.schema" 588) .none (rv 365) nv 0))
def o367_4 (P : Params) : Obj := ob (Value.type "tuple") (Data.seq #[])
def o368_4 (P : Params) : Obj := ob nv (Data.fields #[])
def o369_4 (P : Params) : Obj := ob (Value.type "tuple") (Data.seq #[sv "self" 651, sv "name" 652, sv "field" 653])
def o370_4 (P : Params) : Obj := ob (Value.type "tuple") (Data.seq #[])
def o371_4 (P : Params) : Obj := ob nv (Data.func (fdm "field_of" "Kind.field_of" (inClass (topS 23) 1) 0 [] nv nv nv nv .none nv nv 0))
def o372_4 (P : Params) : Obj := ob (Value.type "code") (Data.fields #[sv "field_of" 648, sv "Kind.field_of" 649, sv "/claim/cut.py" 650, iv 138, iv 2, iv 0, iv 0, iv 3, rv 367, Value.bool true, iv 181, rv 368, nv, rv 369, rv 370, rv 371, iv 654, iv 138, sv "/claim/cut.py" 655])
def o373_4 (P : Params) : Obj := ob (Value.type "function") (Data.func (fdm "field_of" "Kind.field_of" (inClass (topS 23) 1) 3 [] nv nv nv (sv "oneheap.schemas.schema" 588) .none (rv 372) nv 0))
def o374_4 (P : Params) : Obj := ob (Value.type "tuple") (Data.seq #[])
def o375_4 (P : Params) : Obj := ob nv (Data.fields #[])
def o376_4 (P : Params) : Obj := ob nv (Data.func (fdm "names" "Kind.names" (inClass (topS 23) 2) 0 [] nv nv nv nv .none nv nv 0))
def o377_4 (P : Params) : Obj := ob (Value.type "code") (Data.fields #[sv "names" 657, sv "Kind.names" 658, sv "/claim/cut.py" 659, iv 144, iv 1, iv 0, iv 0, iv 3, rv 374, Value.bool true, iv 181, rv 375, nv, nv, nv, rv 376, iv 660, iv 144, sv "/claim/cut.py" 661])
def o378_4 (P : Params) : Obj := ob (Value.type "function") (Data.func (fdm "names" "Kind.names" (inClass (topS 23) 2) 3 [] nv nv nv (sv "oneheap.schemas.schema" 588) .none (rv 377) nv 0))
def o379_4 (P : Params) : Obj := ob (Value.type "tuple") (Data.seq #[])
def o380_4 (P : Params) : Obj := ob nv (Data.fields #[])
def o381_4 (P : Params) : Obj := ob (Value.type "tuple") (Data.seq #[sv "self" 666])
def o382_4 (P : Params) : Obj := ob (Value.type "tuple") (Data.seq #[])
def o383_4 (P : Params) : Obj := ob nv (Data.func (fdm "written" "Kind.written" (inClass (topS 23) 3) 0 [] nv nv nv nv .none nv nv 0))
def o384_4 (P : Params) : Obj := ob (Value.type "code") (Data.fields #[sv "written" 663, sv "Kind.written" 664, sv "/claim/cut.py" 665, iv 147, iv 1, iv 0, iv 0, iv 3, rv 379, Value.bool true, iv 181, rv 380, nv, rv 381, rv 382, rv 383, iv 667, iv 147, sv "/claim/cut.py" 668])
def o385_4 (P : Params) : Obj := ob (Value.type "function") (Data.func (fdm "written" "Kind.written" (inClass (topS 23) 3) 3 [] nv nv nv (sv "oneheap.schemas.schema" 588) .none (rv 384) nv 0))
def o386_4 (P : Params) : Obj := ob (Value.type "tuple") (Data.seq #[sv "fields" 670, sv "key_rows" 671, sv "name" 672])
def o387_4 (P : Params) : Obj := ob (Value.type "dict") (Data.dict #[de P "__module__" 637 (sv "oneheap.schemas.schema" 588), de P "__firstlineno__" 641 (Value.int 131 640), de P "__init__" 647 (rv 366), de P "field_of" 656 (rv 373), de P "names" 662 (rv 378), de P "written" 669 (rv 385), de P "__static_attributes__" 673 (rv 386), de P "__dict__" 675 (rv 389), de P "__weakref__" 677 (rv 390), de P "__doc__" 678 nv] 4)
def o388_4 (P : Params) : Obj := Obj.mk (Value.type "type") .none (Data.cls (ClassData.mk (Str.ofString "Kind") [Value.type "object"] [rv 388, Value.type "object"] 387 (Str.ofString "Kind") true [] [] false .none false)) #[.none, .none, .some (sv "Kind" 630), .some (sv "Kind" 638), .some (Value.builtin "object.__new__"), .some (Value.bool true)]
def o389_4 (P : Params) : Obj := ob (Value.type "getset_descriptor") (Data.fields #[sv "__dict__" 674, rv 388, Value.builtin "function.__dict__", Value.builtin "function.__dict__#set"])
def o390_4 (P : Params) : Obj := ob (Value.type "getset_descriptor") (Data.fields #[sv "__weakref__" 676, rv 388, Value.builtin "ExceptionGroup.__weakref__", nv])
def o391_4 (P : Params) : Obj := ob (Value.type "super") (Data.fields #[rv 388, rv 388, rv 388])
def o392_4 (P : Params) : Obj := ob (Value.type "builtin_function_or_method") (Data.fields #[Value.builtin "object.__init_subclass__", rv 388])
def o393_4 (P : Params) : Obj := ob (Value.type "tuple") (Data.seq #[])
def o394_4 (P : Params) : Obj := ob (Value.type "builtin_function_or_method") (Data.fields #[Value.builtin "type.__prepare__", Value.type "type"])
def o395_4 (P : Params) : Obj := ob (Value.type "dict") (Data.dict #[de P "__module__" 688 (sv "oneheap.schemas.schema" 588), de P "__qualname__" 690 (sv "Schema" 689), de P "__firstlineno__" 692 (Value.int 149 691), de P "__init__" 700 (rv 406), de P "kind_of" 709 (rv 413), de P "field_of" 719 (rv 420), de P "names" 725 (rv 425), de P "written" 732 (rv 432), de P "__static_attributes__" 734 (rv 433)] 9)
def o396_4 (P : Params) : Obj := ob (Value.type "tuple") (Data.seq #[])
def o397_4 (P : Params) : Obj := ob nv (Data.fields #[iv 151, iv 4, rv 405, iv 154, iv 4, rv 412, iv 160, iv 4, rv 419, iv 164, iv 4, rv 424, iv 167, iv 4, rv 431])
def o398_4 (P : Params) : Obj := ob (Value.type "code") (Data.fields #[sv "Schema" 683, sv "Schema" 684, sv "/claim/cut.py" 685, iv 149, iv 0, iv 0, iv 0, iv 0, rv 396, Value.bool false, iv 181, rv 397, nv, nv, nv, nv, iv 686, iv 149, sv "/claim/cut.py" 687])
def o399_4 (P : Params) : Obj := Obj.mk (Value.type "frame") .none Data.plain #[.some (rv 398), .some (rv 3), .some (rv 395), .none, .some (sv "oneheap.schemas.schema" 588), .none, .some (rv 0)]
def o400_4 (P : Params) : Obj := ob (Value.type "tuple") (Data.seq #[])
def o401_4 (P : Params) : Obj := ob nv (Data.fields #[])
def o402_4 (P : Params) : Obj := ob (Value.type "tuple") (Data.seq #[sv "self" 696, sv "kinds" 697])
def o403_4 (P : Params) : Obj := ob (Value.type "tuple") (Data.seq #[])
def o404_4 (P : Params) : Obj := ob nv (Data.func (fdm "__init__" "Schema.__init__" (inClass (topS 24) 0) 0 [] nv nv nv nv .none nv nv 0))
def o405_4 (P : Params) : Obj := ob (Value.type "code") (Data.fields #[sv "__init__" 693, sv "Schema.__init__" 694, sv "/claim/cut.py" 695, iv 151, iv 2, iv 0, iv 0, iv 3, rv 400, Value.bool true, iv 181, rv 401, nv, rv 402, rv 403, rv 404, iv 698, iv 151, sv "/claim/cut.py" 699])
def o406_4 (P : Params) : Obj := ob (Value.type "function") (Data.func (fdm "__init__" "Schema.__init__" (inClass (topS 24) 0) 3 [] nv nv nv (sv "oneheap.schemas.schema" 588) .none (rv 405) nv 0))
def o407_4 (P : Params) : Obj := ob (Value.type "tuple") (Data.seq #[])
def o408_4 (P : Params) : Obj := ob nv (Data.fields #[])
def o409_4 (P : Params) : Obj := ob (Value.type "tuple") (Data.seq #[sv "self" 704, sv "name" 705, sv "kind" 706])
def o410_4 (P : Params) : Obj := ob (Value.type "tuple") (Data.seq #[])
def o411_4 (P : Params) : Obj := ob nv (Data.func (fdm "kind_of" "Schema.kind_of" (inClass (topS 24) 1) 0 [] nv nv nv nv .none nv nv 0))
def o412_4 (P : Params) : Obj := ob (Value.type "code") (Data.fields #[sv "kind_of" 701, sv "Schema.kind_of" 702, sv "/claim/cut.py" 703, iv 154, iv 2, iv 0, iv 0, iv 3, rv 407, Value.bool true, iv 181, rv 408, nv, rv 409, rv 410, rv 411, iv 707, iv 154, sv "/claim/cut.py" 708])
def o413_4 (P : Params) : Obj := ob (Value.type "function") (Data.func (fdm "kind_of" "Schema.kind_of" (inClass (topS 24) 1) 3 [] nv nv nv (sv "oneheap.schemas.schema" 588) .none (rv 412) nv 0))
def o414_4 (P : Params) : Obj := ob (Value.type "tuple") (Data.seq #[])
def o415_4 (P : Params) : Obj := ob nv (Data.fields #[])
def o416_4 (P : Params) : Obj := ob (Value.type "tuple") (Data.seq #[sv "self" 713, sv "kind" 714, sv "name" 715, sv "found" 716])
def o417_4 (P : Params) : Obj := ob (Value.type "tuple") (Data.seq #[])
def o418_4 (P : Params) : Obj := ob nv (Data.func (fdm "field_of" "Schema.field_of" (inClass (topS 24) 2) 0 [] nv nv nv nv .none nv nv 0))
def o419_4 (P : Params) : Obj := ob (Value.type "code") (Data.fields #[sv "field_of" 710, sv "Schema.field_of" 711, sv "/claim/cut.py" 712, iv 160, iv 3, iv 0, iv 0, iv 3, rv 414, Value.bool true, iv 181, rv 415, nv, rv 416, rv 417, rv 418, iv 717, iv 160, sv "/claim/cut.py" 718])
def o420_4 (P : Params) : Obj := ob (Value.type "function") (Data.func (fdm "field_of" "Schema.field_of" (inClass (topS 24) 2) 3 [] nv nv nv (sv "oneheap.schemas.schema" 588) .none (rv 419) nv 0))
def o421_4 (P : Params) : Obj := ob (Value.type "tuple") (Data.seq #[])
def o422_4 (P : Params) : Obj := ob nv (Data.fields #[])
def o423_4 (P : Params) : Obj := ob nv (Data.func (fdm "names" "Schema.names" (inClass (topS 24) 3) 0 [] nv nv nv nv .none nv nv 0))
def o424_4 (P : Params) : Obj := ob (Value.type "code") (Data.fields #[sv "names" 720, sv "Schema.names" 721, sv "/claim/cut.py" 722, iv 164, iv 1, iv 0, iv 0, iv 3, rv 421, Value.bool true, iv 181, rv 422, nv, nv, nv, rv 423, iv 723, iv 164, sv "/claim/cut.py" 724])
def o425_4 (P : Params) : Obj := ob (Value.type "function") (Data.func (fdm "names" "Schema.names" (inClass (topS 24) 3) 3 [] nv nv nv (sv "oneheap.schemas.schema" 588) .none (rv 424) nv 0))
def o426_4 (P : Params) : Obj := ob (Value.type "tuple") (Data.seq #[])
def o427_4 (P : Params) : Obj := ob nv (Data.fields #[])
def o428_4 (P : Params) : Obj := ob (Value.type "tuple") (Data.seq #[sv "self" 729])
def o429_4 (P : Params) : Obj := ob (Value.type "tuple") (Data.seq #[])
def o430_4 (P : Params) : Obj := ob nv (Data.func (fdm "written" "Schema.written" (inClass (topS 24) 4) 0 [] nv nv nv nv .none nv nv 0))
def o431_4 (P : Params) : Obj := ob (Value.type "code") (Data.fields #[sv "written" 726, sv "Schema.written" 727, sv "/claim/cut.py" 728, iv 167, iv 1, iv 0, iv 0, iv 3, rv 426, Value.bool true, iv 181, rv 427, nv, rv 428, rv 429, rv 430, iv 730, iv 167, sv "/claim/cut.py" 731])
def o432_4 (P : Params) : Obj := ob (Value.type "function") (Data.func (fdm "written" "Schema.written" (inClass (topS 24) 4) 3 [] nv nv nv (sv "oneheap.schemas.schema" 588) .none (rv 431) nv 0))
def o433_4 (P : Params) : Obj := ob (Value.type "tuple") (Data.seq #[sv "kinds" 733])
def o434_4 (P : Params) : Obj := ob (Value.type "dict") (Data.dict #[de P "__module__" 688 (sv "oneheap.schemas.schema" 588), de P "__firstlineno__" 692 (Value.int 149 691), de P "__init__" 700 (rv 406), de P "kind_of" 709 (rv 413), de P "field_of" 719 (rv 420), de P "names" 725 (rv 425), de P "written" 732 (rv 432), de P "__static_attributes__" 734 (rv 433), de P "__dict__" 736 (rv 436), de P "__weakref__" 738 (rv 437), de P "__doc__" 739 nv] 4)
def o435_4 (P : Params) : Obj := Obj.mk (Value.type "type") .none (Data.cls (ClassData.mk (Str.ofString "Schema") [Value.type "object"] [rv 435, Value.type "object"] 434 (Str.ofString "Schema") true [] [] false .none false)) #[.none, .none, .some (sv "Schema" 681), .some (sv "Schema" 689), .some (Value.builtin "object.__new__"), .some (Value.bool true)]
def o436_4 (P : Params) : Obj := ob (Value.type "getset_descriptor") (Data.fields #[sv "__dict__" 735, rv 435, Value.builtin "function.__dict__", Value.builtin "function.__dict__#set"])
def o437_4 (P : Params) : Obj := ob (Value.type "getset_descriptor") (Data.fields #[sv "__weakref__" 737, rv 435, Value.builtin "ExceptionGroup.__weakref__", nv])
def o438_4 (P : Params) : Obj := ob (Value.type "super") (Data.fields #[rv 435, rv 435, rv 435])
def o439_4 (P : Params) : Obj := ob (Value.type "builtin_function_or_method") (Data.fields #[Value.builtin "object.__init_subclass__", rv 435])
def o440_4 (P : Params) : Obj := ob (Value.type "tuple") (Data.seq #[])
def o441_4 (P : Params) : Obj := ob nv (Data.fields #[])
def o442_4 (P : Params) : Obj := ob (Value.type "tuple") (Data.seq #[sv "script" 747, sv "count" 748, sv "cells" 749, sv "k" 750, sv "cell" 751])
def o443_4 (P : Params) : Obj := ob (Value.type "tuple") (Data.seq #[])
def o444_4 (P : Params) : Obj := ob nv (Data.func (fdm "_law_cells" "_law_cells" (topS 26) 0 [] nv nv nv nv .none nv nv 0))
def o445_4 (P : Params) : Obj := ob (Value.type "code") (Data.fields #[sv "_law_cells" 744, sv "_law_cells" 745, sv "/claim/cut.py" 746, iv 170, iv 2, iv 0, iv 0, iv 3, rv 440, Value.bool true, iv 181, rv 441, nv, rv 442, rv 443, rv 444, iv 752, iv 170, sv "/claim/cut.py" 753])
def o446_4 (P : Params) : Obj := ob (Value.type "function") (Data.func (fdm "_law_cells" "_law_cells" (topS 26) 3 [] nv nv nv (sv "law_oneheap_k48_numbers_leave_contents" 742) .none (rv 445) nv 0))
def o447_4 (P : Params) : Obj := ob (Value.type "tuple") (Data.seq #[])
def o448_4 (P : Params) : Obj := ob nv (Data.fields #[])
def o449_4 (P : Params) : Obj := ob (Value.type "tuple") (Data.seq #[sv "draws" 758, sv "bound" 759, sv "amount" 760])
def o450_4 (P : Params) : Obj := ob (Value.type "tuple") (Data.seq #[])
def o451_4 (P : Params) : Obj := ob nv (Data.func (fdm "_law_draw" "_law_draw" (topS 27) 0 [] nv nv nv nv .none nv nv 0))
def o452_4 (P : Params) : Obj := ob (Value.type "code") (Data.fields #[sv "_law_draw" 755, sv "_law_draw" 756, sv "/claim/cut.py" 757, iv 183, iv 2, iv 0, iv 0, iv 3, rv 447, Value.bool true, iv 181, rv 448, nv, rv 449, rv 450, rv 451, iv 761, iv 183, sv "/claim/cut.py" 762])
def o453_4 (P : Params) : Obj := ob (Value.type "function") (Data.func (fdm "_law_draw" "_law_draw" (topS 27) 3 [] nv nv nv (sv "law_oneheap_k48_numbers_leave_contents" 742) .none (rv 452) nv 0))
def o454_4 (P : Params) : Obj := ob (Value.type "tuple") (Data.seq #[])
def o455_4 (P : Params) : Obj := ob nv (Data.fields #[])
def o456_4 (P : Params) : Obj := ob (Value.type "tuple") (Data.seq #[sv "draws" 767, sv "row" 768])
def o457_4 (P : Params) : Obj := ob (Value.type "tuple") (Data.seq #[])
def o458_4 (P : Params) : Obj := ob nv (Data.func (fdm "_law_pick" "_law_pick" (topS 28) 0 [] nv nv nv nv .none nv nv 0))
def o459_4 (P : Params) : Obj := ob (Value.type "code") (Data.fields #[sv "_law_pick" 764, sv "_law_pick" 765, sv "/claim/cut.py" 766, iv 189, iv 2, iv 0, iv 0, iv 3, rv 454, Value.bool true, iv 181, rv 455, nv, rv 456, rv 457, rv 458, iv 769, iv 189, sv "/claim/cut.py" 770])
def o460_4 (P : Params) : Obj := ob (Value.type "function") (Data.func (fdm "_law_pick" "_law_pick" (topS 28) 3 [] nv nv nv (sv "law_oneheap_k48_numbers_leave_contents" 742) .none (rv 459) nv 0))
def o461_4 (P : Params) : Obj := ob (Value.type "tuple") (Data.seq #[])
def o462_4 (P : Params) : Obj := ob nv (Data.fields #[])
def o463_4 (P : Params) : Obj := ob (Value.type "tuple") (Data.seq #[sv "kind" 775])
def o464_4 (P : Params) : Obj := ob (Value.type "tuple") (Data.seq #[])
def o465_4 (P : Params) : Obj := ob nv (Data.func (fdm "_law_names" "_law_names" (topS 29) 0 [] nv nv nv nv .none nv nv 0))
def o466_4 (P : Params) : Obj := ob (Value.type "code") (Data.fields #[sv "_law_names" 772, sv "_law_names" 773, sv "/claim/cut.py" 774, iv 191, iv 1, iv 0, iv 0, iv 3, rv 461, Value.bool true, iv 181, rv 462, nv, rv 463, rv 464, rv 465, iv 776, iv 191, sv "/claim/cut.py" 777])
def o467_4 (P : Params) : Obj := ob (Value.type "function") (Data.func (fdm "_law_names" "_law_names" (topS 29) 3 [] nv nv nv (sv "law_oneheap_k48_numbers_leave_contents" 742) .none (rv 466) nv 0))
def o468_4 (P : Params) : Obj := ob (Value.type "tuple") (Data.seq #[])
def o469_4 (P : Params) : Obj := ob nv (Data.fields #[])
def o470_4 (P : Params) : Obj := ob nv (Data.func (fdm "_law_rules" "_law_rules" (topS 30) 0 [] nv nv nv nv .none nv nv 0))
def o471_4 (P : Params) : Obj := ob (Value.type "code") (Data.fields #[sv "_law_rules" 779, sv "_law_rules" 780, sv "/claim/cut.py" 781, iv 195, iv 1, iv 0, iv 0, iv 3, rv 468, Value.bool true, iv 181, rv 469, nv, nv, nv, rv 470, iv 782, iv 195, sv "/claim/cut.py" 783])
def o472_4 (P : Params) : Obj := ob (Value.type "function") (Data.func (fdm "_law_rules" "_law_rules" (topS 30) 3 [] nv nv nv (sv "law_oneheap_k48_numbers_leave_contents" 742) .none (rv 471) nv 0))
def o473_4 (P : Params) : Obj := ob (Value.type "tuple") (Data.seq #[])
def o474_4 (P : Params) : Obj := ob nv (Data.fields #[])
def o475_4 (P : Params) : Obj := ob (Value.type "tuple") (Data.seq #[sv "rules" 788, sv "needed" 789, sv "first" 790, sv "second" 791])
def o476_4 (P : Params) : Obj := ob (Value.type "tuple") (Data.seq #[])
def o477_4 (P : Params) : Obj := ob nv (Data.func (fdm "_law_schema" "_law_schema" (topS 31) 0 [] nv nv nv nv .none nv nv 0))
def o478_4 (P : Params) : Obj := ob (Value.type "code") (Data.fields #[sv "_law_schema" 785, sv "_law_schema" 786, sv "/claim/cut.py" 787, iv 197, iv 2, iv 0, iv 0, iv 3, rv 473, Value.bool true, iv 181, rv 474, nv, rv 475, rv 476, rv 477, iv 792, iv 197, sv "/claim/cut.py" 793])
def o479_4 (P : Params) : Obj := ob (Value.type "function") (Data.func (fdm "_law_schema" "_law_schema" (topS 31) 3 [] nv nv nv (sv "law_oneheap_k48_numbers_leave_contents" 742) .none (rv 478) nv 0))
def o480_4 (P : Params) : Obj := ob (Value.type "tuple") (Data.seq #[])
def o481_4 (P : Params) : Obj := ob nv (Data.fields #[])
def o482_4 (P : Params) : Obj := ob (Value.type "tuple") (Data.seq #[sv "draws" 798, sv "digit" 799])
def o483_4 (P : Params) : Obj := ob (Value.type "tuple") (Data.seq #[])
def o484_4 (P : Params) : Obj := ob nv (Data.func (fdm "_law_number" "_law_number" (topS 32) 0 [] nv nv nv nv .none nv nv 0))
def o485_4 (P : Params) : Obj := ob (Value.type "code") (Data.fields #[sv "_law_number" 795, sv "_law_number" 796, sv "/claim/cut.py" 797, iv 201, iv 1, iv 0, iv 0, iv 3, rv 480, Value.bool true, iv 181, rv 481, nv, rv 482, rv 483, rv 484, iv 800, iv 201, sv "/claim/cut.py" 801])
def o486_4 (P : Params) : Obj := ob (Value.type "function") (Data.func (fdm "_law_number" "_law_number" (topS 32) 3 [] nv nv nv (sv "law_oneheap_k48_numbers_leave_contents" 742) .none (rv 485) nv 0))
def o487_4 (P : Params) : Obj := ob (Value.type "tuple") (Data.seq #[])
def o488_4 (P : Params) : Obj := ob nv (Data.fields #[])
def o489_4 (P : Params) : Obj := ob (Value.type "tuple") (Data.seq #[sv "draws" 806, sv "row" 807, sv "_law_turn" 808, sv "digit" 809])
def o490_4 (P : Params) : Obj := ob (Value.type "tuple") (Data.seq #[])
def o491_4 (P : Params) : Obj := ob nv (Data.func (fdm "_law_list" "_law_list" (topS 33) 0 [] nv nv nv nv .none nv nv 0))
def o492_4 (P : Params) : Obj := ob (Value.type "code") (Data.fields #[sv "_law_list" 803, sv "_law_list" 804, sv "/claim/cut.py" 805, iv 206, iv 1, iv 0, iv 0, iv 3, rv 487, Value.bool true, iv 181, rv 488, nv, rv 489, rv 490, rv 491, iv 810, iv 206, sv "/claim/cut.py" 811])
def o493_4 (P : Params) : Obj := ob (Value.type "function") (Data.func (fdm "_law_list" "_law_list" (topS 33) 3 [] nv nv nv (sv "law_oneheap_k48_numbers_leave_contents" 742) .none (rv 492) nv 0))
def o494_4 (P : Params) : Obj := ob (Value.type "tuple") (Data.seq #[])
def o495_4 (P : Params) : Obj := ob nv (Data.fields #[])
def o496_4 (P : Params) : Obj := ob (Value.type "tuple") (Data.seq #[sv "draws" 816, sv "kind" 817, sv "known" 818])
def o497_4 (P : Params) : Obj := ob (Value.type "tuple") (Data.seq #[])
def o498_4 (P : Params) : Obj := ob nv (Data.func (fdm "_law_contents" "_law_contents" (topS 34) 0 [] nv nv nv nv .none nv nv 0))
def o499_4 (P : Params) : Obj := ob (Value.type "code") (Data.fields #[sv "_law_contents" 813, sv "_law_contents" 814, sv "/claim/cut.py" 815, iv 213, iv 2, iv 0, iv 0, iv 3, rv 494, Value.bool true, iv 181, rv 495, nv, rv 496, rv 497, rv 498, iv 819, iv 213, sv "/claim/cut.py" 820])
def o500_4 (P : Params) : Obj := ob (Value.type "function") (Data.func (fdm "_law_contents" "_law_contents" (topS 34) 3 [] nv nv nv (sv "law_oneheap_k48_numbers_leave_contents" 742) .none (rv 499) nv 0))
def o501_4 (P : Params) : Obj := ob (Value.type "tuple") (Data.seq #[])
def o502_4 (P : Params) : Obj := ob nv (Data.fields #[])
def o503_4 (P : Params) : Obj := ob (Value.type "tuple") (Data.seq #[sv "draws" 825, sv "picture" 826, sv "_law_turn" 827, sv "number" 828, sv "kind" 829])
def o504_4 (P : Params) : Obj := ob (Value.type "tuple") (Data.seq #[])
def o505_4 (P : Params) : Obj := ob nv (Data.func (fdm "_law_picture" "_law_picture" (topS 35) 0 [] nv nv nv nv .none nv nv 0))
def o506_4 (P : Params) : Obj := ob (Value.type "code") (Data.fields #[sv "_law_picture" 822, sv "_law_picture" 823, sv "/claim/cut.py" 824, iv 225, iv 1, iv 0, iv 0, iv 3, rv 501, Value.bool true, iv 181, rv 502, nv, rv 503, rv 504, rv 505, iv 830, iv 225, sv "/claim/cut.py" 831])
def o507_4 (P : Params) : Obj := ob (Value.type "function") (Data.func (fdm "_law_picture" "_law_picture" (topS 35) 3 [] nv nv nv (sv "law_oneheap_k48_numbers_leave_contents" 742) .none (rv 506) nv 0))
def o508_4 (P : Params) : Obj := ob (Value.type "tuple") (Data.seq #[])
def o509_4 (P : Params) : Obj := ob nv (Data.fields #[])
def o510_4 (P : Params) : Obj := ob nv (Data.func (fdm "_law_shown" "_law_shown" (topS 36) 0 [] nv nv nv nv .none nv nv 0))
def o511_4 (P : Params) : Obj := ob (Value.type "code") (Data.fields #[sv "_law_shown" 833, sv "_law_shown" 834, sv "/claim/cut.py" 835, iv 232, iv 1, iv 0, iv 0, iv 3, rv 508, Value.bool true, iv 181, rv 509, nv, nv, nv, rv 510, iv 836, iv 232, sv "/claim/cut.py" 837])
def o512_4 (P : Params) : Obj := ob (Value.type "function") (Data.func (fdm "_law_shown" "_law_shown" (topS 36) 3 [] nv nv nv (sv "law_oneheap_k48_numbers_leave_contents" 742) .none (rv 511) nv 0))
def o513_4 (P : Params) : Obj := ob (Value.type "tuple") (Data.seq #[])
def o514_4 (P : Params) : Obj := ob nv (Data.fields #[])
def o515_4 (P : Params) : Obj := ob nv (Data.func (fdm "_law_due" "_law_due" (topS 37) 0 [] nv nv nv nv .none nv nv 0))
def o516_4 (P : Params) : Obj := ob (Value.type "code") (Data.fields #[sv "_law_due" 839, sv "_law_due" 840, sv "/claim/cut.py" 841, iv 234, iv 2, iv 0, iv 0, iv 3, rv 513, Value.bool true, iv 181, rv 514, nv, nv, nv, rv 515, iv 842, iv 234, sv "/claim/cut.py" 843])
def o517_4 (P : Params) : Obj := ob (Value.type "function") (Data.func (fdm "_law_due" "_law_due" (topS 37) 3 [] nv nv nv (sv "law_oneheap_k48_numbers_leave_contents" 742) .none (rv 516) nv 0))
def o518_4 (P : Params) : Obj := ob (Value.type "tuple") (Data.seq #[])
def o519_4 (P : Params) : Obj := ob nv (Data.fields #[])
def o520_4 (P : Params) : Obj := ob nv (Data.func (fdm "law" "law" (topS 38) 0 [] nv nv nv nv .none nv nv 0))
def o521_4 (P : Params) : Obj := ob (Value.type "code") (Data.fields #[sv "law" 845, sv "law" 846, sv "/claim/cut.py" 847, iv 248, iv 1, iv 0, iv 0, iv 3, rv 518, Value.bool true, iv 181, rv 519, nv, nv, nv, rv 520, iv 848, iv 248, sv "/claim/cut.py" 849])
def o522_4 (P : Params) : Obj := ob (Value.type "function") (Data.func (fdm "law" "law" (topS 38) 3 [] nv nv nv (sv "law_oneheap_k48_numbers_leave_contents" 742) .none (rv 521) nv 0))
def tr4 (P : Params) : PySem.W.BT := (.node (PySem.W.boot_o_0 P) (.node (PySem.W.boot_o_1 P) (.node (o3_4 P) (.node (PySem.W.boot_o_7 P) (.node (o15_3 P) (.node (o31_3 P) (.node (o63_3 P) (.node (o127_3 P) (.node (o255_3 P) (.node (o511_4 P) .nil .nil) .nil) (.node (o383_4 P) .nil .nil)) (.node (o191_3 P) (.node (o319_4 P) .nil .nil) (.node (o447_4 P) .nil .nil))) (.node (o95_3 P) (.node (o159_3 P) (.node (o287_3 P) .nil .nil) (.node (o415_4 P) .nil .nil)) (.node (o223_3 P) (.node (o351_4 P) .nil .nil) (.node (o479_4 P) .nil .nil)))) (.node (o47_3 P) (.node (o79_3 P) (.node (o143_3 P) (.node (o271_3 P) .nil .nil) (.node (o399_4 P) .nil .nil)) (.node (o207_3 P) (.node (o335_4 P) .nil .nil) (.node (o463_4 P) .nil .nil))) (.node (o111_3 P) (.node (o175_3 P) (.node (o303_3 P) .nil .nil) (.node (o431_4 P) .nil .nil)) (.node (o239_3 P) (.node (o367_4 P) .nil .nil) (.node (o495_4 P) .nil .nil))))) (.node (o23_3 P) (.node (o39_3 P) (.node (o71_3 P) (.node (o135_3 P) (.node (o263_3 P) (.node (o519_4 P) .nil .nil) .nil) (.node (o391_4 P) .nil .nil)) (.node (o199_3 P) (.node (o327_4 P) .nil .nil) (.node (o455_4 P) .nil .nil))) (.node (o103_3 P) (.node (o167_3 P) (.node (o295_3 P) .nil .nil) (.node (o423_4 P) .nil .nil)) (.node (o231_3 P) (.node (o359_4 P) .nil .nil) (.node (o487_4 P) .nil .nil)))) (.node (o55_3 P) (.node (o87_3 P) (.node (o151_3 P) (.node (o279_3 P) .nil .nil) (.node (o407_4 P) .nil .nil)) (.node (o215_3 P) (.node (o343_4 P) .nil .nil) (.node (o471_4 P) .nil .nil))) (.node (o119_3 P) (.node (o183_3 P) (.node (o311_3 P) .nil .nil) (.node (o439_4 P) .nil .nil)) (.node (o247_3 P) (.node (o375_4 P) .nil .nil) (.node (o503_4 P) .nil .nil)))))) (.node (o11_1 P) (.node (o19_3 P) (.node (o35_3 P) (.node (o67_3 P) (.node (o131_3 P) (.node (o259_3 P) (.node (o515_4 P) .nil .nil) .nil) (.node (o387_4 P) .nil .nil)) (.node (o195_3 P) (.node (o323_4 P) .nil .nil) (.node (o451_4 P) .nil .nil))) (.node (o99_3 P) (.node (o163_3 P) (.node (o291_3 P) .nil .nil) (.node (o419_4 P) .nil .nil)) (.node (o227_3 P) (.node (o355_4 P) .nil .nil) (.node (o483_4 P) .nil .nil)))) (.node (o51_3 P) (.node (o83_3 P) (.node (o147_3 P) (.node (o275_3 P) .nil .nil) (.node (o403_4 P) .nil .nil)) (.node (o211_3 P) (.node (o339_4 P) .nil .nil) (.node (o467_4 P) .nil .nil))) (.node (o115_3 P) (.node (o179_3 P) (.node (o307_3 P) .nil .nil) (.node (o435_4 P) .nil .nil)) (.node (o243_3 P) (.node (o371_4 P) .nil .nil) (.node (o499_4 P) .nil .nil))))) (.node (o27_3 P) (.node (o43_3 P) (.node (o75_3 P) (.node (o139_3 P) (.node (o267_3 P) .nil .nil) (.node (o395_4 P) .nil .nil)) (.node (o203_3 P) (.node (o331_4 P) .nil .nil) (.node (o459_4 P) .nil .nil))) (.node (o107_3 P) (.node (o171_3 P) (.node (o299_3 P) .nil .nil) (.node (o427_4 P) .nil .nil)) (.node (o235_3 P) (.node (o363_4 P) .nil .nil) (.node (o491_4 P) .nil .nil)))) (.node (o59_3 P) (.node (o91_3 P) (.node (o155_3 P) (.node (o283_3 P) .nil .nil) (.node (o411_4 P) .nil .nil)) (.node (o219_3 P) (.node (o347_4 P) .nil .nil) (.node (o475_4 P) .nil .nil))) (.node (o123_3 P) (.node (o187_3 P) (.node (o315_4 P) .nil .nil) (.node (o443_4 P) .nil .nil)) (.node (o251_3 P) (.node (o379_4 P) .nil .nil) (.node (o507_4 P) .nil .nil))))))) (.node (PySem.W.boot_o_5 P) (.node (PySem.W.boot_o_9 P) (.node (o17_3 P) (.node (o33_3 P) (.node (o65_3 P) (.node (o129_3 P) (.node (o257_3 P) (.node (o513_4 P) .nil .nil) .nil) (.node (o385_4 P) .nil .nil)) (.node (o193_3 P) (.node (o321_4 P) .nil .nil) (.node (o449_4 P) .nil .nil))) (.node (o97_3 P) (.node (o161_3 P) (.node (o289_3 P) .nil .nil) (.node (o417_4 P) .nil .nil)) (.node (o225_3 P) (.node (o353_4 P) .nil .nil) (.node (o481_4 P) .nil .nil)))) (.node (o49_3 P) (.node (o81_3 P) (.node (o145_3 P) (.node (o273_3 P) .nil .nil) (.node (o401_4 P) .nil .nil)) (.node (o209_3 P) (.node (o337_4 P) .nil .nil) (.node (o465_4 P) .nil .nil))) (.node (o113_3 P) (.node (o177_3 P) (.node (o305_3 P) .nil .nil) (.node (o433_4 P) .nil .nil)) (.node (o241_3 P) (.node (o369_4 P) .nil .nil) (.node (o497_4 P) .nil .nil))))) (.node (o25_3 P) (.node (o41_3 P) (.node (o73_3 P) (.node (o137_3 P) (.node (o265_3 P) (.node (o521_4 P) .nil .nil) .nil) (.node (o393_4 P) .nil .nil)) (.node (o201_3 P) (.node (o329_4 P) .nil .nil) (.node (o457_4 P) .nil .nil))) (.node (o105_3 P) (.node (o169_3 P) (.node (o297_3 P) .nil .nil) (.node (o425_4 P) .nil .nil)) (.node (o233_3 P) (.node (o361_4 P) .nil .nil) (.node (o489_4 P) .nil .nil)))) (.node (o57_3 P) (.node (o89_3 P) (.node (o153_3 P) (.node (o281_3 P) .nil .nil) (.node (o409_4 P) .nil .nil)) (.node (o217_3 P) (.node (o345_4 P) .nil .nil) (.node (o473_4 P) .nil .nil))) (.node (o121_3 P) (.node (o185_3 P) (.node (o313_3 P) .nil .nil) (.node (o441_4 P) .nil .nil)) (.node (o249_3 P) (.node (o377_4 P) .nil .nil) (.node (o505_4 P) .nil .nil)))))) (.node (o13_1 P) (.node (o21_3 P) (.node (o37_3 P) (.node (o69_3 P) (.node (o133_3 P) (.node (o261_3 P) (.node (o517_4 P) .nil .nil) .nil) (.node (o389_4 P) .nil .nil)) (.node (o197_3 P) (.node (o325_4 P) .nil .nil) (.node (o453_4 P) .nil .nil))) (.node (o101_3 P) (.node (o165_3 P) (.node (o293_3 P) .nil .nil) (.node (o421_4 P) .nil .nil)) (.node (o229_3 P) (.node (o357_4 P) .nil .nil) (.node (o485_4 P) .nil .nil)))) (.node (o53_3 P) (.node (o85_3 P) (.node (o149_3 P) (.node (o277_3 P) .nil .nil) (.node (o405_4 P) .nil .nil)) (.node (o213_3 P) (.node (o341_4 P) .nil .nil) (.node (o469_4 P) .nil .nil))) (.node (o117_3 P) (.node (o181_3 P) (.node (o309_3 P) .nil .nil) (.node (o437_4 P) .nil .nil)) (.node (o245_3 P) (.node (o373_4 P) .nil .nil) (.node (o501_4 P) .nil .nil))))) (.node (o29_3 P) (.node (o45_3 P) (.node (o77_3 P) (.node (o141_3 P) (.node (o269_3 P) .nil .nil) (.node (o397_4 P) .nil .nil)) (.node (o205_3 P) (.node (o333_4 P) .nil .nil) (.node (o461_4 P) .nil .nil))) (.node (o109_3 P) (.node (o173_3 P) (.node (o301_3 P) .nil .nil) (.node (o429_4 P) .nil .nil)) (.node (o237_3 P) (.node (o365_4 P) .nil .nil) (.node (o493_4 P) .nil .nil)))) (.node (o61_3 P) (.node (o93_3 P) (.node (o157_3 P) (.node (o285_3 P) .nil .nil) (.node (o413_4 P) .nil .nil)) (.node (o221_3 P) (.node (o349_4 P) .nil .nil) (.node (o477_4 P) .nil .nil))) (.node (o125_3 P) (.node (o189_3 P) (.node (o317_4 P) .nil .nil) (.node (o445_4 P) .nil .nil)) (.node (o253_3 P) (.node (o381_4 P) .nil .nil) (.node (o509_4 P) .nil .nil)))))))) (.node (PySem.W.boot_o_2 P) (.node (PySem.W.boot_o_4 P) (.node (PySem.W.boot_o_8 P) (.node (o16_3 P) (.node (o32_3 P) (.node (o64_3 P) (.node (o128_3 P) (.node (o256_3 P) (.node (o512_4 P) .nil .nil) .nil) (.node (o384_4 P) .nil .nil)) (.node (o192_3 P) (.node (o320_4 P) .nil .nil) (.node (o448_4 P) .nil .nil))) (.node (o96_3 P) (.node (o160_3 P) (.node (o288_3 P) .nil .nil) (.node (o416_4 P) .nil .nil)) (.node (o224_3 P) (.node (o352_4 P) .nil .nil) (.node (o480_4 P) .nil .nil)))) (.node (o48_3 P) (.node (o80_3 P) (.node (o144_3 P) (.node (o272_3 P) .nil .nil) (.node (o400_4 P) .nil .nil)) (.node (o208_3 P) (.node (o336_4 P) .nil .nil) (.node (o464_4 P) .nil .nil))) (.node (o112_3 P) (.node (o176_3 P) (.node (o304_3 P) .nil .nil) (.node (o432_4 P) .nil .nil)) (.node (o240_3 P) (.node (o368_4 P) .nil .nil) (.node (o496_4 P) .nil .nil))))) (.node (o24_3 P) (.node (o40_3 P) (.node (o72_3 P) (.node (o136_3 P) (.node (o264_3 P) (.node (o520_4 P) .nil .nil) .nil) (.node (o392_4 P) .nil .nil)) (.node (o200_3 P) (.node (o328_4 P) .nil .nil) (.node (o456_4 P) .nil .nil))) (.node (o104_3 P) (.node (o168_3 P) (.node (o296_3 P) .nil .nil) (.node (o424_4 P) .nil .nil)) (.node (o232_3 P) (.node (o360_4 P) .nil .nil) (.node (o488_4 P) .nil .nil)))) (.node (o56_3 P) (.node (o88_3 P) (.node (o152_3 P) (.node (o280_3 P) .nil .nil) (.node (o408_4 P) .nil .nil)) (.node (o216_3 P) (.node (o344_4 P) .nil .nil) (.node (o472_4 P) .nil .nil))) (.node (o120_3 P) (.node (o184_3 P) (.node (o312_3 P) .nil .nil) (.node (o440_4 P) .nil .nil)) (.node (o248_3 P) (.node (o376_4 P) .nil .nil) (.node (o504_4 P) .nil .nil)))))) (.node (o12_4 P) (.node (o20_3 P) (.node (o36_3 P) (.node (o68_3 P) (.node (o132_3 P) (.node (o260_3 P) (.node (o516_4 P) .nil .nil) .nil) (.node (o388_4 P) .nil .nil)) (.node (o196_3 P) (.node (o324_4 P) .nil .nil) (.node (o452_4 P) .nil .nil))) (.node (o100_3 P) (.node (o164_3 P) (.node (o292_3 P) .nil .nil) (.node (o420_4 P) .nil .nil)) (.node (o228_3 P) (.node (o356_4 P) .nil .nil) (.node (o484_4 P) .nil .nil)))) (.node (o52_3 P) (.node (o84_3 P) (.node (o148_3 P) (.node (o276_3 P) .nil .nil) (.node (o404_4 P) .nil .nil)) (.node (o212_3 P) (.node (o340_4 P) .nil .nil) (.node (o468_4 P) .nil .nil))) (.node (o116_3 P) (.node (o180_3 P) (.node (o308_3 P) .nil .nil) (.node (o436_4 P) .nil .nil)) (.node (o244_3 P) (.node (o372_4 P) .nil .nil) (.node (o500_4 P) .nil .nil))))) (.node (o28_3 P) (.node (o44_3 P) (.node (o76_3 P) (.node (o140_3 P) (.node (o268_3 P) .nil .nil) (.node (o396_4 P) .nil .nil)) (.node (o204_3 P) (.node (o332_4 P) .nil .nil) (.node (o460_4 P) .nil .nil))) (.node (o108_3 P) (.node (o172_3 P) (.node (o300_3 P) .nil .nil) (.node (o428_4 P) .nil .nil)) (.node (o236_3 P) (.node (o364_4 P) .nil .nil) (.node (o492_4 P) .nil .nil)))) (.node (o60_3 P) (.node (o92_3 P) (.node (o156_3 P) (.node (o284_3 P) .nil .nil) (.node (o412_4 P) .nil .nil)) (.node (o220_3 P) (.node (o348_4 P) .nil .nil) (.node (o476_4 P) .nil .nil))) (.node (o124_3 P) (.node (o188_3 P) (.node (o316_4 P) .nil .nil) (.node (o444_4 P) .nil .nil)) (.node (o252_3 P) (.node (o380_4 P) .nil .nil) (.node (o508_4 P) .nil .nil))))))) (.node (PySem.W.boot_o_6 P) (.node (PySem.W.boot_o_10 P) (.node (o18_3 P) (.node (o34_3 P) (.node (o66_3 P) (.node (o130_3 P) (.node (o258_3 P) (.node (o514_4 P) .nil .nil) .nil) (.node (o386_4 P) .nil .nil)) (.node (o194_3 P) (.node (o322_4 P) .nil .nil) (.node (o450_4 P) .nil .nil))) (.node (o98_3 P) (.node (o162_3 P) (.node (o290_3 P) .nil .nil) (.node (o418_4 P) .nil .nil)) (.node (o226_3 P) (.node (o354_4 P) .nil .nil) (.node (o482_4 P) .nil .nil)))) (.node (o50_3 P) (.node (o82_3 P) (.node (o146_3 P) (.node (o274_3 P) .nil .nil) (.node (o402_4 P) .nil .nil)) (.node (o210_3 P) (.node (o338_4 P) .nil .nil) (.node (o466_4 P) .nil .nil))) (.node (o114_3 P) (.node (o178_3 P) (.node (o306_3 P) .nil .nil) (.node (o434_4 P) .nil .nil)) (.node (o242_3 P) (.node (o370_4 P) .nil .nil) (.node (o498_4 P) .nil .nil))))) (.node (o26_3 P) (.node (o42_3 P) (.node (o74_3 P) (.node (o138_3 P) (.node (o266_3 P) (.node (o522_4 P) .nil .nil) .nil) (.node (o394_4 P) .nil .nil)) (.node (o202_3 P) (.node (o330_4 P) .nil .nil) (.node (o458_4 P) .nil .nil))) (.node (o106_3 P) (.node (o170_3 P) (.node (o298_3 P) .nil .nil) (.node (o426_4 P) .nil .nil)) (.node (o234_3 P) (.node (o362_4 P) .nil .nil) (.node (o490_4 P) .nil .nil)))) (.node (o58_3 P) (.node (o90_3 P) (.node (o154_3 P) (.node (o282_3 P) .nil .nil) (.node (o410_4 P) .nil .nil)) (.node (o218_3 P) (.node (o346_4 P) .nil .nil) (.node (o474_4 P) .nil .nil))) (.node (o122_3 P) (.node (o186_3 P) (.node (o314_4 P) .nil .nil) (.node (o442_4 P) .nil .nil)) (.node (o250_3 P) (.node (o378_4 P) .nil .nil) (.node (o506_4 P) .nil .nil)))))) (.node (o14_1 P) (.node (o22_3 P) (.node (o38_3 P) (.node (o70_3 P) (.node (o134_3 P) (.node (o262_3 P) (.node (o518_4 P) .nil .nil) .nil) (.node (o390_4 P) .nil .nil)) (.node (o198_3 P) (.node (o326_4 P) .nil .nil) (.node (o454_4 P) .nil .nil))) (.node (o102_3 P) (.node (o166_3 P) (.node (o294_3 P) .nil .nil) (.node (o422_4 P) .nil .nil)) (.node (o230_3 P) (.node (o358_4 P) .nil .nil) (.node (o486_4 P) .nil .nil)))) (.node (o54_3 P) (.node (o86_3 P) (.node (o150_3 P) (.node (o278_3 P) .nil .nil) (.node (o406_4 P) .nil .nil)) (.node (o214_3 P) (.node (o342_4 P) .nil .nil) (.node (o470_4 P) .nil .nil))) (.node (o118_3 P) (.node (o182_3 P) (.node (o310_3 P) .nil .nil) (.node (o438_4 P) .nil .nil)) (.node (o246_3 P) (.node (o374_4 P) .nil .nil) (.node (o502_4 P) .nil .nil))))) (.node (o30_3 P) (.node (o46_3 P) (.node (o78_3 P) (.node (o142_3 P) (.node (o270_3 P) .nil .nil) (.node (o398_4 P) .nil .nil)) (.node (o206_3 P) (.node (o334_4 P) .nil .nil) (.node (o462_4 P) .nil .nil))) (.node (o110_3 P) (.node (o174_3 P) (.node (o302_3 P) .nil .nil) (.node (o430_4 P) .nil .nil)) (.node (o238_3 P) (.node (o366_4 P) .nil .nil) (.node (o494_4 P) .nil .nil)))) (.node (o62_3 P) (.node (o94_3 P) (.node (o158_3 P) (.node (o286_3 P) .nil .nil) (.node (o414_4 P) .nil .nil)) (.node (o222_3 P) (.node (o350_4 P) .nil .nil) (.node (o478_4 P) .nil .nil))) (.node (o126_3 P) (.node (o190_3 P) (.node (o318_4 P) .nil .nil) (.node (o446_4 P) .nil .nil)) (.node (o254_3 P) (.node (o382_4 P) .nil .nil) (.node (o510_4 P) .nil .nil)))))))))
def sT4 (w : World) (os : OsState) : PySem.W.SharedT := ⟨tr4 w.params, 523, (Life.mk [] [] [] 0 [] [] false #[] [] 0 false false false 0 [2000, 10, 10] false 0 true [] [] 0 false), #[], (Drawn.mk 0 0 0 0), 851, os⟩
def sT5 (w : World) (os : OsState) : PySem.W.SharedT := ⟨tr4 w.params, 523, (Life.mk [] [] [] 0 [] [] false #[] [] 0 false false false 0 [2000, 10, 10] false 0 true [] [] 0 false), #[], (Drawn.mk 0 0 0 0), 851, os⟩
abbrev cAnn : Option Value := .some (Value.ref 6)
abbrev cFp : Pos := Pos.mk 0 0 0 0
abbrev cBody : List Stmt := PySem.W.behindTheImports RR.prog
abbrev cEnv : PySem.Env := { scope := RR.prog.main.scope, locals := mainNs, globals := mainNs, cells := [], code := Value.ref 13, frame := some 14 }
abbrev cCode : Code := .body cBody cEnv
def cSl (a n : Nat) : List Stmt := (cBody.drop a).take n
def cBt (w : World) : PySem.W.BT := match HandSHeadRun.putAll (PySem.W.boot_heap w.params).objs.toList .nil 0 with
  | some (t, _) => t
  | none => .nil
end
end K48
namespace K48
open PySem PySem.Spec PyProof.Rows L2
open Rn
set_option autoImplicit false
set_option maxHeartbeats 0
noncomputable section
theorem cPut (w : World) : HandSHeadRun.putAll (PySem.W.boot_heap w.params).objs.toList .nil 0 = some (cBt w, 11) := by kernel_rfl
theorem cSize (w : World) : (PySem.W.boot_heap w.params).objs.size = 11 := by kernel_rfl
theorem cAnnE (w : World) : HandSHeadRun.bootAnn w = cAnn := by kernel_rfl
theorem cPre (w : World) (os : OsState) : Ct.preF (Ct.stQ RR.prog w) 11 cAnn 12 (HandSHeadRun.bootT w os (cBt w, 11)) (PySem.W.topStub RR.prog) = some (sT1 w os, ⟨HandSHeadRun.denQ HandSHeadRun.tabQ cCode, cCode, (Pos.mk 0 0 0 0), [PySem.W.topFrame cFp]⟩) := by kernel_rfl
theorem cBlk (w : World) (os : OsState) : Ct.segF (Ct.stQ RR.prog w) 11 cAnn 1 1 (sT1 w os) (Ct.blockQ cBody cEnv cCode (Pos.mk 0 0 0 0) [PySem.W.topFrame cFp]) = some (.next, sT2 w os, cCode, (Pos.mk 0 0 0 0)) := by kernel_rfl
theorem cRun3 (w : World) (os : OsState) : Ct.segF (Ct.stQ RR.prog w) 11 cAnn 1 2196 (sT2 w os) (Ct.piecesQ (cSl 0 19) cEnv cCode (Pos.mk 0 0 0 0) [PySem.W.topFrame cFp]) = some (.next, sT3 w os, cCode, (Pos.mk 100 0 112 74)) := by kernel_rfl
theorem cRun4 (w : World) (os : OsState) : Ct.segF (Ct.stQ RR.prog w) 11 cAnn 1 1383 (sT3 w os) (Ct.piecesQ (cSl 19 20) cEnv cCode (Pos.mk 100 0 112 74) [PySem.W.topFrame cFp]) = some (.next, sT4 w os, cCode, (Pos.mk 248 0 268 90)) := by kernel_rfl
theorem cFin (w : World) (os : OsState) : HandSHeadRun.goF (Ct.stQ RR.prog w) 11 cAnn 2 (sT4 w os) ⟨PySem.W.doneF .next, cCode, (Pos.mk 248 0 268 90), [PySem.W.topFrame cFp]⟩ = some (sT5 w os) := by kernel_rfl
theorem cAll : cBody = cSl 0 19 ++ (cSl 19 20 ++ []) := by kernel_rfl
theorem cTop (w : World) (os : OsState) : PySem.W.topRun treeTable RR.prog w (PySem.W.boot_heap w.params).objs.size (HandSHeadRun.bootAnn w) 3594 ⟨PySem.W.boot_heap w.params, #[], PySem.W.boot_drawn, PySem.W.boot_toks, os⟩ (PySem.W.topStub RR.prog) = some (sT5 w os).abs := by
  have eb : (HandSHeadRun.bootT w os (cBt w, 11)).abs = ⟨PySem.W.boot_heap w.params, #[], PySem.W.boot_drawn, PySem.W.boot_toks, os⟩ := by
    show (⟨PySem.W.absHeap (cBt w) 11 (PySem.W.boot_heap w.params).life, #[], PySem.W.boot_drawn, PySem.W.boot_toks, os⟩ : Shared) = _
    rw [HandSHeadRun.putAll_heap (cPut w)]
  rw [← eb, cSize w, cAnnE w]
  have z : PySem.W.topRun treeTable RR.prog w 11 cAnn (1+ (2196+ (1383+ (2)))) (sT1 w os).abs ⟨denote treeTable (.body cBody cEnv), cCode, (Pos.mk 0 0 0 0), [PySem.W.topFrame cFp]⟩ = some (sT5 w os).abs := by
    refine Ct.blockQ_ok (cBlk w os) ?_
    rw [cAll]
    exact Ct.pieceQ (cRun3 w os) (Ct.pieceQ (cRun4 w os) (Ct.finQ (cFin w os)))
  exact Ct.preQ (cPre w os) z
end
end K48
namespace K48
open PySem PySem.Spec PyProof.Rows L2 Dv
set_option autoImplicit false
noncomputable section
open Rn
set_option maxHeartbeats 0
def e0 (K : PySem.W.Frag) : List Bool := [eqN (PySem.W.nsIn K mainGlobals "any"), eqN (PySem.W.nsIn K mainGlobals "int"), eqN (PySem.W.nsIn K mainGlobals "isinstance"), eqN (PySem.W.nsIn K mainGlobals "len"), eqN (PySem.W.nsIn K mainGlobals "list"), eqN (PySem.W.nsIn K mainGlobals "range"), eqN (PySem.W.nsIn K mainGlobals "repr"), eqN (PySem.W.nsIn K mainGlobals "sorted"), eqR (PySem.W.nsIn K mainGlobals "IntSort") 59, eqR (PySem.W.nsIn K mainGlobals "TextSort") 102, eqR (PySem.W.nsIn K mainGlobals "RefSort") 144, eqR (PySem.W.nsIn K mainGlobals "ListSort") 186, eqR (PySem.W.nsIn K mainGlobals "Thing") 240, eqR (PySem.W.nsIn K mainGlobals "Heap") 309, eqR (PySem.W.nsIn K mainGlobals "Field") 350, eqR (PySem.W.nsIn K mainGlobals "Kind") 388, eqR (PySem.W.nsIn K mainGlobals "Schema") 435, eqR (PySem.W.nsIn K mainGlobals "is_reference") 197, eqR (PySem.W.nsIn K mainGlobals "is_list") 204, eqR (PySem.W.nsIn K mainGlobals "is_link") 211, eqR (PySem.W.nsIn K mainGlobals "content_copy") 251, eqR (PySem.W.nsIn K mainGlobals "holds_number") 258, eqR (PySem.W.nsIn K mainGlobals "picture_copy") 263, eqR (PySem.W.nsIn K mainGlobals "without_any") 268, eqR (PySem.W.nsIn K mainGlobals "holds_any") 273, eqR (PySem.W.nsIn K mainGlobals "without_numbers") 318, eqR (PySem.W.nsIn K mainGlobals "thing_without") 325, eqR (PySem.W.nsIn K mainGlobals "_law_cells") 446, eqR (PySem.W.nsIn K mainGlobals "_law_draw") 453, eqR (PySem.W.nsIn K mainGlobals "_law_pick") 460, eqR (PySem.W.nsIn K mainGlobals "_law_names") 467, eqR (PySem.W.nsIn K mainGlobals "_law_rules") 472, eqR (PySem.W.nsIn K mainGlobals "_law_schema") 479, eqR (PySem.W.nsIn K mainGlobals "_law_number") 486, eqR (PySem.W.nsIn K mainGlobals "_law_list") 493, eqR (PySem.W.nsIn K mainGlobals "_law_contents") 500, eqR (PySem.W.nsIn K mainGlobals "_law_picture") 507, eqR (PySem.W.nsIn K mainGlobals "_law_shown") 512, eqR (PySem.W.nsIn K mainGlobals "_law_due") 517, eqR (PySem.W.nsIn K mainGlobals "law") 522]
def e1 (K : PySem.W.Frag) : List Bool := [PySem.W.plainGet K 59 Str.empty, PySem.W.hasDictIn K 59, PySem.W.plainOver K 59, eqF (PySem.W.findIn K (.ref 59) "__setattr__") "object.__setattr__", PySem.W.makesIn K 59, PySem.W.keepIn K (.ref 59), eqN (PySem.W.findIn K (.ref 59) "low"), eqN (PySem.W.findIn K (.ref 59) "high"), eqR (PySem.W.findIn K (.ref 59) "__init__") 35, eqF (PySem.W.findIn K (.ref 59) "__class__") "object.__class__", eqB (PySem.W.mroIn K 59 (.type "object")) true]
def e2 (K : PySem.W.Frag) : List Bool := [PySem.W.plainGet K 102 Str.empty, PySem.W.hasDictIn K 102, PySem.W.plainOver K 102, eqF (PySem.W.findIn K (.ref 102) "__setattr__") "object.__setattr__", PySem.W.makesIn K 102, PySem.W.keepIn K (.ref 102), eqN (PySem.W.findIn K (.ref 102) "longest"), eqN (PySem.W.findIn K (.ref 102) "without"), eqR (PySem.W.findIn K (.ref 102) "__init__") 78, eqF (PySem.W.findIn K (.ref 102) "__class__") "object.__class__", eqB (PySem.W.mroIn K 102 (.type "object")) true]
def e3 (K : PySem.W.Frag) : List Bool := [PySem.W.plainGet K 144 Str.empty, PySem.W.hasDictIn K 144, PySem.W.plainOver K 144, eqF (PySem.W.findIn K (.ref 144) "__setattr__") "object.__setattr__", PySem.W.makesIn K 144, PySem.W.keepIn K (.ref 144), eqN (PySem.W.findIn K (.ref 144) "kinds"), eqN (PySem.W.findIn K (.ref 144) "rule"), eqR (PySem.W.findIn K (.ref 144) "__init__") 120, eqF (PySem.W.findIn K (.ref 144) "__class__") "object.__class__", eqB (PySem.W.mroIn K 144 (.type "object")) true]
def e4 (K : PySem.W.Frag) : List Bool := [PySem.W.plainGet K 186 Str.empty, PySem.W.hasDictIn K 186, PySem.W.plainOver K 186, eqF (PySem.W.findIn K (.ref 186) "__setattr__") "object.__setattr__", PySem.W.makesIn K 186, PySem.W.keepIn K (.ref 186), eqN (PySem.W.findIn K (.ref 186) "kinds"), eqR (PySem.W.findIn K (.ref 186) "__init__") 162, eqF (PySem.W.findIn K (.ref 186) "__class__") "object.__class__", eqB (PySem.W.mroIn K 186 (.type "object")) true]
def e5 (K : PySem.W.Frag) : List Bool := [PySem.W.plainGet K 240 Str.empty, PySem.W.hasDictIn K 240, PySem.W.plainOver K 240, eqF (PySem.W.findIn K (.ref 240) "__setattr__") "object.__setattr__", PySem.W.makesIn K 240, PySem.W.keepIn K (.ref 240), eqN (PySem.W.findIn K (.ref 240) "kind"), eqN (PySem.W.findIn K (.ref 240) "contents"), eqR (PySem.W.findIn K (.ref 240) "__init__") 223, eqR (PySem.W.findIn K (.ref 240) "copied") 230, eqR (PySem.W.findIn K (.ref 240) "__eq__") 237, eqF (PySem.W.findIn K (.ref 240) "__class__") "object.__class__", eqB (PySem.W.mroIn K 240 (.type "object")) true]
def e6 (K : PySem.W.Frag) : List Bool := [PySem.W.plainGet K 309 Str.empty, PySem.W.hasDictIn K 309, PySem.W.plainOver K 309, eqF (PySem.W.findIn K (.ref 309) "__setattr__") "object.__setattr__", PySem.W.makesIn K 309, PySem.W.keepIn K (.ref 309), eqN (PySem.W.findIn K (.ref 309) "pictures"), eqR (PySem.W.findIn K (.ref 309) "__init__") 285, eqR (PySem.W.findIn K (.ref 309) "picture_of") 292, eqR (PySem.W.findIn K (.ref 309) "copied") 299, eqR (PySem.W.findIn K (.ref 309) "__eq__") 306, eqF (PySem.W.findIn K (.ref 309) "__class__") "object.__class__", eqB (PySem.W.mroIn K 309 (.type "object")) true]
def e7 (K : PySem.W.Frag) : List Bool := [PySem.W.plainGet K 350 Str.empty, PySem.W.hasDictIn K 350, PySem.W.plainOver K 350, eqF (PySem.W.findIn K (.ref 350) "__setattr__") "object.__setattr__", PySem.W.makesIn K 350, PySem.W.keepIn K (.ref 350), eqN (PySem.W.findIn K (.ref 350) "name"), eqN (PySem.W.findIn K (.ref 350) "shape"), eqN (PySem.W.findIn K (.ref 350) "needed"), eqR (PySem.W.findIn K (.ref 350) "__init__") 340]
def e8 (K : PySem.W.Frag) : List Bool := [PySem.W.plainGet K 388 Str.empty, PySem.W.hasDictIn K 388, PySem.W.plainOver K 388, eqF (PySem.W.findIn K (.ref 388) "__setattr__") "object.__setattr__", PySem.W.makesIn K 388, PySem.W.keepIn K (.ref 388), eqN (PySem.W.findIn K (.ref 388) "name"), eqN (PySem.W.findIn K (.ref 388) "fields"), eqN (PySem.W.findIn K (.ref 388) "key_rows"), eqR (PySem.W.findIn K (.ref 388) "__init__") 366, eqR (PySem.W.findIn K (.ref 388) "field_of") 373]
def e9 (K : PySem.W.Frag) : List Bool := [PySem.W.plainGet K 435 Str.empty, PySem.W.hasDictIn K 435, PySem.W.plainOver K 435, eqF (PySem.W.findIn K (.ref 435) "__setattr__") "object.__setattr__", PySem.W.makesIn K 435, PySem.W.keepIn K (.ref 435), eqN (PySem.W.findIn K (.ref 435) "kinds"), eqR (PySem.W.findIn K (.ref 435) "__init__") 406, eqR (PySem.W.findIn K (.ref 435) "kind_of") 413, eqR (PySem.W.findIn K (.ref 435) "field_of") 420]
def e10 (K : PySem.W.Frag) : List Bool := [eqF (PySem.W.specialIn K (.builtin "object.__class__") "__get__") "getset_descriptor.__get__", eqB (PySem.W.takesIn K (.builtin "object.__class__")) true, eqB (PySem.W.kitOne K (.ref 59) (.ref 144)) false, eqB (PySem.W.kitOne K (.ref 102) (.ref 144)) false, eqB (PySem.W.kitOne K (.ref 144) (.ref 144)) true, eqB (PySem.W.kitOne K (.ref 186) (.ref 144)) false, eqB (PySem.W.kitOne K (.ref 59) (.ref 186)) false, eqB (PySem.W.kitOne K (.ref 102) (.ref 186)) false, eqB (PySem.W.kitOne K (.ref 144) (.ref 186)) false, eqB (PySem.W.kitOne K (.ref 186) (.ref 186)) true, eqB (PySem.W.kitOne K (.ref 240) (.ref 240)) true, eqB (PySem.W.kitOne K (.ref 309) (.ref 309)) true, eqB (PySem.W.kitOne K (.type "int") (.ref 240)) false, eqB (PySem.W.kitOne K (.type "int") (.ref 309)) false, eqF (PySem.W.findIn K (.ref 240) "__ne__") "object.__ne__", eqB (PySem.W.subIn K (.ref 240) (.type "object")) true, eqB (PySem.W.subIn K (.type "int") (.ref 240)) false, eqF (PySem.W.findIn K (.ref 309) "__ne__") "object.__ne__", eqB (PySem.W.subIn K (.ref 309) (.type "object")) true, eqB (PySem.W.subIn K (.type "int") (.ref 309)) false]
def e11 (K : PySem.W.Frag) : List Bool := [fkB K 35 "IntSort.__init__", fnBD K 78 "TextSort.__init__" [V.non], PySem.W.keepIn K (.ref 78), PySem.W.isFn K (.ref 78), fkB K 120 "RefSort.__init__", fkB K 162 "ListSort.__init__", fkB K 223 "Thing.__init__", fkB K 230 "Thing.copied", fkB K 237 "Thing.__eq__", fkB K 285 "Heap.__init__", fkB K 292 "Heap.picture_of", fkB K 299 "Heap.copied", fkB K 306 "Heap.__eq__", fnBD K 340 "Field.__init__" [V.bl false], PySem.W.keepIn K (.ref 340), PySem.W.isFn K (.ref 340), fkB K 366 "Kind.__init__", fkB K 373 "Kind.field_of", fkB K 406 "Schema.__init__", fkB K 413 "Schema.kind_of", fkB K 420 "Schema.field_of", fkB K 197 "is_reference", fkB K 204 "is_list", fkB K 211 "is_link", fkB K 251 "content_copy", fkB K 258 "holds_number", fkB K 263 "picture_copy", fkB K 268 "without_any", fkB K 273 "holds_any", fkB K 318 "without_numbers", fkB K 325 "thing_without", fkB K 446 "_law_cells", fkB K 453 "_law_draw", fkB K 460 "_law_pick", fkB K 467 "_law_names", fkB K 472 "_law_rules", fkB K 479 "_law_schema", fkB K 486 "_law_number", fkB K 493 "_law_list", fkB K 500 "_law_contents"]
def e12 (K : PySem.W.Frag) : List Bool := [fkB K 507 "_law_picture", fkB K 512 "_law_shown", fkB K 517 "_law_due", fkB K 522 "law"]
def eA (K : PySem.W.Frag) : List Bool := [allB (e0 K)]
def eB (K : PySem.W.Frag) : List Bool := [allB (e11 K), allB (e12 K)]
def eC (K : PySem.W.Frag) : List Bool := [allB (e10 K)]
def eP (K : PySem.W.Frag) : List Bool := [allB (e1 K), allB (e2 K), allB (e3 K), allB (e4 K), allB (e5 K), allB (e6 K), allB (e7 K), allB (e8 K), allB (e9 K)]
def exB (K : PySem.W.Frag) : Bool := allB [allB (eA K), allB (eB K), allB (eC K), allB (eP K)]
def asL0 : List Addr := [3, 2, 59, 58, 102, 101, 144, 143, 186, 185, 240, 239, 309, 308, 350, 349, 388, 387, 435, 434, 35, 34, 78, 77, 71, 120, 119, 162, 161, 223, 222, 230, 229, 237, 236, 285, 284, 292, 291, 299]
def asL1 : List Addr := [298, 306, 305, 340, 339, 333, 366, 365, 373, 372, 406, 405, 413, 412, 420, 419, 197, 196, 204, 203, 211, 210, 251, 250, 258, 257, 263, 262, 268, 267, 273, 272, 318, 317, 325, 324, 446, 445, 453, 452]
def asL2 : List Addr := [460, 459, 467, 466, 472, 471, 479, 478, 486, 485, 493, 492, 500, 499, 507, 506, 512, 511, 517, 516, 522, 521]
def asL : List Addr := asL0 ++ asL1 ++ asL2
def fsL0 : List Addr := [35, 78, 120, 162, 223, 230, 237, 285, 292, 299, 306, 340, 366, 373, 406, 413, 420, 197, 204, 211, 251, 258, 263, 268, 273, 318, 325, 446, 453, 460, 467, 472, 479, 486, 493, 500, 507, 512, 517, 522]
def fsL : List Addr := fsL0
def fvL0 : List FnX := [fnV "__init__" "IntSort.__init__" (inClass (topS 2) 0), fnV "__init__" "TextSort.__init__" (inClass (topS 3) 0), fnV "__init__" "RefSort.__init__" (inClass (topS 4) 0), fnV "__init__" "ListSort.__init__" (inClass (topS 5) 0), fnV "__init__" "Thing.__init__" (inClass (topS 10) 0), fnV "copied" "Thing.copied" (inClass (topS 10) 1), fnV "__eq__" "Thing.__eq__" (inClass (topS 10) 2), fnV "__init__" "Heap.__init__" (inClass (topS 18) 0), fnV "picture_of" "Heap.picture_of" (inClass (topS 18) 1), fnV "copied" "Heap.copied" (inClass (topS 18) 2), fnV "__eq__" "Heap.__eq__" (inClass (topS 18) 3), fnV "__init__" "Field.__init__" (inClass (topS 22) 0), fnV "__init__" "Kind.__init__" (inClass (topS 23) 0), fnV "field_of" "Kind.field_of" (inClass (topS 23) 1), fnV "__init__" "Schema.__init__" (inClass (topS 24) 0), fnV "kind_of" "Schema.kind_of" (inClass (topS 24) 1), fnV "field_of" "Schema.field_of" (inClass (topS 24) 2), fnV "is_reference" "is_reference" (topS 6), fnV "is_list" "is_list" (topS 7), fnV "is_link" "is_link" (topS 8), fnV "content_copy" "content_copy" (topS 11), fnV "holds_number" "holds_number" (topS 12), fnV "picture_copy" "picture_copy" (topS 13), fnV "without_any" "without_any" (topS 15), fnV "holds_any" "holds_any" (topS 16), fnV "without_numbers" "without_numbers" (topS 19), fnV "thing_without" "thing_without" (topS 20), fnV "_law_cells" "_law_cells" (topS 26), fnV "_law_draw" "_law_draw" (topS 27), fnV "_law_pick" "_law_pick" (topS 28), fnV "_law_names" "_law_names" (topS 29), fnV "_law_rules" "_law_rules" (topS 30), fnV "_law_schema" "_law_schema" (topS 31), fnV "_law_number" "_law_number" (topS 32), fnV "_law_list" "_law_list" (topS 33), fnV "_law_contents" "_law_contents" (topS 34), fnV "_law_picture" "_law_picture" (topS 35), fnV "_law_shown" "_law_shown" (topS 36), fnV "_law_due" "_law_due" (topS 37), fnV "law" "law" (topS 38)]
def fvL : List FnX := fvL0
def HD : HdD := { as := asL, ex := exB, fs := fsL, fv := fvL, ds := [], dk := [] }
def adr (K : PySem.W.Frag) : Ad := {
  C_IntSort := 59,
  C_TextSort := 102,
  C_RefSort := 144,
  C_ListSort := 186,
  C_Thing := 240,
  C_Heap := 309,
  C_Field := 350,
  C_Kind := 388,
  C_Schema := 435,
  f_IntSort___init__ := 35,
  fd_IntSort___init__ := fdOf K 35,
  f_TextSort___init__ := 78,
  fd_TextSort___init__ := fdOf K 78,
  f_RefSort___init__ := 120,
  fd_RefSort___init__ := fdOf K 120,
  f_ListSort___init__ := 162,
  fd_ListSort___init__ := fdOf K 162,
  f_Thing___init__ := 223,
  fd_Thing___init__ := fdOf K 223,
  f_Thing_copied := 230,
  fd_Thing_copied := fdOf K 230,
  f_Thing___eq__ := 237,
  fd_Thing___eq__ := fdOf K 237,
  f_Heap___init__ := 285,
  fd_Heap___init__ := fdOf K 285,
  f_Heap_picture_of := 292,
  fd_Heap_picture_of := fdOf K 292,
  f_Heap_copied := 299,
  fd_Heap_copied := fdOf K 299,
  f_Heap___eq__ := 306,
  fd_Heap___eq__ := fdOf K 306,
  f_Field___init__ := 340,
  fd_Field___init__ := fdOf K 340,
  f_Kind___init__ := 366,
  fd_Kind___init__ := fdOf K 366,
  f_Kind_field_of := 373,
  fd_Kind_field_of := fdOf K 373,
  f_Schema___init__ := 406,
  fd_Schema___init__ := fdOf K 406,
  f_Schema_kind_of := 413,
  fd_Schema_kind_of := fdOf K 413,
  f_Schema_field_of := 420,
  fd_Schema_field_of := fdOf K 420,
  f_is_reference := 197,
  fd_is_reference := fdOf K 197,
  f_is_list := 204,
  fd_is_list := fdOf K 204,
  f_is_link := 211,
  fd_is_link := fdOf K 211,
  f_content_copy := 251,
  fd_content_copy := fdOf K 251,
  f_holds_number := 258,
  fd_holds_number := fdOf K 258,
  f_picture_copy := 263,
  fd_picture_copy := fdOf K 263,
  f_without_any := 268,
  fd_without_any := fdOf K 268,
  f_holds_any := 273,
  fd_holds_any := fdOf K 273,
  f_without_numbers := 318,
  fd_without_numbers := fdOf K 318,
  f_thing_without := 325,
  fd_thing_without := fdOf K 325,
  f__law_cells := 446,
  fd__law_cells := fdOf K 446,
  f__law_draw := 453,
  fd__law_draw := fdOf K 453,
  f__law_pick := 460,
  fd__law_pick := fdOf K 460,
  f__law_names := 467,
  fd__law_names := fdOf K 467,
  f__law_rules := 472,
  fd__law_rules := fdOf K 472,
  f__law_schema := 479,
  fd__law_schema := fdOf K 479,
  f__law_number := 486,
  fd__law_number := fdOf K 486,
  f__law_list := 493,
  fd__law_list := fdOf K 493,
  f__law_contents := 500,
  fd__law_contents := fdOf K 500,
  f__law_picture := 507,
  fd__law_picture := fdOf K 507,
  f__law_shown := 512,
  fd__law_shown := fdOf K 512,
  f__law_due := 517,
  fd__law_due := fdOf K 517,
  f_law := 522,
  fd_law := fdOf K 522 }
def nm0 : List PySem.Str := ["_wall", "IntSort", "TextSort", "RefSort", "ListSort", "is_reference", "is_list", "is_link", "Thing", "content_copy", "holds_number", "picture_copy", "without_any", "holds_any", "Heap", "without_numbers", "thing_without", "Field", "Kind", "Schema", "_law_cells", "_law_draw", "_law_pick", "_law_names", "_law_rules", "_law_schema", "_law_number", "_law_list", "_law_contents", "_law_picture"]
def nm1 : List PySem.Str := ["_law_shown", "_law_due"]
def nms : List PySem.Str := nm0 ++ nm1
abbrev qv : Program := PySem.W.view RR.prog [38]
def finS (w : World) (os : OsState) : Option PySem.W.SharedT := some (sT5 w os)
abbrev wf (w : World) (b : Bool) : World := w.withFollow "special-get-raises" b
theorem runLf (w : World) (os : OsState) : (finS (wf w false) os).map (fun s => HandSHeadRun.looksF RR.prog (PySem.W.boot_heap (wf w false).params) s.abs) = some (true) := by kernel_rfl
theorem runSf (w : World) (os : OsState) : (finS (wf w false) os).map (fun s => (HandSHeadRun.seenQ qv nms (importedModules RR.prog.main.body) (fun s => PySem.W.xlAt qv [] s && PySem.W.recOk RR.records s) s.abs, HD.ds.map (He.dicW (He.frG (HandSHeadRun.getT s) asL)), allB (eC (He.frG (HandSHeadRun.getT s) asL)))) = some ((PySem.W.openGood qv nms, (HD.dk.map fun ks => some (He.keysIn (wf w false).params ks)), true)) := by kernel_rfl
theorem runAf (w : World) (os : OsState) : (finS (wf w false) os).map (fun s => allB (eA (He.frG (HandSHeadRun.getT s) asL))) = some (true) := by kernel_rfl
theorem runBf (w : World) (os : OsState) : (finS (wf w false) os).map (fun s => allB (eB (He.frG (HandSHeadRun.getT s) asL))) = some (true) := by kernel_rfl
theorem runFf (w : World) (os : OsState) : (finS (wf w false) os).map (fun s => (fsL.map (fnX (He.frG (HandSHeadRun.getT s) asL)), allB (eP (He.frG (HandSHeadRun.getT s) asL)))) = some ((fvL, true)) := by kernel_rfl
theorem runLt (w : World) (os : OsState) : (finS (wf w true) os).map (fun s => HandSHeadRun.looksF RR.prog (PySem.W.boot_heap (wf w true).params) s.abs) = some (true) := by kernel_rfl
theorem runSt (w : World) (os : OsState) : (finS (wf w true) os).map (fun s => (HandSHeadRun.seenQ qv nms (importedModules RR.prog.main.body) (fun s => PySem.W.xlAt qv [] s && PySem.W.recOk RR.records s) s.abs, HD.ds.map (He.dicW (He.frG (HandSHeadRun.getT s) asL)), allB (eC (He.frG (HandSHeadRun.getT s) asL)))) = some ((PySem.W.openGood qv nms, (HD.dk.map fun ks => some (He.keysIn (wf w true).params ks)), true)) := by kernel_rfl
theorem runAt (w : World) (os : OsState) : (finS (wf w true) os).map (fun s => allB (eA (He.frG (HandSHeadRun.getT s) asL))) = some (true) := by kernel_rfl
theorem runBt (w : World) (os : OsState) : (finS (wf w true) os).map (fun s => allB (eB (He.frG (HandSHeadRun.getT s) asL))) = some (true) := by kernel_rfl
theorem runFt (w : World) (os : OsState) : (finS (wf w true) os).map (fun s => (fsL.map (fnX (He.frG (HandSHeadRun.getT s) asL)), allB (eP (He.frG (HandSHeadRun.getT s) asL)))) = some ((fvL, true)) := by kernel_rfl
theorem join2 {α a b : Type} {o : Option α} {f1 : α → a} {f2 : α → b} {v1 : a} {v2 : b} (h1 : o.map f1 = some v1) (h2 : o.map f2 = some v2) : o.map (fun s => (f1 s, f2 s)) = some (v1, v2) := by
  cases o with
  | none => cases h1
  | some s =>
    rw [Option.map_some] at h1 h2 ⊢
    rw [Option.some.inj h1, Option.some.inj h2]
theorem runCf (w : World) (os : OsState) : (finS (wf w false) os).map (fun s => allB (eC (He.frG (HandSHeadRun.getT s) asL))) = some true := by
  have h := runSf w os
  generalize finS (wf w false) os = o at h ⊢
  cases o with
  | none => cases h
  | some s =>
    have h2 := Option.some.inj h
    exact congrArg some (congrArg (fun p => p.2.2) h2)
theorem runCt (w : World) (os : OsState) : (finS (wf w true) os).map (fun s => allB (eC (He.frG (HandSHeadRun.getT s) asL))) = some true := by
  have h := runSt w os
  generalize finS (wf w true) os = o at h ⊢
  cases o with
  | none => cases h
  | some s =>
    have h2 := Option.some.inj h
    exact congrArg some (congrArg (fun p => p.2.2) h2)
theorem runPf (w : World) (os : OsState) : (finS (wf w false) os).map (fun s => allB (eP (He.frG (HandSHeadRun.getT s) asL))) = some true := by
  have h := runFf w os
  generalize finS (wf w false) os = o at h ⊢
  cases o with
  | none => cases h
  | some s =>
    have h2 := Option.some.inj h
    exact congrArg some (congrArg Prod.snd h2)
theorem runPt (w : World) (os : OsState) : (finS (wf w true) os).map (fun s => allB (eP (He.frG (HandSHeadRun.getT s) asL))) = some true := by
  have h := runFt w os
  generalize finS (wf w true) os = o at h ⊢
  cases o with
  | none => cases h
  | some s =>
    have h2 := Option.some.inj h
    exact congrArg some (congrArg Prod.snd h2)
theorem ex_of {K : PySem.W.Frag} (a : allB (eA K) = true) (b : allB (eB K) = true) (c : allB (eC K) = true) (d : allB (eP K) = true) : exB K = true := by
  unfold exB
  rw [a, b, c, d]
  rfl
theorem exRun {o : Option PySem.W.SharedT} (a : o.map (fun s => allB (eA (He.frG (HandSHeadRun.getT s) asL))) = some true) (b : o.map (fun s => allB (eB (He.frG (HandSHeadRun.getT s) asL))) = some true) (c : o.map (fun s => allB (eC (He.frG (HandSHeadRun.getT s) asL))) = some true) (d : o.map (fun s => allB (eP (He.frG (HandSHeadRun.getT s) asL))) = some true) : o.map (fun s => exB (He.frG (HandSHeadRun.getT s) asL)) = some true := by
  cases o with
  | none => cases a
  | some s => exact congrArg some (ex_of (Option.some.inj a) (Option.some.inj b) (Option.some.inj c) (Option.some.inj d))
theorem runf (w : World) : Ct.RunEq RR qv (hookH HD) (obH HD) sT5 nms (wf w false) := by
  intro os
  refine Ct.joinC (D := HD) (finS (wf w false) os) rfl ?_ ?_ ?_ ?_ ?_
  · have h := runLf w os
    generalize finS (wf w false) os = o at h ⊢
    exact h
  · have h := runSf w os
    generalize finS (wf w false) os = o at h ⊢
    cases o with
    | none => cases h
    | some s =>
      have h2 := Option.some.inj h
      exact congrArg some (congrArg Prod.fst h2)
  · have h := exRun (runAf w os) (runBf w os) (runCf w os) (runPf w os)
    generalize finS (wf w false) os = o at h ⊢
    exact h
  · have h := runFf w os
    generalize finS (wf w false) os = o at h ⊢
    cases o with
    | none => cases h
    | some s =>
      have h2 := Option.some.inj h
      exact congrArg some (congrArg Prod.fst h2)
  · have h := runSf w os
    generalize finS (wf w false) os = o at h ⊢
    cases o with
    | none => cases h
    | some s =>
      have h2 := Option.some.inj h
      exact congrArg some (congrArg (fun p => p.2.1) h2)
theorem runt (w : World) : Ct.RunEq RR qv (hookH HD) (obH HD) sT5 nms (wf w true) := by
  intro os
  refine Ct.joinC (D := HD) (finS (wf w true) os) rfl ?_ ?_ ?_ ?_ ?_
  · have h := runLt w os
    generalize finS (wf w true) os = o at h ⊢
    exact h
  · have h := runSt w os
    generalize finS (wf w true) os = o at h ⊢
    cases o with
    | none => cases h
    | some s =>
      have h2 := Option.some.inj h
      exact congrArg some (congrArg Prod.fst h2)
  · have h := exRun (runAt w os) (runBt w os) (runCt w os) (runPt w os)
    generalize finS (wf w true) os = o at h ⊢
    exact h
  · have h := runFt w os
    generalize finS (wf w true) os = o at h ⊢
    cases o with
    | none => cases h
    | some s =>
      have h2 := Option.some.inj h
      exact congrArg some (congrArg Prod.fst h2)
  · have h := runSt w os
    generalize finS (wf w true) os = o at h ⊢
    cases o with
    | none => cases h
    | some s =>
      have h2 := Option.some.inj h
      exact congrArg some (congrArg (fun p => p.2.1) h2)
theorem runH (w : World) : Ct.RunEq RR qv (hookH HD) (obH HD) sT5 nms w :=
  PySem.W.byRow2 "special-get-raises" (P := fun w => Ct.RunEq RR qv (hookH HD) (obH HD) sT5 nms w) runf runt w
end
end K48
namespace K48
open PySem PySem.Spec PyProof.Rows L2 Dv
set_option autoImplicit false
noncomputable section
open Rn
set_option maxHeartbeats 0
set_option maxHeartbeats 0 in
theorem mk_txt {w : World} {K : PySem.W.Frag} {h : Heap} {mg : Str → Option Value} (X : K.In h) (G : h.Ns mainGlobals mg) (s : SaysH HD w K) : Txt K mg (adr K) := by
  have E : exB K = true := s.ex
  have gA : allB (eA K) = true := allB_at E 0 rfl
  have g0 : allB (e0 K) = true := allB_at gA 0 rfl
  have gB : allB (eB K) = true := allB_at E 1 rfl
  have g11 : allB (e11 K) = true := allB_at gB 0 rfl
  have g12 : allB (e12 K) = true := allB_at gB 1 rfl
  have gC : allB (eC K) = true := allB_at E 2 rfl
  have g10 : allB (e10 K) = true := allB_at gC 0 rfl
  have gP : allB (eP K) = true := allB_at E 3 rfl
  have g1 : allB (e1 K) = true := allB_at gP 0 rfl
  have g2 : allB (e2 K) = true := allB_at gP 1 rfl
  have g3 : allB (e3 K) = true := allB_at gP 2 rfl
  have g4 : allB (e4 K) = true := allB_at gP 3 rfl
  have g5 : allB (e5 K) = true := allB_at gP 4 rfl
  have g6 : allB (e6 K) = true := allB_at gP 5 rfl
  have g7 : allB (e7 K) = true := allB_at gP 6 rfl
  have g8 : allB (e8 K) = true := allB_at gP 7 rfl
  have g9 : allB (e9 K) = true := allB_at gP 8 rfl
  have F0 : Fun K "__init__" "IntSort.__init__" (inClass (topS 2) 0) 35 (fdOf K 35) := fun_of (fn_at s 0 rfl rfl) (fk_ok (allB_at g11 0 rfl)).1 (fk_ok (allB_at g11 0 rfl)).2.1
  have b0 : Binds K (fdOf K 35) ["self", "low", "high"] [] := F0.binds (ps := ["self", "low", "high"]) fun _ _ _ _ _ _ us hl => match us, hl with | [_, _, _], _ => rfl
  have F1 : FunD K "__init__" "TextSort.__init__" (defArgs (inClass (topS 3) 0)) (defBody (inClass (topS 3) 0)) (defScope (inClass (topS 3) 0)) [V.non] [] 78 (fdOf K 78) := funD_of (by simp) (fn_at s 1 rfl rfl) (allB_at g11 1 rfl) (allB_at g11 2 rfl)
  have b1 : Binds K (fdOf K 78) ["self", "longest", "without"] [] := by
    obtain ⟨ds, h1, h2⟩ := F1.binds1 (ps := ["self", "longest", "without"]) 3 1 (by simp) (by rfl) (fun _ _ _ _ _ _ _ us its h3 h4 => match us, its, h3, h4 with | [_, _, _], [_], _, _ => ⟨_, rfl, rfl⟩)
    cases h1
    exact h2
  have F2 : Fun K "__init__" "RefSort.__init__" (inClass (topS 4) 0) 120 (fdOf K 120) := fun_of (fn_at s 2 rfl rfl) (fk_ok (allB_at g11 4 rfl)).1 (fk_ok (allB_at g11 4 rfl)).2.1
  have b2 : Binds K (fdOf K 120) ["self", "kinds", "rule"] [] := F2.binds (ps := ["self", "kinds", "rule"]) fun _ _ _ _ _ _ us hl => match us, hl with | [_, _, _], _ => rfl
  have F3 : Fun K "__init__" "ListSort.__init__" (inClass (topS 5) 0) 162 (fdOf K 162) := fun_of (fn_at s 3 rfl rfl) (fk_ok (allB_at g11 5 rfl)).1 (fk_ok (allB_at g11 5 rfl)).2.1
  have b3 : Binds K (fdOf K 162) ["self", "kinds"] [] := F3.binds (ps := ["self", "kinds"]) fun _ _ _ _ _ _ us hl => match us, hl with | [_, _], _ => rfl
  have F4 : Fun K "__init__" "Thing.__init__" (inClass (topS 10) 0) 223 (fdOf K 223) := fun_of (fn_at s 4 rfl rfl) (fk_ok (allB_at g11 6 rfl)).1 (fk_ok (allB_at g11 6 rfl)).2.1
  have b4 : Binds K (fdOf K 223) ["self", "kind", "contents"] [] := F4.binds (ps := ["self", "kind", "contents"]) fun _ _ _ _ _ _ us hl => match us, hl with | [_, _, _], _ => rfl
  have F5 : Fun K "copied" "Thing.copied" (inClass (topS 10) 1) 230 (fdOf K 230) := fun_of (fn_at s 5 rfl rfl) (fk_ok (allB_at g11 7 rfl)).1 (fk_ok (allB_at g11 7 rfl)).2.1
  have b5 : Binds K (fdOf K 230) ["self"] [] := F5.binds (ps := ["self"]) fun _ _ _ _ _ _ us hl => match us, hl with | [_], _ => rfl
  have F6 : Fun K "__eq__" "Thing.__eq__" (inClass (topS 10) 2) 237 (fdOf K 237) := fun_of (fn_at s 6 rfl rfl) (fk_ok (allB_at g11 8 rfl)).1 (fk_ok (allB_at g11 8 rfl)).2.1
  have b6 : Binds K (fdOf K 237) ["self", "other"] [] := F6.binds (ps := ["self", "other"]) fun _ _ _ _ _ _ us hl => match us, hl with | [_, _], _ => rfl
  have F7 : Fun K "__init__" "Heap.__init__" (inClass (topS 18) 0) 285 (fdOf K 285) := fun_of (fn_at s 7 rfl rfl) (fk_ok (allB_at g11 9 rfl)).1 (fk_ok (allB_at g11 9 rfl)).2.1
  have b7 : Binds K (fdOf K 285) ["self", "pictures"] [] := F7.binds (ps := ["self", "pictures"]) fun _ _ _ _ _ _ us hl => match us, hl with | [_, _], _ => rfl
  have F8 : Fun K "picture_of" "Heap.picture_of" (inClass (topS 18) 1) 292 (fdOf K 292) := fun_of (fn_at s 8 rfl rfl) (fk_ok (allB_at g11 10 rfl)).1 (fk_ok (allB_at g11 10 rfl)).2.1
  have b8 : Binds K (fdOf K 292) ["self", "number"] [] := F8.binds (ps := ["self", "number"]) fun _ _ _ _ _ _ us hl => match us, hl with | [_, _], _ => rfl
  have F9 : Fun K "copied" "Heap.copied" (inClass (topS 18) 2) 299 (fdOf K 299) := fun_of (fn_at s 9 rfl rfl) (fk_ok (allB_at g11 11 rfl)).1 (fk_ok (allB_at g11 11 rfl)).2.1
  have b9 : Binds K (fdOf K 299) ["self"] [] := F9.binds (ps := ["self"]) fun _ _ _ _ _ _ us hl => match us, hl with | [_], _ => rfl
  have F10 : Fun K "__eq__" "Heap.__eq__" (inClass (topS 18) 3) 306 (fdOf K 306) := fun_of (fn_at s 10 rfl rfl) (fk_ok (allB_at g11 12 rfl)).1 (fk_ok (allB_at g11 12 rfl)).2.1
  have b10 : Binds K (fdOf K 306) ["self", "other"] [] := F10.binds (ps := ["self", "other"]) fun _ _ _ _ _ _ us hl => match us, hl with | [_, _], _ => rfl
  have F11 : FunD K "__init__" "Field.__init__" (defArgs (inClass (topS 22) 0)) (defBody (inClass (topS 22) 0)) (defScope (inClass (topS 22) 0)) [V.bl false] [] 340 (fdOf K 340) := funD_of (by simp) (fn_at s 11 rfl rfl) (allB_at g11 13 rfl) (allB_at g11 14 rfl)
  have b11 : Binds K (fdOf K 340) ["self", "name", "shape", "needed"] [] := by
    obtain ⟨ds, h1, h2⟩ := F11.binds1 (ps := ["self", "name", "shape", "needed"]) 4 1 (by simp) (by rfl) (fun _ _ _ _ _ _ _ us its h3 h4 => match us, its, h3, h4 with | [_, _, _, _], [_], _, _ => ⟨_, rfl, rfl⟩)
    cases h1
    exact h2
  have F12 : Fun K "__init__" "Kind.__init__" (inClass (topS 23) 0) 366 (fdOf K 366) := fun_of (fn_at s 12 rfl rfl) (fk_ok (allB_at g11 16 rfl)).1 (fk_ok (allB_at g11 16 rfl)).2.1
  have b12 : Binds K (fdOf K 366) ["self", "name", "fields", "key_rows"] [] := F12.binds (ps := ["self", "name", "fields", "key_rows"]) fun _ _ _ _ _ _ us hl => match us, hl with | [_, _, _, _], _ => rfl
  have F13 : Fun K "field_of" "Kind.field_of" (inClass (topS 23) 1) 373 (fdOf K 373) := fun_of (fn_at s 13 rfl rfl) (fk_ok (allB_at g11 17 rfl)).1 (fk_ok (allB_at g11 17 rfl)).2.1
  have b13 : Binds K (fdOf K 373) ["self", "name"] [] := F13.binds (ps := ["self", "name"]) fun _ _ _ _ _ _ us hl => match us, hl with | [_, _], _ => rfl
  have F14 : Fun K "__init__" "Schema.__init__" (inClass (topS 24) 0) 406 (fdOf K 406) := fun_of (fn_at s 14 rfl rfl) (fk_ok (allB_at g11 18 rfl)).1 (fk_ok (allB_at g11 18 rfl)).2.1
  have b14 : Binds K (fdOf K 406) ["self", "kinds"] [] := F14.binds (ps := ["self", "kinds"]) fun _ _ _ _ _ _ us hl => match us, hl with | [_, _], _ => rfl
  have F15 : Fun K "kind_of" "Schema.kind_of" (inClass (topS 24) 1) 413 (fdOf K 413) := fun_of (fn_at s 15 rfl rfl) (fk_ok (allB_at g11 19 rfl)).1 (fk_ok (allB_at g11 19 rfl)).2.1
  have b15 : Binds K (fdOf K 413) ["self", "name"] [] := F15.binds (ps := ["self", "name"]) fun _ _ _ _ _ _ us hl => match us, hl with | [_, _], _ => rfl
  have F16 : Fun K "field_of" "Schema.field_of" (inClass (topS 24) 2) 420 (fdOf K 420) := fun_of (fn_at s 16 rfl rfl) (fk_ok (allB_at g11 20 rfl)).1 (fk_ok (allB_at g11 20 rfl)).2.1
  have b16 : Binds K (fdOf K 420) ["self", "kind", "name"] [] := F16.binds (ps := ["self", "kind", "name"]) fun _ _ _ _ _ _ us hl => match us, hl with | [_, _, _], _ => rfl
  have F17 : Fun K "is_reference" "is_reference" (topS 6) 197 (fdOf K 197) := fun_of (fn_at s 17 rfl rfl) (fk_ok (allB_at g11 21 rfl)).1 (fk_ok (allB_at g11 21 rfl)).2.1
  have b17 : Binds K (fdOf K 197) ["shape"] [] := F17.binds (ps := ["shape"]) fun _ _ _ _ _ _ us hl => match us, hl with | [_], _ => rfl
  have F18 : Fun K "is_list" "is_list" (topS 7) 204 (fdOf K 204) := fun_of (fn_at s 18 rfl rfl) (fk_ok (allB_at g11 22 rfl)).1 (fk_ok (allB_at g11 22 rfl)).2.1
  have b18 : Binds K (fdOf K 204) ["shape"] [] := F18.binds (ps := ["shape"]) fun _ _ _ _ _ _ us hl => match us, hl with | [_], _ => rfl
  have F19 : Fun K "is_link" "is_link" (topS 8) 211 (fdOf K 211) := fun_of (fn_at s 19 rfl rfl) (fk_ok (allB_at g11 23 rfl)).1 (fk_ok (allB_at g11 23 rfl)).2.1
  have b19 : Binds K (fdOf K 211) ["shape"] [] := F19.binds (ps := ["shape"]) fun _ _ _ _ _ _ us hl => match us, hl with | [_], _ => rfl
  have F20 : Fun K "content_copy" "content_copy" (topS 11) 251 (fdOf K 251) := fun_of (fn_at s 20 rfl rfl) (fk_ok (allB_at g11 24 rfl)).1 (fk_ok (allB_at g11 24 rfl)).2.1
  have b20 : Binds K (fdOf K 251) ["content"] [] := F20.binds (ps := ["content"]) fun _ _ _ _ _ _ us hl => match us, hl with | [_], _ => rfl
  have F21 : Fun K "holds_number" "holds_number" (topS 12) 258 (fdOf K 258) := fun_of (fn_at s 21 rfl rfl) (fk_ok (allB_at g11 25 rfl)).1 (fk_ok (allB_at g11 25 rfl)).2.1
  have b21 : Binds K (fdOf K 258) ["content", "number"] [] := F21.binds (ps := ["content", "number"]) fun _ _ _ _ _ _ us hl => match us, hl with | [_, _], _ => rfl
  have F22 : Fun K "picture_copy" "picture_copy" (topS 13) 263 (fdOf K 263) := fun_of (fn_at s 22 rfl rfl) (fk_ok (allB_at g11 26 rfl)).1 (fk_ok (allB_at g11 26 rfl)).2.1
  have b22 : Binds K (fdOf K 263) ["picture"] [] := F22.binds (ps := ["picture"]) fun _ _ _ _ _ _ us hl => match us, hl with | [_], _ => rfl
  have F23 : Fun K "without_any" "without_any" (topS 15) 268 (fdOf K 268) := fun_of (fn_at s 23 rfl rfl) (fk_ok (allB_at g11 27 rfl)).1 (fk_ok (allB_at g11 27 rfl)).2.1
  have b23 : Binds K (fdOf K 268) ["content", "gone"] [] := F23.binds (ps := ["content", "gone"]) fun _ _ _ _ _ _ us hl => match us, hl with | [_, _], _ => rfl
  have F24 : Fun K "holds_any" "holds_any" (topS 16) 273 (fdOf K 273) := fun_of (fn_at s 24 rfl rfl) (fk_ok (allB_at g11 28 rfl)).1 (fk_ok (allB_at g11 28 rfl)).2.1
  have b24 : Binds K (fdOf K 273) ["content", "gone"] [] := F24.binds (ps := ["content", "gone"]) fun _ _ _ _ _ _ us hl => match us, hl with | [_, _], _ => rfl
  have F25 : Fun K "without_numbers" "without_numbers" (topS 19) 318 (fdOf K 318) := fun_of (fn_at s 25 rfl rfl) (fk_ok (allB_at g11 29 rfl)).1 (fk_ok (allB_at g11 29 rfl)).2.1
  have b25 : Binds K (fdOf K 318) ["schema", "picture", "gone"] [] := F25.binds (ps := ["schema", "picture", "gone"]) fun _ _ _ _ _ _ us hl => match us, hl with | [_, _, _], _ => rfl
  have F26 : Fun K "thing_without" "thing_without" (topS 20) 325 (fdOf K 325) := fun_of (fn_at s 26 rfl rfl) (fk_ok (allB_at g11 30 rfl)).1 (fk_ok (allB_at g11 30 rfl)).2.1
  have b26 : Binds K (fdOf K 325) ["schema", "thing", "gone"] [] := F26.binds (ps := ["schema", "thing", "gone"]) fun _ _ _ _ _ _ us hl => match us, hl with | [_, _, _], _ => rfl
  have F27 : Fun K "_law_cells" "_law_cells" (topS 26) 446 (fdOf K 446) := fun_of (fn_at s 27 rfl rfl) (fk_ok (allB_at g11 31 rfl)).1 (fk_ok (allB_at g11 31 rfl)).2.1
  have b27 : Binds K (fdOf K 446) ["script", "count"] [] := F27.binds (ps := ["script", "count"]) fun _ _ _ _ _ _ us hl => match us, hl with | [_, _], _ => rfl
  have F28 : Fun K "_law_draw" "_law_draw" (topS 27) 453 (fdOf K 453) := fun_of (fn_at s 28 rfl rfl) (fk_ok (allB_at g11 32 rfl)).1 (fk_ok (allB_at g11 32 rfl)).2.1
  have b28 : Binds K (fdOf K 453) ["draws", "bound"] [] := F28.binds (ps := ["draws", "bound"]) fun _ _ _ _ _ _ us hl => match us, hl with | [_, _], _ => rfl
  have F29 : Fun K "_law_pick" "_law_pick" (topS 28) 460 (fdOf K 460) := fun_of (fn_at s 29 rfl rfl) (fk_ok (allB_at g11 33 rfl)).1 (fk_ok (allB_at g11 33 rfl)).2.1
  have b29 : Binds K (fdOf K 460) ["draws", "row"] [] := F29.binds (ps := ["draws", "row"]) fun _ _ _ _ _ _ us hl => match us, hl with | [_, _], _ => rfl
  have F30 : Fun K "_law_names" "_law_names" (topS 29) 467 (fdOf K 467) := fun_of (fn_at s 30 rfl rfl) (fk_ok (allB_at g11 34 rfl)).1 (fk_ok (allB_at g11 34 rfl)).2.1
  have b30 : Binds K (fdOf K 467) ["kind"] [] := F30.binds (ps := ["kind"]) fun _ _ _ _ _ _ us hl => match us, hl with | [_], _ => rfl
  have F31 : Fun K "_law_rules" "_law_rules" (topS 30) 472 (fdOf K 472) := fun_of (fn_at s 31 rfl rfl) (fk_ok (allB_at g11 35 rfl)).1 (fk_ok (allB_at g11 35 rfl)).2.1
  have b31 : Binds K (fdOf K 472) ["draws"] [] := F31.binds (ps := ["draws"]) fun _ _ _ _ _ _ us hl => match us, hl with | [_], _ => rfl
  have F32 : Fun K "_law_schema" "_law_schema" (topS 31) 479 (fdOf K 479) := fun_of (fn_at s 32 rfl rfl) (fk_ok (allB_at g11 36 rfl)).1 (fk_ok (allB_at g11 36 rfl)).2.1
  have b32 : Binds K (fdOf K 479) ["rules", "needed"] [] := F32.binds (ps := ["rules", "needed"]) fun _ _ _ _ _ _ us hl => match us, hl with | [_, _], _ => rfl
  have F33 : Fun K "_law_number" "_law_number" (topS 32) 486 (fdOf K 486) := fun_of (fn_at s 33 rfl rfl) (fk_ok (allB_at g11 37 rfl)).1 (fk_ok (allB_at g11 37 rfl)).2.1
  have b33 : Binds K (fdOf K 486) ["draws"] [] := F33.binds (ps := ["draws"]) fun _ _ _ _ _ _ us hl => match us, hl with | [_], _ => rfl
  have F34 : Fun K "_law_list" "_law_list" (topS 33) 493 (fdOf K 493) := fun_of (fn_at s 34 rfl rfl) (fk_ok (allB_at g11 38 rfl)).1 (fk_ok (allB_at g11 38 rfl)).2.1
  have b34 : Binds K (fdOf K 493) ["draws"] [] := F34.binds (ps := ["draws"]) fun _ _ _ _ _ _ us hl => match us, hl with | [_], _ => rfl
  have F35 : Fun K "_law_contents" "_law_contents" (topS 34) 500 (fdOf K 500) := fun_of (fn_at s 35 rfl rfl) (fk_ok (allB_at g11 39 rfl)).1 (fk_ok (allB_at g11 39 rfl)).2.1
  have b35 : Binds K (fdOf K 500) ["draws", "kind"] [] := F35.binds (ps := ["draws", "kind"]) fun _ _ _ _ _ _ us hl => match us, hl with | [_, _], _ => rfl
  have F36 : Fun K "_law_picture" "_law_picture" (topS 35) 507 (fdOf K 507) := fun_of (fn_at s 36 rfl rfl) (fk_ok (allB_at g12 0 rfl)).1 (fk_ok (allB_at g12 0 rfl)).2.1
  have b36 : Binds K (fdOf K 507) ["draws"] [] := F36.binds (ps := ["draws"]) fun _ _ _ _ _ _ us hl => match us, hl with | [_], _ => rfl
  have F37 : Fun K "_law_shown" "_law_shown" (topS 36) 512 (fdOf K 512) := fun_of (fn_at s 37 rfl rfl) (fk_ok (allB_at g12 1 rfl)).1 (fk_ok (allB_at g12 1 rfl)).2.1
  have b37 : Binds K (fdOf K 512) ["picture"] [] := F37.binds (ps := ["picture"]) fun _ _ _ _ _ _ us hl => match us, hl with | [_], _ => rfl
  have F38 : Fun K "_law_due" "_law_due" (topS 37) 517 (fdOf K 517) := fun_of (fn_at s 38 rfl rfl) (fk_ok (allB_at g12 2 rfl)).1 (fk_ok (allB_at g12 2 rfl)).2.1
  have b38 : Binds K (fdOf K 517) ["picture", "gone"] [] := F38.binds (ps := ["picture", "gone"]) fun _ _ _ _ _ _ us hl => match us, hl with | [_, _], _ => rfl
  have F39 : Fun K "law" "law" (topS 38) 522 (fdOf K 522) := fun_of (fn_at s 39 rfl rfl) (fk_ok (allB_at g12 3 rfl)).1 (fk_ok (allB_at g12 3 rfl)).2.1
  have b39 : Binds K (fdOf K 522) ["script"] [] := F39.binds (ps := ["script"]) fun _ _ _ _ _ _ us hl => match us, hl with | [_], _ => rfl
  exact {
    b_any := PySem.W.mg_none_of X G (eqN_ok (allB_at g0 0 rfl)),
    b_int := PySem.W.mg_none_of X G (eqN_ok (allB_at g0 1 rfl)),
    b_isinstance := PySem.W.mg_none_of X G (eqN_ok (allB_at g0 2 rfl)),
    b_len := PySem.W.mg_none_of X G (eqN_ok (allB_at g0 3 rfl)),
    b_list := PySem.W.mg_none_of X G (eqN_ok (allB_at g0 4 rfl)),
    b_range := PySem.W.mg_none_of X G (eqN_ok (allB_at g0 5 rfl)),
    b_repr := PySem.W.mg_none_of X G (eqN_ok (allB_at g0 6 rfl)),
    b_sorted := PySem.W.mg_none_of X G (eqN_ok (allB_at g0 7 rfl)),
    g_IntSort := PySem.W.mg_of X G (eqR_ok (allB_at g0 8 rfl)),
    cl_IntSort := ⟨(allB_at g1 0 rfl), (allB_at g1 1 rfl), (allB_at g1 2 rfl), eqF_ok (allB_at g1 3 rfl)⟩,
    mk_IntSort := ⟨(allB_at g1 4 rfl), eqR_ok (allB_at g1 8 rfl), (fk_ok (allB_at g11 0 rfl)).2.2, (allB_at g1 5 rfl)⟩,
    na_IntSort_low := eqN_ok (allB_at g1 6 rfl),
    na_IntSort_high := eqN_ok (allB_at g1 7 rfl),
    ii_IntSort := fun H a dx fs e => .base (.ins e ⟨(allB_at g1 0 rfl), (allB_at g1 1 rfl), (allB_at g1 2 rfl), eqF_ok (allB_at g1 3 rfl)⟩ (eqF_ok (allB_at g1 9 rfl)) (eqF_ok (allB_at g10 0 rfl)) (eqB_ok (allB_at g10 1 rfl)) (eqB_ok (allB_at g1 10 rfl))),
    g_TextSort := PySem.W.mg_of X G (eqR_ok (allB_at g0 9 rfl)),
    cl_TextSort := ⟨(allB_at g2 0 rfl), (allB_at g2 1 rfl), (allB_at g2 2 rfl), eqF_ok (allB_at g2 3 rfl)⟩,
    mk_TextSort := ⟨(allB_at g2 4 rfl), eqR_ok (allB_at g2 8 rfl), (allB_at g11 3 rfl), (allB_at g2 5 rfl)⟩,
    na_TextSort_longest := eqN_ok (allB_at g2 6 rfl),
    na_TextSort_without := eqN_ok (allB_at g2 7 rfl),
    ii_TextSort := fun H a dx fs e => .base (.ins e ⟨(allB_at g2 0 rfl), (allB_at g2 1 rfl), (allB_at g2 2 rfl), eqF_ok (allB_at g2 3 rfl)⟩ (eqF_ok (allB_at g2 9 rfl)) (eqF_ok (allB_at g10 0 rfl)) (eqB_ok (allB_at g10 1 rfl)) (eqB_ok (allB_at g2 10 rfl))),
    g_RefSort := PySem.W.mg_of X G (eqR_ok (allB_at g0 10 rfl)),
    cl_RefSort := ⟨(allB_at g3 0 rfl), (allB_at g3 1 rfl), (allB_at g3 2 rfl), eqF_ok (allB_at g3 3 rfl)⟩,
    mk_RefSort := ⟨(allB_at g3 4 rfl), eqR_ok (allB_at g3 8 rfl), (fk_ok (allB_at g11 4 rfl)).2.2, (allB_at g3 5 rfl)⟩,
    na_RefSort_kinds := eqN_ok (allB_at g3 6 rfl),
    na_RefSort_rule := eqN_ok (allB_at g3 7 rfl),
    ii_RefSort := fun H a dx fs e => .base (.ins e ⟨(allB_at g3 0 rfl), (allB_at g3 1 rfl), (allB_at g3 2 rfl), eqF_ok (allB_at g3 3 rfl)⟩ (eqF_ok (allB_at g3 9 rfl)) (eqF_ok (allB_at g10 0 rfl)) (eqB_ok (allB_at g10 1 rfl)) (eqB_ok (allB_at g3 10 rfl))),
    g_ListSort := PySem.W.mg_of X G (eqR_ok (allB_at g0 11 rfl)),
    cl_ListSort := ⟨(allB_at g4 0 rfl), (allB_at g4 1 rfl), (allB_at g4 2 rfl), eqF_ok (allB_at g4 3 rfl)⟩,
    mk_ListSort := ⟨(allB_at g4 4 rfl), eqR_ok (allB_at g4 7 rfl), (fk_ok (allB_at g11 5 rfl)).2.2, (allB_at g4 5 rfl)⟩,
    na_ListSort_kinds := eqN_ok (allB_at g4 6 rfl),
    ii_ListSort := fun H a dx fs e => .base (.ins e ⟨(allB_at g4 0 rfl), (allB_at g4 1 rfl), (allB_at g4 2 rfl), eqF_ok (allB_at g4 3 rfl)⟩ (eqF_ok (allB_at g4 8 rfl)) (eqF_ok (allB_at g10 0 rfl)) (eqB_ok (allB_at g10 1 rfl)) (eqB_ok (allB_at g4 9 rfl))),
    g_Thing := PySem.W.mg_of X G (eqR_ok (allB_at g0 12 rfl)),
    cl_Thing := ⟨(allB_at g5 0 rfl), (allB_at g5 1 rfl), (allB_at g5 2 rfl), eqF_ok (allB_at g5 3 rfl)⟩,
    mk_Thing := ⟨(allB_at g5 4 rfl), eqR_ok (allB_at g5 8 rfl), (fk_ok (allB_at g11 6 rfl)).2.2, (allB_at g5 5 rfl)⟩,
    na_Thing_kind := eqN_ok (allB_at g5 6 rfl),
    na_Thing_contents := eqN_ok (allB_at g5 7 rfl),
    me_Thing_copied := ⟨eqR_ok (allB_at g5 9 rfl), (fk_ok (allB_at g11 7 rfl)).2.2, (fk_ok (allB_at g11 7 rfl)).2.1⟩,
    me_Thing___eq__ := ⟨eqR_ok (allB_at g5 10 rfl), (fk_ok (allB_at g11 8 rfl)).2.2, (fk_ok (allB_at g11 8 rfl)).2.1⟩,
    ii_Thing := fun H a dx fs e => .base (.ins e ⟨(allB_at g5 0 rfl), (allB_at g5 1 rfl), (allB_at g5 2 rfl), eqF_ok (allB_at g5 3 rfl)⟩ (eqF_ok (allB_at g5 11 rfl)) (eqF_ok (allB_at g10 0 rfl)) (eqB_ok (allB_at g10 1 rfl)) (eqB_ok (allB_at g5 12 rfl))),
    g_Heap := PySem.W.mg_of X G (eqR_ok (allB_at g0 13 rfl)),
    cl_Heap := ⟨(allB_at g6 0 rfl), (allB_at g6 1 rfl), (allB_at g6 2 rfl), eqF_ok (allB_at g6 3 rfl)⟩,
    mk_Heap := ⟨(allB_at g6 4 rfl), eqR_ok (allB_at g6 7 rfl), (fk_ok (allB_at g11 9 rfl)).2.2, (allB_at g6 5 rfl)⟩,
    na_Heap_pictures := eqN_ok (allB_at g6 6 rfl),
    me_Heap_picture_of := ⟨eqR_ok (allB_at g6 8 rfl), (fk_ok (allB_at g11 10 rfl)).2.2, (fk_ok (allB_at g11 10 rfl)).2.1⟩,
    me_Heap_copied := ⟨eqR_ok (allB_at g6 9 rfl), (fk_ok (allB_at g11 11 rfl)).2.2, (fk_ok (allB_at g11 11 rfl)).2.1⟩,
    me_Heap___eq__ := ⟨eqR_ok (allB_at g6 10 rfl), (fk_ok (allB_at g11 12 rfl)).2.2, (fk_ok (allB_at g11 12 rfl)).2.1⟩,
    ii_Heap := fun H a dx fs e => .base (.ins e ⟨(allB_at g6 0 rfl), (allB_at g6 1 rfl), (allB_at g6 2 rfl), eqF_ok (allB_at g6 3 rfl)⟩ (eqF_ok (allB_at g6 11 rfl)) (eqF_ok (allB_at g10 0 rfl)) (eqB_ok (allB_at g10 1 rfl)) (eqB_ok (allB_at g6 12 rfl))),
    g_Field := PySem.W.mg_of X G (eqR_ok (allB_at g0 14 rfl)),
    cl_Field := ⟨(allB_at g7 0 rfl), (allB_at g7 1 rfl), (allB_at g7 2 rfl), eqF_ok (allB_at g7 3 rfl)⟩,
    mk_Field := ⟨(allB_at g7 4 rfl), eqR_ok (allB_at g7 9 rfl), (allB_at g11 15 rfl), (allB_at g7 5 rfl)⟩,
    na_Field_name := eqN_ok (allB_at g7 6 rfl),
    na_Field_shape := eqN_ok (allB_at g7 7 rfl),
    na_Field_needed := eqN_ok (allB_at g7 8 rfl),
    g_Kind := PySem.W.mg_of X G (eqR_ok (allB_at g0 15 rfl)),
    cl_Kind := ⟨(allB_at g8 0 rfl), (allB_at g8 1 rfl), (allB_at g8 2 rfl), eqF_ok (allB_at g8 3 rfl)⟩,
    mk_Kind := ⟨(allB_at g8 4 rfl), eqR_ok (allB_at g8 9 rfl), (fk_ok (allB_at g11 16 rfl)).2.2, (allB_at g8 5 rfl)⟩,
    na_Kind_name := eqN_ok (allB_at g8 6 rfl),
    na_Kind_fields := eqN_ok (allB_at g8 7 rfl),
    na_Kind_key_rows := eqN_ok (allB_at g8 8 rfl),
    me_Kind_field_of := ⟨eqR_ok (allB_at g8 10 rfl), (fk_ok (allB_at g11 17 rfl)).2.2, (fk_ok (allB_at g11 17 rfl)).2.1⟩,
    g_Schema := PySem.W.mg_of X G (eqR_ok (allB_at g0 16 rfl)),
    cl_Schema := ⟨(allB_at g9 0 rfl), (allB_at g9 1 rfl), (allB_at g9 2 rfl), eqF_ok (allB_at g9 3 rfl)⟩,
    mk_Schema := ⟨(allB_at g9 4 rfl), eqR_ok (allB_at g9 7 rfl), (fk_ok (allB_at g11 18 rfl)).2.2, (allB_at g9 5 rfl)⟩,
    na_Schema_kinds := eqN_ok (allB_at g9 6 rfl),
    me_Schema_kind_of := ⟨eqR_ok (allB_at g9 8 rfl), (fk_ok (allB_at g11 19 rfl)).2.2, (fk_ok (allB_at g11 19 rfl)).2.1⟩,
    me_Schema_field_of := ⟨eqR_ok (allB_at g9 9 rfl), (fk_ok (allB_at g11 20 rfl)).2.2, (fk_ok (allB_at g11 20 rfl)).2.1⟩,
    is_IntSort_RefSort := eqB_ok (allB_at g10 2 rfl),
    is_TextSort_RefSort := eqB_ok (allB_at g10 3 rfl),
    is_RefSort_RefSort := eqB_ok (allB_at g10 4 rfl),
    is_ListSort_RefSort := eqB_ok (allB_at g10 5 rfl),
    is_IntSort_ListSort := eqB_ok (allB_at g10 6 rfl),
    is_TextSort_ListSort := eqB_ok (allB_at g10 7 rfl),
    is_RefSort_ListSort := eqB_ok (allB_at g10 8 rfl),
    is_ListSort_ListSort := eqB_ok (allB_at g10 9 rfl),
    is_Thing_Thing := eqB_ok (allB_at g10 10 rfl),
    is_Heap_Heap := eqB_ok (allB_at g10 11 rfl),
    F_IntSort___init__ := F0,
    b_IntSort___init__ := b0,
    F_TextSort___init__ := F1,
    b_TextSort___init__ := b1,
    F_RefSort___init__ := F2,
    b_RefSort___init__ := b2,
    F_ListSort___init__ := F3,
    b_ListSort___init__ := b3,
    F_Thing___init__ := F4,
    b_Thing___init__ := b4,
    F_Thing_copied := F5,
    b_Thing_copied := b5,
    F_Thing___eq__ := F6,
    b_Thing___eq__ := b6,
    F_Heap___init__ := F7,
    b_Heap___init__ := b7,
    F_Heap_picture_of := F8,
    b_Heap_picture_of := b8,
    F_Heap_copied := F9,
    b_Heap_copied := b9,
    F_Heap___eq__ := F10,
    b_Heap___eq__ := b10,
    F_Field___init__ := F11,
    b_Field___init__ := b11,
    F_Kind___init__ := F12,
    b_Kind___init__ := b12,
    F_Kind_field_of := F13,
    b_Kind_field_of := b13,
    F_Schema___init__ := F14,
    b_Schema___init__ := b14,
    F_Schema_kind_of := F15,
    b_Schema_kind_of := b15,
    F_Schema_field_of := F16,
    b_Schema_field_of := b16,
    F_is_reference := F17,
    b_is_reference := b17,
    g_is_reference := PySem.W.mg_of X G (eqR_ok (allB_at g0 17 rfl)),
    F_is_list := F18,
    b_is_list := b18,
    g_is_list := PySem.W.mg_of X G (eqR_ok (allB_at g0 18 rfl)),
    F_is_link := F19,
    b_is_link := b19,
    g_is_link := PySem.W.mg_of X G (eqR_ok (allB_at g0 19 rfl)),
    F_content_copy := F20,
    b_content_copy := b20,
    g_content_copy := PySem.W.mg_of X G (eqR_ok (allB_at g0 20 rfl)),
    F_holds_number := F21,
    b_holds_number := b21,
    g_holds_number := PySem.W.mg_of X G (eqR_ok (allB_at g0 21 rfl)),
    F_picture_copy := F22,
    b_picture_copy := b22,
    g_picture_copy := PySem.W.mg_of X G (eqR_ok (allB_at g0 22 rfl)),
    F_without_any := F23,
    b_without_any := b23,
    g_without_any := PySem.W.mg_of X G (eqR_ok (allB_at g0 23 rfl)),
    F_holds_any := F24,
    b_holds_any := b24,
    g_holds_any := PySem.W.mg_of X G (eqR_ok (allB_at g0 24 rfl)),
    F_without_numbers := F25,
    b_without_numbers := b25,
    g_without_numbers := PySem.W.mg_of X G (eqR_ok (allB_at g0 25 rfl)),
    F_thing_without := F26,
    b_thing_without := b26,
    g_thing_without := PySem.W.mg_of X G (eqR_ok (allB_at g0 26 rfl)),
    F__law_cells := F27,
    b__law_cells := b27,
    g__law_cells := PySem.W.mg_of X G (eqR_ok (allB_at g0 27 rfl)),
    F__law_draw := F28,
    b__law_draw := b28,
    g__law_draw := PySem.W.mg_of X G (eqR_ok (allB_at g0 28 rfl)),
    F__law_pick := F29,
    b__law_pick := b29,
    g__law_pick := PySem.W.mg_of X G (eqR_ok (allB_at g0 29 rfl)),
    F__law_names := F30,
    b__law_names := b30,
    g__law_names := PySem.W.mg_of X G (eqR_ok (allB_at g0 30 rfl)),
    F__law_rules := F31,
    b__law_rules := b31,
    g__law_rules := PySem.W.mg_of X G (eqR_ok (allB_at g0 31 rfl)),
    F__law_schema := F32,
    b__law_schema := b32,
    g__law_schema := PySem.W.mg_of X G (eqR_ok (allB_at g0 32 rfl)),
    F__law_number := F33,
    b__law_number := b33,
    g__law_number := PySem.W.mg_of X G (eqR_ok (allB_at g0 33 rfl)),
    F__law_list := F34,
    b__law_list := b34,
    g__law_list := PySem.W.mg_of X G (eqR_ok (allB_at g0 34 rfl)),
    F__law_contents := F35,
    b__law_contents := b35,
    g__law_contents := PySem.W.mg_of X G (eqR_ok (allB_at g0 35 rfl)),
    F__law_picture := F36,
    b__law_picture := b36,
    g__law_picture := PySem.W.mg_of X G (eqR_ok (allB_at g0 36 rfl)),
    F__law_shown := F37,
    b__law_shown := b37,
    g__law_shown := PySem.W.mg_of X G (eqR_ok (allB_at g0 37 rfl)),
    F__law_due := F38,
    b__law_due := b38,
    g__law_due := PySem.W.mg_of X G (eqR_ok (allB_at g0 38 rfl)),
    F_law := F39,
    b_law := b39,
    isn_int_Thing := eqB_ok (allB_at g10 12 rfl),
    isn_int_Heap := eqB_ok (allB_at g10 13 rfl),
    b1_TextSort___init__ := F1.binds1 (ps := ["self", "longest", "without"]) 2 0 (by simp) (by rfl) (fun _ _ _ _ _ _ _ us its h3 h4 => match us, its, h3, h4 with | [_, _], [_], _, _ => ⟨_, rfl, rfl⟩),
    b1_Field___init__ := F11.binds1 (ps := ["self", "name", "shape", "needed"]) 3 0 (by simp) (by rfl) (fun _ _ _ _ _ _ _ us its h3 h4 => match us, its, h3, h4 with | [_, _, _], [_], _, _ => ⟨_, rfl, rfl⟩),
    eqo_Thing := ⟨eqR_ok (allB_at g5 10 rfl), eqF_ok (allB_at g10 14 rfl), (fk_ok (allB_at g11 8 rfl)).2.2, eqB_ok (allB_at g10 15 rfl)⟩,
    sbi_Thing := eqB_ok (allB_at g10 16 rfl),
    eqo_Heap := ⟨eqR_ok (allB_at g6 10 rfl), eqF_ok (allB_at g10 17 rfl), (fk_ok (allB_at g11 12 rfl)).2.2, eqB_ok (allB_at g10 18 rfl)⟩,
    sbi_Heap := eqB_ok (allB_at g10 19 rfl) }
theorem law_at {w : World} {K : PySem.W.Frag} {h : Heap} {mg : Str → Option Value} (X : K.In h) (G : h.Ns mainGlobals mg) (s : SaysH HD w K) : mg "law" = some (.ref (adr K).f_law) := by
  have E : exB K = true := s.ex
  have gA : allB (eA K) = true := allB_at E 0 rfl
  have gB : allB (eB K) = true := allB_at E 1 rfl
  have gC : allB (eC K) = true := allB_at E 2 rfl
  have gP : allB (eP K) = true := allB_at E 3 rfl
  have g0 : allB (e0 K) = true := allB_at gA 0 rfl
  exact PySem.W.mg_of X G (eqR_ok (allB_at g0 39 rfl))
end
end K48
open PySem PySem.W PySem.Calls PyProof.Rows in
set_option maxRecDepth 100000 in
set_option maxHeartbeats 0 in
theorem K48.endPre (hc : PySem.W.WalkO K48.qv K48.nms (PySem.W.XL K48.qv []) (Rn.hookH K48.HD).says (PySem.W.OpenLaw.row PySem.Challenge.rw_oneheap_k48_numbers_leave_contents).toRowW (HandSHeadRun.topDef (PySem.W.OpenLaw.row PySem.Challenge.rw_oneheap_k48_numbers_leave_contents).prog 38) [] (fun f vs => PySem.call f vs)) : PySem.Challenge.rw_oneheap_k48_numbers_leave_contents.Holds := by
  w_on; o_law
  refine Ct.head_cut (SF := K48.sT5) (r := PySem.W.OpenLaw.row PySem.Challenge.rw_oneheap_k48_numbers_leave_contents) (q := K48.qv) (H := Rn.hookH K48.HD) (ob := Rn.obH K48.HD) (M := 3594) (loose := K48.nms) (d := HandSHeadRun.topDef (PySem.W.OpenLaw.row PySem.Challenge.rw_oneheap_k48_numbers_leave_contents).prog 38) (kwd := []) (Rn.obH_eq K48.HD)
    (by kernel_rfl) (fun s => by kernel_rfl) K48.cTop K48.runH (by kernel_rfl) (by kernel_rfl) (by kernel_rfl) (by rfl) (by first | assumption | decide +kernel) (by decide +kernel) ⟨rfl, rfl, rfl, rfl, rfl, by decide +kernel⟩ ?hw hc
  case hw => w_witness2
namespace K48
open PySem PySem.Spec PyProof.Rows L2 Dv
set_option autoImplicit false
noncomputable section
section
variable {P : Program} {w : World} {K : PySem.W.Frag} {mg : Str → Option Value} {base : Heap} {A : Ad}
theorem fl_low (T : Txt K mg A) : FldOk K (S A) "low" fc_low := (Dv.fo_cons (show Cls K (S A 0) ∧ NoAttr K (S A 0) "low" from ⟨T.cl_IntSort, T.na_IntSort_low⟩) Dv.fo_nil)
theorem fl_high (T : Txt K mg A) : FldOk K (S A) "high" fc_high := (Dv.fo_cons (show Cls K (S A 0) ∧ NoAttr K (S A 0) "high" from ⟨T.cl_IntSort, T.na_IntSort_high⟩) Dv.fo_nil)
theorem fl_longest (T : Txt K mg A) : FldOk K (S A) "longest" fc_longest := (Dv.fo_cons (show Cls K (S A 1) ∧ NoAttr K (S A 1) "longest" from ⟨T.cl_TextSort, T.na_TextSort_longest⟩) Dv.fo_nil)
theorem fl_without (T : Txt K mg A) : FldOk K (S A) "without" fc_without := (Dv.fo_cons (show Cls K (S A 1) ∧ NoAttr K (S A 1) "without" from ⟨T.cl_TextSort, T.na_TextSort_without⟩) Dv.fo_nil)
theorem fl_kinds (T : Txt K mg A) : FldOk K (S A) "kinds" fc_kinds := (Dv.fo_cons (show Cls K (S A 2) ∧ NoAttr K (S A 2) "kinds" from ⟨T.cl_RefSort, T.na_RefSort_kinds⟩) (Dv.fo_cons (show Cls K (S A 3) ∧ NoAttr K (S A 3) "kinds" from ⟨T.cl_ListSort, T.na_ListSort_kinds⟩) (Dv.fo_cons (show Cls K (S A 8) ∧ NoAttr K (S A 8) "kinds" from ⟨T.cl_Schema, T.na_Schema_kinds⟩) Dv.fo_nil)))
theorem fl_rule (T : Txt K mg A) : FldOk K (S A) "rule" fc_rule := (Dv.fo_cons (show Cls K (S A 2) ∧ NoAttr K (S A 2) "rule" from ⟨T.cl_RefSort, T.na_RefSort_rule⟩) Dv.fo_nil)
theorem fl_kind (T : Txt K mg A) : FldOk K (S A) "kind" fc_kind := (Dv.fo_cons (show Cls K (S A 4) ∧ NoAttr K (S A 4) "kind" from ⟨T.cl_Thing, T.na_Thing_kind⟩) Dv.fo_nil)
theorem fl_contents (T : Txt K mg A) : FldOk K (S A) "contents" fc_contents := (Dv.fo_cons (show Cls K (S A 4) ∧ NoAttr K (S A 4) "contents" from ⟨T.cl_Thing, T.na_Thing_contents⟩) Dv.fo_nil)
theorem fl_pictures (T : Txt K mg A) : FldOk K (S A) "pictures" fc_pictures := (Dv.fo_cons (show Cls K (S A 5) ∧ NoAttr K (S A 5) "pictures" from ⟨T.cl_Heap, T.na_Heap_pictures⟩) Dv.fo_nil)
theorem fl_name (T : Txt K mg A) : FldOk K (S A) "name" fc_name := (Dv.fo_cons (show Cls K (S A 6) ∧ NoAttr K (S A 6) "name" from ⟨T.cl_Field, T.na_Field_name⟩) (Dv.fo_cons (show Cls K (S A 7) ∧ NoAttr K (S A 7) "name" from ⟨T.cl_Kind, T.na_Kind_name⟩) Dv.fo_nil))
theorem fl_shape (T : Txt K mg A) : FldOk K (S A) "shape" fc_shape := (Dv.fo_cons (show Cls K (S A 6) ∧ NoAttr K (S A 6) "shape" from ⟨T.cl_Field, T.na_Field_shape⟩) Dv.fo_nil)
theorem fl_needed (T : Txt K mg A) : FldOk K (S A) "needed" fc_needed := (Dv.fo_cons (show Cls K (S A 6) ∧ NoAttr K (S A 6) "needed" from ⟨T.cl_Field, T.na_Field_needed⟩) Dv.fo_nil)
theorem fl_fields (T : Txt K mg A) : FldOk K (S A) "fields" fc_fields := (Dv.fo_cons (show Cls K (S A 7) ∧ NoAttr K (S A 7) "fields" from ⟨T.cl_Kind, T.na_Kind_fields⟩) Dv.fo_nil)
theorem fl_key_rows (T : Txt K mg A) : FldOk K (S A) "key_rows" fc_key_rows := (Dv.fo_cons (show Cls K (S A 7) ∧ NoAttr K (S A 7) "key_rows" from ⟨T.cl_Kind, T.na_Kind_key_rows⟩) Dv.fo_nil)
theorem isk (T : Txt K mg A) : IsOk K (S A) isOO isOB isBT := ⟨(by
    intro c d b h
    unfold isOO at h
    split at h
    · cases h; exact ⟨T.ii_IntSort, T.is_IntSort_RefSort⟩
    · cases h; exact ⟨T.ii_TextSort, T.is_TextSort_RefSort⟩
    · cases h; exact ⟨T.ii_RefSort, T.is_RefSort_RefSort⟩
    · cases h; exact ⟨T.ii_ListSort, T.is_ListSort_RefSort⟩
    · cases h; exact ⟨T.ii_IntSort, T.is_IntSort_ListSort⟩
    · cases h; exact ⟨T.ii_TextSort, T.is_TextSort_ListSort⟩
    · cases h; exact ⟨T.ii_RefSort, T.is_RefSort_ListSort⟩
    · cases h; exact ⟨T.ii_ListSort, T.is_ListSort_ListSort⟩
    · cases h; exact ⟨T.ii_Thing, T.is_Thing_Thing⟩
    · cases h; exact ⟨T.ii_Heap, T.is_Heap_Heap⟩
    · cases h),
  fun _ _ _ e => (by cases e),
  (by
    intro c d b h
    unfold isBT at h
    split at h
    · cases h; exact T.isn_int_Thing
    · cases h; exact T.isn_int_Heap
    · cases h)⟩
end
section
variable {P : Program} {w : World} {K : PySem.W.Frag} {mg : Str → Option Value} {base : Heap} {A : Ad}
theorem sc_IntSort___init__ : FnScope ["self", "low", "high"] ["self", "low", "high"] (defScope (inClass (topS 2) 0)) := ⟨rfl, rfl, rfl, by decide +kernel, rfl, by decide +kernel, by decide +kernel⟩
theorem ok_IntSort___init__ (T : Txt K mg A) : FnOk P w K mg base CX0 1 A.f_IntSort___init__ A.fd_IntSort___init__ ["self", "low", "high"] (spD K (S A) false 3 d_IntSort___init__) := by
  refine T.F_IntSort___init__.ok sc_IntSort___init__ (fun vs H Q E h => spD_len _ _ _ h) (fun cdv Ar outer s H vs Q E hr h => bodyD (N := ["self", "low", "high"]) (f := b_IntSort___init__) ?_ e_IntSort___init__ (by decide) h)
  exact (s_cons (s_fld (fl_low T) (pv 0) (q_vl (pv 1)) rfl)
 (s_one (s_fld (fl_high T) (pv 0) (q_vl (pv 2)) rfl)))
theorem sc_TextSort___init__ : FnScope ["self", "longest", "without"] ["self", "longest", "without"] (defScope (inClass (topS 3) 0)) := ⟨rfl, rfl, rfl, by decide +kernel, rfl, by decide +kernel, by decide +kernel⟩
theorem ok_TextSort___init__ (T : Txt K mg A) : FnOk P w K mg base CX0 1 A.f_TextSort___init__ A.fd_TextSort___init__ ["self", "longest", "without"] (spD K (S A) false 3 d_TextSort___init__) := by
  refine T.F_TextSort___init__.ok sc_TextSort___init__ (fun vs H Q E h => spD_len _ _ _ h) (fun cdv Ar outer s H vs Q E hr h => bodyD (N := ["self", "longest", "without"]) (f := b_TextSort___init__) ?_ e_TextSort___init__ (by decide) h)
  exact (s_cons (s_fld (fl_longest T) (pv 0) (q_vl (pv 1)) rfl)
 (s_one (s_fld (fl_without T) (pv 0) (q_vl (pv 2)) rfl)))
theorem sc_RefSort___init__ : FnScope ["self", "kinds", "rule"] ["self", "kinds", "rule"] (defScope (inClass (topS 4) 0)) := ⟨rfl, rfl, rfl, by decide +kernel, rfl, by decide +kernel, by decide +kernel⟩
theorem ok_RefSort___init__ (T : Txt K mg A) : FnOk P w K mg base CX0 1 A.f_RefSort___init__ A.fd_RefSort___init__ ["self", "kinds", "rule"] (spD K (S A) false 3 d_RefSort___init__) := by
  refine T.F_RefSort___init__.ok sc_RefSort___init__ (fun vs H Q E h => spD_len _ _ _ h) (fun cdv Ar outer s H vs Q E hr h => bodyD (N := ["self", "kinds", "rule"]) (f := b_RefSort___init__) ?_ e_RefSort___init__ (by decide) h)
  exact (s_cons (s_fld (fl_kinds T) (pv 0) (q_fr (qf_callTy (call_list_of) sc_list rfl T.b_list (by decide +kernel) (q_cons (q_vl (pv 1)) q_nil))) rfl)
 (s_one (s_fld (fl_rule T) (pv 0) (q_vl (pv 2)) rfl)))
theorem sc_ListSort___init__ : FnScope ["self", "kinds"] ["self", "kinds"] (defScope (inClass (topS 5) 0)) := ⟨rfl, rfl, rfl, by decide +kernel, rfl, by decide +kernel, by decide +kernel⟩
theorem ok_ListSort___init__ (T : Txt K mg A) : FnOk P w K mg base CX0 1 A.f_ListSort___init__ A.fd_ListSort___init__ ["self", "kinds"] (spD K (S A) false 2 d_ListSort___init__) := by
  refine T.F_ListSort___init__.ok sc_ListSort___init__ (fun vs H Q E h => spD_len _ _ _ h) (fun cdv Ar outer s H vs Q E hr h => bodyD (N := ["self", "kinds"]) (f := b_ListSort___init__) ?_ e_ListSort___init__ (by decide) h)
  exact (s_one (s_fld (fl_kinds T) (pv 0) (q_fr (qf_callTy (call_list_of) sc_list rfl T.b_list (by decide +kernel) (q_cons (q_vl (pv 1)) q_nil))) rfl))
theorem sc_is_reference : FnScope ["shape"] ["shape"] (defScope (topS 6)) := ⟨rfl, rfl, rfl, by decide +kernel, rfl, by decide +kernel, by decide +kernel⟩
theorem ok_is_reference (T : Txt K mg A) : FnOk P w K mg base CX0 1 A.f_is_reference A.fd_is_reference ["shape"] (spD K (S A) false 1 d_is_reference) := by
  refine T.F_is_reference.ok sc_is_reference (fun vs H Q E h => spD_len _ _ _ h) (fun cdv Ar outer s H vs Q E hr h => bodyD (N := ["shape"]) (f := b_is_reference) ?_ e_is_reference (by decide) h)
  exact (s_one (s_ret (q_callB call_isi (sc_is (isk T)) rfl T.b_isinstance (by decide +kernel) (q_cons (q_vl (pv 0)) (q_cons (q_c (pe_glob (v := .ref A.C_RefSort) rfl T.g_RefSort rfl) fun _ => rfl) q_nil)))))
theorem sc_is_list : FnScope ["shape"] ["shape"] (defScope (topS 7)) := ⟨rfl, rfl, rfl, by decide +kernel, rfl, by decide +kernel, by decide +kernel⟩
theorem ok_is_list (T : Txt K mg A) : FnOk P w K mg base CX0 1 A.f_is_list A.fd_is_list ["shape"] (spD K (S A) false 1 d_is_list) := by
  refine T.F_is_list.ok sc_is_list (fun vs H Q E h => spD_len _ _ _ h) (fun cdv Ar outer s H vs Q E hr h => bodyD (N := ["shape"]) (f := b_is_list) ?_ e_is_list (by decide) h)
  exact (s_one (s_ret (q_callB call_isi (sc_is (isk T)) rfl T.b_isinstance (by decide +kernel) (q_cons (q_vl (pv 0)) (q_cons (q_c (pe_glob (v := .ref A.C_ListSort) rfl T.g_ListSort rfl) fun _ => rfl) q_nil)))))
theorem sc_Thing___eq__ : FnScope ["self", "other"] ["self", "other"] (defScope (inClass (topS 10) 2)) := ⟨rfl, rfl, rfl, by decide +kernel, rfl, by decide +kernel, by decide +kernel⟩
theorem ok_Thing___eq__ (T : Txt K mg A) : FnOk P w K mg base CX0 1 A.f_Thing___eq__ A.fd_Thing___eq__ ["self", "other"] (spD K (S A) false 2 d_Thing___eq__) := by
  refine T.F_Thing___eq__.ok sc_Thing___eq__ (fun vs H Q E h => spD_len _ _ _ h) (fun cdv Ar outer s H vs Q E hr h => bodyD (N := ["self", "other"]) (f := b_Thing___eq__) ?_ e_Thing___eq__ (by decide) h)
  exact (s_one (s_ret (q_and (q_callB call_isi (sc_is (isk T)) rfl T.b_isinstance (by decide +kernel) (q_cons (q_vl (pv 1)) (q_cons (q_c (pe_glob (v := .ref A.C_Thing) rfl T.g_Thing rfl) fun _ => rfl) q_nil))) (q_and (q_cmp (opOr op_eq (op_eqD (u64 hr))) so_eq (q_fld (fl_kind T) (q_vl (pv 0)) rfl) (q_fld (fl_kind T) (q_vl (pv 1)) rfl) (nomark _)) (q_one (q_cmp (op_eqK (u80 hr)) so_eqK (q_fld (fl_contents T) (q_vl (pv 0)) rfl) (q_fld (fl_contents T) (q_vl (pv 1)) rfl) (nomark _)))))))
theorem sc_content_copy : FnScope ["content"] ["content"] (defScope (topS 11)) := ⟨rfl, rfl, rfl, by decide +kernel, rfl, by decide +kernel, by decide +kernel⟩
theorem ok_content_copy (T : Txt K mg A) : FnOk P w K mg base CX0 1 A.f_content_copy A.fd_content_copy ["content"] (spD K (S A) false 1 d_content_copy) := by
  refine T.F_content_copy.ok sc_content_copy (fun vs H Q E h => spD_len _ _ _ h) (fun cdv Ar outer s H vs Q E hr h => bodyD (N := ["content"]) (f := b_content_copy) ?_ e_content_copy (by decide) h)
  exact (s_one (s_ret (q_if (q_val (q_callB call_isi (sc_is (isk T)) rfl T.b_isinstance (by decide +kernel) (q_cons (q_vl (pv 0)) (q_cons (q_c (pe_bltn (v := .ty "list") rfl T.b_list (by decide +kernel) rfl) fun _ => rfl) q_nil)))) (q_fr (qf_callTy (call_list_of) sc_list rfl T.b_list (by decide +kernel) (q_cons (q_vl (pv 0)) q_nil))) (q_vl (pv 0)))))
theorem sc_holds_number : FnScope ["content", "number"] ["content", "number"] (defScope (topS 12)) := ⟨rfl, rfl, rfl, by decide +kernel, rfl, by decide +kernel, by decide +kernel⟩
theorem ok_holds_number (T : Txt K mg A) : FnOk P w K mg base CX0 1 A.f_holds_number A.fd_holds_number ["content", "number"] (spD K (S A) false 2 d_holds_number) := by
  refine T.F_holds_number.ok sc_holds_number (fun vs H Q E h => spD_len _ _ _ h) (fun cdv Ar outer s H vs Q E hr h => bodyD (N := ["content", "number"]) (f := b_holds_number) ?_ e_holds_number (by decide) h)
  exact (s_cons (s_if (q_val (q_callB call_isi (sc_is (isk T)) rfl T.b_isinstance (by decide +kernel) (q_cons (q_vl (pv 0)) (q_cons (q_c (pe_bltn (v := .ty "list") rfl T.b_list (by decide +kernel) rfl) fun _ => rfl) q_nil))))
 (s_one (s_ret (q_cmp (opOr op_in_seq (op_inD (u65 hr))) (so_or (so_in false) so_inD) (q_vl (pv 1)) (q_vl (pv 0)) (by rfl))))
 s_nil)
 (s_one (s_ret (q_cmp (opOr op_eq (op_eqD (u64 hr))) so_eq (q_vl (pv 0)) (q_vl (pv 1)) (nomark _)))))
theorem sc_Heap_picture_of : FnScope ["self", "number"] ["self", "number"] (defScope (inClass (topS 18) 1)) := ⟨rfl, rfl, rfl, by decide +kernel, rfl, by decide +kernel, by decide +kernel⟩
theorem ok_Heap_picture_of (T : Txt K mg A) : FnOk P w K mg base CX0 1 A.f_Heap_picture_of A.fd_Heap_picture_of ["self", "number"] (spD K (S A) false 2 d_Heap_picture_of) := by
  refine T.F_Heap_picture_of.ok sc_Heap_picture_of (fun vs H Q E h => spD_len _ _ _ h) (fun cdv Ar outer s H vs Q E hr h => bodyD (N := ["self", "number"]) (f := b_Heap_picture_of) ?_ e_Heap_picture_of (by decide) h)
  exact (s_one (s_ret (q_dget (u1 hr) (q_fld (fl_pictures T) (q_vl (pv 0)) rfl) (q_vl (pv 1)) (fun _ _ => rfl))))
theorem sc_Field___init__ : FnScope ["self", "name", "shape", "needed"] ["self", "name", "shape", "needed"] (defScope (inClass (topS 22) 0)) := ⟨rfl, rfl, rfl, by decide +kernel, rfl, by decide +kernel, by decide +kernel⟩
theorem ok_Field___init__ (T : Txt K mg A) : FnOk P w K mg base CX0 1 A.f_Field___init__ A.fd_Field___init__ ["self", "name", "shape", "needed"] (spD K (S A) false 4 d_Field___init__) := by
  refine T.F_Field___init__.ok sc_Field___init__ (fun vs H Q E h => spD_len _ _ _ h) (fun cdv Ar outer s H vs Q E hr h => bodyD (N := ["self", "name", "shape", "needed"]) (f := b_Field___init__) ?_ e_Field___init__ (by decide) h)
  exact (s_cons (s_fld (fl_name T) (pv 0) (q_vl (pv 1)) rfl)
 (s_cons (s_fld (fl_shape T) (pv 0) (q_vl (pv 2)) rfl)
 (s_one (s_fld (fl_needed T) (pv 0) (q_vl (pv 3)) rfl))))
theorem sc_Kind___init__ : FnScope ["self", "name", "fields", "key_rows", "row"] ["self", "name", "fields", "key_rows"] (defScope (inClass (topS 23) 0)) := ⟨rfl, rfl, rfl, by decide +kernel, rfl, by decide +kernel, by decide +kernel⟩
theorem ok_Kind___init__ (T : Txt K mg A) : FnOk P w K mg base CX0 1 A.f_Kind___init__ A.fd_Kind___init__ ["self", "name", "fields", "key_rows"] (spD K (S A) false 4 d_Kind___init__) := by
  refine T.F_Kind___init__.ok sc_Kind___init__ (fun vs H Q E h => spD_len _ _ _ h) (fun cdv Ar outer s H vs Q E hr h => bodyD (N := ["self", "name", "fields", "key_rows", "row"]) (f := b_Kind___init__) ?_ e_Kind___init__ (by decide) h)
  exact (s_cons (s_fld (fl_name T) (pv 0) (q_vl (pv 1)) rfl)
 (s_cons (s_fld (fl_fields T) (pv 0) (q_fr (qf_callTy (call_list_of) sc_list rfl T.b_list (by decide +kernel) (q_cons (q_vl (pv 2)) q_nil))) rfl)
 (s_one (s_fld (fl_key_rows T) (pv 0) (q_fr (qf_lc (vs := [4]) rfl sc_Kind___init__.nd (i_seq (q_vl (pv 3))) (blkOk_by (own := [("row", 4)]) (N := ["self", "name", "fields", "key_rows", "row"]) (sc := defScope (inClass (topS 23) 0)) (by decide +kernel)) rfl (fun _ _ _ _ _ => (pg_name (i := 4) sc_Kind___init__.nd rfl (Or.inl rfl))) (Dv.g_name 4) (by decide) (fun _ _ _ _ _ => pts_nil) (fun _ _ _ h => yes_ok h) (fun _ _ _ _ _ => by exact (q_fr (qf_callTy (call_list_of) sc_list rfl T.b_list (by decide +kernel) (q_cons (q_vl (pv 4)) q_nil)))))) rfl))))
theorem sc_Kind_field_of : FnScope ["self", "name", "field"] ["self", "name"] (defScope (inClass (topS 23) 1)) := ⟨rfl, rfl, rfl, by decide +kernel, rfl, by decide +kernel, by decide +kernel⟩
theorem ok_Kind_field_of (T : Txt K mg A) : FnOk P w K mg base CX0 1 A.f_Kind_field_of A.fd_Kind_field_of ["self", "name"] (spD K (S A) false 2 d_Kind_field_of) := by
  refine T.F_Kind_field_of.ok sc_Kind_field_of (fun vs H Q E h => spD_len _ _ _ h) (fun cdv Ar outer s H vs Q E hr h => bodyD (N := ["self", "name", "field"]) (f := b_Kind_field_of) ?_ e_Kind_field_of (by decide) h)
  exact (s_cons (s_for PassesOwn.never rfl (i_seq (q_fld (fl_fields T) (q_vl (pv 0)) rfl)) (pg_name (i := 2) sc_Kind_field_of.nd rfl (.inl rfl)) (Dv.g_name 2)
 (s_one (s_if (q_cmpT (opOr op_eq (op_eqD (u64 hr))) so_eq (q_fld (fl_name T) (q_vl (pv 2)) rfl) (q_vl (pv 1)) (nomark _))
 (s_one (s_ret (q_vl (pv 2))))
 s_nil)))
 (s_one (s_ret (q_c pe_non fun _ => rfl))))
theorem sc_Schema___init__ : FnScope ["self", "kinds"] ["self", "kinds"] (defScope (inClass (topS 24) 0)) := ⟨rfl, rfl, rfl, by decide +kernel, rfl, by decide +kernel, by decide +kernel⟩
theorem ok_Schema___init__ (T : Txt K mg A) : FnOk P w K mg base CX0 1 A.f_Schema___init__ A.fd_Schema___init__ ["self", "kinds"] (spD K (S A) false 2 d_Schema___init__) := by
  refine T.F_Schema___init__.ok sc_Schema___init__ (fun vs H Q E h => spD_len _ _ _ h) (fun cdv Ar outer s H vs Q E hr h => bodyD (N := ["self", "kinds"]) (f := b_Schema___init__) ?_ e_Schema___init__ (by decide) h)
  exact (s_one (s_fld (fl_kinds T) (pv 0) (q_fr (qf_callTy (call_list_of) sc_list rfl T.b_list (by decide +kernel) (q_cons (q_vl (pv 1)) q_nil))) rfl))
theorem sc_Schema_kind_of : FnScope ["self", "name", "kind"] ["self", "name"] (defScope (inClass (topS 24) 1)) := ⟨rfl, rfl, rfl, by decide +kernel, rfl, by decide +kernel, by decide +kernel⟩
theorem ok_Schema_kind_of (T : Txt K mg A) : FnOk P w K mg base CX0 1 A.f_Schema_kind_of A.fd_Schema_kind_of ["self", "name"] (spD K (S A) false 2 d_Schema_kind_of) := by
  refine T.F_Schema_kind_of.ok sc_Schema_kind_of (fun vs H Q E h => spD_len _ _ _ h) (fun cdv Ar outer s H vs Q E hr h => bodyD (N := ["self", "name", "kind"]) (f := b_Schema_kind_of) ?_ e_Schema_kind_of (by decide) h)
  exact (s_cons (s_for PassesOwn.never rfl (i_seq (q_fld (fl_kinds T) (q_vl (pv 0)) rfl)) (pg_name (i := 2) sc_Schema_kind_of.nd rfl (.inl rfl)) (Dv.g_name 2)
 (s_one (s_if (q_cmpT (opOr op_eq (op_eqD (u64 hr))) so_eq (q_fld (fl_name T) (q_vl (pv 2)) rfl) (q_vl (pv 1)) (nomark _))
 (s_one (s_ret (q_vl (pv 2))))
 s_nil)))
 (s_one (s_ret (q_c pe_non fun _ => rfl))))
theorem sc__law_cells : FnScope ["script", "count", "cells", "k", "cell"] ["script", "count"] (defScope (topS 26)) := ⟨rfl, rfl, rfl, by decide +kernel, rfl, by decide +kernel, by decide +kernel⟩
theorem ok__law_cells (T : Txt K mg A) : FnOk P w K mg base CX0 1 A.f__law_cells A.fd__law_cells ["script", "count"] (spD K (S A) true 2 d__law_cells) := by
  refine T.F__law_cells.ok sc__law_cells (fun vs H Q E h => spD_len _ _ _ h) (fun cdv Ar outer s H vs Q E hr h => bodyD (N := ["script", "count", "cells", "k", "cell"]) (f := b__law_cells) ?_ e__law_cells (by decide) h)
  exact (s_cons (s_box (i := 2) sc__law_cells.nd rfl (.inl rfl) (qf_lst q_nil))
 (s_cons (s_for PassesOwn.never rfl (i_rng1 rfl T.b_range (q_cons (q_vl (pv 1)) q_nil)) (pg_name (i := 3) sc__law_cells.nd rfl (.inl rfl)) (Dv.g_name 3)
 (s_cons (s_set (i := 4) sc__law_cells.nd rfl (.inl rfl) (q_op (opOr op_add (opOr op_add_str op_cat)) so_add (q_op op_mul so_mul (q_c pe_int fun _ => rfl) (q_vl (pv 3))) (q_c pe_int fun _ => rfl)))
 (s_cons (s_if (q_cmpT (opOr op_lt op_lt_str) so_cmp (q_vl (pv 3)) (q_callB call_len sc_len rfl T.b_len (by decide +kernel) (q_cons (q_vl (pv 0)) q_nil)) (nomark _))
 (s_cons (s_set (i := 4) sc__law_cells.nd rfl (.inl rfl) (q_callTy call_int1 sc_int rfl T.b_int (by decide +kernel) (q_cons (q_ix ix_seq so_ix (q_vl (pv 0)) (q_vl (pv 3)) (fun _ _ => rfl)) q_nil)))
 (s_one (s_if (q_cmpT (opOr op_lt op_lt_str) so_cmp (q_vl (pv 4)) (q_c pe_int fun _ => rfl) (nomark _))
 (s_one (s_set (i := 4) sc__law_cells.nd rfl (.inl rfl) (q_op op_sub so_sub (q_c pe_int fun _ => rfl) (q_op op_mul so_mul (q_c pe_int fun _ => rfl) (q_vl (pv 4))))))
 s_nil)))
 s_nil)
 (s_cons (s_if (q_cmpT (opOr op_lt op_lt_str) so_cmp (q_vl (pv 4)) (q_c pe_int fun _ => rfl) (nomark _))
 (s_cons (s_set (i := 4) sc__law_cells.nd rfl (.inl rfl) (q_op op_modN so_mod (q_callTy call_int1 sc_int rfl T.b_int (by decide +kernel) (q_cons (q_op (opOr op_add (opOr op_add_str op_cat)) so_add (q_op (opOr op_add (opOr op_add_str op_cat)) so_add (q_op op_mul so_mul (q_callTy call_int1 sc_int rfl T.b_int (by decide +kernel) (q_cons (q_vl (pv 4)) q_nil)) (q_c pe_int fun _ => rfl)) (q_op op_mul so_mul (q_c pe_int fun _ => rfl) (q_vl (pv 3)))) (q_c pe_int fun _ => rfl)) q_nil)) (q_c pe_int fun _ => rfl)))
 (s_one (s_set (i := 4) sc__law_cells.nd rfl (.inl rfl) (q_op op_modN so_mod (q_callTy call_int1 sc_int rfl T.b_int (by decide +kernel) (q_cons (q_op (opOr op_add (opOr op_add_str op_cat)) so_add (q_op op_mul so_mul (q_callTy call_int1 sc_int rfl T.b_int (by decide +kernel) (q_cons (q_vl (pv 4)) q_nil)) (q_c pe_int fun _ => rfl)) (q_c pe_int fun _ => rfl)) q_nil)) (q_c pe_int fun _ => rfl)))))
 s_nil)
 (s_one (s_expr (q_own PySem.F.plainAttrs_list PySem.F.slot_list_append PySem.F.type_list_append mt_append sm_app (pv 2) (q_cons (q_vl (pv 4)) q_nil))))))))
 (s_one (s_retV (pv 2)))))
theorem sc__law_draw : FnScope ["draws", "bound", "amount"] ["draws", "bound"] (defScope (topS 27)) := ⟨rfl, rfl, rfl, by decide +kernel, rfl, by decide +kernel, by decide +kernel⟩
theorem ok__law_draw (T : Txt K mg A) : FnOk P w K mg base CX0 1 A.f__law_draw A.fd__law_draw ["draws", "bound"] (spD K (S A) false 2 d__law_draw) := by
  refine T.F__law_draw.ok sc__law_draw (fun vs H Q E h => spD_len _ _ _ h) (fun cdv Ar outer s H vs Q E hr h => bodyD (N := ["draws", "bound", "amount"]) (f := b__law_draw) ?_ e__law_draw (by decide) h)
  exact (s_cons (s_if (q_pt (q_wand (q_borT (q_cmpT (opOr op_eq (op_eqD (u64 hr))) so_eq (q_ix ix_seq so_ix (q_vl (pv 0)) (q_c pe_int fun _ => rfl) (fun _ _ => rfl)) (q_c pe_int fun _ => rfl) (nomark _))) (q_wand1 (q_borT (q_cmpT (opOr op_gt op_gt_str) so_cmp (q_callB call_len sc_len rfl T.b_len (by decide +kernel) (q_cons (q_vl (pv 0)) q_nil)) (q_c pe_int fun _ => rfl) (nomark _))))))
 (s_one (s_expr (q_own PySem.F.plainAttrs_list PySem.F.slot_list_pop PySem.F.type_list_pop mt_popAt sm_popAt (pv 0) (q_cons (q_c pe_int fun _ => rfl) q_nil))))
 s_nil)
 (s_cons (s_set (i := 2) sc__law_draw.nd rfl (.inl rfl) (q_bor (q_op op_modN so_mod (q_callTy call_int1 sc_int rfl T.b_int (by decide +kernel) (q_cons (q_ix ix_seq so_ix (q_vl (pv 0)) (q_c pe_int fun _ => rfl) (fun _ _ => rfl)) q_nil)) (q_vl (pv 1)))))
 (s_cons (s_setIx (pv 0) (q_c pe_int fun _ => rfl) (q_bor (q_op op_fdivN so_fdv (q_ix ix_seq so_ix (q_vl (pv 0)) (q_c pe_int fun _ => rfl) (fun _ _ => rfl)) (q_vl (pv 1)))) (pg_sub (pv 0) (q_c pe_int fun _ => rfl) set_list))
 (s_one (s_ret (q_vl (pv 2)))))))
theorem sc__law_names : FnScope ["kind"] ["kind"] (defScope (topS 29)) := ⟨rfl, rfl, rfl, by decide +kernel, rfl, by decide +kernel, by decide +kernel⟩
theorem ok__law_names (T : Txt K mg A) : FnOk P w K mg base CX0 1 A.f__law_names A.fd__law_names ["kind"] (spD K (S A) false 1 d__law_names) := by
  refine T.F__law_names.ok sc__law_names (fun vs H Q E h => spD_len _ _ _ h) (fun cdv Ar outer s H vs Q E hr h => bodyD (N := ["kind"]) (f := b__law_names) ?_ e__law_names (by decide) h)
  exact (s_cons (s_if (q_cmpT (opOr op_eq (op_eqD (u64 hr))) so_eq (q_vl (pv 0)) (q_c pe_str fun _ => rfl) (nomark _))
 (s_one (s_ret (q_fr (qf_lst (q_cons (q_c pe_str fun _ => rfl) (q_cons (q_c pe_str fun _ => rfl) (q_cons (q_c pe_str fun _ => rfl) (q_cons (q_c pe_str fun _ => rfl) q_nil))))))))
 s_nil)
 (s_one (s_ret (q_fr (qf_lst (q_cons (q_c pe_str fun _ => rfl) (q_cons (q_c pe_str fun _ => rfl) (q_cons (q_c pe_str fun _ => rfl) q_nil))))))))
theorem sc__law_shown : FnScope ["picture", "number"] ["picture"] (defScope (topS 36)) := ⟨rfl, rfl, rfl, by decide +kernel, rfl, by decide +kernel, by decide +kernel⟩
theorem ok__law_shown (T : Txt K mg A) : FnG P w K mg base CX0 1 A.f__law_shown A.fd__law_shown ["picture"] (spD K (S A) false 1 d__law_shown) := by
  refine okG T.F__law_shown sc__law_shown (fun vs H Q E h => spD_len _ _ _ h) (fun cdv Ar gd outer s H vs Q E hr h => bodyD (N := ["picture", "number"]) (f := b__law_shown) ?_ e__law_shown (by decide) h)
  exact (s_one (s_ret (q_fr (qf_lc (vs := [1]) rfl sc__law_shown.nd (i_seq (q_fr (qf_callB (cr_sortedI) sc_sorted rfl T.b_sorted (by decide +kernel) (q_cons (q_fr (qf_callTy (call_listD rfl) sc_listD rfl T.b_list (by decide +kernel) (q_cons (q_vl (pv 0)) q_nil))) q_nil)))) (blkOk_by (own := [("number", 1)]) (N := ["picture", "number"]) (sc := defScope (topS 36)) (by decide +kernel)) rfl (fun _ _ _ _ _ => (pg_name (i := 1) sc__law_shown.nd rfl (Or.inl rfl))) (Dv.g_name 1) (by decide) (fun _ _ _ _ _ => pts_nil) (fun _ _ _ h => yes_ok h) (fun _ _ _ _ _ => by exact (q_tup (q_cons (q_vl (pv 1)) (q_cons (q_fld (fl_kind T) (q_dget (u1 hr) (q_vl (pv 0)) (q_vl (pv 1)) (fun _ _ => rfl)) rfl) (q_cons (q_callB (call_reprD gd (u80 hr)) sc_repr rfl T.b_repr (by decide +kernel) (q_cons (q_fld (fl_contents T) (q_dget (u1 hr) (q_vl (pv 0)) (q_vl (pv 1)) (fun _ _ => rfl)) rfl) q_nil)) q_nil)))))))))
theorem sc_is_link : FnScope ["shape"] ["shape"] (defScope (topS 8)) := ⟨rfl, rfl, rfl, by decide +kernel, rfl, by decide +kernel, by decide +kernel⟩
theorem ok_is_link (T : Txt K mg A) : FnOk P w K mg base CX0 2 A.f_is_link A.fd_is_link ["shape"] (spD K (S A) false 1 d_is_link) := by
  refine T.F_is_link.ok sc_is_link (fun vs H Q E h => spD_len _ _ _ h) (fun cdv Ar outer s H vs Q E hr h => bodyD (N := ["shape"]) (f := b_is_link) ?_ e_is_link (by decide) h)
  exact (s_one (s_ret (q_or (q_call (ok_is_reference T) (hr.mono (by decide)) (by rfl) T.g_is_reference T.F_is_reference.kp T.b_is_reference pass0 (g_val (q_vl (pv 0)) g_nil)) (q_one (q_call (ok_is_list T) (hr.mono (by decide)) (by rfl) T.g_is_list T.F_is_list.kp T.b_is_list pass0 (g_val (q_vl (pv 0)) g_nil))))))
theorem sc_Thing___init__ : FnScope ["self", "kind", "contents", "name", "content"] ["self", "kind", "contents"] (defScope (inClass (topS 10) 0)) := ⟨rfl, rfl, rfl, by decide +kernel, rfl, by decide +kernel, by decide +kernel⟩
theorem ok_Thing___init__ (T : Txt K mg A) : FnOk P w K mg base CX0 2 A.f_Thing___init__ A.fd_Thing___init__ ["self", "kind", "contents"] (spD K (S A) false 3 d_Thing___init__) := by
  refine T.F_Thing___init__.ok sc_Thing___init__ (fun vs H Q E h => spD_len _ _ _ h) (fun cdv Ar outer s H vs Q E hr h => bodyD (N := ["self", "kind", "contents", "name", "content"]) (f := b_Thing___init__) ?_ e_Thing___init__ (by decide) h)
  exact (s_cons (s_fld (fl_kind T) (pv 0) (q_vl (pv 1)) rfl)
 (s_one (s_fld (fl_contents T) (pv 0) (q_fr (qf_dcD (vs := [3, 4]) rfl sc_Thing___init__.nd (pi_items (pv 2)) wk_items Dv.p_slot (blkOk_by (own := [("name", 3), ("content", 4)]) (N := ["self", "kind", "contents", "name", "content"]) (sc := defScope (inClass (topS 10) 0)) (by decide +kernel)) rfl (fun _ _ _ _ _ => (pg_tup rfl (pgs_cons (pg_name (i := 3) sc_Thing___init__.nd rfl (Or.inl rfl)) (pgs_cons (pg_name (i := 4) sc_Thing___init__.nd rfl (Or.inl rfl)) pgs_nil)))) (Dv.g_tup (gs_cons (Dv.g_name 3) (gs_cons (Dv.g_name 4) gs_nil))) (by decide) (fun _ _ _ _ _ => pts_nil) (fun _ _ _ h => yes_ok h) (fun _ _ _ _ _ => by exact (q_vl (pv 3))) (fun _ _ _ _ _ => by exact (q_call (ok_content_copy T) (hr.mono (by decide)) (by rfl) T.g_content_copy T.F_content_copy.kp T.b_content_copy pass0 (g_val (q_vl (pv 4)) g_nil))))) rfl)))
theorem sc_holds_any : FnScope ["content", "gone", "number"] ["content", "gone"] (defScope (topS 16)) := ⟨rfl, rfl, rfl, by decide +kernel, rfl, by decide +kernel, by decide +kernel⟩
theorem ok_holds_any (T : Txt K mg A) : FnOk P w K mg base CX0 2 A.f_holds_any A.fd_holds_any ["content", "gone"] (spD K (S A) false 2 d_holds_any) := by
  refine T.F_holds_any.ok sc_holds_any (fun vs H Q E h => spD_len _ _ _ h) (fun cdv Ar outer s H vs Q E hr h => bodyD (N := ["content", "gone", "number"]) (f := b_holds_any) ?_ e_holds_any (by decide) h)
  exact (s_one (s_ret (q_callB (cr_any rfl) sc_any rfl T.b_any (by decide +kernel) (q_cons (q_fr (qf_lc (vs := [2]) rfl sc_holds_any.nd (i_seq (q_vl (pv 1))) (blkOk_by (own := [("number", 2)]) (N := ["content", "gone", "number"]) (sc := defScope (topS 16)) (by decide +kernel)) rfl (fun _ _ _ _ _ => (pg_name (i := 2) sc_holds_any.nd rfl (Or.inl rfl))) (Dv.g_name 2) (by decide) (fun _ _ _ _ _ => pts_nil) (fun _ _ _ h => yes_ok h) (fun _ _ _ _ _ => by exact (q_call (ok_holds_number T) (hr.mono (by decide)) (by rfl) T.g_holds_number T.F_holds_number.kp T.b_holds_number pass0 (g_val (q_vl (pv 0)) (g_val (q_vl (pv 2)) g_nil)))))) q_nil))))
theorem sc_Schema_field_of : FnScope ["self", "kind", "name", "found"] ["self", "kind", "name"] (defScope (inClass (topS 24) 2)) := ⟨rfl, rfl, rfl, by decide +kernel, rfl, by decide +kernel, by decide +kernel⟩
theorem ok_Schema_field_of (T : Txt K mg A) : FnOk P w K mg base CX0 2 A.f_Schema_field_of A.fd_Schema_field_of ["self", "kind", "name"] (spD K (S A) false 3 d_Schema_field_of) := by
  refine T.F_Schema_field_of.ok sc_Schema_field_of (fun vs H Q E h => spD_len _ _ _ h) (fun cdv Ar outer s H vs Q E hr h => bodyD (N := ["self", "kind", "name", "found"]) (f := b_Schema_field_of) ?_ e_Schema_field_of (by decide) h)
  exact (s_cons (s_set (i := 3) sc_Schema_field_of.nd rfl (.inl rfl) (q_meth (q_vl (pv 0)) (mt_cons ⟨T.cl_Schema, T.me_Schema_kind_of, _, _, (ok_Schema_kind_of T).mono (show 1 ≤ 1 by decide), T.b_Schema_kind_of⟩ mt_nil) (hr.mono (by decide)) pass0 (g_val (q_vl (pv 1)) g_nil)))
 (s_one (s_ret (q_if (q_cmpT op_isN so_is (q_vl (pv 3)) (q_c pe_non fun _ => rfl) (nomark _)) (q_c pe_non fun _ => rfl) (q_meth (q_vl (pv 3)) (mt_cons ⟨T.cl_Kind, T.me_Kind_field_of, _, _, (ok_Kind_field_of T).mono (show 1 ≤ 1 by decide), T.b_Kind_field_of⟩ mt_nil) (hr.mono (by decide)) pass0 (g_val (q_vl (pv 2)) g_nil))))))
theorem sc__law_pick : FnScope ["draws", "row"] ["draws", "row"] (defScope (topS 28)) := ⟨rfl, rfl, rfl, by decide +kernel, rfl, by decide +kernel, by decide +kernel⟩
theorem ok__law_pick (T : Txt K mg A) : FnOk P w K mg base CX0 2 A.f__law_pick A.fd__law_pick ["draws", "row"] (spD K (S A) false 2 d__law_pick) := by
  refine T.F__law_pick.ok sc__law_pick (fun vs H Q E h => spD_len _ _ _ h) (fun cdv Ar outer s H vs Q E hr h => bodyD (N := ["draws", "row"]) (f := b__law_pick) ?_ e__law_pick (by decide) h)
  exact (s_one (s_ret (q_ix ix_seq so_ix (q_vl (pv 1)) (q_call (ok__law_draw T) (hr.mono (by decide)) (by rfl) T.g__law_draw T.F__law_draw.kp T.b__law_draw pass0 (g_slot (pv 0) (g_val (q_callB call_len sc_len rfl T.b_len (by decide +kernel) (q_cons (q_vl (pv 1)) q_nil)) g_nil))) (fun _ _ => rfl))))
theorem sc__law_number : FnScope ["draws", "digit"] ["draws"] (defScope (topS 32)) := ⟨rfl, rfl, rfl, by decide +kernel, rfl, by decide +kernel, by decide +kernel⟩
theorem ok__law_number (T : Txt K mg A) : FnOk P w K mg base CX0 2 A.f__law_number A.fd__law_number ["draws"] (spD K (S A) false 1 d__law_number) := by
  refine T.F__law_number.ok sc__law_number (fun vs H Q E h => spD_len _ _ _ h) (fun cdv Ar outer s H vs Q E hr h => bodyD (N := ["draws", "digit"]) (f := b__law_number) ?_ e__law_number (by decide) h)
  exact (s_cons (s_set (i := 1) sc__law_number.nd rfl (.inl rfl) (q_call (ok__law_draw T) (hr.mono (by decide)) (by rfl) T.g__law_draw T.F__law_draw.kp T.b__law_draw pass0 (g_slot (pv 0) (g_val (q_c pe_int fun _ => rfl) g_nil))))
 (s_cons (s_if (q_cmpT (opOr op_eq (op_eqD (u64 hr))) so_eq (q_vl (pv 1)) (q_c pe_int fun _ => rfl) (nomark _))
 (s_one (s_ret (q_c pe_non fun _ => rfl)))
 s_nil)
 (s_one (s_ret (q_vl (pv 1))))))
theorem sc__law_list : FnScope ["draws", "row", "_law_turn", "digit"] ["draws"] (defScope (topS 33)) := ⟨rfl, rfl, rfl, by decide +kernel, rfl, by decide +kernel, by decide +kernel⟩
theorem ok__law_list (T : Txt K mg A) : FnOk P w K mg base CX0 2 A.f__law_list A.fd__law_list ["draws"] (spD K (S A) false 1 d__law_list) := by
  refine T.F__law_list.ok sc__law_list (fun vs H Q E h => spD_len _ _ _ h) (fun cdv Ar outer s H vs Q E hr h => bodyD (N := ["draws", "row", "_law_turn", "digit"]) (f := b__law_list) ?_ e__law_list (by decide) h)
  exact (s_cons (s_box (i := 1) sc__law_list.nd rfl (.inl rfl) (qf_lst q_nil))
 (s_cons (s_for PassesOwn.never rfl (i_rng1 rfl T.b_range (q_cons (q_call (ok__law_draw T) (hr.mono (by decide)) (by rfl) T.g__law_draw T.F__law_draw.kp T.b__law_draw pass0 (g_slot (pv 0) (g_val (q_c pe_int fun _ => rfl) g_nil))) q_nil)) (pg_name (i := 2) sc__law_list.nd rfl (.inl rfl)) (Dv.g_name 2)
 (s_cons (s_set (i := 3) sc__law_list.nd rfl (.inl rfl) (q_op (opOr op_add (opOr op_add_str op_cat)) so_add (q_c pe_int fun _ => rfl) (q_call (ok__law_draw T) (hr.mono (by decide)) (by rfl) T.g__law_draw T.F__law_draw.kp T.b__law_draw pass0 (g_slot (pv 0) (g_val (q_c pe_int fun _ => rfl) g_nil)))))
 (s_one (s_if (q_borT (q_cmpT (opOr op_notIn_seq (op_notInD (u65 hr))) (so_or (so_in true) so_notInD) (q_vl (pv 3)) (q_vl (pv 1)) (by rfl)))
 (s_one (s_expr (q_own PySem.F.plainAttrs_list PySem.F.slot_list_append PySem.F.type_list_append mt_append sm_app (pv 1) (q_cons (q_vl (pv 3)) q_nil))))
 s_nil))))
 (s_one (s_ret (q_var (pv 1))))))
theorem sc__law_due : FnScope ["picture", "gone", "rows", "number", "thing", "known", "name", "content", "other"] ["picture", "gone"] (defScope (topS 37)) := ⟨rfl, rfl, rfl, by decide +kernel, rfl, by decide +kernel, by decide +kernel⟩
theorem ok__law_due (T : Txt K mg A) : FnG P w K mg base CX0 2 A.f__law_due A.fd__law_due ["picture", "gone"] (spD K (S A) false 2 d__law_due) := by
  refine okG T.F__law_due sc__law_due (fun vs H Q E h => spD_len _ _ _ h) (fun cdv Ar gd outer s H vs Q E hr h => bodyD (N := ["picture", "gone", "rows", "number", "thing", "known", "name", "content", "other"]) (f := b__law_due) ?_ e__law_due (by decide) h)
  exact (s_cons (s_box (i := 2) sc__law_due.nd rfl (.inl rfl) (qf_lst q_nil))
 (s_cons (s_for PassesOwn.never rfl (i_seq (q_fr (qf_callB (cr_sortedI) sc_sorted rfl T.b_sorted (by decide +kernel) (q_cons (q_fr (qf_callTy (call_listD rfl) sc_listD rfl T.b_list (by decide +kernel) (q_cons (q_vl (pv 0)) q_nil))) q_nil)))) (pg_name (i := 3) sc__law_due.nd rfl (.inl rfl)) (Dv.g_name 3)
 (s_cons (s_set (i := 4) sc__law_due.nd rfl (.inl rfl) (q_dget (u1 hr) (q_vl (pv 0)) (q_vl (pv 3)) (fun _ _ => rfl)))
 (s_cons (s_box (i := 5) sc__law_due.nd rfl (.inl rfl) qf_dnew)
 (s_cons (s_for PassesOwn.never rfl (i_seq (q_call (ok__law_names T) (hr.mono (by decide)) (by rfl) T.g__law_names T.F__law_names.kp T.b__law_names pass0 (g_val (q_fld (fl_kind T) (q_vl (pv 4)) rfl) g_nil))) (pg_name (i := 6) sc__law_due.nd rfl (.inl rfl)) (Dv.g_name 6)
 (s_cons (s_set (i := 7) sc__law_due.nd rfl (.inl rfl) (q_dget (u1 hr) (q_fld (fl_contents T) (q_vl (pv 4)) rfl) (q_vl (pv 6)) (fun _ _ => rfl)))
 (s_cons (s_if (q_pt (q_wand (q_cmpT (opOr op_in_seq (op_inD (u65 hr))) (so_or (so_in false) so_inD) (q_vl (pv 6)) (q_fr (qf_lst (q_cons (q_c pe_str fun _ => rfl) (q_cons (q_c pe_str fun _ => rfl) (q_cons (q_c pe_str fun _ => rfl) q_nil))))) (by rfl)) (q_wand1 (q_cmpT (opOr op_in_seq (op_inD (u65 hr))) (so_or (so_in false) so_inD) (q_var (pv 7)) (q_vl (pv 1)) (by rfl)))))
 (s_one (s_set (i := 7) sc__law_due.nd rfl (.inl rfl) (q_c pe_non fun _ => rfl)))
 s_nil)
 (s_cons (s_if (q_cmpT (opOr op_in_seq (op_inD (u65 hr))) (so_or (so_in false) so_inD) (q_vl (pv 6)) (q_fr (qf_lst (q_cons (q_c pe_str fun _ => rfl) (q_cons (q_c pe_str fun _ => rfl) q_nil)))) (by rfl))
 (s_one (s_setLc (i := 7) (vs := [8]) rfl sc__law_due.nd rfl rfl (sw_true rfl rfl rfl (by decide +kernel)) (i_seq (q_var (pv 7))) (blkOk_by (own := [("other", 8)]) (N := ["picture", "gone", "rows", "number", "thing", "known", "name", "content", "other"]) (sc := defScope (topS 37)) (by decide +kernel)) rfl (fun _ _ _ _ _ => (pg_name (i := 8) sc__law_due.nd rfl (Or.inl rfl))) (Dv.g_name 8) (by decide) (fun _ _ _ _ _ => pts_one (by exact (q_cmpT (opOr op_notIn_seq (op_notInD (u65 hr))) (so_or (so_in true) so_notInD) (q_vl (pv 8)) (q_vl (pv 1)) (by rfl)))) (fun _ _ _ h => h) (fun _ _ _ _ _ => by exact (q_vl (pv 8)))))
 s_nil)
 (s_one (s_dput (u1 hr) (pv 5) (q_vl (pv 6)) (q_var (pv 7)) rfl))))))
 (s_one (s_expr (q_own PySem.F.plainAttrs_list PySem.F.slot_list_append PySem.F.type_list_append mt_append sm_app (pv 2) (q_cons (q_tup (q_cons (q_vl (pv 3)) (q_cons (q_fld (fl_kind T) (q_vl (pv 4)) rfl) (q_cons (q_bor (q_callB (call_reprD gd (u80 hr)) sc_repr rfl T.b_repr (by decide +kernel) (q_cons (q_vl (pv 5)) q_nil))) q_nil)))) q_nil))))))))
 (s_one (s_ret (q_var (pv 2))))))
theorem sc_without_any : FnScope ["content", "gone", "number"] ["content", "gone"] (defScope (topS 15)) := ⟨rfl, rfl, rfl, by decide +kernel, rfl, by decide +kernel, by decide +kernel⟩
theorem ok_without_any (T : Txt K mg A) : FnOk P w K mg base CX0 3 A.f_without_any A.fd_without_any ["content", "gone"] (spD K (S A) false 2 d_without_any) := by
  refine T.F_without_any.ok sc_without_any (fun vs H Q E h => spD_len _ _ _ h) (fun cdv Ar outer s H vs Q E hr h => bodyD (N := ["content", "gone", "number"]) (f := b_without_any) ?_ e_without_any (by decide) h)
  exact (s_cons (s_if (q_val (q_callB call_isi (sc_is (isk T)) rfl T.b_isinstance (by decide +kernel) (q_cons (q_vl (pv 0)) (q_cons (q_c (pe_bltn (v := .ty "list") rfl T.b_list (by decide +kernel) rfl) fun _ => rfl) q_nil))))
 (s_one (s_ret (q_fr (qf_lc (vs := [2]) rfl sc_without_any.nd (i_seq (q_vl (pv 0))) (blkOk_by (own := [("number", 2)]) (N := ["content", "gone", "number"]) (sc := defScope (topS 15)) (by decide +kernel)) rfl (fun _ _ _ _ _ => (pg_name (i := 2) sc_without_any.nd rfl (Or.inl rfl))) (Dv.g_name 2) (by decide) (fun _ _ _ _ _ => pts_one (by exact (q_cmpT (opOr op_notIn_seq (op_notInD (u65 hr))) (so_or (so_in true) so_notInD) (q_vl (pv 2)) (q_vl (pv 1)) (by rfl)))) (fun _ _ _ h => h) (fun _ _ _ _ _ => by exact (q_vl (pv 2)))))))
 s_nil)
 (s_one (s_ret (q_if (q_val (q_call (ok_holds_any T) (hr.mono (by decide)) (by rfl) T.g_holds_any T.F_holds_any.kp T.b_holds_any pass0 (g_val (q_vl (pv 0)) (g_val (q_vl (pv 1)) g_nil)))) (q_c pe_non fun _ => rfl) (q_vl (pv 0))))))
theorem sc__law_rules : FnScope ["draws", "_law_turn"] ["draws"] (defScope (topS 30)) := ⟨rfl, rfl, rfl, by decide +kernel, rfl, by decide +kernel, by decide +kernel⟩
theorem ok__law_rules (T : Txt K mg A) : FnOk P w K mg base CX0 3 A.f__law_rules A.fd__law_rules ["draws"] (spD K (S A) false 1 d__law_rules) := by
  refine T.F__law_rules.ok sc__law_rules (fun vs H Q E h => spD_len _ _ _ h) (fun cdv Ar outer s H vs Q E hr h => bodyD (N := ["draws", "_law_turn"]) (f := b__law_rules) ?_ e__law_rules (by decide) h)
  exact (s_one (s_ret (q_fr (qf_lc (vs := [1]) rfl sc__law_rules.nd (i_rng1 rfl T.b_range (q_cons (q_c pe_int fun _ => rfl) q_nil)) (blkOk_by (own := [("_law_turn", 1)]) (N := ["draws", "_law_turn"]) (sc := defScope (topS 30)) (by decide +kernel)) rfl (fun _ _ _ _ _ => (pg_name (i := 1) sc__law_rules.nd rfl (Or.inl rfl))) (Dv.g_name 1) (by decide) (fun _ _ _ _ _ => pts_nil) (fun _ _ _ h => yes_ok h) (fun _ _ _ _ _ => by exact (q_call (ok__law_pick T) (hr.mono (by decide)) (by rfl) T.g__law_pick T.F__law_pick.kp T.b__law_pick pass0 (g_slot (pv 0) (g_val (q_fr (qf_lst (q_cons (q_c pe_str fun _ => rfl) (q_cons (q_c pe_str fun _ => rfl) (q_cons (q_c pe_str fun _ => rfl) q_nil))))) g_nil))))))))
theorem sc__law_schema : FnScope ["rules", "needed", "first", "second"] ["rules", "needed"] (defScope (topS 31)) := ⟨rfl, rfl, rfl, by decide +kernel, rfl, by decide +kernel, by decide +kernel⟩
theorem ok__law_schema (T : Txt K mg A) : FnOk P w K mg base CX0 3 A.f__law_schema A.fd__law_schema ["rules", "needed"] (spD K (S A) false 2 d__law_schema) := by
  refine T.F__law_schema.ok sc__law_schema (fun vs H Q E h => spD_len _ _ _ h) (fun cdv Ar outer s H vs Q E hr h => bodyD (N := ["rules", "needed", "first", "second"]) (f := b__law_schema) ?_ e__law_schema (by decide) h)
  exact (s_cons (s_set (i := 2) sc__law_schema.nd rfl (.inl rfl) (q_fr (qf_make (ci := 7) (dcs := []) (fun _ => rfl) T.mk_Kind (ok_Kind___init__ T) (hr.mono (by decide)) (by rfl) T.g_Kind T.b_Kind___init__ .nil pass0 (q_cons (q_c pe_str fun _ => rfl) (q_cons (q_fr (qf_lst (q_cons (q_fr (qf_make (ci := 6) (dcs := []) (fun _ => rfl) T.mk_Field (ok_Field___init__ T) (hr.mono (by decide)) (by rfl) T.g_Field T.b_Field___init__ .nil pass0 (q_cons (q_c pe_str fun _ => rfl) (q_cons (q_fr (qf_make (ci := 0) (dcs := []) (fun _ => rfl) T.mk_IntSort (ok_IntSort___init__ T) (hr.mono (by decide)) (by rfl) T.g_IntSort T.b_IntSort___init__ .nil pass0 (q_cons (q_c pe_int fun _ => rfl) (q_cons (q_c pe_int fun _ => rfl) q_nil)))) (q_cons (q_vl (pv 1)) q_nil))))) (q_cons (q_fr (qf_make (ci := 6) (dcs := [.bl false]) (fun _ => ⟨_, _, rfl, rfl, rfl⟩) T.mk_Field (ok_Field___init__ T) (hr.mono (by decide)) (by rfl) T.g_Field T.b1_Field___init__.choose_spec.2 T.b1_Field___init__.choose_spec.1 pass0 (q_cons (q_c pe_str fun _ => rfl) (q_cons (q_fr (qf_make (ci := 1) (dcs := [.non]) (fun _ => ⟨_, _, rfl, rfl, rfl⟩) T.mk_TextSort (ok_TextSort___init__ T) (hr.mono (by decide)) (by rfl) T.g_TextSort T.b1_TextSort___init__.choose_spec.2 T.b1_TextSort___init__.choose_spec.1 pass0 (q_cons (q_c pe_int fun _ => rfl) q_nil))) q_nil)))) (q_cons (q_fr (qf_make (ci := 6) (dcs := [.bl false]) (fun _ => ⟨_, _, rfl, rfl, rfl⟩) T.mk_Field (ok_Field___init__ T) (hr.mono (by decide)) (by rfl) T.g_Field T.b1_Field___init__.choose_spec.2 T.b1_Field___init__.choose_spec.1 pass0 (q_cons (q_c pe_str fun _ => rfl) (q_cons (q_fr (qf_make (ci := 2) (dcs := []) (fun _ => rfl) T.mk_RefSort (ok_RefSort___init__ T) (hr.mono (by decide)) (by rfl) T.g_RefSort T.b_RefSort___init__ .nil pass0 (q_cons (q_fr (qf_lst (q_cons (q_c pe_str fun _ => rfl) (q_cons (q_c pe_str fun _ => rfl) q_nil)))) (q_cons (q_ix ix_seq so_ix (q_vl (pv 0)) (q_c pe_int fun _ => rfl) (fun _ _ => rfl)) q_nil)))) q_nil)))) (q_cons (q_fr (qf_make (ci := 6) (dcs := [.bl false]) (fun _ => ⟨_, _, rfl, rfl, rfl⟩) T.mk_Field (ok_Field___init__ T) (hr.mono (by decide)) (by rfl) T.g_Field T.b1_Field___init__.choose_spec.2 T.b1_Field___init__.choose_spec.1 pass0 (q_cons (q_c pe_str fun _ => rfl) (q_cons (q_fr (qf_make (ci := 3) (dcs := []) (fun _ => rfl) T.mk_ListSort (ok_ListSort___init__ T) (hr.mono (by decide)) (by rfl) T.g_ListSort T.b_ListSort___init__ .nil pass0 (q_cons (q_fr (qf_lst (q_cons (q_c pe_str fun _ => rfl) q_nil))) q_nil))) q_nil)))) q_nil)))))) (q_cons (q_fr (qf_lst (q_cons (q_fr (qf_lst (q_cons (q_c pe_str fun _ => rfl) (q_cons (q_c pe_str fun _ => rfl) q_nil)))) q_nil))) q_nil))))))
 (s_cons (s_set (i := 3) sc__law_schema.nd rfl (.inl rfl) (q_fr (qf_make (ci := 7) (dcs := []) (fun _ => rfl) T.mk_Kind (ok_Kind___init__ T) (hr.mono (by decide)) (by rfl) T.g_Kind T.b_Kind___init__ .nil pass0 (q_cons (q_c pe_str fun _ => rfl) (q_cons (q_fr (qf_lst (q_cons (q_fr (qf_make (ci := 6) (dcs := []) (fun _ => rfl) T.mk_Field (ok_Field___init__ T) (hr.mono (by decide)) (by rfl) T.g_Field T.b_Field___init__ .nil pass0 (q_cons (q_c pe_str fun _ => rfl) (q_cons (q_fr (qf_make (ci := 2) (dcs := []) (fun _ => rfl) T.mk_RefSort (ok_RefSort___init__ T) (hr.mono (by decide)) (by rfl) T.g_RefSort T.b_RefSort___init__ .nil pass0 (q_cons (q_fr (qf_lst (q_cons (q_c pe_str fun _ => rfl) q_nil))) (q_cons (q_ix ix_seq so_ix (q_vl (pv 0)) (q_c pe_int fun _ => rfl) (fun _ _ => rfl)) q_nil)))) (q_cons (q_vl (pv 1)) q_nil))))) (q_cons (q_fr (qf_make (ci := 6) (dcs := [.bl false]) (fun _ => ⟨_, _, rfl, rfl, rfl⟩) T.mk_Field (ok_Field___init__ T) (hr.mono (by decide)) (by rfl) T.g_Field T.b1_Field___init__.choose_spec.2 T.b1_Field___init__.choose_spec.1 pass0 (q_cons (q_c pe_str fun _ => rfl) (q_cons (q_fr (qf_make (ci := 2) (dcs := []) (fun _ => rfl) T.mk_RefSort (ok_RefSort___init__ T) (hr.mono (by decide)) (by rfl) T.g_RefSort T.b_RefSort___init__ .nil pass0 (q_cons (q_fr (qf_lst (q_cons (q_c pe_str fun _ => rfl) q_nil))) (q_cons (q_ix ix_seq so_ix (q_vl (pv 0)) (q_c pe_int fun _ => rfl) (fun _ _ => rfl)) q_nil)))) q_nil)))) (q_cons (q_fr (qf_make (ci := 6) (dcs := [.bl false]) (fun _ => ⟨_, _, rfl, rfl, rfl⟩) T.mk_Field (ok_Field___init__ T) (hr.mono (by decide)) (by rfl) T.g_Field T.b1_Field___init__.choose_spec.2 T.b1_Field___init__.choose_spec.1 pass0 (q_cons (q_c pe_str fun _ => rfl) (q_cons (q_fr (qf_make (ci := 3) (dcs := []) (fun _ => rfl) T.mk_ListSort (ok_ListSort___init__ T) (hr.mono (by decide)) (by rfl) T.g_ListSort T.b_ListSort___init__ .nil pass0 (q_cons (q_fr (qf_lst (q_cons (q_c pe_str fun _ => rfl) (q_cons (q_c pe_str fun _ => rfl) q_nil)))) q_nil))) q_nil)))) q_nil))))) (q_cons (q_fr (qf_lst (q_cons (q_fr (qf_lst (q_cons (q_c pe_str fun _ => rfl) q_nil))) q_nil))) q_nil))))))
 (s_one (s_ret (q_fr (qf_make (ci := 8) (dcs := []) (fun _ => rfl) T.mk_Schema (ok_Schema___init__ T) (hr.mono (by decide)) (by rfl) T.g_Schema T.b_Schema___init__ .nil pass0 (q_cons (q_fr (qf_lst (q_cons (q_vl (pv 2)) (q_cons (q_vl (pv 3)) q_nil)))) q_nil)))))))
theorem sc__law_contents : FnScope ["draws", "kind", "known"] ["draws", "kind"] (defScope (topS 34)) := ⟨rfl, rfl, rfl, by decide +kernel, rfl, by decide +kernel, by decide +kernel⟩
theorem ok__law_contents (T : Txt K mg A) : FnOk P w K mg base CX0 3 A.f__law_contents A.fd__law_contents ["draws", "kind"] (spD K (S A) false 2 d__law_contents) := by
  refine T.F__law_contents.ok sc__law_contents (fun vs H Q E h => spD_len _ _ _ h) (fun cdv Ar outer s H vs Q E hr h => bodyD (N := ["draws", "kind", "known"]) (f := b__law_contents) ?_ e__law_contents (by decide) h)
  exact (s_cons (s_box (i := 2) sc__law_contents.nd rfl (.inl rfl) qf_dnew)
 (s_cons (s_if (q_cmpT (opOr op_eq (op_eqD (u64 hr))) so_eq (q_vl (pv 1)) (q_c pe_str fun _ => rfl) (nomark _))
 (s_cons (s_dput (u1 hr) (pv 2) (q_c pe_str fun _ => rfl) (q_call (ok__law_pick T) (hr.mono (by decide)) (by rfl) T.g__law_pick T.F__law_pick.kp T.b__law_pick pass0 (g_slot (pv 0) (g_val (q_fr (qf_lst (q_cons (q_c pe_non fun _ => rfl) (q_cons (q_c pe_int fun _ => rfl) (q_cons (q_c pe_int fun _ => rfl) (q_cons (q_c pe_int fun _ => rfl) (q_cons (q_c pe_int fun _ => rfl) q_nil))))))) g_nil))) rfl)
 (s_cons (s_dput (u1 hr) (pv 2) (q_c pe_str fun _ => rfl) (q_call (ok__law_pick T) (hr.mono (by decide)) (by rfl) T.g__law_pick T.F__law_pick.kp T.b__law_pick pass0 (g_slot (pv 0) (g_val (q_fr (qf_lst (q_cons (q_c pe_non fun _ => rfl) (q_cons (q_c pe_str fun _ => rfl) (q_cons (q_c pe_str fun _ => rfl) (q_cons (q_c pe_str fun _ => rfl) q_nil)))))) g_nil))) rfl)
 (s_cons (s_dput (u1 hr) (pv 2) (q_c pe_str fun _ => rfl) (q_call (ok__law_number T) (hr.mono (by decide)) (by rfl) T.g__law_number T.F__law_number.kp T.b__law_number pass0 (g_slot (pv 0) g_nil)) rfl)
 (s_cons (s_dput (u1 hr) (pv 2) (q_c pe_str fun _ => rfl) (q_call (ok__law_list T) (hr.mono (by decide)) (by rfl) T.g__law_list T.F__law_list.kp T.b__law_list pass0 (g_slot (pv 0) g_nil)) rfl)
 (s_one (s_ret (q_var (pv 2))))))))
 s_nil)
 (s_cons (s_dput (u1 hr) (pv 2) (q_c pe_str fun _ => rfl) (q_call (ok__law_number T) (hr.mono (by decide)) (by rfl) T.g__law_number T.F__law_number.kp T.b__law_number pass0 (g_slot (pv 0) g_nil)) rfl)
 (s_cons (s_dput (u1 hr) (pv 2) (q_c pe_str fun _ => rfl) (q_call (ok__law_number T) (hr.mono (by decide)) (by rfl) T.g__law_number T.F__law_number.kp T.b__law_number pass0 (g_slot (pv 0) g_nil)) rfl)
 (s_cons (s_dput (u1 hr) (pv 2) (q_c pe_str fun _ => rfl) (q_call (ok__law_list T) (hr.mono (by decide)) (by rfl) T.g__law_list T.F__law_list.kp T.b__law_list pass0 (g_slot (pv 0) g_nil)) rfl)
 (s_one (s_ret (q_var (pv 2)))))))))
theorem sc_Thing_copied : FnScope ["self"] ["self"] (defScope (inClass (topS 10) 1)) := ⟨rfl, rfl, rfl, by decide +kernel, rfl, by decide +kernel, by decide +kernel⟩
theorem ok_Thing_copied (T : Txt K mg A) : FnOk P w K mg base CX0 4 A.f_Thing_copied A.fd_Thing_copied ["self"] (spD K (S A) false 1 d_Thing_copied) := by
  refine T.F_Thing_copied.ok sc_Thing_copied (fun vs H Q E h => spD_len _ _ _ h) (fun cdv Ar outer s H vs Q E hr h => bodyD (N := ["self"]) (f := b_Thing_copied) ?_ e_Thing_copied (by decide) h)
  exact (s_one (s_ret (q_fr (qf_make (ci := 4) (dcs := []) (fun _ => rfl) T.mk_Thing (ok_Thing___init__ T) (hr.mono (by decide)) (by rfl) T.g_Thing T.b_Thing___init__ .nil pass0 (q_cons (q_fld (fl_kind T) (q_vl (pv 0)) rfl) (q_cons (q_fld (fl_contents T) (q_vl (pv 0)) rfl) q_nil))))))
theorem sc_thing_without : FnScope ["schema", "thing", "gone", "contents", "name", "content", "field"] ["schema", "thing", "gone"] (defScope (topS 20)) := ⟨rfl, rfl, rfl, by decide +kernel, rfl, by decide +kernel, by decide +kernel⟩
theorem ok_thing_without (T : Txt K mg A) : FnOk P w K mg base CX0 4 A.f_thing_without A.fd_thing_without ["schema", "thing", "gone"] (spD K (S A) false 3 d_thing_without) := by
  refine T.F_thing_without.ok sc_thing_without (fun vs H Q E h => spD_len _ _ _ h) (fun cdv Ar outer s H vs Q E hr h => bodyD (N := ["schema", "thing", "gone", "contents", "name", "content", "field"]) (f := b_thing_without) ?_ e_thing_without (by decide) h)
  exact (s_cons (s_box (i := 3) sc_thing_without.nd rfl (.inl rfl) qf_dnew)
 (s_cons (s_forD wk_items (ps_for PassesOwn.never rfl (pi_items (pe_fld (pv 1) rfl)) (pg_tup rfl (pgs_cons (pg_name (i := 4) sc_thing_without.nd rfl (.inl rfl)) (pgs_cons (pg_name (i := 5) sc_thing_without.nd rfl (.inl rfl)) pgs_nil)))
 (s_cons (s_set (i := 6) sc_thing_without.nd rfl (.inl rfl) (q_meth (q_vl (pv 0)) (mt_cons ⟨T.cl_Schema, T.me_Schema_field_of, _, _, (ok_Schema_field_of T).mono (show 2 ≤ 2 by decide), T.b_Schema_field_of⟩ mt_nil) (hr.mono (by decide)) pass0 (g_val (q_fld (fl_kind T) (q_vl (pv 1)) rfl) (g_val (q_vl (pv 4)) g_nil))))
 (s_one (s_dput (u1 hr) (pv 3) (q_vl (pv 4)) (q_if (q_val (q_call (ok_is_link T) (hr.mono (by decide)) (by rfl) T.g_is_link T.F_is_link.kp T.b_is_link pass0 (g_val (q_fld (fl_shape T) (q_vl (pv 6)) rfl) g_nil))) (q_call (ok_without_any T) (hr.mono (by decide)) (by rfl) T.g_without_any T.F_without_any.kp T.b_without_any pass0 (g_val (q_vl (pv 5)) (g_val (q_vl (pv 2)) g_nil))) (q_vl (pv 5))) rfl)))) (Dv.p_fld (fl_contents T) Dv.p_slot) (Dv.g_tup (gs_cons (Dv.g_name 4) (gs_cons (Dv.g_name 5) gs_nil))))
 (s_one (s_ret (q_fr (qf_make (ci := 4) (dcs := []) (fun _ => rfl) T.mk_Thing (ok_Thing___init__ T) (hr.mono (by decide)) (by rfl) T.g_Thing T.b_Thing___init__ .nil pass0 (q_cons (q_fld (fl_kind T) (q_vl (pv 1)) rfl) (q_cons (q_var (pv 3)) q_nil))))))))
theorem sc__law_picture : FnScope ["draws", "picture", "_law_turn", "number", "kind"] ["draws"] (defScope (topS 35)) := ⟨rfl, rfl, rfl, by decide +kernel, rfl, by decide +kernel, by decide +kernel⟩
theorem ok__law_picture (T : Txt K mg A) : FnOk P w K mg base CX0 4 A.f__law_picture A.fd__law_picture ["draws"] (spD K (S A) false 1 d__law_picture) := by
  refine T.F__law_picture.ok sc__law_picture (fun vs H Q E h => spD_len _ _ _ h) (fun cdv Ar outer s H vs Q E hr h => bodyD (N := ["draws", "picture", "_law_turn", "number", "kind"]) (f := b__law_picture) ?_ e__law_picture (by decide) h)
  exact (s_cons (s_box (i := 1) sc__law_picture.nd rfl (.inl rfl) qf_dnew)
 (s_cons (s_for PassesOwn.never rfl (i_rng1 rfl T.b_range (q_cons (q_call (ok__law_draw T) (hr.mono (by decide)) (by rfl) T.g__law_draw T.F__law_draw.kp T.b__law_draw pass0 (g_slot (pv 0) (g_val (q_c pe_int fun _ => rfl) g_nil))) q_nil)) (pg_name (i := 2) sc__law_picture.nd rfl (.inl rfl)) (Dv.g_name 2)
 (s_cons (s_set (i := 3) sc__law_picture.nd rfl (.inl rfl) (q_op (opOr op_add (opOr op_add_str op_cat)) so_add (q_c pe_int fun _ => rfl) (q_call (ok__law_draw T) (hr.mono (by decide)) (by rfl) T.g__law_draw T.F__law_draw.kp T.b__law_draw pass0 (g_slot (pv 0) (g_val (q_c pe_int fun _ => rfl) g_nil)))))
 (s_cons (s_set (i := 4) sc__law_picture.nd rfl (.inl rfl) (q_call (ok__law_pick T) (hr.mono (by decide)) (by rfl) T.g__law_pick T.F__law_pick.kp T.b__law_pick pass0 (g_slot (pv 0) (g_val (q_fr (qf_lst (q_cons (q_c pe_str fun _ => rfl) (q_cons (q_c pe_str fun _ => rfl) q_nil)))) g_nil))))
 (s_one (s_dput (u1 hr) (pv 1) (q_vl (pv 3)) (q_fr (qf_make (ci := 4) (dcs := []) (fun _ => rfl) T.mk_Thing (ok_Thing___init__ T) (hr.mono (by decide)) (by rfl) T.g_Thing T.b_Thing___init__ .nil pass0 (q_cons (q_vl (pv 4)) (q_cons (q_call (ok__law_contents T) (hr.mono (by decide)) (by rfl) T.g__law_contents T.F__law_contents.kp T.b__law_contents pass0 (g_slot (pv 0) (g_val (q_vl (pv 4)) g_nil))) q_nil)))) rfl)))))
 (s_one (s_ret (q_var (pv 1))))))
theorem sc_without_numbers : FnScope ["schema", "picture", "gone", "number", "thing"] ["schema", "picture", "gone"] (defScope (topS 19)) := ⟨rfl, rfl, rfl, by decide +kernel, rfl, by decide +kernel, by decide +kernel⟩
theorem ok_without_numbers (T : Txt K mg A) : FnOk P w K mg base CX0 5 A.f_without_numbers A.fd_without_numbers ["schema", "picture", "gone"] (spD K (S A) false 3 d_without_numbers) := by
  refine T.F_without_numbers.ok sc_without_numbers (fun vs H Q E h => spD_len _ _ _ h) (fun cdv Ar outer s H vs Q E hr h => bodyD (N := ["schema", "picture", "gone", "number", "thing"]) (f := b_without_numbers) ?_ e_without_numbers (by decide) h)
  exact (s_one (s_ret (q_fr (qf_dcD (vs := [3, 4]) rfl sc_without_numbers.nd (pi_items (pv 1)) wk_items Dv.p_slot (blkOk_by (own := [("number", 3), ("thing", 4)]) (N := ["schema", "picture", "gone", "number", "thing"]) (sc := defScope (topS 19)) (by decide +kernel)) rfl (fun _ _ _ _ _ => (pg_tup rfl (pgs_cons (pg_name (i := 3) sc_without_numbers.nd rfl (Or.inl rfl)) (pgs_cons (pg_name (i := 4) sc_without_numbers.nd rfl (Or.inl rfl)) pgs_nil)))) (Dv.g_tup (gs_cons (Dv.g_name 3) (gs_cons (Dv.g_name 4) gs_nil))) (by decide) (fun _ _ _ _ _ => pts_nil) (fun _ _ _ h => yes_ok h) (fun _ _ _ _ _ => by exact (q_vl (pv 3))) (fun _ _ _ _ _ => by exact (q_call (ok_thing_without T) (hr.mono (by decide)) (by rfl) T.g_thing_without T.F_thing_without.kp T.b_thing_without pass0 (g_val (q_vl (pv 0)) (g_val (q_vl (pv 4)) (g_val (q_vl (pv 2)) g_nil)))))))))
end
end
end K48
namespace Dv
open PySem PySem.Spec PyProof.Rows L2
set_option autoImplicit false
noncomputable section
/-! ### the law's own promise -/
def spTrue (K : PySem.W.Frag) : Sp := fun vs H Q _ => ∃ (a : Addr) (ns : List Int), vs = [.ref a] ∧ SqL K H a (ns.map V.int) ∧ ns.length ≤ 63 ∧ ∀ H', Q (.bl true) H'
theorem law_imp {K : PySem.W.Frag} {S : Nat → Addr} {g : Fn} (h : ∀ ns : List Int, ns.length ≤ 63 → ∃ p, g [.val (.scr (ns.map .int))] = .ok (.bl true) p) (vs : List V) (H : Hp) (Q : VK) (E : XK) (q : spTrue K vs H Q E) : spD K S false 1 g vs H Q E := by
  obtain ⟨a, ns, rfl, hS, hl, q⟩ := q
  obtain ⟨p, hp⟩ := h ns hl
  refine ⟨H, [.val (.scr (ns.map .int))], none, fun a u e => .inl e, ⟨.cons ⟨a, _, rfl, hS, ints_rep ns⟩ .nil, Nat.zero_le _, fun a e => by cases e⟩, rfl, ?_⟩
  rw [hp]
  intro G' H' f pk
  show ∀ v, Rep K S G' (.bl true) v → Q v H'
  intro v hv
  cases hv
  exact q H'
end
end Dv
namespace Dv
open PySem PySem.Spec PyProof.Rows L2
set_option autoImplicit false
noncomputable section
/-! ### runs, told by rules -/
def selB {α : Type} (b : Bool) (x y : α) : α := match b with
  | true => x
  | false => y
/-- which of the two, told apart -/
structure Sel {α : Type} (b : Bool) (x y r : α) : Prop where
  of : selB b x y = r
section
variable {env e e' e1 e2 : Dv.Env} {a b c : Ev} {ta tb : EvT} {ra : EvA} {ga : EvG'} {sa sb : EvS} {i n : Nat} {d x y : D} {xs : List D} {f : FO} {fc : FC} {bb : Bool} {g : Fn} {as : List Ag} {ags : List Ar} {p : Option D} {cs : List Nat} {s : Str} {C : Nat} {fs : List (Str × D)} {kvs : List (Key × D)} {r : Res D} {rt : Res Bool} {rs : Sr}
theorem sel_t {α : Type} {b : Bool} {x y r : α} (h : b = true) (k : x = r) : Sel b x y r := by subst h; exact ⟨k⟩
theorem sel_f {α : Type} {b : Bool} {x y r : α} (h : b = false) (k : y = r) : Sel b x y r := by subst h; exact ⟨k⟩
theorem z_set0 {s x : Sl} {r : List Sl} : (s :: r).set 0 x = x :: r := rfl
theorem z_setS {s x : Sl} {r r' : List Sl} {i : Nat} (h : r.set i x = r') : (s :: r).set (i + 1) x = s :: r' := by rw [← h]; rfl
theorem z_at0 {s : Sl} {r : List Sl} : (s :: r)[0]? = some s := rfl
theorem z_atS {s : Sl} {o : Option Sl} {r : List Sl} {i : Nat} (h : r[i]? = o) : (s :: r)[i + 1]? = o := by rw [← h]; rfl
theorem z_putP {x q : D} : putSl (.par x) q = .par q := rfl
theorem z_putB {x q : D} : putSl (.box x) q = .box q := rfl
theorem z_st0 : Dv.start 0 [] = [] := rfl
theorem z_stN {n : Nat} {e : Dv.Env} (h : Dv.start n [] = e) : Dv.start (n + 1) [] = .no :: e := by rw [← h]; rfl
theorem z_stV {n : Nat} {d : D} {as : List Ar} {e : Dv.Env} (h : Dv.start n as = e) : Dv.start (n + 1) (.val d :: as) = .val d :: e := by
  rw [← h]
  unfold Dv.start
  rw [List.map_cons, List.length_cons, Nat.add_sub_add_right]
  rfl
theorem z_stP {n : Nat} {d : D} {as : List Ar} {e : Dv.Env} (h : Dv.start n as = e) : Dv.start (n + 1) (.par d :: as) = .par d :: e := by
  rw [← h]
  unfold Dv.start
  rw [List.map_cons, List.length_cons, Nat.add_sub_add_right]
  rfl
theorem z_bor0 : borE [] = [] := rfl
theorem z_borV {d : D} {e e' : Dv.Env} (h : borE e = e') : borE (.val d :: e) = .val d :: e' := by rw [← h]; rfl
theorem z_borB {d : D} {e e' : Dv.Env} (h : borE e = e') : borE (.box d :: e) = .val d :: e' := by rw [← h]; rfl
theorem z_borP {d : D} {e e' : Dv.Env} (h : borE e = e') : borE (.par d :: e) = .val d :: e' := by rw [← h]; rfl
theorem z_borN {e e' : Dv.Env} (h : borE e = e') : borE (.no :: e) = .no :: e' := by rw [← h]; rfl
theorem z_w0 : wipeE env [] = env := rfl
theorem z_wS {v : Nat} {vs : List Nat} {e1 e2 : Dv.Env} (h : wipeE env vs = e1) (h2 : e1.set v .no = e2) : wipeE env (v :: vs) = e2 := by rw [← h2, ← h]; rfl
theorem z_v0 {d x : D} {r : List Sl} : setE (.val x :: r) 0 d = some (.val d :: r) := rfl
theorem z_n0 {d : D} {r : List Sl} : setE (.no :: r) 0 d = some (.val d :: r) := rfl
theorem z_b0 {d x : D} {r : List Sl} : setE (.box x :: r) 0 d = some (.val d :: r) := rfl
theorem z_sS {d : D} {s : Sl} {r r' : List Sl} {i : Nat} (h : setE r i d = some r') : setE (s :: r) (i + 1) d = some (s :: r') := by
  unfold setE at h ⊢
  show (match r[i]? with | some (.par _) => none | some _ => some (s :: r.set i (.val d)) | none => none) = some (s :: r')
  revert h
  cases r[i]? with
  | none => intro h; cases h
  | some x => cases x <;> first
    | (intro h; cases h; done)
    | (intro h; rw [← Option.some.inj h])
theorem r_val (h : env[i]? = some (.val d)) : xVal i env = .ok d env := by unfold xVal; rw [h]
theorem r_var (h : env[i]? = some (.val d)) : xVar i env = .ok d env := by unfold xVar; rw [h]
theorem r_varB (h : env[i]? = some (.box d)) (he : env.set i (.val d) = e') : xVar i env = .ok d e' := by subst he; unfold xVar; rw [h]
theorem r_c : xC d env = .ok d env := rfl
theorem r_op (h1 : a env = .ok x e1) (h2 : b e1 = .ok y e2) (h3 : f x y = some d) : xOp f a b env = .ok d e2 := by unfold xOp; rw [h1]; show (b e1).bind _ = _; rw [h2]; show Res.of (f x y) e2 = _; rw [h3]; rfl
theorem r_nil : xNil env = .ok [] env := rfl
theorem r_cons (h1 : a env = .ok x e1) (h2 : ra e1 = .ok xs e2) : xCons a ra env = .ok (x :: xs) e2 := by unfold xCons; rw [h1]; show (ra e1).bind _ = _; rw [h2]; rfl
theorem r_cb (h1 : ra env = .ok xs e1) (h2 : fc xs = some d) : xCB fc ra env = .ok d e1 := by unfold xCB; rw [h1]; show Res.of (fc xs) e1 = _; rw [h2]; rfl
theorem r_lst (h1 : ra env = .ok xs e1) (h2 : xs.length ≤ 1000000) : xLst ra env = .ok (.lst xs) e1 := by unfold xLst; rw [h1]; exact if_pos h2
theorem r_tup (h1 : ra env = .ok xs e1) (h2 : xs.length ≤ 1000000) : xTup ra env = .ok (.tup xs) e1 := by unfold xTup; rw [h1]; exact if_pos h2
theorem r_fld (h1 : a env = .ok (.ins C fs) e1) (h2 : C ∈ cs) (h3 : fs.lookup s = some d) : xFld cs s a env = .ok d e1 := by unfold xFld; rw [h1]; show (if C ∈ cs then Res.of (fs.lookup s) e1 else Res.no) = _; rw [if_pos h2, h3]; rfl
theorem r_test (h1 : a env = .ok (.bl bb) e1) : xTest a env = .ok bb e1 := by unfold xTest; rw [h1]; rfl
theorem r_notT (h1 : ta env = .ok bb e1) : xNotT ta env = .ok (!bb) e1 := by unfold xNotT; rw [h1]; rfl
theorem r_andT (h1 : ta env = .ok bb e1) (h2 : Sel bb (tb e1) (.ok false e1) rt) : xAndT ta tb env = rt := by unfold xAndT; rw [h1, ← h2.of]; cases bb <;> rfl
theorem r_orT (h1 : ta env = .ok bb e1) (h2 : Sel bb (.ok true e1) (tb e1) rt) : xOrT ta tb env = rt := by unfold xOrT; rw [h1, ← h2.of]; cases bb <;> rfl
theorem r_andV (h1 : a env = .ok (.bl bb) e1) (h2 : Sel bb (b e1) (.ok (.bl false) e1) r) : xAndV a b env = r := by unfold xAndV; rw [h1, ← h2.of]; cases bb <;> rfl
theorem r_if (h1 : ta env = .ok bb e1) (h2 : Sel bb (a e1) (b e1) r) : xIf ta a b env = r := by unfold xIf; rw [h1, ← h2.of]; cases bb <;> rfl
theorem r_ifS (h1 : ta env = .ok bb e1) (h2 : Sel bb (sa e1) (sb e1) rs) : xIfS ta sa sb env = rs := by unfold xIfS; rw [h1, ← h2.of]; cases bb <;> rfl
structure SeqS (r : Sr) (k : EvS) (q : Sr) : Prop where
  of : r.seq k = q
theorem r_seq (h1 : sa env = rs) {q : Sr} (h2 : SeqS rs sb q) : xSeq sa sb env = q := by unfold xSeq; rw [h1]; exact h2.of
theorem sq_nx {q : Sr} (h : sb e = q) : SeqS (.nx e) sb q := ⟨h⟩
theorem sq_rt : SeqS (.rt d e) sb (.rt d e) := ⟨rfl⟩
theorem sq_rf : SeqS (.rf d e) sb (.rf d e) := ⟨rfl⟩
theorem sq_bk : SeqS (.bk e) sb (.bk e) := ⟨rfl⟩
theorem r_nx : xNx env = .nx env := rfl
theorem r_break : xBreak env = .bk env := rfl
theorem r_set (h1 : a env = .ok d e1) (h2 : setE e1 i d = some e2) : xSet i a env = .nx e2 := by unfold xSet; rw [h1]; show (match setE e1 i d with | some e' => Sr.nx e' | none => Sr.no) = _; rw [h2]
theorem r_ret (h1 : a env = .ok d e1) : xRet a env = .rt d e1 := by unfold xRet; rw [h1]; rfl
theorem r_retV (h1 : env[i]? = some (.box d)) (he : env.set i .no = e') : xRetV i env = .rf d e' := by subst he; unfold xRetV; rw [h1]
theorem r_drop (h1 : a env = .ok d e1) : xDrop a env = .nx e1 := by unfold xDrop; rw [h1]; rfl
def boxable : Option Sl → Bool
  | some (.par _) => false
  | some _ => true
  | none => false
theorem r_box {os : Option Sl} (h1 : a env = .ok d e1) (h0 : e1[i]? = os) (h2 : boxable os = true) (he : e1.set i (.box d) = e') : xBox i a env = .nx e' := by
  subst he
  subst h0
  unfold xBox
  rw [h1]
  show (match e1[i]? with | some (.par _) => Sr.no | some _ => Sr.nx (e1.set i (.box d)) | none => Sr.no) = _
  revert h2
  cases e1[i]? with
  | none => intro h; cases h
  | some s => cases s <;> first | (intro h; cases h; done) | (intro _; rfl)
theorem r_gnil : gNil env = .ok [] env := rfl
theorem r_gval (h1 : a env = .ok x e1) (h2 : ga e1 = .ok as e2) : gVal a ga env = .ok (.v x :: as) e2 := by unfold gVal; rw [h1]; show (ga e1).bind _ = _; rw [h2]; rfl
theorem r_gslot {sl : Sl} (h0 : env[i]? = some sl) (h1 : isOwn sl = true) (h2 : ga env = .ok as e2) : gSlot i ga env = .ok (.s i :: as) e2 := by unfold gSlot; rw [h0]; show (if isOwn sl = true then _ else _) = _; rw [if_pos h1, h2]; rfl
structure CallK (l : List Nat) (g : Fn) (ags : List Ar) (e1 : Dv.Env) (r : Res D) : Prop where
  of : (match l with
    | [] => match g ags with
      | .ok d _ => Res.ok d e1
      | .ex C fs _ => .ex C fs e1
      | .no => .no
    | [i] => match e1[i]? with
      | some s => match g ags with
        | .ok d (some p) => .ok d (e1.set i (putSl s p))
        | _ => .no
      | none => .no
    | _ => .no) = r
theorem ck_v (h : g ags = .ok d p) : CallK [] g ags e1 (.ok d e1) := ⟨by dsimp only; rw [h]⟩
theorem ck_s {sl sl' : Sl} {q : D} (h0 : e1[i]? = some sl) (h : g ags = .ok d (some q)) (hp : putSl sl q = sl') (he : e1.set i sl' = e') : CallK [i] g ags e1 (.ok d e') := ⟨by subst he; subst hp; dsimp only; rw [h0]; dsimp only; rw [h]⟩
theorem r_call {d : D} {e' : Dv.Env} (h1 : ga env = .ok as e1) (h2 : as.length = n) (h4 : resv as e1 = some ags) (h5 : CallK (slotOf as) g ags e1 (.ok d e')) : xCall n g ga env = .ok d e' := by
  unfold xCall
  rw [h1]
  show (if as.length = n then callG g as e1 else Res.no) = _
  rw [if_pos h2]
  unfold callG
  rw [h4]
  have := h5.of
  dsimp only
  revert this
  cases slotOf as with
  | nil => exact id
  | cons i l =>
    cases l with
    | cons _ _ => intro h; cases h
    | nil =>
      dsimp only
      cases e1[i]? with
      | none => intro h; cases h
      | some s =>
        dsimp only
        cases g ags with
        | no => intro h; cases h
        | ex C fs p => intro h; cases h
        | ok d p => cases p with
          | none => intro h; cases h
          | some p => exact id
theorem r_make {ci : Nat} {dcs : List D} {q : D} (h1 : ra env = .ok xs e1) (h2 : xs.length + 1 + dcs.length = n) (h3 : g (.par (.ins ci []) :: (xs ++ dcs).map Ar.val) = .ok .non (some q)) : xMake ci n dcs g ra env = .ok q e1 := by
  unfold xMake
  rw [h1]
  show (if xs.length + 1 + dcs.length = n then _ else _) = _
  rw [if_pos h2, h3]
theorem r_meth {m : Str} {t : MT} {j : Nat} (h1 : a env = .ok (.ins C fs) e1) (h2 : t.at C = some (j, g)) (h3 : fs.lookup m = none) (h4 : ga e1 = .ok as e2) (h5 : (Ag.v (.ins C fs) :: as).length = n) (h6 : slotOf (Ag.v (.ins C fs) :: as) = []) (h7 : resv (.v (.ins C fs) :: as) e2 = some ags) (h8 : g ags = .ok d p) : xMeth m n t a ga env = .ok d e2 := by
  unfold xMeth
  rw [h1]
  show (match t.at C with | some (_, g) => _ | none => _) = _
  rw [h2]
  dsimp only
  rw [if_pos h3, h4]
  show (if (Ag.v (.ins C fs) :: as).length = n then callG g (.v (.ins C fs) :: as) e2 else Res.no) = _
  rw [if_pos h5]
  unfold callG
  rw [h7, h6]
  dsimp only
  rw [h8]
theorem r_dget1 {k : Key} (h1 : a env = .ok (.dct kvs) e1) (h2 : b e1 = .ok y e2) (h3 : keyD y = some k) (h4 : (valD kvs k).getD .non = d) : xDGet1 a b env = .ok d e2 := by
  unfold xDGet1
  rw [h1]
  show (b e1).bind _ = _
  rw [h2]
  show Res.of ((keyD y).map _) e2 = _
  rw [h3, ← h4]
  rfl
theorem r_isq (h1 : a env = .ok d e1) (h2 : seqD d = some xs) : iSq a env = .ok xs e1 := by unfold iSq; rw [h1]; show Res.of (seqD d) e1 = _; rw [h2]; rfl
theorem r_for {ei : EvI} {eg : Eg} (h1 : ei env = .ok xs e1) (h2 : forL eg sa xs e1 = rs) : xFor ei eg sa env = rs := by unfold xFor; rw [h1]; exact h2
theorem r_run (hs : Dv.start n ags = e') (h : sa e' = .rt d e) (hp : parOf e = p) : runF false n sa ags = .ok d p := by subst hp; subst hs; unfold runF; rw [h]; rfl
theorem r_runN (hs : Dv.start n ags = e') (h : sa e' = .nx e) (hp : parOf e = p) : runF false n sa ags = .ok .non p := by subst hp; subst hs; unfold runF; rw [h]; rfl
theorem r_runF (hs : Dv.start n ags = e') (h : sa e' = .rf d e) (hp : parOf e = p) : runF true n sa ags = .ok d p := by subst hp; subst hs; unfold runF; rw [h]; rfl
theorem r_fldS {fs' : List (Str × D)} (h1 : a env = .ok d e1) (h0 : e1[i]? = some (.par (.ins C fs))) (h2 : C ∈ cs) (h3 : fs.length ≤ 900) (hp : putD s d fs = fs') (he : e1.set i (.par (.ins C fs')) = e') : xFldS cs s i a env = .nx e' := by
  subst he
  subst hp
  unfold xFldS
  rw [h1]
  show (match e1[i]? with | some (.par (.ins C fs)) => _ | some (.box (.ins C fs)) => _ | _ => _) = _
  rw [h0]
  exact if_pos ⟨h2, h3⟩
theorem r_bor (hb : borE env = e') (h : a e' = .ok d e1) (hs : scalR d = true) : xBor a env = .ok d env := by subst hb; unfold xBor; rw [h]; exact if_pos hs
theorem r_borT (hb : borE env = e') (h : ta e' = .ok bb e1) : xBorT ta env = .ok bb env := by subst hb; unfold xBorT; rw [h]
theorem r_ownM {fm : FM} {sl sl' : Sl} {l : List D} {c c' : D} (h1 : env[i]? = some sl) (h2 : cont sl = some (.lst l)) (h3 : ra env = .ok xs e1) (h4 : e1[i]? = some sl') (h5 : cont sl' = some c) (h6 : fm c xs = some (d, c')) {sl2 : Sl} (hp : putSl sl' c' = sl2) (he : e1.set i sl2 = e') : xOwnM fm i ra env = .ok d e' := by
  subst he
  subst hp
  unfold xOwnM
  rw [h1]
  dsimp only
  rw [h2]
  dsimp only
  rw [h3]
  show (match e1[i]? with | some t => _ | none => _) = _
  rw [h4]
  dsimp only
  rw [h5]
  dsimp only
  rw [h6]
theorem r_setIx {ek ev : Ev} {t0 t : Sl} {l : List D} {j : Int} {m : Nat} (h1 : ev env = .ok d e1) (h2 : e1[i]? = some t0) (h3 : isOwn t0 = true) (h4 : ek e1 = .ok (.int j) e2) (h5 : e2[i]? = some t) (h6 : cont t = some (.lst l)) (h7 : ixN l.length j = some m) {l' : List D} (hl : l.set m d = l') {sl2 : Sl} (hp : putSl t (.lst l') = sl2) (he : e2.set i sl2 = e') : xSetIx i ek ev env = .nx e' := by
  subst he
  subst hp
  subst hl
  unfold xSetIx
  rw [h1]
  show (match e1[i]? with | some t0 => _ | none => _) = _
  rw [h2]
  dsimp only
  rw [if_pos h3, h4]
  show (match e2[i]?, D.int j with | some t, .int j => _ | _, _ => _) = _
  rw [h5]
  dsimp only
  rw [h6]
  dsimp only
  rw [h7]
theorem r_dput {ek ev : Ev} {t0 t : Sl} {k : Key} (h1 : ev env = .ok d e1) (h2 : e1[i]? = some t0) (h3 : isOwn t0 = true) (h4 : ek e1 = .ok y e2) (h5 : e2[i]? = some t) (h5' : keyD y = some k) (h6 : cont t = some (.dct kvs)) (h7 : kvs.length < 1000000) {kvs' : List (Key × D)} (hl : putKD kvs k d = kvs') {sl2 : Sl} (hp : putSl t (.dct kvs') = sl2) (he : e2.set i sl2 = e') : xDPut i ek ev env = .nx e' := by
  subst he
  subst hp
  subst hl
  unfold xDPut
  rw [h1]
  show (match e1[i]? with | some t0 => _ | none => _) = _
  rw [h2]
  dsimp only
  rw [if_pos h3, h4]
  show (match e2[i]?, keyD y with | some t, some k => _ | _, _ => _) = _
  rw [h5, h5']
  dsimp only
  rw [h6]
  dsimp only
  rw [if_pos h7]
/-! loops and comprehensions -/
theorem wipe_wipeE {vs : List Nat} : wipeE (wipeE env vs) vs = wipeE env vs := by
  refine List.ext_getElem? fun j => ?_
  rw [wipeE_at, wipeE_at, wipeE_len]
  by_cases hj : j ∈ vs
  · rw [if_pos hj, if_pos hj]
  · simp [hj]
theorem cmp_ok {eg : Eg} {vs : List Nat} (W : Dv.Env) (q : D → Bool) (h : D → D) : ∀ (ds acc : List D) (env : Dv.Env), wipeE env vs = W → acc.length + ds.length < 1000000 →
    (∀ x ∈ ds, ∃ e1 e2, eg x W = some e1 ∧ ta e1 = .ok (q x) e2 ∧ wipeE e2 vs = W ∧ (q x = true → ∃ e3, a e2 = .ok (h x) e3 ∧ wipeE e3 vs = W)) → ∃ env', cmpL eg ta a vs ds acc env = .ok (acc ++ (ds.filter q).map h) env' ∧ wipeE env' vs = W
  | [], acc, env, hw, _, _ => ⟨env, by simp [cmpL], hw⟩
  | x :: ds, acc, env, hw, hl, hx => by
    obtain ⟨e1, e2, h1, h2, h3, h4⟩ := hx x (List.mem_cons_self ..)
    have ht := fun acc env hw hl => cmp_ok W q h ds acc env hw hl fun y hy => hx y (List.mem_cons_of_mem _ hy)
    rw [List.length_cons] at hl
    have e0 : cmpL eg ta a vs (x :: ds) acc env = match eg x (wipeE env vs) with
      | none => .no
      | some e1 => match ta e1 with
        | .ok true e2 => match a e2 with
          | .ok y e3 => if acc.length < 1000000 then cmpL eg ta a vs ds (acc ++ [y]) e3 else .no
          | _ => .no
        | .ok false e2 => cmpL eg ta a vs ds acc e2
        | _ => .no := rfl
    rw [e0, hw, h1]
    dsimp only
    rw [h2]
    cases hq : q x with
    | false =>
      dsimp only
      obtain ⟨env', k1, k2⟩ := ht acc e2 h3 (by omega)
      refine ⟨env', ?_, k2⟩
      rw [k1, List.filter_cons_of_neg (by rw [hq]; decide)]
    | true =>
      dsimp only
      obtain ⟨e3, h5, h6⟩ := h4 hq
      rw [h5]
      dsimp only
      rw [if_pos (by omega)]
      obtain ⟨env', k1, k2⟩ := ht (acc ++ [h x]) e3 h6 (by simp; omega)
      refine ⟨env', ?_, k2⟩
      rw [k1, List.filter_cons_of_pos hq]
      simp
theorem r_lc {ei : EvI} {eg : Eg} {vs : List Nat} {ds acc : List D} {e' : Dv.Env} (h1 : ei env = .ok ds e1) (h2 : cmpL eg ta a vs ds [] e1 = .ok acc e') (hw : wipeE e' vs = e) : xLc ei eg ta a vs env = .ok (.lst acc) e := by
  subst hw
  unfold xLc
  rw [h1]
  show (cmpL eg ta a vs ds [] e1).bind _ = _
  rw [h2]
  rfl
theorem r_lcD {pt : Pth} {w : Wk} {eg : Eg} {vs : List Nat} {acc : List D} {e' : Dv.Env} (h1 : pt env = some (.dct kvs, e1)) (h2 : cmpL eg ta a vs (w.ds kvs) [] e1 = .ok acc e') (hw : wipeE e' vs = e) : xLcD pt w eg ta a vs env = .ok (.lst acc) e := by
  subst hw
  unfold xLcD
  rw [h1]
  show noR ((cmpL eg ta a vs (w.ds kvs) [] e1).bind _) = _
  rw [h2]
  rfl
end
section
variable {env e e' e1 e2 e3 : Dv.Env} {a : Ev} {ta : EvT} {ra : EvA} {sb : EvS} {i : Nat} {d x y : D} {xs ds acc acc' : List D} {bb : Bool} {eg : Eg} {vs : List Nat} {r : Res (List D)} {rs q : Sr} {j k : Int}
theorem r_yes : xYes env = .ok true env := rfl
theorem cmp_nil : cmpL eg ta a vs [] acc env = .ok acc env := rfl
theorem cmp_cons (hw : wipeE env vs = e) (h1 : eg x e = some e1) (h2 : ta e1 = .ok bb e2) (h3 : Sel bb (match a e2 with | .ok y e3 => if acc.length < 1000000 then cmpL eg ta a vs xs (acc ++ [y]) e3 else .no | _ => .no) (cmpL eg ta a vs xs acc e2) r) : cmpL eg ta a vs (x :: xs) acc env = r := by
  have e0 : cmpL eg ta a vs (x :: xs) acc env = match eg x (wipeE env vs) with
      | none => .no
      | some e1 => match ta e1 with
        | .ok true e2 => match a e2 with
          | .ok y e3 => if acc.length < 1000000 then cmpL eg ta a vs xs (acc ++ [y]) e3 else .no
          | _ => .no
        | .ok false e2 => cmpL eg ta a vs xs acc e2
        | _ => .no := rfl
  subst hw
  rw [e0, h1]
  dsimp only
  rw [h2, ← h3.of]
  cases bb <;> rfl
theorem z_app0 : [] ++ [y] = [y] := rfl
theorem z_appS (h : acc ++ [y] = acc') : (x :: acc) ++ [y] = x :: acc' := by rw [← h]; rfl
theorem cmp_el (h1 : a e2 = .ok y e3) (h2 : acc.length < 1000000) (ha : acc ++ [y] = acc') (h3 : cmpL eg ta a vs xs acc' e3 = r) : (match a e2 with | .ok y e3 => if acc.length < 1000000 then cmpL eg ta a vs xs (acc ++ [y]) e3 else .no | _ => .no) = r := by
  subst ha
  rw [h1]
  dsimp only
  rw [if_pos h2, h3]
theorem z_pd0 {f : Str} {v : D} : putD f v [] = [(f, v)] := rfl
theorem z_pdS {f k : Str} {v w : D} {r r' : List (Str × D)} (hne : k ≠ f) (h : putD f v r = r') : putD f v ((k, w) :: r) = (k, w) :: r' := by
  rw [← h]
  show (if k = f then (k, v) :: r else (k, w) :: putD f v r) = _
  rw [if_neg hne]
theorem z_pk0 {k : Key} {v : D} : putKD [] k v = [(k, v)] := rfl
theorem z_pkS {k k' : Key} {v v' : D} {l l' : List (Key × D)} (hne : k' ≠ k) (h : putKD l k v = l') : putKD ((k', v') :: l) k v = (k', v') :: l' := by
  rw [← h]
  unfold putKD
  have e1 : decide (k' = k) = false := decide_eq_false hne
  simp only [List.any_cons, e1, Bool.false_or, List.map_cons, if_neg hne, List.cons_append]
  split <;> rfl
theorem dcmp_nil {ek : Ev} {acc : List (Key × D)} : dcmpL eg ta ek a vs [] acc env = .ok acc env := rfl
theorem dcmp_cons {ek : Ev} {acc acc' : List (Key × D)} {r : Res (List (Key × D))} {e4 : Dv.Env} {k : Key} {z : D} (hw : wipeE env vs = e) (h1 : eg x e = some e1) (h2 : ta e1 = .ok true e2) (h3 : ek e2 = .ok y e3) (h4 : a e3 = .ok z e4) (h5 : keyD y = some k) (h6 : acc.length < 1000000) (ha : putKD acc k z = acc') (h7 : dcmpL eg ta ek a vs xs acc' e4 = r) : dcmpL eg ta ek a vs (x :: xs) acc env = r := by
  have e0 : dcmpL eg ta ek a vs (x :: xs) acc env = match eg x (wipeE env vs) with
      | none => .no
      | some e1 => match ta e1 with
        | .ok true e2 => match ek e2 with
          | .ok y e3 => match a e3 with
            | .ok z e4 => match keyD y with
              | some k => if acc.length < 1000000 then dcmpL eg ta ek a vs xs (putKD acc k z) e4 else .no
              | none => .no
            | _ => .no
          | _ => .no
        | .ok false e2 => dcmpL eg ta ek a vs xs acc e2
        | _ => .no := rfl
  subst hw
  subst ha
  rw [e0, h1]
  dsimp only
  rw [h2]
  dsimp only
  rw [h3]
  dsimp only
  rw [h4]
  dsimp only
  rw [h5]
  dsimp only
  rw [if_pos h6, h7]
theorem r_dcD {pt : Pth} {w : Wk} {ek : Ev} {kvs acc : List (Key × D)} (h1 : pt env = some (.dct kvs, e1)) (h2 : dcmpL eg ta ek a vs (w.ds kvs) [] e1 = .ok acc e') (hw : wipeE e' vs = e) : xDcD pt w eg ta ek a vs env = .ok (.dct acc) e := by
  subst hw
  unfold xDcD
  rw [h1]
  show noR ((dcmpL eg ta ek a vs (w.ds kvs) [] e1).bind _) = _
  rw [h2]
  rfl
theorem r_dnew : xDNew env = .ok (.dct []) env := rfl
theorem z_tup2 {b c : Eg} {x y : D} (h1 : b x env = some e1) (h2 : c y e1 = some e2) : yTup 2 (yCons b (yCons c yNil)) (.tup [x, y]) env = some e2 := by
  show (if [x, y].length = 2 then (match b x env with | some e => (match c y e with | some e => some e | none => none) | none => none) else none) = _
  rw [if_pos (show [x, y].length = 2 from rfl), h1]
  dsimp only
  rw [h2]
structure ForK (eg : Eg) (sb : EvS) (xs : List D) (rs q : Sr) : Prop where
  of : (match rs with | .nx e2 => forL eg sb xs e2 | .ct e2 => forL eg sb xs e2 | .bk e2 => .nx e2 | r => r) = q
theorem for_nil : forL eg sb [] env = .nx env := rfl
theorem for_cons (h1 : eg x env = some e1) (h2 : sb e1 = rs) (h3 : ForK eg sb xs rs q) : forL eg sb (x :: xs) env = q := by
  have e0 : forL eg sb (x :: xs) env = match eg x env with
    | none => .no
    | some e1 => match sb e1 with
      | .nx e2 => forL eg sb xs e2
      | .ct e2 => forL eg sb xs e2
      | .bk e2 => .nx e2
      | r => r := rfl
  rw [e0, h1]
  dsimp only
  rw [h2]
  exact h3.of
theorem fk_nx (h : forL eg sb xs e = q) : ForK eg sb xs (.nx e) q := ⟨h⟩
theorem fk_bk : ForK eg sb xs (.bk e) (.nx e) := ⟨rfl⟩
theorem fk_rt : ForK eg sb xs (.rt d e) (.rt d e) := ⟨rfl⟩
theorem r_rg1 (h1 : ra env = .ok [.int j] e1) (h2 : -(2 ^ 62) ≤ j ∧ j < 2 ^ 62) : iRg1 ra env = .ok (rngD 0 j.toNat) e1 := by unfold iRg1; rw [h1]; exact if_pos h2
theorem r_rg2 (h1 : ra env = .ok [.int j, .int k] e1) (h2 : -(2 ^ 62) ≤ j ∧ j < 2 ^ 62 ∧ -(2 ^ 62) ≤ k ∧ k < 2 ^ 62) : iRg2 ra env = .ok (rngD j (k - j).toNat) e1 := by unfold iRg2; rw [h1]; exact if_pos h2
def isPar : Sl → Bool
  | .par _ => true
  | _ => false
theorem z_f0 {d : D} {s : Sl} {r : List Sl} (hf : isPar s = false) : setE (s :: r) 0 d = some (.val d :: r) := by
  cases s <;> first
    | (cases hf; done)
    | rfl
theorem z_name {d : D} (h : setE env i d = some e) : yName i d env = some e := h
theorem setE_at {s : Sl} (h : env[i]? = some s) (hf : isPar s = false) : setE env i d = some (env.set i (.val d)) := by
  unfold setE
  rw [h]
  cases s <;> first
    | (cases hf; done)
    | rfl
end
theorem ix0 {x : D} {r : List D} : oIx (.lst (x :: r)) (.int 0) = some x := by
  show atI (x :: r) 0 = some x
  unfold atI ixN
  rw [if_pos (by decide), if_pos (by rw [List.length_cons]; omega)]
  rfl
theorem ixn0 {x : D} {r : List D} : ixN (x :: r).length 0 = some 0 := by
  unfold ixN
  rw [if_pos (by decide), if_pos (by rw [List.length_cons]; omega)]
  rfl
theorem pop0 {x : D} {r : List D} : mPopAt (.lst (x :: r)) [.int 0] = some (x, .lst r) := rfl
section
variable {env e e' e1 e2 e3 : Dv.Env} {a b c : Ev} {ra : EvA} {i j : Nat} {d x y z : D} {bb b2 : Bool}
theorem r_un {f : FU} (h1 : a env = .ok x e1) (h2 : f x = some d) : xUn f a env = .ok d e1 := by unfold xUn; rw [h1]; show Res.of (f x) e1 = _; rw [h2]; rfl
theorem r_par (h1 : ra env = .ok [x, y] e1) (h2 : setE e1 i x = some e2) (h3 : setE e2 j y = some e) : xPar i j ra env = .nx e := by
  unfold xPar
  rw [h1]
  show (match setE e1 i x with | some e1 => (match setE e1 j y with | some e2 => Sr.nx e2 | none => .no) | none => .no) = _
  rw [h2]
  dsimp only
  rw [h3]
theorem r_asg {g : Eg} (h1 : a env = .ok d e1) (h2 : g d e1 = some e) : xAsg a g env = .nx e := by
  unfold xAsg
  rw [h1]
  show (match g d e1 with | some e' => Sr.nx e' | none => .no) = _
  rw [h2]
theorem r_chain {f g : FO} (h1 : a env = .ok x e1) (h2 : b e1 = .ok y e2) (h3 : f x y = some (.bl bb)) (h4 : c e2 = .ok z e2) (h5 : g y z = some (.bl b2)) : xChain f g a b c env = .ok (.bl (bb && b2)) e2 := by
  unfold xChain
  rw [h1]
  show ((b e1).bind _) = _
  rw [h2]
  show (match f x y with | some (.bl true) => (c e2).bind fun z e3 => Res.of (g y z) e3 | some (.bl false) => .ok (.bl false) e2 | _ => .no) = _
  rw [h3]
  cases bb with
  | false => rfl
  | true =>
    dsimp only
    rw [h4]
    show Res.of (g y z) e2 = _
    rw [h5]
    rfl
theorem z_tup4 {g1 g2 g3 g4 : Eg} {x1 x2 x3 x4 : D} {e4 : Dv.Env} (h1 : g1 x1 env = some e1) (h2 : g2 x2 e1 = some e2) (h3 : g3 x3 e2 = some e3) (h4 : g4 x4 e3 = some e4) : yTup 4 (yCons g1 (yCons g2 (yCons g3 (yCons g4 yNil)))) (.tup [x1, x2, x3, x4]) env = some e4 := by
  show (if [x1, x2, x3, x4].length = 4 then (match g1 x1 env with | some e => (match g2 x2 e with | some e => (match g3 x3 e with | some e => (match g4 x4 e with | some e => some e | none => none) | none => none) | none => none) | none => none) else none) = _
  rw [if_pos (show [x1, x2, x3, x4].length = 4 from rfl), h1]
  dsimp only
  rw [h2]
  dsimp only
  rw [h3]
  dsimp only
  rw [h4]
end
theorem z_setS4 {s0 s1 s2 s3 x : Sl} {r r' : List Sl} {i : Nat} (h : r.set i x = r') : (s0 :: s1 :: s2 :: s3 :: r).set (i + 4) x = s0 :: s1 :: s2 :: s3 :: r' := by rw [← h]; rfl
theorem z_atS4 {s0 s1 s2 s3 : Sl} {o : Option Sl} {r : List Sl} {i : Nat} (h : r[i]? = o) : (s0 :: s1 :: s2 :: s3 :: r)[i + 4]? = o := by rw [← h]; rfl
theorem z_stN4 {n : Nat} {e : Dv.Env} (h : Dv.start n [] = e) : Dv.start (n + 4) [] = .no :: .no :: .no :: .no :: e := by rw [← h]; rfl
theorem z_sS4 {d : D} {s0 s1 s2 s3 : Sl} {r r' : List Sl} {i : Nat} (h : setE r i d = some r') : setE (s0 :: s1 :: s2 :: s3 :: r) (i + 4) d = some (s0 :: s1 :: s2 :: s3 :: r') := z_sS (i := i + 3) (z_sS (i := i + 2) (z_sS (i := i + 1) (z_sS h)))
end
end Dv
namespace Dv
open PySem PySem.Spec PyProof.Rows L2
set_option autoImplicit false
noncomputable section
/-! ### == of dicts whose values' == runs code -/
/-- what the machine's == says at A -/
def EqOk (X : Cx) (A : Around) (T : V → V → Hp → (Bool → Hp → Prop) → Prop) : Prop := ∀ (pins : List (Addr × Obj)) (σ : L2.St) (H : Hp) (s : Shared) (x y : V) (v u : Value) (R : Bool → Hp → Prop), Inv X pins σ H s → RelV x v → RelV y u → T x y H R →
  wpAny (model X.prog X.w) A (eqBool v u) (fun b s' => ∃ H', Inv X pins σ H' s' ∧ R b H') X.xe s
def hitsT (T : V → V → Hp → (Bool → Hp → Prop) → Prop) (od : Obj) (a b : Addr) (ks ls : List (Key × V)) : List (Key × V) → Hp → (Bool → Hp → Prop) → Prop
  | [], H, R => H a = some (.frz od (.dK ks)) ∧ R true H
  | p :: r, H, R => H a = some (.frz od (.dK ks)) ∧ Rd H b (.dK ls) ∧ match valV ls p.1 with
    | none => R false H
    | some y => T p.2 y H fun e H' => if e = true then hitsT T od a b ks ls r H' R else R false H'
theorem hitsT_at {T : V → V → Hp → (Bool → Hp → Prop) → Prop} {od : Obj} {a b : Addr} {ks ls r : List (Key × V)} {H : Hp} {R : Bool → Hp → Prop} (h : hitsT T od a b ks ls r H R) : H a = some (.frz od (.dK ks)) := by
  cases r with
  | nil => exact h.1
  | cons p r => exact h.1
theorem valV_kv {k : Key} : ∀ {ls : List (Key × V)} {vb : List (Key × Value)}, KV ls vb → (valV ls k = none ∧ valueAt vb k = none) ∨ ∃ y u, valV ls k = some y ∧ valueAt vb k = some u ∧ RelV y u
  | [], _, .nil => .inl ⟨rfl, rfl⟩
  | p :: ls, q :: vb, .cons h t => by
    by_cases e : p.1 = k
    · refine .inr ⟨p.2, q.2, ?_, ?_, h.2⟩
      · unfold valV
        rw [List.find?_cons_of_pos (by simpa using e)]
        rfl
      · unfold valueAt
        rw [List.find?_cons_of_pos (by simpa using h.1.symm.trans e)]
        rfl
    · have e2 : ¬ q.1 = k := fun z => e (h.1.trans z)
      have s1 : valV (p :: ls) k = valV ls k := by
        unfold valV
        rw [List.find?_cons_of_neg (by simpa using e)]
      have s2 : valueAt (q :: vb) k = valueAt vb k := by
        unfold valueAt
        rw [List.find?_cons_of_neg (by simpa using e2)]
      rw [s1, s2]
      exact valV_kv t
section
variable {X : Cx} {pins : List (Addr × Obj)} {σ : L2.St} {H : Hp} {s : Shared} {A : Around} {a b : Addr} {ks ls : List (Key × V)} {od : Obj} {R : Bool → Hp → Prop} {T : V → V → Hp → (Bool → Hp → Prop) → Prop}
theorem pairs_S {nm : String} (hT : EqOk X A T) (I : Inv X pins σ H s) (hb : Rd H b (.dK ls)) (ha : H a = some (.frz od (.dK ks))) (h : if ks.length = ls.length then hitsT T od a b ks ls ks H R else R false H) :
    wpAny (model X.prog X.w) A (Builtin.Dict.samePairs nm a b) (fun r s' => ∃ H', Inv X pins σ H' s' ∧ R r H') X.xe s := by
  obtain ⟨ga, _, sa, va, ra, oa, es, ep, ga2, _, da, kea, pa, _⟩ := I.hok a _ ha
  rw [ga] at ga2
  cases ga2
  obtain ⟨_, sb, vb, rb, ob, fs, ep', gb, _, db, keb, pb, _⟩ := dk_rd I.hok hb
  have na : ks.length = es.size := by
    rw [Paired.length ra, ← pa.length]
    exact Array.length_toList
  have nb : ls.length = fs.size := by
    rw [Paired.length rb, ← pb.length]
    exact Array.length_toList
  unfold Builtin.Dict.samePairs Builtin.Dict.showsAll
  rw [if_neg (by rw [sa]; decide), if_neg (by rw [sb]; decide)]
  refine wpAny_bind (m := pure ()) (wpAny_pure (wpAny_bind (m := pure ()) (wpAny_pure ?_)))
  refine wpAny_bind (m := dictEntries a) (wpAny_dictEntries ga da ?_)
  dsimp only
  refine wpAny_bind (m := dictEntries b) (wpAny_dictEntries gb db ?_)
  by_cases hz : es.size = fs.size
  case neg =>
    rw [if_neg (by omega)] at h
    rw [if_pos (by simpa using hz)]
    exact wpAny_bind (m := rule _) (wpAny_rule (wpAny_pure ⟨H, I, h⟩))
  rw [if_pos (by omega)] at h
  rw [if_neg (by rw [hz]; simp)]
  refine wpAny_bind (m := dictEpoch a) (wpAny_dictEpoch ga da ?_)
  refine wpAny_bind ?_
  rw [Std.Legacy.Range.forIn_eq_forIn_range']
  simp only [Std.Legacy.Range.size, Nat.sub_zero, Nat.add_sub_cancel, Nat.div_one]
  refine wpAny_forIn_list _ (fun rest z s1 => z = (none, ()) ∧ ∃ i H1, rest = List.range' i (es.size - i) ∧ i ≤ es.size ∧ Inv X pins σ H1 s1 ∧ hitsT T od a b ks ls (ks.drop i) H1 R) _ ?_ ?_ _ _ ⟨rfl, 0, H, by simp, Nat.zero_le _, I, h⟩
  · rintro x rest z s1 ⟨rfl, i, H1, hr, hi, I1, hh⟩
    have hlt : i < es.size := by
      by_cases q : i < es.size
      · exact q
      · rw [show es.size - i = 0 by omega] at hr
        simp at hr
    have es1 : es.size - i = (es.size - (i + 1)) + 1 := by omega
    rw [es1, List.range'_succ] at hr
    obtain ⟨rfl, hrest⟩ := List.cons.inj hr
    have a1 : s1.heap.get? a = some od := (I1.hok a _ (hitsT_at hh)).1
    refine wpAny_bind (m := dictEntries a) (wpAny_dictEntries a1 da ?_)
    rw [Array.getElem?_eq_getElem hlt]
    have hlk : x < ks.length := by omega
    have hlv : x < va.length := by rw [← Paired.length ra]; exact hlk
    have hkk : ks[x]? = some ks[x] := List.getElem?_eq_getElem hlk
    obtain ⟨kv, hkv, r1, r2⟩ := paired_get ra hkk
    have hdrop : ks.drop x = ks[x] :: ks.drop (x + 1) := List.drop_eq_getElem_cons hlk
    obtain ⟨key, hval⟩ := pa.get? (i := x) (e := es[x]) (k := kv.1) (v := kv.2) (by rw [Array.getElem?_toList]; exact Array.getElem?_eq_getElem hlt) hkv
    obtain ⟨k', hk', hash⟩ := kea es[x] (Array.getElem_mem hlt)
    have ekk : k' = kv.1 := (mixKind X.prog X.w).inj _ _ _ hk' key
    rw [ekk] at hash
    rw [hdrop] at hh
    obtain ⟨_, hb1, hm⟩ := hh
    obtain ⟨_, _, vb1, rb1, ob1, fs1, ep1, gb1, _, db1, keb1, pb1, _⟩ := dk_rd I1.hok hb1
    have find1 : findBy (mixKind X.prog X.w).is fs1 kv.1 = valueAt vb1 kv.1 := by
      rw [← pb1.find kv.1]
      clear pb1 keb1 db1 gb1
      obtain ⟨l⟩ := fs1
      simp [findBy]
    show wpAny _ _ (holding [es[x].key, es[x].val] _ >>= _) _ _ _
    rw [hash]
    refine wpAny_bind (m := holding _ _) (wpAny_holding (wpAny_bind (m := dictFind _ _ _) (wpAny_dictFind_of key gb1 db1 keb1 ?_)))
    cases hj : fs1.findIdx? fun e => (mixKind X.prog X.w).is kv.1 e.key with
    | none =>
      have hn : valueAt vb1 kv.1 = none := by rw [← find1, findBy_of_findIdx?, hj]
      rcases valV_kv (k := kv.1) rb1 with ⟨q1, _⟩ | ⟨_, _, _, q2, _⟩
      · rw [← r1] at q1
        rw [q1] at hm
        refine wpAny_pure ?_
        show wpAny _ _ (if (!false) = true then _ else _) _ _ _
        rw [if_pos (show (!false) = true from rfl)]
        exact wpAny_pure (wpAny_pure ⟨H1, I1, hm⟩)
      · rw [hn] at q2
        cases q2
    | some j =>
      obtain ⟨hjl, _, _⟩ := Array.findIdx?_eq_some_iff_getElem.mp hj
      have hv1 : valueAt vb1 kv.1 = some fs1[j].val := by
        rw [← find1, findBy_of_findIdx?, hj]
        simp [Array.getElem?_eq_getElem hjl]
      refine wpAny_bind (m := dictEntries b) (wpAny_dictEntries gb1 db1 ?_)
      rw [Array.getElem?_eq_getElem hjl]
      rcases valV_kv (k := kv.1) rb1 with ⟨_, q2⟩ | ⟨y, u, q1, q2, ry⟩
      · rw [hv1] at q2
        cases q2
      · rw [hv1] at q2
        cases q2
        rw [← r1] at q1
        rw [q1] at hm
        have rx : RelV ks[x].2 es[x].val := by rw [hval]; exact r2
        refine wpAny_holding (wpAny_mono (hT pins σ H1 s1 _ _ _ _ _ I1 rx ry hm) (fun e s2 ⟨H2, I2, q⟩ => ?_) fun _ _ w => w)
        cases e with
        | false =>
          show wpAny _ _ (if (!false) = true then _ else _) _ _ _
          rw [if_pos (show (!false) = true from rfl)]
          rw [if_neg (by decide)] at q
          exact wpAny_pure (wpAny_pure ⟨H2, I2, q⟩)
        | true =>
          show wpAny _ _ (if (!true) = true then _ else _) _ _ _
          rw [if_neg (by decide)]
          rw [if_pos rfl] at q
          refine wpAny_bind (m := dictEpoch a) (wpAny_dictEpoch (I2.hok a _ (hitsT_at q)).1 da ?_)
          rw [if_neg (by simp)]
          exact wpAny_pure ⟨rfl, x + 1, H2, hrest, hlt, I2, q⟩
  · rintro z s1 ⟨rfl, i, H1, hr, hi, I1, hh⟩
    have e1 : i = es.size := by
      by_cases q : i < es.size
      · rw [show es.size - i = (es.size - (i + 1)) + 1 by omega, List.range'_succ] at hr
        cases hr
      · omega
    rw [e1, ← na, List.drop_length] at hh
    exact wpAny_pure ⟨H1, I1, hh.2⟩
/-- == of two dicts, one of them locked -/
def rDk (T : V → V → Hp → (Bool → Hp → Prop) → Prop) (a b : Addr) (H : Hp) (R : Bool → Hp → Prop) : Prop := ∃ ks ls, Rd H b (.dK ls) ∧ ((∃ od, H a = some (.frz od (.dK ks)) ∧ if ks.length = ls.length then hitsT T od a b ks ls ks H R else R false H) ∨
  (a ≠ b ∧ H a = some (.dK ks) ∧ if ks.length = ls.length then ∀ od, hitsT T od a b ks ls ks (upd H a (.frz od (.dK ks))) (fun e H' => H' a = some (.frz od (.dK ks)) ∧ R e (upd H' a (.dK ks))) else R false H))
theorem dicts_S (hu : A.units < cLine) (hT : EqOk X A.in1 T) (I : Inv X pins σ H s) (h : rDk T a b H R) :
    wpAny (model X.prog X.w) A (richCompare .Eq (.ref a) (.ref b)) (fun r s' => ∃ e H', r = .bool e ∧ Inv X pins σ H' s' ∧ R e H') X.xe s := by
  obtain ⟨ks, ls, hb, h⟩ := h
  have main : ∀ {H1 : Hp} {od : Obj} {R1 : Bool → Hp → Prop}, Inv X pins σ H1 s → Rd H1 b (.dK ls) → H1 a = some (.frz od (.dK ks)) → (if ks.length = ls.length then hitsT T od a b ks ls ks H1 R1 else R1 false H1) →
      wpAny (model X.prog X.w) A (richCompare .Eq (.ref a) (.ref b)) (fun r s' => ∃ e H', r = .bool e ∧ Inv X pins σ H' s' ∧ R1 e H') X.xe s := fun {H1 od R1} I1 hb1 ha h1 => by
    obtain ⟨_, _, va, ra, oa⟩ := dk_rd I1.hok (.inr ⟨od, ha⟩)
    obtain ⟨_, _, vb, rb, ob⟩ := dk_rd I1.hok hb1
    refine wpAny_richCompare_same_room (T := "dict") (id := "dict.__eq__") (op := .Eq) oa.typeIs ob.typeIs PySem.F.slot_dict_eq ?_ hu
    refine wpAny_call_entry (T := "dict") PySem.F.slot_dict_eq oa.typeIs PySem.F.entry_dict_eq ?_ (PySem.F.args_dict_eq_2 _ _)
    show wpAny _ _ (Builtin.Dict.dictSlotArgs "__eq__" ⟨[.ref a, .ref b], []⟩ >>= _) _ _ _
    unfold Builtin.Dict.dictSlotArgs
    refine wpAny_bind (wpAny_bind (m := Builtin.Dict.notOrdered _ _) (wpAny_notOrdered_dict oa.typeIs ?_))
    show wpAny _ _ (pure (Value.ref a, Value.ref b)) _ _ _
    refine wpAny_pure (wpAny_bind (m := isInstance _ _) (wpAny_isInstance (T := "dict") ob.typeIs PySem.F.sub_dict_dict ?_))
    simp only [Bool.not_true, Bool.false_eq_true, if_false]
    refine wpAny_bind (m := pure a) (wpAny_pure (wpAny_bind (m := pure b) (wpAny_pure ?_)))
    refine wpAny_bind (wpAny_mono (pairs_S hT I1 hb1 ha h1) (fun e s2 ⟨H2, I2, q⟩ => ?_) fun _ _ w => w)
    exact wpAny_pure ⟨_, rfl, (fun z => nomatch z), e, H2, by cases e <;> rfl, I2, q⟩
  rcases h with ⟨od, ha, h⟩ | ⟨hab, ha, h⟩
  · exact main I hb ha h
  · obtain ⟨od, I1⟩ := I.lock ha trivial
    have hb1 : Rd (upd H a (.frz od (.dK ks))) b (.dK ls) := by
      rcases hb with hb | ⟨o, hb⟩
      · exact .inl (by rw [upd_ne (fun e => hab e.symm)]; exact hb)
      · exact .inr ⟨o, by rw [upd_ne (fun e => hab e.symm)]; exact hb⟩
    by_cases hl : ks.length = ls.length
    · rw [if_pos hl] at h
      have m1 := main (R1 := fun e H' => H' a = some (.frz od (.dK ks)) ∧ R e (upd H' a (.dK ks))) I1 hb1 upd_same (by rw [if_pos hl]; exact h od)
      refine wpAny_mono m1 (fun r s2 hq => ?_) fun _ _ w => w
      obtain ⟨e, H2, er, I2, h2, q⟩ := hq
      exact ⟨e, _, er, I2.unlock h2 (I.nofrz ha trivial), q⟩
    · rw [if_neg hl] at h
      have m1 := main (R1 := fun e H' => H' = upd H a (.frz od (.dK ks)) ∧ R e H) I1 hb1 upd_same (by rw [if_neg hl]; exact ⟨rfl, h⟩)
      refine wpAny_mono m1 (fun r s2 hq => ?_) fun _ _ w => w
      obtain ⟨e, H2, er, I2, h2, q⟩ := hq
      subst h2
      have I3 := I2.unlock (d := a) (od := od) (u := .dK ks) upd_same (I.nofrz ha trivial)
      have e3 : upd (upd H a (.frz od (.dK ks))) a (.dK ks) = H := by
        funext z
        by_cases hz : z = a
        · rw [hz, upd_same, ha]
        · rw [upd_ne hz, upd_ne hz]
      rw [e3] at I3
      exact ⟨e, H, er, I3, q⟩
/-- two references: the same, or asked -/
def tRef (T : Addr → Addr → Hp → (Bool → Hp → Prop) → Prop) (x y : V) (H : Hp) (R : Bool → Hp → Prop) : Prop := ∃ a b, x = .ref a ∧ y = .ref b ∧ (a = b → R true H) ∧ (a ≠ b → T a b H R)
theorem refs_S {T : Addr → Addr → Hp → (Bool → Hp → Prop) → Prop} (h : ∀ (pins : List (Addr × Obj)) (σ : L2.St) (H : Hp) (s : Shared) (a b : Addr) (R : Bool → Hp → Prop), Inv X pins σ H s → T a b H R → wpAny (model X.prog X.w) A (richCompare .Eq (.ref a) (.ref b)) (fun r s' => ∃ e H', r = .bool e ∧ Inv X pins σ H' s' ∧ R e H') X.xe s) : EqOk X A (tRef T) := by
  intro pins σ H s x y v u R I rx ry q
  obtain ⟨a, b, rfl, rfl, q1, q2⟩ := q
  obtain rfl : v = Value.ref a := rx
  obtain rfl : u = Value.ref b := ry
  unfold eqBool
  refine wpAny_holding ?_
  by_cases hab : a = b
  · subst hab
    rw [if_pos (beq_self_eq_true _)]
    exact wpAny_bind (m := rule _) (wpAny_rule (wpAny_pure ⟨H, I, q1 rfl⟩))
  · rw [if_neg (fun z => hab (by have := eq_of_beq z; injection this))]
    refine wpAny_bind (m := richCompare _ _ _) (wpAny_mono (h pins σ H s a b R I (q2 hab)) (fun r s2 ⟨e, H2, er, I2, q⟩ => ?_) fun _ _ w => w)
    subst er
    exact wpAny_truthy_bool ⟨H2, I2, q⟩
/-- dicts whose values are asked so -/
theorem dicts_ok (hu : A.units < cLine) (hT : EqOk X A.in1 T) : EqOk X A (tRef (rDk T)) := refs_S fun _ _ _ _ _ _ _ I q => dicts_S hu hT I q
variable {C f : Addr} {fd : FuncData} {ps : List Str} {sp : Sp} {CX : CXT} {n : Nat} {E : XK}
/-- instances with their own == -/
def rIn (K : PySem.W.Frag) (C : Addr) (sp : Sp) (E : XK) (a b : Addr) (H : Hp) (R : Bool → Hp → Prop) : Prop := ∃ dx fs dy gs, H a = some (.ins C dx fs) ∧ H b = some (.ins C dy gs) ∧ sp [.ref a, .ref b] H (fun v H' => ∃ e, v = .bl e ∧ R e H') E
theorem ins_ok (O : EqOf X.K C f) (F : FnOk X.prog X.w X.K X.mg X.base CX n f fd ps sp) (hb : Binds X.K fd ps []) (hx : Passes CX X E) (hr : Room n A) (hfr : A.frames = X.A.frames) : EqOk X A (tRef (rIn X.K C sp E)) := refs_S fun pins σ H s a b R I q => by
  obtain ⟨dx, fs, dy, gs, ha, hb2, q⟩ := q
  obtain ⟨mA, J, _⟩ := ins_get I.hok ha
  obtain ⟨od, J, _⟩ := J.look
  obtain ⟨tb, lk, nf⟩ := yt_looks I (C := C) (y := .ref b) (u := .ref b) rfl (.inl ⟨b, dy, gs, rfl, hb2⟩)
  obtain ⟨m, hF⟩ := I.fr
  refine PySem.W.cmp_K (op := .Eq) (tb := tb) hr.units0 hF I.ok.mod.kin J lk nf O.eq O.fn (wpAny_mono (own_run (neg := false) (Q := fun v H' => ∃ e, v = .bl e ∧ R e H') F hb hx hr hfr I (x := .ref a) (v := .ref a) (y := .ref b) (u := .ref b) rfl rfl ?_) (fun r s' hq => ?_) fun _ _ z => z)
  · have e : (fun (z : V) (H' : Hp) => ∃ b, z = V.bl b ∧ (fun v H' => ∃ e, v = V.bl e ∧ R e H') (.bl (if false = true then !b else b)) H') = fun v H' => ∃ e, v = V.bl e ∧ R e H' := by
      funext z H'
      apply propext
      constructor
      · rintro ⟨b, rfl, e, h1, h2⟩
        cases h1
        exact ⟨_, rfl, h2⟩
      · rintro ⟨e, rfl, h2⟩
        exact ⟨e, rfl, e, rfl, h2⟩
    rw [e]
    exact q
  · obtain ⟨b, rfl, z, H', I', rz, e, ez, q⟩ := hq
    subst ez
    cases rz
    exact ⟨_, H', rfl, I', q⟩
/-- the comparison of two dicts of dicts, an expression -/
def rDD (T : V → V → Hp → (Bool → Hp → Prop) → Prop) : R2 := fun x y H Q => ∃ a b, x = .ref a ∧ y = .ref b ∧ rDk T a b H fun e H' => Q (.bl e) H'
theorem op_DD (hu : X.A.units < cLine) (hT : EqOk X X.A.in1 T) : OpR X (compareOp .Eq) (rDD T) := by
  intro pins s σ H x y v u Q I rx ry h
  obtain ⟨a, b, rfl, rfl, h⟩ := h
  obtain rfl : v = Value.ref a := rx
  obtain rfl : u = Value.ref b := ry
  show wpAny (model X.prog X.w) X.A (richCompare .Eq (.ref a) (.ref b)) _ _ s
  refine wpAny_mono (dicts_S hu hT I h) (fun r s2 ⟨e, H2, er, I2, q⟩ => ?_) fun _ _ w => w
  subst er
  exact ⟨.bl e, H2, I2, rfl, q⟩
end
end
end Dv
section
open Dv
local macro_rules
  | `(tactic| exists $ts,*) => do
    let mut alts : Lean.TSyntaxArray `tactic := #[]
    for t in ts.getElems do alts := alts.push (← `(tactic| exact $t))
    let r ← `(tactic| first
      | with_reducible exact r_c | with_reducible exact r_nil | with_reducible exact r_gnil | with_reducible exact r_nx | with_reducible exact r_break | with_reducible exact sq_rt | with_reducible exact sq_rf | with_reducible exact sq_bk | with_reducible exact r_yes | with_reducible exact cmp_nil | with_reducible exact for_nil | with_reducible exact fk_bk | with_reducible exact fk_rt | with_reducible exact z_putP | with_reducible exact z_putB | with_reducible exact z_st0 | with_reducible exact z_bor0 | with_reducible exact z_w0 | with_reducible exact z_set0 | with_reducible exact z_v0 | with_reducible exact z_n0 | with_reducible exact z_b0 | with_reducible exact z_at0 | with_reducible exact z_app0 | with_reducible exact z_pk0 | with_reducible exact z_pd0 | with_reducible exact dcmp_nil | with_reducible exact r_dnew
      | ((with_reducible apply r_val); rfl) | ((with_reducible apply r_var); rfl) | ((with_reducible apply r_varB); rfl)
      | with_reducible apply r_op | with_reducible apply r_cons | with_reducible apply r_cb | with_reducible apply r_lst | with_reducible apply r_tup | with_reducible apply r_fld | with_reducible apply r_test | with_reducible apply r_notT | with_reducible apply r_andT | with_reducible apply r_orT | with_reducible apply r_andV | with_reducible apply r_if | with_reducible apply r_ifS | with_reducible apply r_seq | with_reducible apply sq_nx | with_reducible apply r_set | with_reducible apply r_ret | with_reducible apply r_retV | with_reducible apply r_drop | with_reducible apply r_box | with_reducible apply r_gval | with_reducible apply r_gslot | with_reducible apply r_call | with_reducible apply r_make | with_reducible apply r_meth | with_reducible apply r_dget1 | with_reducible apply r_isq | with_reducible apply r_for | with_reducible apply r_bor | with_reducible apply r_borT | with_reducible apply r_fldS | with_reducible apply r_ownM | with_reducible apply r_setIx | with_reducible apply r_un | with_reducible apply r_par | with_reducible apply r_asg | with_reducible apply r_chain | with_reducible apply z_tup4 | with_reducible apply r_dput | with_reducible apply r_run | with_reducible apply r_runN | with_reducible apply r_runF | with_reducible apply cmp_el | with_reducible apply fk_nx | with_reducible apply r_lc | with_reducible apply r_lcD | with_reducible apply r_rg1 | with_reducible apply r_rg2 | with_reducible apply z_name | with_reducible apply z_setS4 | with_reducible apply z_setS | with_reducible apply z_atS4 | with_reducible apply z_atS | with_reducible apply z_stN4 | with_reducible apply z_stN | with_reducible apply z_stV | with_reducible apply z_stP | with_reducible apply z_borV | with_reducible apply z_borB | with_reducible apply z_borP | with_reducible apply z_borN | with_reducible apply z_wS | with_reducible apply z_sS4 | with_reducible apply z_sS | with_reducible apply z_pkS | with_reducible apply z_pdS | with_reducible apply r_dcD | with_reducible apply z_tup2 | with_reducible apply z_f0 | with_reducible apply z_appS
      | ((with_reducible apply sel_t); (first | assumption | rfl)) | ((with_reducible apply sel_f); (first | assumption | rfl))
      | apply ck_v | apply ck_s | apply cmp_cons | apply for_cons | apply dcmp_cons | exact sq_rt | exact sq_rf | exact fk_rt)
    let rest ← `(tactic| first | assumption | rfl | decide | exact Nat.le_of_ble_eq_true rfl)
    let alts2 := alts ++ #[r] ++ #[rest]
    `(tactic| repeat' (first $[| $alts2:tactic]*))
namespace K48L
open PySem PySem.Spec PyProof.Rows L2 Dv K48
set_option autoImplicit false
noncomputable section
/-! draws -/
def Dr (l : List Int) : Prop := l ≠ [] ∧ ∀ n ∈ l, 0 ≤ n
theorem modE {x b : Int} (hb : b ≠ 0) : oMod (.int x) (.int b) = some (.int (x.fmod b)) := by
  show (if decide (b ≠ 0) = true then some (D.int (x.fmod b)) else none) = _
  rw [if_pos (decide_eq_true hb)]
theorem fdvE {x b : Int} (hb : b ≠ 0) (hb2 : b.natAbs < 1073741824) : oFdv (.int x) (.int b) = some (.int (x.fdiv b)) := by
  show (if decide (b ≠ 0 ∧ b.natAbs < 1073741824) = true then some (D.int (x.fdiv b)) else none) = _
  rw [if_pos (decide_eq_true ⟨hb, hb2⟩)]
theorem draw1 {x b : Int} {r : List Int} (hx : x ≠ 0 ∨ r = []) (hb : b ≠ 0) (hb2 : b.natAbs < 1073741824) : d__law_draw [.par (.lst ((x :: r).map .int)), .val (.int b)] = .ok (.int (x.fmod b)) (some (.lst ((x.fdiv b :: r).map .int))) := by
  unfold d__law_draw b__law_draw
  by_cases hz : x = 0
  · have h0 : decide (x = 0) = true := decide_eq_true hz
    have hr : r = [] := hx.resolve_left (fun h => h hz)
    subst hr
    (exists ix0, modE hb, fdvE hb hb2, ixn0)
  · have h0 : decide (x = 0) = false := decide_eq_false hz
    (exists ix0, modE hb, fdvE hb hb2, ixn0)
theorem draw2 {b y : Int} {r : List Int} (hb : b ≠ 0) (hb2 : b.natAbs < 1073741824) : d__law_draw [.par (.lst ((0 :: y :: r).map .int)), .val (.int b)] = .ok (.int (y.fmod b)) (some (.lst ((y.fdiv b :: r).map .int))) := by
  have h1 : decide ((1 : Int) < (((0 :: y :: r).map D.int).length : Nat)) = true := decide_eq_true (by simp; omega)
  unfold d__law_draw b__law_draw
  (exists ix0, modE hb, fdvE hb hb2, ixn0)
theorem draw_ok {l : List Int} (h : Dr l) (b : Int) (hb : 1 ≤ b) (hb2 : b < 1000) : ∃ (v : Int) (l' : List Int), d__law_draw [.par (.lst (l.map .int)), .val (.int b)] = .ok (.int v) (some (.lst (l'.map .int))) ∧ 0 ≤ v ∧ v < b ∧ Dr l' := by
  have b0 : b ≠ 0 := by omega
  have b1 : b.natAbs < 1073741824 := by omega
  have key : ∀ (x : Int) (r : List Int), 0 ≤ x → (∀ n ∈ r, 0 ≤ n) → 0 ≤ x.fmod b ∧ x.fmod b < b ∧ Dr (x.fdiv b :: r) := fun x r hx hr => ⟨Int.fmod_nonneg_of_pos x (by omega), Int.fmod_lt_of_pos x (by omega), fun e => (by cases e), fun n hn => by
    rcases List.mem_cons.mp hn with rfl | hn
    · exact Int.fdiv_nonneg hx (by omega)
    · exact hr n hn⟩
  obtain ⟨h0, h1⟩ := h
  match l, h0, h1 with
  | [x], _, h1 => exact ⟨_, _, draw1 (.inr rfl) b0 b1, key x [] (h1 x (List.mem_cons_self ..)) fun n hn => by cases hn⟩
  | x :: y :: r, _, h1 =>
    by_cases hx : x = 0
    · subst hx
      exact ⟨_, _, draw2 b0 b1, key y r (h1 y (by simp)) fun n hn => h1 n (by simp [hn])⟩
    · exact ⟨_, _, draw1 (.inl hx) b0 b1, key x (y :: r) (h1 x (List.mem_cons_self ..)) fun n hn => h1 n (List.mem_cons_of_mem _ hn)⟩
theorem ixE {row : List D} {v : Int} (h0 : 0 ≤ v) (h1 : v < row.length) : ∃ d, d ∈ row ∧ oIx (.lst row) (.int v) = some d := by
  have hv : v.toNat < row.length := by omega
  refine ⟨row[v.toNat], List.getElem_mem hv, ?_⟩
  show atI row v = _
  unfold atI ixN
  rw [if_pos h0, if_pos h1]
  show row[v.toNat]? = _
  simp [hv]
theorem pick_ok {l : List Int} (h : Dr l) (row : List D) (h1 : 1 ≤ row.length) (h2 : row.length < 1000) : ∃ (d : D) (l' : List Int), d__law_pick [.par (.lst (l.map .int)), .val (.lst row)] = .ok d (some (.lst (l'.map .int))) ∧ d ∈ row ∧ Dr l' := by
  obtain ⟨v, l', e, v0, v1, hd⟩ := draw_ok h (row.length : Nat) (by omega) (by omega)
  obtain ⟨d, hm, hx⟩ := ixE v0 v1
  refine ⟨d, l', ?_, hm, hd⟩
  unfold d__law_pick b__law_pick
  (exists e, hx)
def Sm (n : Int) : Prop := 0 ≤ n ∧ n ≤ 9
def SmO (o : Option Int) : Prop := ∀ k, o = some k → Sm k
theorem number_ok {l : List Int} (h : Dr l) : ∃ (z : Option Int) (l' : List Int), d__law_number [.par (.lst (l.map .int))] = .ok (match z with | some k => .int k | none => .non) (some (.lst (l'.map .int))) ∧ Dr l' ∧ SmO z := by
  obtain ⟨v, l', e, v0, v1, hd⟩ := draw_ok h 10 (by omega) (by omega)
  unfold d__law_number b__law_number
  by_cases hv : v = 0
  · have h0 : decide (v = 0) = true := decide_eq_true hv
    exact ⟨none, l', by (exists e), hd, fun k e => nomatch e⟩
  · have h0 : decide (v = 0) = false := decide_eq_false hv
    exact ⟨some v, l', by (exists e), hd, fun k e => by cases e; exact ⟨v0, by omega⟩⟩
theorem rules_ok {l : List Int} (h : Dr l) : ∃ (a b c : Str) (l' : List Int), d__law_rules [.par (.lst (l.map .int))] = .ok (.lst [.str a, .str b, .str c]) (some (.lst (l'.map .int))) ∧ Dr l' ∧ a ≠ "list" ∧ b ≠ "list" ∧ c ≠ "list" := by
  have mem : ∀ d ∈ [D.str "clears", D.str "refuses", D.str "takes"], ∃ s : Str, d = .str s ∧ s ≠ "list" := fun d hd => by
    simp at hd
    rcases hd with rfl | rfl | rfl <;> exact ⟨_, rfl, by decide⟩
  obtain ⟨d1, l1, e1, m1, h1⟩ := pick_ok h [D.str "clears", D.str "refuses", D.str "takes"] (by decide) (by decide)
  obtain ⟨d2, l2, e2, m2, h2⟩ := pick_ok h1 [D.str "clears", D.str "refuses", D.str "takes"] (by decide) (by decide)
  obtain ⟨d3, l3, e3, m3, h3⟩ := pick_ok h2 [D.str "clears", D.str "refuses", D.str "takes"] (by decide) (by decide)
  obtain ⟨a, rfl, n1⟩ := mem _ m1
  obtain ⟨b, rfl, n2⟩ := mem _ m2
  obtain ⟨c, rfl, n3⟩ := mem _ m3
  refine ⟨a, b, c, l3, ?_, h3, n1, n2, n3⟩
  unfold d__law_rules b__law_rules
  (exists e1, e2, e3)
theorem appI {ks : List Int} {v : Int} (h : ks.length < 1000000) : mApp (.lst (ks.map .int)) [.int v] = some (.non, .lst ((ks ++ [v]).map .int)) := by
  show (if (ks.map D.int).length < 1000000 then some (D.non, D.lst (ks.map D.int ++ [D.int v])) else none) = _
  rw [if_pos (by rw [List.length_map]; exact h), List.map_append]
  rfl
theorem eqI {a b : Int} : scalD (.int a) (.int b) = some (decide (a = b)) := rfl
theorem anyI (v : Int) : ∀ ks : List Int, anyEq (.int v) (ks.map .int) = some (decide (v ∈ ks))
  | [] => by simp [anyEq]
  | k :: ks => by
    have := anyI v ks
    rw [List.map_cons]
    unfold anyEq
    rw [this]
    by_cases h : v = k
    · simp [eqI, h, flatD]
    · have h' : ¬ k = v := fun e => h e.symm
      simp [eqI, h, h', flatD]
end
end K48L
namespace K48L
open PySem PySem.Spec PyProof.Rows L2 Dv K48
set_option autoImplicit false
noncomputable section

abbrev Ls (l : List Int) : D := .lst (l.map .int)
theorem notinI (v : Int) (ks : List Int) : oOr (oIn true) (oInD true) (.int v) (Ls ks) = some (.bl (!decide (v ∈ ks))) := by
  unfold oOr oIn
  show (match (match flatD (.int v), anyEq (.int v) (ks.map D.int) with | true, some b => some (D.bl (if true = true then !b else b)) | _, _ => none) with | some d => some d | none => _) = _
  rw [anyI]
  rfl
theorem inI (v : Int) (ks : List Int) : oOr (oIn false) (oInD false) (.int v) (Ls ks) = some (.bl (decide (v ∈ ks))) := by
  unfold oOr oIn
  show (match (match flatD (.int v), anyEq (.int v) (ks.map D.int) with | true, some b => some (D.bl (if false = true then !b else b)) | _, _ => none) with | some d => some d | none => _) = _
  rw [anyI]
  rfl
def bodyL : EvS := (xSeq (xSet 3 (xOp oAdd (xC (.int 1)) (xCall 2 d__law_draw (gSlot 0 (gVal (xC (.int 9)) gNil)))))
 (xIfS (xBorT (xTest (xOp (oOr (oIn true) (oInD true)) (xVal 3) (xVal 1))))
 (xDrop (xOwnM mApp 1 (xCons (xVal 3) xNil)))
 xNx))
theorem addI {a b : Int} : oAdd (.int a) (.int b) = some (.int (a + b)) := rfl
theorem list_loop : ∀ (xs l ks : List Int) (s2 s3 : Sl), isPar s2 = false → isPar s3 = false → Dr l → ks.length + xs.length < 1000 → (∀ k ∈ ks, Sm k) → ∃ (l' ks' : List Int) (e' : Dv.Env), forL (yName 2) bodyL (xs.map .int) [.par (Ls l), .box (Ls ks), s2, s3] = .nx (.par (Ls l') :: .box (Ls ks') :: e') ∧ Dr l' ∧ ks'.length ≤ ks.length + xs.length ∧ (∀ k ∈ ks', Sm k)
  | [], l, ks, s2, s3, _, _, h, hl, hs => ⟨l, ks, _, rfl, h, Nat.le_refl _, hs⟩
  | x :: xs, l, ks, s2, s3, f2, f3, h, hl, hs => by
    obtain ⟨v, l1, e, v0, v1, h1⟩ := draw_ok h 9 (by omega) (by omega)
    rw [List.length_cons] at hl
    by_cases hm : 1 + v ∈ ks
    · obtain ⟨l', ks', e', k1, k2, k3, k4⟩ := list_loop xs l1 ks (.val (.int x)) (.val (.int (1 + v))) rfl rfl h1 (by omega) hs
      refine ⟨l', ks', e', ?_, k2, by rw [List.length_cons]; omega, k4⟩
      have hb : (!decide (1 + v ∈ ks)) = false := by simp [hm]
      have n1 := notinI (1 + v) ks
      show forL (yName 2) bodyL (.int x :: xs.map .int) _ = _
      refine for_cons (e1 := [.par (Ls l), .box (Ls ks), .val (.int x), s3]) (by (exists trivial)) (rs := .nx [.par (Ls l1), .box (Ls ks), .val (.int x), .val (.int (1 + v))]) ?_ (fk_nx k1)
      unfold bodyL
      (exists e, addI, n1)
    · obtain ⟨l', ks', e', k1, k2, k3, k4⟩ := list_loop xs l1 (ks ++ [1 + v]) (.val (.int x)) (.val (.int (1 + v))) rfl rfl h1 (by rw [List.length_append]; simp; omega) (fun k hk => (List.mem_append.mp hk).elim (hs k) fun hk => by rw [List.mem_singleton.mp hk]; exact ⟨by omega, by omega⟩)
      refine ⟨l', ks', e', ?_, k2, by rw [List.length_append] at k3; simp at k3; rw [List.length_cons]; omega, k4⟩
      have hb : (!decide (1 + v ∈ ks)) = true := by simp [hm]
      have n1 := notinI (1 + v) ks
      have a1 := appI (v := 1 + v) (show ks.length < 1000000 by omega)
      show forL (yName 2) bodyL (.int x :: xs.map .int) _ = _
      refine for_cons (e1 := [.par (Ls l), .box (Ls ks), .val (.int x), s3]) (by (exists trivial)) (rs := .nx [.par (Ls l1), .box (Ls (ks ++ [1 + v])), .val (.int x), .val (.int (1 + v))]) ?_ (fk_nx k1)
      unfold bodyL
      (exists e, addI, n1, a1)
theorem rng0 (n : Nat) : ∃ xs : List Int, rngD 0 n = xs.map .int ∧ xs.length = n := ⟨(List.range n).map fun (k : Nat) => (0 : Int) + (k : Int), by simp [rngD], by simp⟩
theorem list_ok {l : List Int} (h : Dr l) : ∃ (ks l' : List Int), d__law_list [.par (Ls l)] = .ok (Ls ks) (some (Ls l')) ∧ Dr l' ∧ ks.length ≤ 4 ∧ (∀ k ∈ ks, Sm k) := by
  obtain ⟨v, l1, e, v0, v1, h1⟩ := draw_ok h 5 (by omega) (by omega)
  obtain ⟨xs, hx, hl⟩ := rng0 v.toNat
  obtain ⟨l', ks', e', k1, k2, k3, k4⟩ := list_loop xs l1 [] .no .no rfl rfl h1 (by simp; omega) (fun k hk => nomatch hk)
  refine ⟨ks', l', ?_, k2, by simp at k3; omega, k4⟩
  have rg : iRg1 (xCons (xCall 2 d__law_draw (gSlot 0 (gVal (xC (.int 5)) gNil))) xNil) [.par (Ls l), .box (.lst []), .no, .no] = .ok (xs.map .int) [.par (Ls l1), .box (.lst []), .no, .no] := by
    rw [← hx]
    exact r_rg1 (by (exists e)) ⟨by omega, by omega⟩
  unfold d__law_list b__law_list
  have k1 : forL (yName 2) bodyL (xs.map .int) [.par (Ls l1), .box (.lst []), .no, .no] = .nx (.par (Ls l') :: .box (Ls ks') :: e') := k1
  unfold bodyL at k1
  (exists rg, k1)
end
end K48L
namespace K48L
open PySem PySem.Spec PyProof.Rows L2 Dv K48
set_option autoImplicit false
noncomputable section


abbrev oi : Option Int → D
  | some k => .int k
  | none => .non
abbrev os : Option Str → D
  | some k => .str k
  | none => .non
def od : Option Int → PyData
  | some k => .int k
  | none => .none
def osd : Option Str → PyData
  | some k => .str k
  | none => .none
def slen : Option Str → Nat
  | some s => s.length
  | none => 0
def okS (y : Option Str) : Prop := (∀ x : Option Int, SeqAt.shaped (.list [od x, osd y]) = true) ∧ slen y ≤ 1000 ∧ (y = none ∨ y = some "" ∨ y = some "b" ∨ y = some "ab")
inductive Th where
  | A (x : Option Int) (y : Option Str) (z : Option Int) (ks : List Int)
  | B (p q : Option Int) (ks : List Int)
def Th.kd : Th → Str
  | .A .. => "A"
  | .B .. => "B"
def Th.ks : Th → List Int
  | .A _ _ _ ks => ks
  | .B _ _ ks => ks
def okT : Th → Prop
  | .A x y z ks => ks.length ≤ 4 ∧ okS y ∧ SmO x ∧ SmO z ∧ ∀ k ∈ ks, Sm k
  | .B p q ks => ks.length ≤ 4 ∧ SmO p ∧ SmO q ∧ ∀ k ∈ ks, Sm k
theorem okS_none : okS none := ⟨fun x => by cases x <;> rfl, by decide, .inl rfl⟩
theorem okS_m1 : okS (some "") := ⟨fun x => by
  cases x with
  | none => decide +kernel
  | some k => exact (show SeqAt.shaped (.list [od (some 0), osd (some "")]) = true by decide +kernel), by decide, .inr (.inl rfl)⟩
theorem okS_m2 : okS (some "b") := ⟨fun x => by
  cases x with
  | none => decide +kernel
  | some k => exact (show SeqAt.shaped (.list [od (some 0), osd (some "b")]) = true by decide +kernel), by decide, .inr (.inr (.inl rfl))⟩
theorem okS_m3 : okS (some "ab") := ⟨fun x => by
  cases x with
  | none => decide +kernel
  | some k => exact (show SeqAt.shaped (.list [od (some 0), osd (some "ab")]) = true by decide +kernel), by decide, .inr (.inr (.inr rfl))⟩
def Th.cont : Th → List (L2.Key × D)
  | .A x y z ks => [(.inr "a", oi x), (.inr "t", os y), (.inr "r", oi z), (.inr "l", Ls ks)]
  | .B p q ks => [(.inr "p", oi p), (.inr "q", oi q), (.inr "m", Ls ks)]
def Th.d (t : Th) : D := .ins 4 [("kind", .str t.kd), ("contents", .dct t.cont)]
theorem numb_ok {l : List Int} (h : Dr l) : ∃ (z : Option Int) (l' : List Int), d__law_number [.par (Ls l)] = .ok (oi z) (some (Ls l')) ∧ Dr l' ∧ SmO z := by
  obtain ⟨z, l', e, h'⟩ := number_ok h
  exact ⟨z, l', by rw [e] <;> (cases z <;> rfl), h'⟩
theorem conA_ok {l : List Int} (h : Dr l) : ∃ (x : Option Int) (y : Option Str) (z : Option Int) (ks l' : List Int), d__law_contents [.par (Ls l), .val (.str "A")] = .ok (.dct (Th.A x y z ks).cont) (some (Ls l')) ∧ Dr l' ∧ okT (.A x y z ks) := by
  obtain ⟨d1, l1, e1, m1, h1⟩ := pick_ok h [.non, .int 0, .int 1, .int 2, .int 9] (by decide) (by decide)
  have hx : ∃ x, d1 = oi x ∧ SmO x := by
    simp at m1
    rcases m1 with rfl | rfl | rfl | rfl | rfl
    · exact ⟨none, rfl, fun k e => by cases e <;> exact ⟨by decide, by decide⟩⟩
    · exact ⟨some 0, rfl, fun k e => by cases e <;> exact ⟨by decide, by decide⟩⟩
    · exact ⟨some 1, rfl, fun k e => by cases e <;> exact ⟨by decide, by decide⟩⟩
    · exact ⟨some 2, rfl, fun k e => by cases e <;> exact ⟨by decide, by decide⟩⟩
    · exact ⟨some 9, rfl, fun k e => by cases e <;> exact ⟨by decide, by decide⟩⟩
  obtain ⟨x, rfl, sx⟩ := hx
  obtain ⟨d2, l2, e2, m2, h2⟩ := pick_ok h1 [.non, .str "", .str "b", .str "ab"] (by decide) (by decide)
  have hy : ∃ x, d2 = os x ∧ okS x := by
    simp at m2
    rcases m2 with rfl | rfl | rfl | rfl
    · exact ⟨none, rfl, okS_none⟩
    · exact ⟨some _, rfl, okS_m1⟩
    · exact ⟨some _, rfl, okS_m2⟩
    · exact ⟨some _, rfl, okS_m3⟩
  obtain ⟨y, rfl, oy⟩ := hy
  obtain ⟨z, l3, e3, h3, sz⟩ := numb_ok h2
  obtain ⟨ks, l4, e4, h4, k4, sk⟩ := list_ok h3
  refine ⟨x, y, z, ks, l4, ?_, h4, k4, oy, sx, sz, sk⟩
  unfold d__law_contents b__law_contents Th.cont
  (exists e1, e2, e3, e4)
theorem conB_ok {l : List Int} (h : Dr l) : ∃ (p q : Option Int) (ks l' : List Int), d__law_contents [.par (Ls l), .val (.str "B")] = .ok (.dct (Th.B p q ks).cont) (some (Ls l')) ∧ Dr l' ∧ okT (.B p q ks) := by
  obtain ⟨p, l1, e1, h1, sp⟩ := numb_ok h
  obtain ⟨q, l3, e3, h3, sq⟩ := numb_ok h1
  obtain ⟨ks, l4, e4, h4, k4, sk⟩ := list_ok h3
  refine ⟨p, q, ks, l4, ?_, h4, k4, sp, sq, sk⟩
  unfold d__law_contents b__law_contents Th.cont
  (exists e1, e3, e4)
theorem cc_oi (x : Option Int) : d_content_copy [.val (oi x)] = .ok (oi x) none := by
  unfold d_content_copy b_content_copy
  cases x <;> (exists trivial)
theorem cc_os (x : Option Str) : d_content_copy [.val (os x)] = .ok (os x) none := by
  unfold d_content_copy b_content_copy
  cases x <;> (exists trivial)
theorem cc_ls (x : List Int) : d_content_copy [.val (Ls x)] = .ok (Ls x) none := by
  unfold d_content_copy b_content_copy
  (exists trivial)
theorem init_ok (t : Th) : d_Thing___init__ [.par (.ins 4 []), .val (.str t.kd), .val (.dct t.cont)] = .ok .non (some t.d) := by
  cases t with
  | A x y z ks =>
    have c1 := cc_oi x
    have c2 := cc_os y
    have c3 := cc_oi z
    have c4 := cc_ls ks
    unfold d_Thing___init__ b_Thing___init__ Th.d Th.cont Th.kd
    apply r_runN
    (exists c1, c2, c3, c4)
  | B p q ks =>
    have c1 := cc_oi p
    have c3 := cc_oi q
    have c4 := cc_ls ks
    unfold d_Thing___init__ b_Thing___init__ Th.d Th.cont Th.kd
    apply r_runN
    (exists c1, c3, c4)

abbrev Pic := List (Int × Th)
def picK (P : Pic) : List (L2.Key × D) := P.map fun p => (.inl p.1, p.2.d)
def putP (P : Pic) (k : Int) (t : Th) : Pic := if (P.any fun p => decide (p.1 = k)) = true then P.map (fun p => if p.1 = k then (p.1, t) else p) else P ++ [(k, t)]
theorem putP_d (P : Pic) (k : Int) (t : Th) : putKD (picK P) (.inl k) t.d = picK (putP P k t) := by
  have hk : ∀ j : Int, ((.inl j : L2.Key) = .inl k) ↔ j = k := fun j => ⟨fun e => by cases e; rfl, fun e => by rw [e]⟩
  unfold putKD putP picK
  have e1 : ((P.map fun p => ((.inl p.1 : L2.Key), p.2.d)).any fun kv => decide (kv.1 = .inl k)) = P.any fun p => decide (p.1 = k) := by
    rw [List.any_map]
    congr 1
    funext p
    simp only [Function.comp]
    exact decide_eq_decide.mpr (hk p.1)
  rw [e1]
  split
  · rw [List.map_map, List.map_map]
    refine List.map_congr_left fun p _ => ?_
    simp only [Function.comp]
    by_cases h : p.1 = k
    · rw [if_pos ((hk p.1).mpr h), if_pos h]
    · rw [if_neg (fun e => h ((hk p.1).mp e)), if_neg h]
  · rw [List.map_append]
    rfl
def Good (P : Pic) : Prop := (P.map (·.1)).Nodup ∧ ∀ p ∈ P, okT p.2
theorem putP_good {P : Pic} {k : Int} {t : Th} (h : Good P) (ht : okT t) : Good (putP P k t) ∧ (putP P k t).length ≤ P.length + 1 := by
  unfold putP
  split
  · refine ⟨⟨?_, fun p hp => ?_⟩, by rw [List.length_map]; omega⟩
    · rw [List.map_map, List.map_congr_left (g := fun p : Int × Th => p.1) fun p _ => by
        simp only [Function.comp]
        split <;> rfl]
      exact h.1
    · obtain ⟨q, hq, rfl⟩ := List.mem_map.mp hp
      split
      · exact ht
      · exact h.2 q hq
  · rename_i hn
    refine ⟨⟨?_, fun p hp => ?_⟩, by rw [List.length_append]; simp⟩
    · rw [List.map_append]
      refine List.nodup_append.mpr ⟨h.1, by simp, fun a ha b hb e => ?_⟩
      simp at hb
      subst hb
      subst e
      obtain ⟨q, hq, e⟩ := List.mem_map.mp ha
      exact hn (List.any_eq_true.mpr ⟨q, hq, decide_eq_true e⟩)
    · rcases List.mem_append.mp hp with hp | hp
      · exact h.2 p hp
      · simp at hp
        subst hp
        exact ht
def bodyP : EvS := (xSeq (xSet 3 (xOp oAdd (xC (.int 1)) (xCall 2 d__law_draw (gSlot 0 (gVal (xC (.int 9)) gNil)))))
 (xSeq (xSet 4 (xCall 2 d__law_pick (gSlot 0 (gVal (xLst (xCons (xC (.str "A")) (xCons (xC (.str "B")) xNil))) gNil))))
 (xDPut 1 (xVal 3) (xMake 4 3 [] d_Thing___init__ (xCons (xVal 4) (xCons (xCall 2 d__law_contents (gSlot 0 (gVal (xVal 4) gNil))) xNil))))))
theorem thing_ok {l : List Int} (h : Dr l) : ∃ (t : Th) (l1 l' : List Int), d__law_pick [.par (Ls l), .val (.lst [.str "A", .str "B"])] = .ok (.str t.kd) (some (Ls l1)) ∧ d__law_contents [.par (Ls l1), .val (.str t.kd)] = .ok (.dct t.cont) (some (Ls l')) ∧ Dr l' ∧ okT t := by
  obtain ⟨d1, l1, e1, m1, h1⟩ := pick_ok h [.str "A", .str "B"] (by decide) (by decide)
  simp at m1
  rcases m1 with rfl | rfl
  · obtain ⟨x, y, z, ks, l', e2, h2, k⟩ := conA_ok h1
    exact ⟨.A x y z ks, l1, l', e1, e2, h2, k⟩
  · obtain ⟨p, q, ks, l', e2, h2, k⟩ := conB_ok h1
    exact ⟨.B p q ks, l1, l', e1, e2, h2, k⟩
theorem pic_loop : ∀ (xs l : List Int) (P : Pic) (s2 s3 s4 : Sl), isPar s2 = false → isPar s3 = false → isPar s4 = false → Dr l → Good P → P.length + xs.length < 1000 → ∃ (l' : List Int) (P' : Pic) (e' : Dv.Env), forL (yName 2) bodyP (xs.map .int) [.par (Ls l), .box (.dct (picK P)), s2, s3, s4] = .nx (.par (Ls l') :: .box (.dct (picK P')) :: e') ∧ Dr l' ∧ Good P' ∧ P'.length ≤ P.length + xs.length
  | [], l, P, s2, s3, s4, _, _, _, h, g, hl => ⟨l, P, _, rfl, h, g, Nat.le_refl _⟩
  | x :: xs, l, P, s2, s3, s4, f2, f3, f4, h, g, hl => by
    obtain ⟨v, l1, e, v0, v1, h1⟩ := draw_ok h 9 (by omega) (by omega)
    obtain ⟨t, l2, l3, e2, e3, h3, kt⟩ := thing_ok h1
    rw [List.length_cons] at hl
    obtain ⟨g2, n2⟩ := putP_good (k := 1 + v) g kt
    obtain ⟨l', P', e', k1, k2, k3, k4⟩ := pic_loop xs l3 (putP P (1 + v) t) (.val (.int x)) (.val (.int (1 + v))) (.val (.str t.kd)) rfl rfl rfl h3 g2 (by omega)
    refine ⟨l', P', e', ?_, k2, k3, by rw [List.length_cons]; omega⟩
    have i1 := init_ok t
    have p1 := putP_d P (1 + v) t
    have p2 : (picK P).length < 1000000 := by unfold picK; rw [List.length_map]; omega
    show forL (yName 2) bodyP (.int x :: xs.map .int) _ = _
    refine for_cons (e1 := [.par (Ls l), .box (.dct (picK P)), .val (.int x), s3, s4]) (by (exists trivial)) (rs := .nx [.par (Ls l3), .box (.dct (picK (putP P (1 + v) t))), .val (.int x), .val (.int (1 + v)), .val (.str t.kd)]) ?_ (fk_nx k1)
    unfold bodyP
    (exists e, addI, e2, e3, i1, p1)
theorem pic_ok {l : List Int} (h : Dr l) : ∃ (P : Pic) (l' : List Int), d__law_picture [.par (Ls l)] = .ok (.dct (picK P)) (some (Ls l')) ∧ Dr l' ∧ Good P ∧ P.length ≤ 7 := by
  obtain ⟨v, l1, e, v0, v1, h1⟩ := draw_ok h 8 (by omega) (by omega)
  obtain ⟨xs, hx, hl⟩ := rng0 v.toNat
  obtain ⟨l', P', e', k1, k2, k3, k4⟩ := pic_loop xs l1 [] .no .no .no rfl rfl rfl h1 ⟨by simp, by simp⟩ (by simp; omega)
  refine ⟨P', l', ?_, k2, k3, by simp at k4; omega⟩
  have rg : iRg1 (xCons (xCall 2 d__law_draw (gSlot 0 (gVal (xC (.int 8)) Dv.gNil))) xNil) [.par (Ls l), .box (.dct []), .no, .no, .no] = .ok (xs.map .int) [.par (Ls l1), .box (.dct []), .no, .no, .no] := by
    rw [← hx]
    exact r_rg1 (by (exists e)) ⟨by omega, by omega⟩
  have k1 : forL (yName 2) bodyP (xs.map .int) [.par (Ls l1), .box (.dct []), .no, .no, .no] = .nx (.par (Ls l') :: .box (.dct (picK P')) :: e') := k1
  unfold bodyP at k1
  unfold d__law_picture b__law_picture
  (exists rg, k1)
end
end K48L
namespace K48L
open PySem PySem.Spec PyProof.Rows L2 Dv K48
set_option autoImplicit false
noncomputable section
/-! ### a picture's copy shares no list -/
def oiV : Option Int → V
  | some k => .int k
  | none => .non
def osV : Option Str → V
  | some k => .str k
  | none => .non
def Th.cv (l : Addr) : Th → List (L2.Key × V)
  | .A x y z _ => [(.inr "a", oiV x), (.inr "t", osV y), (.inr "r", oiV z), (.inr "l", .ref l)]
  | .B p q _ => [(.inr "p", oiV p), (.inr "q", oiV q), (.inr "m", .ref l)]
/-- the same, its list locked -/
def Th.contS : Th → List (L2.Key × D)
  | .A x y z ks => [(.inr "a", oi x), (.inr "t", os y), (.inr "r", oi z), (.inr "l", .scr (ks.map D.int))]
  | .B p q ks => [(.inr "p", oi p), (.inr "q", oi q), (.inr "m", .scr (ks.map D.int))]
def Th.dS (t : Th) : D := .ins 4 [("kind", .str t.kd), ("contents", .dct t.contS)]
def flT (c : Addr) (t : Th) : List (Str × V) := [("kind", .str t.kd), ("contents", .ref c)]
section
variable {K : PySem.W.Frag} {A : Ad}
/-- a thing stands there: its list at l -/
structure ThI (A : Ad) (H : Hp) (a c l : Addr) (t : Th) : Prop where
  ins : ∃ dx, H a = some (.ins (S A 4) dx (flT c t))
  dct : Rd H c (.dK (t.cv l))
  lst : H l = some (.lst (t.ks.map V.int))
theorem rep_oi {G : Hp} {x : Option Int} {v : V} (r : Rep K (S A) G (oi x) v) : v = oiV x := by
  cases x <;> exact r
theorem rep_os {G : Hp} {x : Option Str} {v : V} (r : Rep K (S A) G (os x) v) : v = osV x := by
  cases x <;> exact r
theorem oi_rep {G : Hp} {x : Option Int} : Rep K (S A) G (oi x) (oiV x) := by
  cases x <;> rfl
theorem os_rep {G : Hp} {x : Option Str} : Rep K (S A) G (os x) (osV x) := by
  cases x <;> rfl
theorem repL_ints {G : Hp} : ∀ {ks : List Int} {vs : List V}, RepL K (S A) G (ks.map D.int) vs → vs = ks.map V.int
  | [], _, r => by cases r; rfl
  | k :: ks, _, ⟨v, ws, e, q, r⟩ => by
    subst e
    have q : v = .int k := q
    rw [q, repL_ints r]
    rfl
theorem ints_repL {G : Hp} : ∀ {ks : List Int}, RepL K (S A) G (ks.map D.int) (ks.map V.int)
  | [] => rfl
  | k :: ks => ⟨_, _, rfl, rfl, ints_repL⟩
/-- from a tree to the places -/
theorem thI_of {G : Hp} {t : Th} {v : V} (r : Rep K (S A) G t.d v) : ∃ a c l dx, v = .ref a ∧ G a = some (.ins (S A 4) dx (flT c t)) ∧ G c = some (.dK (t.cv l)) ∧ G l = some (.lst (t.ks.map V.int)) := by
  obtain ⟨a, dx, ws, rfl, ga, v1, w1, e1, q1, v2, w2, e2, ⟨c, kv, rfl, gc, rk⟩, e3⟩ := r
  cases e3
  subst e2
  subst e1
  have q1 : v1 = .str t.kd := q1
  subst q1
  cases t with
  | A x y z ks =>
    obtain ⟨a1, b1, f1, r1, a2, b2, f2, r2, a3, b3, f3, r3, a4, b4, f4, ⟨l, us, rfl, gl, rl⟩, f5⟩ := rk
    cases f5
    subst f4
    subst f3
    subst f2
    subst f1
    rw [rep_oi r1, rep_os r2, rep_oi r3] at gc
    rw [repL_ints rl] at gl
    exact ⟨a, c, l, dx, rfl, ga, gc, gl⟩
  | B p q ks =>
    obtain ⟨a1, b1, f1, r1, a2, b2, f2, r2, a4, b4, f4, ⟨l, us, rfl, gl, rl⟩, f5⟩ := rk
    cases f5
    subst f4
    subst f2
    subst f1
    rw [rep_oi r1, rep_oi r2] at gc
    rw [repL_ints rl] at gl
    exact ⟨a, c, l, dx, rfl, ga, gc, gl⟩
/-- and back -/
theorem thI_to {G : Hp} {t : Th} {a c l dx : Addr} (ga : G a = some (.ins (S A 4) dx (flT c t))) (gc : G c = some (.dK (t.cv l))) (gl : G l = some (.lst (t.ks.map V.int))) : Rep K (S A) G t.d (.ref a) := by
  refine ⟨a, dx, _, rfl, ga, _, _, rfl, rfl, _, _, rfl, ⟨c, _, rfl, gc, ?_⟩, rfl⟩
  cases t with
  | A x y z ks => exact ⟨_, _, rfl, oi_rep, _, _, rfl, os_rep, _, _, rfl, oi_rep, _, _, rfl, ⟨l, _, rfl, gl, ints_repL⟩, rfl⟩
  | B p q ks => exact ⟨_, _, rfl, oi_rep, _, _, rfl, oi_rep, _, _, rfl, ⟨l, _, rfl, gl, ints_repL⟩, rfl⟩
theorem thS_to {G : Hp} {t : Th} {a c l dx : Addr} {od : Obj} (ga : G a = some (.ins (S A 4) dx (flT c t))) (gc : G c = some (.dK (t.cv l))) (gl : G l = some (.frz od (.lst (t.ks.map V.int)))) : Rep K (S A) G t.dS (.ref a) := by
  refine ⟨a, dx, _, rfl, ga, _, _, rfl, rfl, _, _, rfl, ⟨c, _, rfl, gc, ?_⟩, rfl⟩
  cases t with
  | A x y z ks => exact ⟨_, _, rfl, oi_rep, _, _, rfl, os_rep, _, _, rfl, oi_rep, _, _, rfl, ⟨l, _, rfl, .inl (.inr ⟨od, gl⟩), ints_repL⟩, rfl⟩
  | B p q ks => exact ⟨_, _, rfl, oi_rep, _, _, rfl, oi_rep, _, _, rfl, ⟨l, _, rfl, .inl (.inr ⟨od, gl⟩), ints_repL⟩, rfl⟩
end
/-! the copy's run, over a locked list -/
theorem cc_scr (x : List Int) : d_content_copy [.val (.scr (x.map D.int))] = .ok (Ls x) none := by
  unfold d_content_copy b_content_copy
  (exists trivial)
theorem initS_ok (t : Th) : d_Thing___init__ [.par (.ins 4 []), .val (.str t.kd), .val (.dct t.contS)] = .ok .non (some t.d) := by
  cases t with
  | A x y z ks =>
    have c1 := cc_oi x
    have c2 := cc_os y
    have c3 := cc_oi z
    have c4 := cc_scr ks
    unfold d_Thing___init__ b_Thing___init__ Th.d Th.cont Th.contS Th.kd
    apply r_runN
    (exists c1, c2, c3, c4)
  | B p q ks =>
    have c1 := cc_oi p
    have c3 := cc_oi q
    have c4 := cc_scr ks
    unfold d_Thing___init__ b_Thing___init__ Th.d Th.cont Th.contS Th.kd
    apply r_runN
    (exists c1, c3, c4)
theorem copiedS_ok (t : Th) : d_Thing_copied [.val t.dS] = .ok t.d none := by
  have h := initS_ok t
  unfold d_Thing_copied b_Thing_copied Th.dS
  (exists h)
theorem copied_ok (t : Th) : d_Thing_copied [.val t.d] = .ok t.d none := by
  have h := init_ok t
  unfold d_Thing_copied b_Thing_copied Th.d
  (exists h)
end
end K48L
namespace K48L
open PySem PySem.Spec PyProof.Rows L2 Dv K48
set_option autoImplicit false
noncomputable section
/-! ### contents as data -/
def kc : Th → List (L2.Key × PyData)
  | .A x y z ks => [(.inr "a", od x), (.inr "t", osd y), (.inr "r", od z), (.inr "l", .list (ks.map .int))]
  | .B p q ks => [(.inr "p", od p), (.inr "q", od q), (.inr "m", .list (ks.map .int))]
theorem dat_oi (x : Option Int) : dat (oi x) = some (od x) := by cases x <;> rfl
theorem dat_os (x : Option Str) : dat (os x) = some (osd x) := by cases x <;> rfl
theorem datL_ints : ∀ ks : List Int, datL (ks.map D.int) = some (ks.map PyData.int)
  | [] => rfl
  | k :: ks => by
    show (match dat (.int k), datL (ks.map D.int) with
      | some a, some r => some (a :: r)
      | _, _ => none) = _
    rw [datL_ints ks]
    rfl
theorem dat_Ls (ks : List Int) : dat (Ls ks) = some (.list (ks.map PyData.int)) := by
  show (datL (ks.map D.int)).map PyData.list = _
  rw [datL_ints]
  rfl
theorem datK_cont (t : Th) : datK t.cont = some (kc t) := by
  cases t with
  | A x y z ks => simp only [Th.cont, datK, dat_oi, dat_os, dat_Ls, kc]
  | B p q ks => simp only [Th.cont, datK, dat_oi, dat_os, dat_Ls, kc]
theorem lay_ints : ∀ ks : List Int, PyData.canLayAll0 (ks.map PyData.int) = true
  | [] => rfl
  | k :: ks => by
    show (PyData.canLay0 (.int k) && PyData.canLayAll0 (ks.map PyData.int)) = true
    rw [lay_ints ks]
    rfl
theorem dep_ints : ∀ ks : List Int, PyData.depthAll (ks.map PyData.int) = 0
  | [] => rfl
  | k :: ks => by
    show max (PyData.depth (.int k)) (PyData.depthAll (ks.map PyData.int)) = 0
    rw [dep_ints ks]
    rfl
theorem sh_ints (ks : List Int) : SeqAt.shaped (.list (ks.map PyData.int)) = true := by
  show (PyData.canLay0 (.list (ks.map PyData.int)) && decide (PyData.depth (.list (ks.map PyData.int)) ≤ 64)) = true
  have h1 : PyData.canLay0 (.list (ks.map PyData.int)) = true := by simpa [PyData.canLay0] using lay_ints ks
  have h2 : PyData.depth (.list (ks.map PyData.int)) = 1 := by simp only [PyData.depth, dep_ints]
  rw [h1, h2]
  rfl
theorem sh_od (x : Option Int) : SeqAt.shaped (od x) = true := by cases x <;> rfl
theorem sh_osd {y : Option Str} (h : okS y) : SeqAt.shaped (osd y) = true := by
  rcases h.2.2 with rfl | rfl | rfl | rfl <;> decide +kernel
theorem layK_kc {t : Th} (h : okT t) : layK (kc t) = true := by
  cases t with
  | A x y z ks => simp only [kc, layK, List.all_cons, List.all_nil, sh_od, sh_osd h.2.1, sh_ints, Bool.and_self]
  | B p q ks => simp only [kc, layK, List.all_cons, List.all_nil, sh_od, sh_ints, Bool.and_self]
def Th.app : Th → Int → Th
  | .A x y z ks, k => .A x y z (ks ++ [k])
  | .B p q ks, k => .B p q (ks ++ [k])
theorem layK_app {t : Th} (h : okT t) (k : Int) : layK (kc (t.app k)) = true := by
  cases t with
  | A x y z ks => simp only [Th.app, kc, layK, List.all_cons, List.all_nil, sh_od, sh_osd h.2.1, sh_ints, Bool.and_self]
  | B p q ks => simp only [Th.app, kc, layK, List.all_cons, List.all_nil, sh_od, sh_ints, Bool.and_self]
theorem eqv_sh {d : PyData} (h : SeqAt.shaped d = true) : PyData.eqv d d = true := SeqAt.eqv_refl d (SeqAt.canLay_of_shaped h)
theorem eqv_app (k : Int) : ∀ ks : List Int, PyData.eqvAll ((ks ++ [k]).map PyData.int) (ks.map PyData.int) = false
  | [] => rfl
  | x :: ks => by
    show (PyData.eqv (.int x) (.int x) && PyData.eqvAll ((ks ++ [k]).map PyData.int) (ks.map PyData.int)) = false
    rw [eqv_app k ks, Bool.and_false]
theorem fk_no {a b : Str} {d : PyData} {r : List (L2.Key × PyData)} (h : decide (a = b) = false) : findK (.inr b) ((.inr a, d) :: r) = findK (.inr b) r := by
  have : ¬ (.inr a : L2.Key) = .inr b := fun e => by cases e; simp at h
  exact if_neg this
theorem fk_yes {b : Str} {d : PyData} {r : List (L2.Key × PyData)} : findK (.inr b) ((.inr b, d) :: r) = some d := if_pos rfl
theorem eqK_self {t : Th} (h : okT t) : eqK (kc t) (kc t) = true := by
  cases t with
  | A x y z ks =>
    unfold eqK kc
    simp only [eqAllK, fk_yes, fk_no (show decide (("a" : Str) = "t") = false by decide +kernel), fk_no (show decide (("a" : Str) = "r") = false by decide +kernel), fk_no (show decide (("t" : Str) = "r") = false by decide +kernel), fk_no (show decide (("a" : Str) = "l") = false by decide +kernel), fk_no (show decide (("t" : Str) = "l") = false by decide +kernel), fk_no (show decide (("r" : Str) = "l") = false by decide +kernel), eqv_sh (sh_od _), eqv_sh (sh_osd h.2.1), eqv_sh (sh_ints _), Bool.and_self, beq_self_eq_true]
  | B p q ks =>
    unfold eqK kc
    simp only [eqAllK, fk_yes, fk_no (show decide (("p" : Str) = "q") = false by decide +kernel), fk_no (show decide (("p" : Str) = "m") = false by decide +kernel), fk_no (show decide (("q" : Str) = "m") = false by decide +kernel), eqv_sh (sh_od _), eqv_sh (sh_ints _), Bool.and_self, beq_self_eq_true]
theorem eqv_lst (a b : List PyData) : PyData.eqv (.list a) (.list b) = PyData.eqvAll a b := by simp only [PyData.eqv]
theorem eqK_app {t : Th} (h : okT t) (k : Int) : eqK (kc (t.app k)) (kc t) = false := by
  cases t with
  | A x y z ks =>
    unfold Th.app eqK kc
    simp only [eqAllK, fk_yes, fk_no (show decide (("a" : Str) = "t") = false by decide +kernel), fk_no (show decide (("a" : Str) = "r") = false by decide +kernel), fk_no (show decide (("t" : Str) = "r") = false by decide +kernel), fk_no (show decide (("a" : Str) = "l") = false by decide +kernel), fk_no (show decide (("t" : Str) = "l") = false by decide +kernel), fk_no (show decide (("r" : Str) = "l") = false by decide +kernel), eqv_lst, eqv_app, Bool.false_and, Bool.and_false]
  | B p q ks =>
    unfold Th.app eqK kc
    simp only [eqAllK, fk_yes, fk_no (show decide (("p" : Str) = "q") = false by decide +kernel), fk_no (show decide (("p" : Str) = "m") = false by decide +kernel), fk_no (show decide (("q" : Str) = "m") = false by decide +kernel), eqv_lst, eqv_app, Bool.false_and, Bool.and_false]
theorem oeqk {a b : Th} (ha : layK (kc a) = true) (hb : layK (kc b) = true) : oEqK (.dct a.cont) (.dct b.cont) = some (.bl (eqK (kc a) (kc b))) := by
  unfold oEqK
  simp only [datK_cont, ha, hb, and_self, if_true]
theorem kd_eq (t : Th) : oEq (.str t.kd) (.str t.kd) = some (.bl true) := by
  show some (D.bl (decide (t.kd = t.kd))) = _
  rw [decide_eq_true rfl]
theorem app_kd (t : Th) (k : Int) : (t.app k).kd = t.kd := by cases t <;> rfl
theorem is4 (fs : List (Str × D)) : fIs isOO isOB isBT [.ins 4 fs, .st 4] = some (.bl true) := rfl
theorem eq_self {t : Th} (h : okT t) : d_Thing___eq__ [.val t.d, .val t.d] = .ok (.bl true) none := by
  have e1 := oeqk (layK_kc h) (layK_kc h)
  rw [eqK_self h] at e1
  have e2 := kd_eq t
  unfold d_Thing___eq__ b_Thing___eq__ Th.d
  (exists e1, e2, is4)
theorem eq_app {t : Th} (h : okT t) (k : Int) : d_Thing___eq__ [.val (t.app k).d, .val t.d] = .ok (.bl false) none := by
  have e1 := oeqk (layK_app h k) (layK_kc h)
  rw [eqK_app h k] at e1
  have e2 := kd_eq t
  rw [← app_kd t k] at e2
  have e3 : oEq (.str (t.app k).kd) (.str t.kd) = some (.bl true) := by rw [app_kd]; exact kd_eq t
  unfold d_Thing___eq__ b_Thing___eq__ Th.d
  (exists e1, e3, is4)
end
end K48L
namespace K48L
open PySem PySem.Spec PyProof.Rows L2 Dv K48
set_option autoImplicit false
noncomputable section


theorem mulR {i j : Int} (h : -(2 ^ 64) < j ∧ j < 2 ^ 64) : oMul (.int i) (.int j) = some (.int (i * j)) := by
  show (if cMul i j = true then some (D.int (i * j)) else none) = _
  have : cMul i j = true := by unfold cMul; rw [decide_eq_true h, Bool.or_true]
  rw [if_pos this]
theorem mulL {i j : Int} (h : -(2 ^ 64) < i ∧ i < 2 ^ 64) : oMul (.int i) (.int j) = some (.int (i * j)) := by
  show (if cMul i j = true then some (D.int (i * j)) else none) = _
  have : cMul i j = true := by unfold cMul; rw [decide_eq_true h, Bool.true_or]
  rw [if_pos this]
theorem ixS {row : List Int} {v : Int} (h0 : 0 ≤ v) (h1 : v < row.length) : ∃ d, oIx (.scr (row.map .int)) (.int v) = some (.int d) := by
  have hv : v.toNat < row.length := by omega
  refine ⟨row[v.toNat], ?_⟩
  show atI (row.map D.int) v = _
  unfold atI ixN
  rw [if_pos h0, if_pos (by rw [List.length_map]; exact h1)]
  show (row.map D.int)[v.toNat]? = _
  simp [hv]
theorem lenS {row : List Int} : fLen [.scr (row.map .int)] = some (.int (row.length : Nat)) := by
  show some (D.int ((row.map D.int).length : Nat)) = _
  rw [List.length_map]
theorem intE {v : Int} : fInt [.int v] = some (.int v) := rfl
theorem ltE {a b : Int} : oLt (.int a) (.int b) = some (.bl (decide (a < b))) := rfl
theorem subE {a b : Int} : oSub (.int a) (.int b) = some (.int (a - b)) := rfl
def bodyC : EvS := (xSeq (xSet 4 (xOp oAdd (xOp oMul (xC (.int 11)) (xVal 3)) (xC (.int 5))))
 (xSeq (xIfS (xTest (xOp oLt (xVal 3) (xCB fLen (xCons (xVal 0) xNil))))
 (xSeq (xSet 4 (xCB fInt (xCons (xOp oIx (xVal 0) (xVal 3)) xNil)))
 (xIfS (xTest (xOp oLt (xVal 4) (xC (.int 0))))
 (xSet 4 (xOp oSub (xC (.int 1)) (xOp oMul (xC (.int 2)) (xVal 4))))
 xNx))
 xNx)
 (xSeq (xIfS (xTest (xOp oLt (xVal 4) (xC (.int 1000000000))))
 (xSeq (xSet 4 (xOp oMod (xCB fInt (xCons (xOp oAdd (xOp oAdd (xOp oMul (xCB fInt (xCons (xVal 4) xNil)) (xC (.int 48271))) (xOp oMul (xC (.int 17)) (xVal 3))) (xC (.int 3))) xNil)) (xC (.int 2147483647))))
 (xSet 4 (xOp oMod (xCB fInt (xCons (xOp oAdd (xOp oMul (xCB fInt (xCons (xVal 4) xNil)) (xC (.int 2862933555777941757))) (xC (.int 3037000493))) xNil)) (xC (.int 18446744073709551557)))))
 xNx)
 (xDrop (xOwnM mApp 2 (xCons (xVal 4) xNil))))))
theorem cell_ok (ns acc : List Int) (k : Int) (s4 : Sl) (f4 : isPar s4 = false) (hk : 0 ≤ k) (ha : ∀ n ∈ acc, 0 ≤ n) (hl : acc.length < 1000) : ∃ (c : Int) (s : Sl), bodyC [.val (.scr (ns.map .int)), .val (.int 35), .box (Ls acc), .val (.int k), s4] = .nx [.val (.scr (ns.map .int)), .val (.int 35), .box (Ls (acc ++ [c])), .val (.int k), .val (.int c)] ∧ 0 ≤ c := by
  have m1 : ∀ j : Int, oMul (.int 11) (.int j) = some (.int (11 * j)) := fun j => mulL (by decide)
  have m2 : ∀ j : Int, oMul (.int 2) (.int j) = some (.int (2 * j)) := fun j => mulL (by decide)
  have m3 : ∀ j : Int, oMul (.int 17) (.int j) = some (.int (17 * j)) := fun j => mulL (by decide)
  have m4 : ∀ j : Int, oMul (.int j) (.int 48271) = some (.int (j * 48271)) := fun j => mulR (by decide)
  have m5 : ∀ j : Int, oMul (.int j) (.int 2862933555777941757) = some (.int (j * 2862933555777941757)) := fun j => mulR (by decide)
  have q1 : ∀ j : Int, oMod (.int j) (.int 2147483647) = some (.int (j.fmod 2147483647)) := fun j => modE (by decide)
  have q2 : ∀ j : Int, oMod (.int j) (.int 18446744073709551557) = some (.int (j.fmod 18446744073709551557)) := fun j => modE (by decide)
  have fin : ∀ c1 : Int, 0 ≤ c1 → ∀ s : Sl, isPar s = false → ∃ c, (xSeq (xIfS (xTest (xOp oLt (xVal 4) (xC (.int 1000000000))))
 (xSeq (xSet 4 (xOp oMod (xCB fInt (xCons (xOp oAdd (xOp oAdd (xOp oMul (xCB fInt (xCons (xVal 4) xNil)) (xC (.int 48271))) (xOp oMul (xC (.int 17)) (xVal 3))) (xC (.int 3))) xNil)) (xC (.int 2147483647))))
 (xSet 4 (xOp oMod (xCB fInt (xCons (xOp oAdd (xOp oMul (xCB fInt (xCons (xVal 4) xNil)) (xC (.int 2862933555777941757))) (xC (.int 3037000493))) xNil)) (xC (.int 18446744073709551557)))))
 xNx)
 (xDrop (xOwnM mApp 2 (xCons (xVal 4) xNil)))) [.val (.scr (ns.map .int)), .val (.int 35), .box (Ls acc), .val (.int k), .val (.int c1)] = .nx [.val (.scr (ns.map .int)), .val (.int 35), .box (Ls (acc ++ [c])), .val (.int k), .val (.int c)] ∧ 0 ≤ c := by
    intro c1 h1 s _
    by_cases hc : c1 < 1000000000
    · have b : decide (c1 < 1000000000) = true := decide_eq_true hc
      refine ⟨(((c1 * 48271 + 17 * k + 3).fmod 2147483647) * 2862933555777941757 + 3037000493).fmod 18446744073709551557, ?_, Int.fmod_nonneg_of_pos _ (by decide)⟩
      have a1 := appI (v := (((c1 * 48271 + 17 * k + 3).fmod 2147483647) * 2862933555777941757 + 3037000493).fmod 18446744073709551557) (show acc.length < 1000000 by omega)
      (exists ltE, intE, m3 _, m4 _, m5 _, q1 _, q2 _, addI, a1)
    · have b : decide (c1 < 1000000000) = false := decide_eq_false hc
      refine ⟨c1, ?_, h1⟩
      have a1 := appI (v := c1) (show acc.length < 1000000 by omega)
      (exists ltE, a1)
  by_cases h1 : k < ns.length
  · have b1 : decide (k < (ns.length : Nat)) = true := decide_eq_true h1
    obtain ⟨v, hv⟩ := ixS hk h1
    by_cases h2 : v < 0
    · have b2 : decide (v < 0) = true := decide_eq_true h2
      obtain ⟨c, e, hc⟩ := fin (1 - 2 * v) (by omega) s4 f4
      refine ⟨c, s4, ?_, hc⟩
      unfold bodyC
      (exists e, lenS, ltE, intE, m1 _, m2 _, addI, hv, subE)
    · have b2 : decide (v < 0) = false := decide_eq_false h2
      obtain ⟨c, e, hc⟩ := fin v (by omega) s4 f4
      refine ⟨c, s4, ?_, hc⟩
      unfold bodyC
      (exists e, lenS, ltE, intE, m1 _, m2 _, addI, hv, subE)
  · have b1 : decide (k < (ns.length : Nat)) = false := decide_eq_false h1
    obtain ⟨c, e, hc⟩ := fin (11 * k + 5) (by omega) s4 f4
    refine ⟨c, s4, ?_, hc⟩
    unfold bodyC
    (exists e, lenS, ltE, intE, m1 _, m2 _, addI, subE)
theorem cells_loop (ns : List Int) : ∀ (xs acc : List Int) (s3 s4 : Sl), isPar s3 = false → isPar s4 = false → (∀ x ∈ xs, 0 ≤ x) → (∀ n ∈ acc, 0 ≤ n) → acc.length + xs.length < 1000 → ∃ (l : List Int) (e' : Dv.Env), forL (yName 3) bodyC (xs.map .int) [.val (.scr (ns.map .int)), .val (.int 35), .box (Ls acc), s3, s4] = .nx (.val (.scr (ns.map .int)) :: .val (.int 35) :: .box (Ls l) :: e') ∧ (∀ n ∈ l, 0 ≤ n) ∧ l.length = acc.length + xs.length
  | [], acc, s3, s4, _, _, _, ha, _ => ⟨acc, _, rfl, ha, rfl⟩
  | x :: xs, acc, s3, s4, f3, f4, hx, ha, hl => by
    rw [List.length_cons] at hl
    obtain ⟨c, _, e, hc⟩ := cell_ok ns acc x s4 f4 (hx x (List.mem_cons_self ..)) ha (by omega)
    obtain ⟨l, e', k1, k2, k3⟩ := cells_loop ns xs (acc ++ [c]) (.val (.int x)) (.val (.int c)) rfl rfl (fun y hy => hx y (List.mem_cons_of_mem _ hy)) (fun n hn => by
      rcases List.mem_append.mp hn with hn | hn
      · exact ha n hn
      · simp at hn; omega) (by rw [List.length_append]; simp; omega)
    refine ⟨l, e', ?_, k2, by rw [k3, List.length_append]; simp; omega⟩
    show forL (yName 3) bodyC (.int x :: xs.map .int) _ = _
    exact for_cons (e1 := [.val (.scr (ns.map .int)), .val (.int 35), .box (Ls acc), .val (.int x), s4]) (by (exists trivial)) e (fk_nx k1)
theorem rng0' (n : Nat) : ∃ xs : List Int, rngD 0 n = xs.map .int ∧ xs.length = n ∧ ∀ x ∈ xs, 0 ≤ x := ⟨(List.range n).map fun (k : Nat) => (0 : Int) + (k : Int), by simp [rngD], by simp, fun x hx => by
  obtain ⟨k, _, rfl⟩ := List.mem_map.mp hx
  omega⟩
theorem cells_ok (ns : List Int) : ∃ (l : List Int) (p : Option D), d__law_cells [.val (.scr (ns.map .int)), .val (.int 35)] = .ok (Ls l) p ∧ Dr l := by
  obtain ⟨xs, hx, hl, h0⟩ := rng0' 35
  obtain ⟨l, e', k1, k2, k3⟩ := cells_loop ns xs [] .no .no rfl rfl h0 (by simp) (by simp; omega)
  refine ⟨l, parOf (Sl.val (D.scr (List.map D.int ns)) :: Sl.val (D.int 35) :: Sl.no :: e'), ?_, fun e => by rw [e] at k3; simp at k3; omega, k2⟩
  have k1 : forL (yName 3) bodyC (xs.map .int) [.val (.scr (ns.map .int)), .val (.int 35), .box (.lst []), .no, .no] = .nx (.val (.scr (ns.map .int)) :: .val (.int 35) :: .box (Ls l) :: e') := k1
  have rg : iRg1 (xCons (xVal 1) xNil) [.val (.scr (ns.map .int)), .val (.int 35), .box (.lst []), .no, .no] = .ok (xs.map .int) [.val (.scr (ns.map .int)), .val (.int 35), .box (.lst []), .no, .no] := by
    rw [← hx]
    exact r_rg1 (j := 35) (by (exists trivial)) (by decide)
  unfold bodyC at k1
  unfold d__law_cells b__law_cells
  (exists rg, k1)
end
end K48L
namespace K48L
open PySem PySem.Spec PyProof.Rows L2 Dv K48
set_option autoImplicit false
noncomputable section


/-! the schema -/
theorem i_Int (a b : D) : d_IntSort___init__ [.par (.ins 0 []), .val a, .val b] = .ok .non (some (.ins 0 [("low", a), ("high", b)])) := by
  unfold d_IntSort___init__ b_IntSort___init__
  apply r_runN
  (exists trivial)
theorem i_Text (a b : D) : d_TextSort___init__ [.par (.ins 1 []), .val a, .val b] = .ok .non (some (.ins 1 [("longest", a), ("without", b)])) := by
  unfold d_TextSort___init__ b_TextSort___init__
  apply r_runN
  (exists trivial)
theorem i_Ref (a : List D) (b : D) : d_RefSort___init__ [.par (.ins 2 []), .val (.lst a), .val b] = .ok .non (some (.ins 2 [("kinds", .lst a), ("rule", b)])) := by
  unfold d_RefSort___init__ b_RefSort___init__
  apply r_runN
  (exists trivial)
theorem i_List (a : List D) : d_ListSort___init__ [.par (.ins 3 []), .val (.lst a)] = .ok .non (some (.ins 3 [("kinds", .lst a)])) := by
  unfold d_ListSort___init__ b_ListSort___init__
  apply r_runN
  (exists trivial)
theorem i_Field (a b c : D) : d_Field___init__ [.par (.ins 6 []), .val a, .val b, .val c] = .ok .non (some (.ins 6 [("name", a), ("shape", b), ("needed", c)])) := by
  unfold d_Field___init__ b_Field___init__
  apply r_runN
  (exists trivial)
theorem i_Kind (a : D) (b c : List D) : d_Kind___init__ [.par (.ins 7 []), .val a, .val (.lst b), .val (.lst [.lst c])] = .ok .non (some (.ins 7 [("name", a), ("fields", .lst b), ("key_rows", .lst [.lst c])])) := by
  unfold d_Kind___init__ b_Kind___init__
  apply r_runN
  (exists trivial)
theorem i_Schema (b : List D) : d_Schema___init__ [.par (.ins 8 []), .val (.lst b)] = .ok .non (some (.ins 8 [("kinds", .lst b)])) := by
  unfold d_Schema___init__ b_Schema___init__
  apply r_runN
  (exists trivial)
abbrev fldD (n : Str) (s : D) (nd : Bool) : D := .ins 6 [("name", .str n), ("shape", s), ("needed", .bl nd)]
abbrev shI : D := .ins 0 [("low", .int 0), ("high", .int 9)]
abbrev shT : D := .ins 1 [("longest", .int 4), ("without", .non)]
abbrev shR (ks : List Str) (r : Str) : D := .ins 2 [("kinds", .lst (ks.map .str)), ("rule", .str r)]
abbrev shL (ks : List Str) : D := .ins 3 [("kinds", .lst (ks.map .str))]
abbrev kA (a : Str) (nd : Bool) : D := .ins 7 [("name", .str "A"), ("fields", .lst [fldD "a" shI nd, fldD "t" shT false, fldD "r" (shR ["A", "B"] a) false, fldD "l" (shL ["A"]) false]), ("key_rows", .lst [.lst [.str "a", .str "t"]])]
abbrev kB (b c : Str) (nd : Bool) : D := .ins 7 [("name", .str "B"), ("fields", .lst [fldD "p" (shR ["A"] b) nd, fldD "q" (shR ["B"] c) false, fldD "m" (shL ["A", "B"]) false]), ("key_rows", .lst [.lst [.str "q"]])]
abbrev schD (a b c : Str) (nd : Bool) : D := .ins 8 [("kinds", .lst [kA a nd, kB b c nd])]
abbrev rlsD (a b c : Str) : D := .lst [.str a, .str b, .str c]
theorem ixR0 {a b c : Str} : oIx (rlsD a b c) (.int 0) = some (.str a) := rfl
theorem ixR1 {a b c : Str} : oIx (rlsD a b c) (.int 1) = some (.str b) := rfl
theorem ixR2 {a b c : Str} : oIx (rlsD a b c) (.int 2) = some (.str c) := rfl
theorem schema_ok (a b c : Str) (nd : Bool) : d__law_schema [.val (rlsD a b c), .val (.bl nd)] = .ok (schD a b c nd) none := by
  unfold d__law_schema b__law_schema
  (exists i_Int _ _, i_Text _ _, i_Ref _ _, i_List _, i_Field _ _ _, i_Kind _ _ _, i_Schema _, ixR0, ixR1, ixR2)
end
end K48L
namespace K48L
open PySem PySem.Spec PyProof.Rows L2 Dv K48
set_option autoImplicit false
noncomputable section


def look : Pic → Int → Option Th
  | [], _ => none
  | p :: P, k => if p.1 = k then some p.2 else look P k
theorem look_d : ∀ (P : Pic) (k : Int), valD (picK P) (.inl k) = (look P k).map Th.d
  | [], _ => rfl
  | p :: P, k => by
    have ih := look_d P k
    show (if (.inl p.1 : L2.Key) = .inl k then some p.2.d else valD (picK P) (.inl k)) = (if p.1 = k then some p.2 else look P k).map Th.d
    by_cases h : p.1 = k
    · rw [if_pos (by rw [h]), if_pos h]; rfl
    · rw [if_neg (fun e => h (by cases e; rfl)), if_neg h, ih]
abbrev picD (P : Pic) : D := .dct (picK P)
theorem anyS (v : Str) : ∀ ks : List Str, anyEq (.str v) (ks.map .str) = some (decide (v ∈ ks))
  | [] => by simp [anyEq]
  | k :: ks => by
    have := anyS v ks
    have e1 : scalD (.str k) (.str v) = some (decide (k = v)) := rfl
    rw [List.map_cons]
    unfold anyEq
    rw [this, e1]
    by_cases h : v = k
    · simp [h, flatD]
    · have h' : ¬ k = v := fun e => h e.symm
      simp [h, h', flatD]
abbrev Ss (l : List Str) : D := .lst (l.map .str)
theorem inS (v : Str) (ks : List Str) : oOr (oIn false) (oInD false) (.str v) (Ss ks) = some (.bl (decide (v ∈ ks))) := by
  unfold oOr oIn
  show (match (match flatD (.str v), anyEq (.str v) (ks.map D.str) with | true, some b => some (D.bl (if false = true then !b else b)) | _, _ => none) with | some d => some d | none => _) = _
  rw [anyS]
  rfl
theorem dgetP (P : Pic) (k : Int) : oDGet (picD P) (.int k) = (look P k).map Th.d := look_d P k
theorem dinP (P : Pic) (k : Int) : oDIn false (.int k) (picD P) = some (.bl (look P k).isSome) := by
  show some (D.bl ((valD (picK P) (.inl k)).isSome != false)) = _
  rw [look_d]
  cases look P k <;> rfl
theorem cmp_ints {i : Nat} {ta : EvT} {W env : Dv.Env} (b : Int → Bool) (ks : List Int) (hw : wipeE env [i] = W) (hl : ks.length < 1000000) (hx : ∀ k ∈ ks, ∃ e1 e2, yName i (.int k) W = some e1 ∧ ta e1 = .ok (b k) e2 ∧ wipeE e2 [i] = W ∧ xVal i e2 = .ok (.int k) e2) : ∃ env', cmpL (yName i) ta (xVal i) [i] (ks.map .int) [] env = .ok ((ks.filter b).map .int) env' ∧ wipeE env' [i] = W := by
  obtain ⟨env', h1, h2⟩ := cmp_ok (ta := ta) (a := xVal i) (eg := yName i) W (fun d => match d with | .int k => b k | _ => false) (fun d => d) (ks.map .int) [] env hw (by simpa using hl) (fun x hm => by
    obtain ⟨k, hk, rfl⟩ := List.mem_map.mp hm
    obtain ⟨e1, e2, a1, a2, a3, a4⟩ := hx k hk
    exact ⟨e1, e2, a1, a2, a3, fun _ => ⟨e2, a4, a3⟩⟩)
  refine ⟨env', ?_, h2⟩
  rw [h1, List.nil_append, List.filter_map, List.map_map]
  rfl
end
end K48L
namespace K48L
open PySem PySem.Spec PyProof.Rows L2 Dv K48
set_option autoImplicit false
noncomputable section
/-! ### what is shown -/
theorem sok_app (a b : Str) : PyData.strOk (a ++ b) = (PyData.strOk a && PyData.strOk b) := by
  show (a.cps ++ b.cps).all _ = (a.cps.all _ && b.cps.all _)
  rw [Array.all_append]
theorem sok_join {s : Str} (hs : PyData.strOk s = true) : ∀ {l : List Str}, (∀ x ∈ l, PyData.strOk x = true) → PyData.strOk (Str.join s l) = true
  | [], _ => by show PyData.strOk Str.empty = true; decide +kernel
  | [x], h => h x (List.mem_cons_self ..)
  | x :: y :: r, h => by
    show PyData.strOk (x ++ s ++ Str.join s (y :: r)) = true
    rw [sok_app, sok_app, h x (List.mem_cons_self ..), hs, sok_join hs fun z hz => h z (List.mem_cons_of_mem _ hz)]
    rfl
theorem sm_ind {p : Int → Prop} (h : p 0 ∧ p 1 ∧ p 2 ∧ p 3 ∧ p 4 ∧ p 5 ∧ p 6 ∧ p 7 ∧ p 8 ∧ p 9) {k : Int} (hk : Sm k) : p k := by
  obtain ⟨h0, h1, h2, h3, h4, h5, h6, h7, h8, h9⟩ := h
  have : k = 0 ∨ k = 1 ∨ k = 2 ∨ k = 3 ∨ k = 4 ∨ k = 5 ∨ k = 6 ∨ k = 7 ∨ k = 8 ∨ k = 9 := by
    obtain ⟨a, b⟩ := hk
    omega
  rcases this with rfl | rfl | rfl | rfl | rfl | rfl | rfl | rfl | rfl | rfl <;> assumption
structure LfOk (d : PyData) : Prop where
  sh : d.showable = true
  lf : d.leavesShort 13 = true
  wt : d.weight ≤ 10
  dp : d.depth = 0
  ok : PyData.strOk d.shown = true
theorem lf_int {k : Int} (h : Sm k) : LfOk (.int k) := sm_ind (p := fun k => LfOk (.int k)) (by
  refine ⟨?_, ?_, ?_, ?_, ?_, ?_, ?_, ?_, ?_, ?_⟩ <;> exact ⟨by decide +kernel, by decide +kernel, by decide +kernel, by decide +kernel, by decide +kernel⟩) h
theorem lf_od {x : Option Int} (h : SmO x) : LfOk (od x) := by
  cases x with
  | none => exact ⟨by decide +kernel, by decide +kernel, by decide +kernel, by decide +kernel, by decide +kernel⟩
  | some k => exact lf_int (h k rfl)
theorem lf_osd {y : Option Str} (h : okS y) : LfOk (osd y) := by
  rcases h.2.2 with rfl | rfl | rfl | rfl <;> exact ⟨by decide +kernel, by decide +kernel, by decide +kernel, by decide +kernel, by decide +kernel⟩
theorem okShow_lf {d : PyData} (h : LfOk d) : okShow d = true := by
  unfold okShow
  have := h.wt
  rw [h.sh, h.lf, h.dp, decide_eq_true (show d.weight ≤ 2 ^ 20 by omega)]
  rfl
structure LsOk (d : PyData) : Prop where
  sh : d.showable = true
  lf : d.leavesShort 13 = true
  wt : d.weight ≤ 100
  dp : d.depth ≤ 1
  ok : PyData.strOk d.shown = true
theorem LfOk.ls {d : PyData} (h : LfOk d) : LsOk d := ⟨h.sh, h.lf, by have := h.wt; omega, by rw [h.dp]; omega, h.ok⟩
theorem ints_all : ∀ {ks : List Int}, (∀ k ∈ ks, Sm k) → PyData.showableAll (ks.map .int) = true ∧ PyData.leavesShortAll 13 (ks.map .int) = true ∧ PyData.weightAll (ks.map .int) ≤ 11 * ks.length ∧ ∀ x ∈ PyData.shownAll (ks.map .int), PyData.strOk x = true
  | [], _ => ⟨rfl, rfl, by decide, fun x h => nomatch h⟩
  | k :: ks, h => by
    obtain ⟨i1, i2, i3, i4⟩ := ints_all fun x hx => h x (List.mem_cons_of_mem _ hx)
    have l := lf_int (h k (List.mem_cons_self ..))
    refine ⟨?_, ?_, ?_, ?_⟩
    · rw [List.map_cons, PyData.showableAll, l.sh, i1]; rfl
    · rw [List.map_cons, PyData.leavesShortAll, l.lf, i2]; rfl
    · rw [List.map_cons, PyData.weightAll, List.length_cons]
      have := l.wt
      omega
    · intro x hx
      rw [List.map_cons, PyData.shownAll_cons] at hx
      rcases List.mem_cons.mp hx with rfl | hx
      · exact l.ok
      · exact i4 x hx
theorem ls_ints {ks : List Int} (h : ∀ k ∈ ks, Sm k) (hl : ks.length ≤ 4) : LsOk (.list (ks.map .int)) := by
  obtain ⟨i1, i2, i3, i4⟩ := ints_all h
  refine ⟨by rw [PyData.showable]; exact i1, by rw [PyData.leavesShort]; exact i2, by rw [PyData.weight]; omega, by rw [PyData.depth, dep_ints]; omega, ?_⟩
  rw [PyData.shown_list, sok_app, sok_app, sok_join (by decide +kernel) i4]
  decide +kernel
theorem okShow_ls {d : PyData} (h : LsOk d) : okShow d = true := by
  unfold okShow
  have := h.wt
  have := h.dp
  rw [h.sh, h.lf, decide_eq_true (show d.weight ≤ 2 ^ 20 by omega), decide_eq_true (show d.depth ≤ 60 by omega)]
  rfl
structure KvOk (k v : PyData) : Prop where
  k : LfOk k
  v : LsOk v
theorem kv_all : ∀ {kvs : List (PyData × PyData)}, (∀ p ∈ kvs, KvOk p.1 p.2) → PyData.showableKv kvs = true ∧ PyData.leavesShortKv 13 kvs = true ∧ PyData.weightKv kvs ≤ 112 * kvs.length ∧ PyData.depthKv kvs ≤ 1 ∧ ∀ x ∈ PyData.shownKv kvs, PyData.strOk x = true
  | [], _ => ⟨rfl, rfl, by decide, by decide, fun x h => nomatch h⟩
  | (k, v) :: r, h => by
    obtain ⟨i1, i2, i3, i4, i5⟩ := kv_all fun x hx => h x (List.mem_cons_of_mem _ hx)
    obtain ⟨lk, lv⟩ := h (k, v) (List.mem_cons_self ..)
    have wk := lk.wt
    have wv := lv.wt
    have dk := lk.dp
    have dv := lv.dp
    refine ⟨?_, ?_, ?_, ?_, ?_⟩
    · rw [PyData.showableKv, lk.sh, lv.sh, i1]; rfl
    · rw [PyData.leavesShortKv, lk.lf, lv.lf, i2]; rfl
    · rw [PyData.weightKv, List.length_cons]
      dsimp only at wk wv
      omega
    · rw [PyData.depthKv]
      dsimp only at dk dv
      omega
    · intro x hx
      rw [PyData.shownKv_cons] at hx
      rcases List.mem_cons.mp hx with rfl | hx
      · rw [sok_app, sok_app, lk.ok, lv.ok]
        decide +kernel
      · exact i5 x hx
def tx (t : Th) : Str := (pyK (kc t)).shown
theorem kc_ok {t : Th} (h : okT t) : ∀ p ∈ (kc t).map (fun q => (keyP q.1, q.2)), KvOk p.1 p.2 := by
  have kk : ∀ s : Str, s = "a" ∨ s = "t" ∨ s = "r" ∨ s = "l" ∨ s = "p" ∨ s = "q" ∨ s = "m" → LfOk (.str s) := fun s hs => by
    rcases hs with rfl | rfl | rfl | rfl | rfl | rfl | rfl <;> exact ⟨by decide +kernel, by decide +kernel, by decide +kernel, by decide +kernel, by decide +kernel⟩
  intro p hp
  cases t with
  | A x y z ks =>
    obtain ⟨h1, h2, h3, h4, h5⟩ := h
    simp only [kc, List.map_cons, List.map_nil, List.mem_cons, List.not_mem_nil, or_false] at hp
    rcases hp with rfl | rfl | rfl | rfl
    · exact ⟨kk _ (by simp), (lf_od h3).ls⟩
    · exact ⟨kk _ (by simp), (lf_osd h2).ls⟩
    · exact ⟨kk _ (by simp), (lf_od h4).ls⟩
    · exact ⟨kk _ (by simp), ls_ints h5 h1⟩
  | B x z ks =>
    obtain ⟨h1, h3, h4, h5⟩ := h
    simp only [kc, List.map_cons, List.map_nil, List.mem_cons, List.not_mem_nil, or_false] at hp
    rcases hp with rfl | rfl | rfl
    · exact ⟨kk _ (by simp), (lf_od h3).ls⟩
    · exact ⟨kk _ (by simp), (lf_od h4).ls⟩
    · exact ⟨kk _ (by simp), ls_ints h5 h1⟩
theorem okShow_kc {t : Th} (h : okT t) : okShow (pyK (kc t)) = true := by
  obtain ⟨i1, i2, i3, i4, i5⟩ := kv_all (kc_ok h)
  have hl : ((kc t).map (fun q => (keyP q.1, q.2))).length ≤ 4 := by cases t <;> (rw [List.length_map]; simp [kc])
  unfold okShow pyK
  have e1 : (PyData.dict ((kc t).map (fun q => (keyP q.1, q.2)))).showable = true := by rw [PyData.showable]; exact i1
  have e2 : (PyData.dict ((kc t).map (fun q => (keyP q.1, q.2)))).leavesShort 13 = true := by rw [PyData.leavesShort]; exact i2
  have e3 : (PyData.dict ((kc t).map (fun q => (keyP q.1, q.2)))).weight ≤ 2 ^ 20 := by
    rw [PyData.weight]
    omega
  have e4 : (PyData.dict ((kc t).map (fun q => (keyP q.1, q.2)))).depth ≤ 60 := by
    rw [PyData.depth]
    omega
  rw [e1, e2, decide_eq_true e3, decide_eq_true e4]
  rfl
theorem tx_ok {t : Th} (h : okT t) : PyData.strOk (tx t) = true := by
  obtain ⟨i1, i2, i3, i4, i5⟩ := kv_all (kc_ok h)
  unfold tx pyK
  rw [PyData.shown_dict, sok_app, sok_app, sok_join (by decide +kernel) i5]
  decide +kernel
theorem repr_cont {t : Th} (h : okT t) : fRepr [.dct t.cont] = some (.str (tx t)) := by
  show (match dat (.dct t.cont) with | some d => if okShow d = true then some (D.str d.shown) else none | none => _) = _
  show (match datK t.cont with | some kds => if okShow (pyK kds) = true then some (D.str (pyK kds).shown) else none | none => none) = _
  rw [datK_cont]
  dsimp only
  rw [if_pos (okShow_kc h)]
  rfl
theorem repr_dat {d : D} {e : PyData} (h1 : dat d = some e) (h2 : okShow e = true) : fRepr [d] = some (.str e.shown) := by
  show (match dat d with | some d => if okShow d = true then some (D.str d.shown) else none | none => _) = _
  rw [h1]
  dsimp only
  rw [if_pos h2]
def rowT (k : Int) (t : Th) : D := .tup [.int k, .str t.kd, .str (tx t)]
def rowK (P : Pic) (d : D) : D := match d with
  | .int k => match look P k with
    | some t => rowT k t
    | none => .non
  | _ => .non
def sK (P : Pic) : List Int := sortI (P.map (·.1))
abbrev kepD (P : Pic) : D := .lst ((sK P).map fun k => rowK P (.int k))
end
end K48L
namespace K48L
open PySem PySem.Spec PyProof.Rows L2 Dv K48
set_option autoImplicit false
noncomputable section
theorem keysL (P : Pic) : fListD [picD P] = some (Ls (P.map (·.1))) := by
  show some (D.lst ((P.map fun p => ((.inl p.1 : L2.Key), p.2.d)).map fun kv => kD kv.1)) = _
  rw [List.map_map]
  show _ = some (D.lst ((P.map (·.1)).map D.int))
  rw [List.map_map]
  rfl
theorem intL_map : ∀ ns : List Int, intL (ns.map .int) = some ns
  | [] => rfl
  | n :: r => by
    show (intL (r.map .int)).map (n :: ·) = _
    rw [intL_map r]
    rfl
def keysOf (P : Pic) (kd : Str) : List Int := (P.filter fun p => decide (p.2.kd = kd)).map (·.1)
theorem sortL (L : List Int) : fSorted [Ls L] = some (Ls (sortI L)) := by
  show (intL (L.map D.int)).map (fun ns => D.lst ((sortI ns).map D.int)) = _
  rw [intL_map]
  rfl
theorem look_of : ∀ {P : Pic} {k : Int} {t : Th}, (P.map (·.1)).Nodup → (k, t) ∈ P → look P k = some t
  | [], k, t, _, h => by cases h
  | p :: P, k, t, nd, h => by
    rw [List.map_cons, List.nodup_cons] at nd
    unfold look
    rcases List.mem_cons.mp h with rfl | h
    · rw [if_pos rfl]
    · rw [if_neg (fun e => nd.1 (by rw [e]; exact List.mem_map.mpr ⟨_, h, rfl⟩))]
      exact look_of nd.2 h
theorem look_mem : ∀ {P : Pic} {k : Int} {t : Th}, look P k = some t → (k, t) ∈ P
  | [], k, t, h => by cases h
  | p :: P, k, t, h => by
    unfold look at h
    split at h
    · rename_i e
      cases h
      rw [← e]
      exact List.mem_cons_self ..
    · exact List.mem_cons_of_mem _ (look_mem h)
theorem keys_look (P : Pic) (g : Good P) : ∀ k ∈ sK P, ∃ t, look P k = some t := fun k hk => by
  obtain ⟨p, hp, rfl⟩ := List.mem_map.mp ((sortI_perm _).mem_iff.mp hk)
  exact ⟨p.2, look_of g.1 hp⟩
theorem sK_len (P : Pic) : (sK P).length = P.length := by
  have := (sortI_perm (P.map (·.1))).length_eq
  rw [List.length_map] at this
  exact this
theorem look_ok {P : Pic} (g : Good P) {k : Int} {t : Th} (h : look P k = some t) : okT t := g.2 _ (look_mem h)
theorem shown_ok (P : Pic) (g : Good P) (hP : P.length ≤ 7) : d__law_shown [.val (picD P)] = .ok (kepD P) none := by
  have k1 := keysL P
  have k2 := sortL (P.map (·.1))
  obtain ⟨env', c1, c2⟩ := cmp_ok (ta := xYes) (a := xTup (xCons (xVal 1) (xCons (xFld fc_kind "kind" (xOp oDGet (xVal 0) (xVal 1))) (xCons (xCB fRepr (xCons (xFld fc_contents "contents" (xOp oDGet (xVal 0) (xVal 1))) xNil)) xNil)))) (eg := yName 1) (vs := [1]) [.val (picD P), .no] (fun _ => true) (rowK P) ((sK P).map .int) [] [.val (picD P), .no] rfl (by have := sK_len P; simp; omega) (fun x hx => by
    obtain ⟨k, hk, rfl⟩ := List.mem_map.mp hx
    obtain ⟨t, ht⟩ := keys_look P g k hk
    have h2 := dgetP P k
    rw [ht] at h2
    have h2 : oDGet (picD P) (.int k) = some (.ins 4 [("kind", .str t.kd), ("contents", .dct t.cont)]) := h2
    have h3 := repr_cont (look_ok g ht)
    refine ⟨[.val (picD P), .val (.int k)], [.val (picD P), .val (.int k)], by (exists trivial), by (exists trivial), rfl, fun _ => ⟨[.val (picD P), .val (.int k)], ?_, rfl⟩⟩
    have hr : rowK P (.int k) = .tup [.int k, .str t.kd, .str (tx t)] := by
      show (match look P k with | some t => rowT k t | none => D.non) = _
      rw [ht]
      rfl
    rw [hr]
    (exists h2, h3))
  rw [List.nil_append, List.filter_eq_self.mpr (fun _ _ => rfl), List.map_map] at c1
  have c1 : cmpL (yName 1) xYes (xTup (xCons (xVal 1) (xCons (xFld fc_kind "kind" (xOp oDGet (xVal 0) (xVal 1))) (xCons (xCB fRepr (xCons (xFld fc_contents "contents" (xOp oDGet (xVal 0) (xVal 1))) xNil)) xNil)))) [1] ((sortI (P.map (·.1))).map .int) [] [.val (picD P), .no] = .ok ((sK P).map fun k => rowK P (.int k)) env' := c1
  unfold d__law_shown b__law_shown
  (exists k1, k2, c1)
/-! kept is what it is -/
def rowP (P : Pic) (k : Int) : PyData := match look P k with
  | some t => .tuple [.int k, .str t.kd, .str (tx t)]
  | none => .none
theorem dat_row (P : Pic) (k : Int) : dat (rowK P (.int k)) = some (rowP P k) := by
  unfold rowK rowP
  dsimp only
  cases look P k <;> rfl
theorem dat_rows (P : Pic) : ∀ ks : List Int, datL (ks.map fun k => rowK P (.int k)) = some (ks.map (rowP P))
  | [] => rfl
  | k :: ks => by
    show (match dat (rowK P (.int k)), datL (ks.map fun k => rowK P (.int k)) with
      | some a, some r => some (a :: r)
      | _, _ => none) = _
    rw [dat_rows P ks, dat_row]
    rfl
theorem kd_ok (t : Th) : PyData.strOk t.kd = true := by
  have a : PyData.strOk "A" = true := by decide +kernel
  have b : PyData.strOk "B" = true := by decide +kernel
  cases t
  · exact a
  · exact b
theorem lay_rows (P : Pic) (g : Good P) : ∀ ks : List Int, PyData.canLayAll0 (ks.map (rowP P)) = true ∧ PyData.depthAll (ks.map (rowP P)) ≤ 1
  | [] => ⟨rfl, Nat.zero_le 1⟩
  | k :: ks => by
    obtain ⟨i1, i2⟩ := lay_rows P g ks
    have h : PyData.canLay0 (rowP P k) = true ∧ PyData.depth (rowP P k) ≤ 1 := by
      unfold rowP
      cases ht : look P k with
      | none => exact ⟨by simp [PyData.canLay0], by simp [PyData.depth]⟩
      | some t =>
        dsimp only
        refine ⟨?_, ?_⟩
        · simp [PyData.canLay0, PyData.canLayAll0, kd_ok, tx_ok (look_ok g ht)]
        · simp [PyData.depth, PyData.depthAll]
    rw [List.map_cons]
    refine ⟨by rw [PyData.canLayAll0, h.1, i1]; rfl, by rw [PyData.depthAll]; omega⟩
theorem sh_rows (P : Pic) (g : Good P) (ks : List Int) : SeqAt.shaped (.list (ks.map (rowP P))) = true := by
  obtain ⟨i1, i2⟩ := lay_rows P g ks
  show (PyData.canLay0 (.list (ks.map (rowP P))) && decide (PyData.depth (.list (ks.map (rowP P))) ≤ 64)) = true
  have h2 : PyData.depth (.list (ks.map (rowP P))) ≤ 64 := by simp only [PyData.depth]; omega
  have h1 : PyData.canLay0 (.list (ks.map (rowP P))) = true := by rw [PyData.canLay0]; exact i1
  rw [h1, decide_eq_true h2]
  rfl
theorem eqd_of {x : D} {a : PyData} (h1 : scalD x x = none) (h2 : dat x = some a) (h3 : SeqAt.shaped a = true) : eqD x x = some true := by
  unfold eqD
  rw [h1]
  dsimp only
  rw [h2]
  dsimp only
  rw [if_pos ⟨h3, h3⟩, eqv_sh h3]
theorem kep_eqd (P : Pic) (g : Good P) : eqD (kepD P) (kepD P) = some true := eqd_of rfl (a := .list ((sK P).map (rowP P))) (by
  show (datL _).map PyData.list = _
  rw [dat_rows]
  rfl) (sh_rows P g _)
theorem kep_ne (P : Pic) (g : Good P) : oNe (kepD P) (kepD P) = some (.bl false) := by
  unfold oNe
  rw [kep_eqd P g]
  rfl
theorem kep_eq (P : Pic) (g : Good P) : oEq (kepD P) (kepD P) = some (.bl true) := by
  unfold oEq
  rw [kep_eqd P g]
  rfl
theorem ls_ne (ks : List Int) : oNe (Ls ks) (Ls ks) = some (.bl false) := by
  unfold oNe
  rw [eqd_of (x := Ls ks) rfl (dat_Ls ks) (sh_ints ks)]
  rfl
end
end K48L
namespace Dv
open PySem PySem.Spec PyProof.Rows L2
set_option autoImplicit false
noncomputable section
theorem r_forD {env e1 : Dv.Env} {p : Pth} {w : Wk} {eg : Eg} {b : EvS} {kvs : List (Key × D)} {e : Dv.Env} (h1 : p env = some (.dct kvs, e1)) (h2 : forL eg b (w.ds kvs) e1 = .nx e) : xForD p w eg b env = .nx e := by
  unfold xForD
  rw [h1]
  show noEx (forL eg b (w.ds kvs) e1) = _
  rw [h2]
  rfl
end
end Dv
namespace K48L
open PySem PySem.Spec PyProof.Rows L2 Dv K48
set_option autoImplicit false
noncomputable section
/-! ### numbers leave -/
def woO (gs : List Int) : Option Int → Option Int
  | some k => if decide (k ∈ gs) = true then none else some k
  | none => none
def woL (gs ks : List Int) : List Int := ks.filter fun k => !decide (k ∈ gs)
def Th.wo (gs : List Int) : Th → Th
  | .A x y z ks => .A x y (woO gs z) (woL gs ks)
  | .B p q ks => .B (woO gs p) (woO gs q) (woL gs ks)
def woP (gs : List Int) (P : Pic) : Pic := P.map fun p => (p.1, p.2.wo gs)
theorem wo_kd (gs : List Int) (t : Th) : (t.wo gs).kd = t.kd := by cases t <;> rfl
theorem woO_sm {gs : List Int} {x : Option Int} (h : SmO x) : SmO (woO gs x) := by
  cases x with
  | none => exact h
  | some k =>
    show SmO (if decide (k ∈ gs) = true then none else some k)
    split
    · exact fun j e => by cases e
    · exact h
theorem woL_ok {gs ks : List Int} (h : ∀ k ∈ ks, Sm k) (hl : ks.length ≤ 4) : (∀ k ∈ woL gs ks, Sm k) ∧ (woL gs ks).length ≤ 4 := ⟨fun k hk => h k (List.mem_filter.mp hk).1, Nat.le_trans (List.length_filter_le ..) hl⟩
theorem wo_ok {gs : List Int} {t : Th} (h : okT t) : okT (t.wo gs) := by
  cases t with
  | A x y z ks =>
    obtain ⟨h1, h2, h3, h4, h5⟩ := h
    obtain ⟨a, b⟩ := woL_ok (gs := gs) h5 h1
    exact ⟨b, h2, h3, woO_sm h4, a⟩
  | B x y ks =>
    obtain ⟨h1, h2, h3, h4⟩ := h
    obtain ⟨a, b⟩ := woL_ok (gs := gs) h4 h1
    exact ⟨b, woO_sm h2, woO_sm h3, a⟩
theorem woP_keys (gs : List Int) (P : Pic) : (woP gs P).map (·.1) = P.map (·.1) := by
  unfold woP
  rw [List.map_map]
  rfl
theorem woP_ok {gs : List Int} {P : Pic} (g : Good P) : Good (woP gs P) := ⟨by rw [woP_keys]; exact g.1, fun p hp => by
  obtain ⟨q, hq, rfl⟩ := List.mem_map.mp hp
  exact wo_ok (g.2 q hq)⟩
theorem woP_len (gs : List Int) (P : Pic) : (woP gs P).length = P.length := List.length_map ..
theorem woP_look (gs : List Int) : ∀ (P : Pic) (k : Int), look (woP gs P) k = (look P k).map (Th.wo gs)
  | [], _ => rfl
  | p :: P, k => by
    show (if p.1 = k then some (p.2.wo gs) else look (woP gs P) k) = (if p.1 = k then some p.2 else look P k).map (Th.wo gs)
    by_cases h : p.1 = k
    · rw [if_pos h, if_pos h]; rfl
    · rw [if_neg h, if_neg h]; exact woP_look gs P k
theorem blL_map : ∀ bs : List Bool, blL (bs.map D.bl) = some bs
  | [] => rfl
  | b :: bs => by
    have ih := blL_map bs
    rw [List.map_cons]
    unfold blL
    rw [ih]
    rfl
theorem fany (bs : List Bool) : fAny [.lst (bs.map .bl)] = some (.bl (bs.any id)) := by
  show (blL (bs.map D.bl)).map (fun bs => D.bl (bs.any id)) = _
  rw [blL_map]
  rfl
theorem hold1 (x : Option Int) (n : Int) : d_holds_number [.val (oi x), .val (.int n)] = .ok (.bl (decide (x = some n))) none := by
  cases x with
  | none =>
    have q : decide ((none : Option Int) = some n) = false := by simp
    rw [q]
    unfold d_holds_number b_holds_number
    (exists trivial)
  | some k =>
    have q : oEq (.int k) (.int n) = some (.bl (decide (k = n))) := rfl
    have q2 : decide ((some k : Option Int) = some n) = decide (k = n) := by simp
    rw [q2]
    unfold d_holds_number b_holds_number
    (exists q)
theorem hold_any (x : Option Int) (gs : List Int) (hl : gs.length < 1000) : d_holds_any [.val (oi x), .val (Ls gs)] = .ok (.bl (gs.any fun n => decide (x = some n))) none := by
  obtain ⟨env', c1, c2⟩ := cmp_ok (ta := xYes) (a := xCall 2 d_holds_number (gVal (xVal 0) (gVal (xVal 2) Dv.gNil))) (eg := yName 2) (vs := [2]) [.val (oi x), .val (Ls gs), .no] (fun _ => true) (fun d => match d with | .int n => .bl (decide (x = some n)) | _ => .non) (gs.map .int) [] [.val (oi x), .val (Ls gs), .no] rfl (by simp; omega) (fun y hy => by
    obtain ⟨n, hn, rfl⟩ := List.mem_map.mp hy
    have h1 := hold1 x n
    exact ⟨[.val (oi x), .val (Ls gs), .val (.int n)], [.val (oi x), .val (Ls gs), .val (.int n)], by (exists trivial), by (exists trivial), rfl, fun _ => ⟨[.val (oi x), .val (Ls gs), .val (.int n)], by (exists h1), rfl⟩⟩)
  rw [List.nil_append, List.filter_eq_self.mpr (fun _ _ => rfl), List.map_map] at c1
  have c1 : cmpL (yName 2) xYes (xCall 2 d_holds_number (gVal (xVal 0) (gVal (xVal 2) Dv.gNil))) [2] (gs.map .int) [] [.val (oi x), .val (Ls gs), .no] = .ok ((gs.map fun n => decide (x = some n)).map .bl) env' := by
    rw [c1, List.map_map]
    rfl
  have f := fany (gs.map fun n => decide (x = some n))
  rw [List.any_map] at f
  have f : fAny [.lst ((gs.map fun n => decide (x = some n)).map .bl)] = some (.bl (gs.any fun n => decide (x = some n))) := f
  unfold d_holds_any b_holds_any
  (exists c1, f)
theorem woO_any (gs : List Int) (x : Option Int) : (if (gs.any fun n => decide (x = some n)) = true then D.non else oi x) = oi (woO gs x) := by
  cases x with
  | none => cases (gs.any fun n => decide ((none : Option Int) = some n)) <;> rfl
  | some k =>
    have e : (gs.any fun n => decide (some k = some n)) = decide (k ∈ gs) := by
      rw [Bool.eq_iff_iff]
      simp [List.any_eq_true]
    rw [e]
    show _ = oi (if decide (k ∈ gs) = true then none else some k)
    cases decide (k ∈ gs) <;> rfl
theorem wa_oi (x : Option Int) (gs : List Int) (hl : gs.length < 1000) : d_without_any [.val (oi x), .val (Ls gs)] = .ok (oi (woO gs x)) none := by
  have h := hold_any x gs hl
  have w := woO_any gs x
  have i : fIs isOO isOB isBT [oi x, .ty "list"] = some (.bl false) := by cases x <;> rfl
  generalize (gs.any fun n => decide (x = some n)) = B at h w
  rw [← w]
  unfold d_without_any b_without_any
  cases B with
  | true =>
    rw [if_pos rfl]
    (exists i, h)
  | false =>
    rw [if_neg (by decide)]
    (exists i, h)
theorem wa_ls (ks gs : List Int) (hl : ks.length ≤ 4) : d_without_any [.val (Ls ks), .val (Ls gs)] = .ok (Ls (woL gs ks)) none := by
  obtain ⟨env', c1, c2⟩ := cmp_ints (i := 2) (ta := xTest (xOp (oOr (oIn true) (oInD true)) (xVal 2) (xVal 1))) (env := [.val (Ls ks), .val (Ls gs), .no]) (fun k => !decide (k ∈ gs)) ks rfl (by omega) (fun k _ => ⟨[.val (Ls ks), .val (Ls gs), .val (.int k)], [.val (Ls ks), .val (Ls gs), .val (.int k)], by (exists trivial), by (exists notinI k gs), rfl, by (exists trivial)⟩)
  have i : fIs isOO isOB isBT [Ls ks, .ty "list"] = some (.bl true) := rfl
  unfold d_without_any b_without_any woL
  (exists i, c1)
theorem isl_I : d_is_list [.val shI] = .ok (.bl false) none := by unfold d_is_list b_is_list; (exists trivial)
theorem isl_T : d_is_list [.val shT] = .ok (.bl false) none := by unfold d_is_list b_is_list; (exists trivial)
theorem isl_R (ks : List Str) (r : Str) : d_is_list [.val (shR ks r)] = .ok (.bl false) none := by unfold d_is_list b_is_list; (exists trivial)
theorem isl_L (ks : List Str) : d_is_list [.val (shL ks)] = .ok (.bl true) none := by unfold d_is_list b_is_list; (exists trivial)
theorem isr_I : d_is_reference [.val shI] = .ok (.bl false) none := by unfold d_is_reference b_is_reference; (exists trivial)
theorem isr_T : d_is_reference [.val shT] = .ok (.bl false) none := by unfold d_is_reference b_is_reference; (exists trivial)
theorem isr_R (ks : List Str) (r : Str) : d_is_reference [.val (shR ks r)] = .ok (.bl true) none := by unfold d_is_reference b_is_reference; (exists trivial)
theorem isr_L (ks : List Str) : d_is_reference [.val (shL ks)] = .ok (.bl false) none := by unfold d_is_reference b_is_reference; (exists trivial)
theorem r_orV {a b : Ev} {env e1 : Dv.Env} {bb : Bool} {r : Res D} (h1 : a env = .ok (.bl bb) e1) (h2 : Sel bb (.ok (.bl true) e1) (b e1) r) : xOrV a b env = r := by
  unfold xOrV
  rw [h1, ← h2.of]
  cases bb <;> rfl
theorem lk_I : d_is_link [.val shI] = .ok (.bl false) none := by
  have h : xOrV (xCall 1 d_is_reference (gVal (xVal 0) Dv.gNil)) (xCall 1 d_is_list (gVal (xVal 0) Dv.gNil)) [.val shI] = .ok (.bl false) [.val shI] := r_orV (bb := false) (by (exists isr_I)) (sel_f rfl (by (exists isl_I)))
  unfold d_is_link b_is_link
  (exists h)
theorem lk_T : d_is_link [.val shT] = .ok (.bl false) none := by
  have h : xOrV (xCall 1 d_is_reference (gVal (xVal 0) Dv.gNil)) (xCall 1 d_is_list (gVal (xVal 0) Dv.gNil)) [.val shT] = .ok (.bl false) [.val shT] := r_orV (bb := false) (by (exists isr_T)) (sel_f rfl (by (exists isl_T)))
  unfold d_is_link b_is_link
  (exists h)
theorem lk_R (ks : List Str) (r : Str) : d_is_link [.val (shR ks r)] = .ok (.bl true) none := by
  have h1 := isr_R ks r
  have h : xOrV (xCall 1 d_is_reference (gVal (xVal 0) Dv.gNil)) (xCall 1 d_is_list (gVal (xVal 0) Dv.gNil)) [.val (shR ks r)] = .ok (.bl true) [.val (shR ks r)] := r_orV (bb := true) (by (exists h1)) (sel_t rfl rfl)
  unfold d_is_link b_is_link
  (exists h)
theorem lk_L (ks : List Str) : d_is_link [.val (shL ks)] = .ok (.bl true) none := by
  have h1 := isr_L ks
  have h2 := isl_L ks
  have h : xOrV (xCall 1 d_is_reference (gVal (xVal 0) Dv.gNil)) (xCall 1 d_is_list (gVal (xVal 0) Dv.gNil)) [.val (shL ks)] = .ok (.bl true) [.val (shL ks)] := r_orV (bb := false) (by (exists h1)) (sel_f rfl (by (exists h2)))
  unfold d_is_link b_is_link
  (exists h)
end
end K48L
namespace K48L
open PySem PySem.Spec PyProof.Rows L2 Dv K48
set_option autoImplicit false
noncomputable section
theorem koA (a b c : Str) (nd : Bool) : d_Schema_kind_of [.val (schD a b c nd), .val (.str "A")] = .ok (kA a nd) none := by
  unfold d_Schema_kind_of b_Schema_kind_of
  (exists trivial)
theorem koB (a b c : Str) (nd : Bool) : d_Schema_kind_of [.val (schD a b c nd), .val (.str "B")] = .ok (kB b c nd) none := by
  unfold d_Schema_kind_of b_Schema_kind_of
  (exists trivial)
theorem fo_A_a (a : Str) (nd : Bool) : d_Kind_field_of [.val (kA a nd), .val (.str "a")] = .ok (fldD "a" shI nd) none := by
  unfold d_Kind_field_of b_Kind_field_of
  (exists trivial)
theorem fo_A_t (a : Str) (nd : Bool) : d_Kind_field_of [.val (kA a nd), .val (.str "t")] = .ok (fldD "t" shT false) none := by
  unfold d_Kind_field_of b_Kind_field_of
  (exists trivial)
theorem fo_A_r (a : Str) (nd : Bool) : d_Kind_field_of [.val (kA a nd), .val (.str "r")] = .ok (fldD "r" (shR ["A", "B"] a) false) none := by
  unfold d_Kind_field_of b_Kind_field_of
  (exists trivial)
theorem fo_A_l (a : Str) (nd : Bool) : d_Kind_field_of [.val (kA a nd), .val (.str "l")] = .ok (fldD "l" (shL ["A"]) false) none := by
  unfold d_Kind_field_of b_Kind_field_of
  (exists trivial)
theorem fo_B_p (b c : Str) (nd : Bool) : d_Kind_field_of [.val (kB b c nd), .val (.str "p")] = .ok (fldD "p" (shR ["A"] b) nd) none := by
  unfold d_Kind_field_of b_Kind_field_of
  (exists trivial)
theorem fo_B_q (b c : Str) (nd : Bool) : d_Kind_field_of [.val (kB b c nd), .val (.str "q")] = .ok (fldD "q" (shR ["B"] c) false) none := by
  unfold d_Kind_field_of b_Kind_field_of
  (exists trivial)
theorem fo_B_m (b c : Str) (nd : Bool) : d_Kind_field_of [.val (kB b c nd), .val (.str "m")] = .ok (fldD "m" (shL ["A", "B"]) false) none := by
  unfold d_Kind_field_of b_Kind_field_of
  (exists trivial)
theorem is_non {C : Nat} {fs : List (Str × D)} : oIs (.ins C fs) .non = some (.bl false) := rfl
theorem sf_A {a b c : Str} {nd : Bool} {n : Str} {f : D} (h : d_Kind_field_of [.val (kA a nd), .val (.str n)] = .ok f none) : d_Schema_field_of [.val (schD a b c nd), .val (.str "A"), .val (.str n)] = .ok f none := by
  have k := koA a b c nd
  have z1 : ([("kinds", .lst [kA a nd, kB b c nd])] : List (Str × D)).lookup ("kind_of" : Str) = none := rfl
  have z2 : ([("name", .str "A"), ("fields", .lst [fldD "a" shI nd, fldD "t" shT false, fldD "r" (shR ["A", "B"] a) false, fldD "l" (shL ["A"]) false]), ("key_rows", .lst [.lst [.str "a", .str "t"]])] : List (Str × D)).lookup ("field_of" : Str) = none := rfl
  unfold d_Schema_field_of b_Schema_field_of
  (exists h, k, z1, z2, is_non)
theorem sf_B {a b c : Str} {nd : Bool} {n : Str} {f : D} (h : d_Kind_field_of [.val (kB b c nd), .val (.str n)] = .ok f none) : d_Schema_field_of [.val (schD a b c nd), .val (.str "B"), .val (.str n)] = .ok f none := by
  have k := koB a b c nd
  have z1 : ([("kinds", .lst [kA a nd, kB b c nd])] : List (Str × D)).lookup ("kind_of" : Str) = none := rfl
  have z2 : ([("name", .str "B"), ("fields", .lst [fldD "p" (shR ["A"] b) nd, fldD "q" (shR ["B"] c) false, fldD "m" (shL ["A", "B"]) false]), ("key_rows", .lst [.lst [.str "q"]])] : List (Str × D)).lookup ("field_of" : Str) = none := rfl
  unfold d_Schema_field_of b_Schema_field_of
  (exists h, k, z1, z2, is_non)
def bodyW : EvS := (xSeq (xSet 6 (xMeth "field_of" 3 [(8, 35, d_Schema_field_of)] (xVal 0) (gVal (xFld fc_kind "kind" (xVal 1)) (gVal (xVal 4) Dv.gNil))))
 (xDPut 3 (xVal 4) (xIf (xTest (xCall 1 d_is_link (gVal (xFld fc_shape "shape" (xVal 6)) Dv.gNil))) (xCall 2 d_without_any (gVal (xVal 5) (gVal (xVal 2) Dv.gNil))) (xVal 5))))
abbrev enW (sc : D) (t : Th) (gs : List Int) (acc : List (L2.Key × D)) (s4 s5 s6 : Sl) : Dv.Env := [.val sc, .val t.d, .val (Ls gs), .box (.dct acc), s4, s5, s6]
theorem w_step {sc c d : D} {t : Th} {gs : List Int} {n : Str} {nm : Str} {sh nd : D} {bb : Bool} {acc acc' : List (L2.Key × D)} {s6 : Sl} (f6 : isPar s6 = false) {fs : List (Str × D)} (hsc : sc = .ins 8 fs) (hz : fs.lookup ("field_of" : Str) = none)
    (h1 : d_Schema_field_of [.val sc, .val (.str t.kd), .val (.str n)] = .ok (.ins 6 [("name", .str nm), ("shape", sh), ("needed", nd)]) none) (h2 : d_is_link [.val sh] = .ok (.bl bb) none) (h3 : Sel bb (d_without_any [.val c, .val (Ls gs)]) (.ok c none) (.ok d none)) (hl : acc.length < 1000) (hp : putKD acc (.inr n) d = acc') :
    bodyW (enW sc t gs acc (.val (.str n)) (.val c) s6) = .nx (enW sc t gs acc' (.val (.str n)) (.val c) (.val (.ins 6 [("name", .str nm), ("shape", sh), ("needed", nd)]))) := by
  have kf : xFld fc_kind "kind" (xVal 1) (enW sc t gs acc (.val (.str n)) (.val c) s6) = .ok (.str t.kd) (enW sc t gs acc (.val (.str n)) (.val c) s6) := r_fld (C := 4) (fs := [("kind", .str t.kd), ("contents", .dct t.cont)]) (r_val rfl) (by decide) rfl
  have e6 : xSet 6 (xMeth "field_of" 3 [(8, 35, d_Schema_field_of)] (xVal 0) (gVal (xFld fc_kind "kind" (xVal 1)) (gVal (xVal 4) Dv.gNil))) (enW sc t gs acc (.val (.str n)) (.val c) s6) = .nx (enW sc t gs acc (.val (.str n)) (.val c) (.val (.ins 6 [("name", .str nm), ("shape", sh), ("needed", nd)]))) := by
    refine r_set (d := .ins 6 [("name", .str nm), ("shape", sh), ("needed", nd)]) (e1 := enW sc t gs acc (.val (.str n)) (.val c) s6) ?_ ?_
    · subst hsc
      (exists kf, h1, hz)
    · rw [setE_at (s := s6) rfl f6]
      rfl
  have hl2 : acc.length < 1000000 := by omega
  subst hp
  cases bb with
  | true =>
    have h3 : d_without_any [.val c, .val (Ls gs)] = .ok d none := h3.of
    unfold bodyW
    (exists e6, h2, h3, hl2)
  | false =>
    have h3 : FRes.ok c none = .ok d none := h3.of
    cases h3
    unfold bodyW
    (exists e6, h2, hl2)
theorem tw_A {a b c : Str} {nd : Bool} {x : Option Int} {y : Option Str} {z : Option Int} {ks gs : List Int} (hk : ks.length ≤ 4) (hg : gs.length < 1000) : d_thing_without [.val (schD a b c nd), .val (Th.A x y z ks).d, .val (Ls gs)] = .ok ((Th.A x y z ks).wo gs).d none := by
  have w1 := w_step (t := .A x y z ks) (gs := gs) (c := oi x) (d := oi x) (acc := []) (s6 := .no) rfl (hsc := rfl) rfl (sf_A (a := a) (b := b) (c := c) (nd := nd) (fo_A_a a nd)) lk_I (sel_f rfl rfl) (by simp) rfl
  have w2 := w_step (t := .A x y z ks) (gs := gs) (c := os y) (d := os y) (acc := [(.inr "a", oi x)]) (s6 := .val (fldD "a" shI nd)) rfl (hsc := rfl) rfl (sf_A (a := a) (b := b) (c := c) (nd := nd) (fo_A_t a nd)) lk_T (sel_f rfl rfl) (by simp) rfl
  have w3 := w_step (t := .A x y z ks) (gs := gs) (c := oi z) (d := oi (woO gs z)) (acc := [(.inr "a", oi x), (.inr "t", os y)]) (s6 := .val (fldD "t" shT false)) rfl (hsc := rfl) rfl (sf_A (a := a) (b := b) (c := c) (nd := nd) (fo_A_r a nd)) (lk_R _ _) (sel_t rfl (wa_oi z gs hg)) (by simp) rfl
  have w4 := w_step (t := .A x y z ks) (gs := gs) (c := Ls ks) (d := Ls (woL gs ks)) (acc := [(.inr "a", oi x), (.inr "t", os y), (.inr "r", oi (woO gs z))]) (s6 := .val (fldD "r" (shR ["A", "B"] a) false)) rfl (hsc := rfl) rfl (sf_A (a := a) (b := b) (c := c) (nd := nd) (fo_A_l a nd)) (lk_L _) (sel_t rfl (wa_ls ks gs hk)) (by simp) rfl
  have i : d_Thing___init__ [.par (.ins 4 []), .val (.str "A"), .val (.dct [(.inr "a", oi x), (.inr "t", os y), (.inr "r", oi (woO gs z)), (.inr "l", Ls (woL gs ks))])] = .ok .non (some ((Th.A x y z ks).wo gs).d) := init_ok (.A x y (woO gs z) (woL gs ks))
  have kf : ∀ (s4 s5 s6 : Sl) (acc : List (L2.Key × D)), xFld fc_kind "kind" (xVal 1) (enW (schD a b c nd) (.A x y z ks) gs acc s4 s5 s6) = .ok (.str "A") (enW (schD a b c nd) (.A x y z ks) gs acc s4 s5 s6) := fun s4 s5 s6 acc => r_fld (C := 4) (fs := [("kind", .str "A"), ("contents", .dct (Th.A x y z ks).cont)]) (r_val rfl) (by decide) rfl
  have lp : xForD (pFld fc_contents "contents" (pSlot 1)) .items (yTup 2 (yCons (yName 4) (yCons (yName 5) yNil))) bodyW (enW (schD a b c nd) (.A x y z ks) gs [] .no .no .no) = .nx (enW (schD a b c nd) (.A x y z ks) gs [(.inr "a", oi x), (.inr "t", os y), (.inr "r", oi (woO gs z)), (.inr "l", Ls (woL gs ks))] (.val (.str "l")) (.val (Ls ks)) (.val (fldD "l" (shL ["A"]) false))) := by
    refine r_forD (kvs := (Th.A x y z ks).cont) (e1 := enW (schD a b c nd) (.A x y z ks) gs [] .no .no .no) rfl ?_
    refine for_cons (e1 := enW (schD a b c nd) (.A x y z ks) gs [] (.val (.str "a")) (.val (oi x)) .no) (by (exists trivial)) w1 (fk_nx ?_)
    refine for_cons (e1 := enW (schD a b c nd) (.A x y z ks) gs [(.inr "a", oi x)] (.val (.str "t")) (.val (os y)) (.val (fldD "a" shI nd))) (by (exists trivial)) w2 (fk_nx ?_)
    refine for_cons (e1 := enW (schD a b c nd) (.A x y z ks) gs [(.inr "a", oi x), (.inr "t", os y)] (.val (.str "r")) (.val (oi z)) (.val (fldD "t" shT false))) (by (exists trivial)) w3 (fk_nx ?_)
    exact for_cons (e1 := enW (schD a b c nd) (.A x y z ks) gs [(.inr "a", oi x), (.inr "t", os y), (.inr "r", oi (woO gs z))] (.val (.str "l")) (.val (Ls ks)) (.val (fldD "r" (shR ["A", "B"] a) false))) (by (exists trivial)) w4 (fk_nx rfl)
  have k1 := kf (.val (.str "l")) (.val (Ls ks)) (.val (fldD "l" (shL ["A"]) false)) [(.inr "a", oi x), (.inr "t", os y), (.inr "r", oi (woO gs z)), (.inr "l", Ls (woL gs ks))]
  unfold bodyW at lp
  unfold d_thing_without b_thing_without
  (exists lp, k1, i)
theorem tw_B {a b c : Str} {nd : Bool} {p q : Option Int} {ks gs : List Int} (hk : ks.length ≤ 4) (hg : gs.length < 1000) : d_thing_without [.val (schD a b c nd), .val (Th.B p q ks).d, .val (Ls gs)] = .ok ((Th.B p q ks).wo gs).d none := by
  have w1 := w_step (t := .B p q ks) (gs := gs) (c := oi p) (d := oi (woO gs p)) (acc := []) (s6 := .no) rfl (hsc := rfl) rfl (sf_B (a := a) (b := b) (c := c) (nd := nd) (fo_B_p b c nd)) (lk_R _ _) (sel_t rfl (wa_oi p gs hg)) (by simp) rfl
  have w3 := w_step (t := .B p q ks) (gs := gs) (c := oi q) (d := oi (woO gs q)) (acc := [(.inr "p", oi (woO gs p))]) (s6 := .val (fldD "p" (shR ["A"] b) nd)) rfl (hsc := rfl) rfl (sf_B (a := a) (b := b) (c := c) (nd := nd) (fo_B_q b c nd)) (lk_R _ _) (sel_t rfl (wa_oi q gs hg)) (by simp) rfl
  have w4 := w_step (t := .B p q ks) (gs := gs) (c := Ls ks) (d := Ls (woL gs ks)) (acc := [(.inr "p", oi (woO gs p)), (.inr "q", oi (woO gs q))]) (s6 := .val (fldD "q" (shR ["B"] c) false)) rfl (hsc := rfl) rfl (sf_B (a := a) (b := b) (c := c) (nd := nd) (fo_B_m b c nd)) (lk_L _) (sel_t rfl (wa_ls ks gs hk)) (by simp) rfl
  have i : d_Thing___init__ [.par (.ins 4 []), .val (.str "B"), .val (.dct [(.inr "p", oi (woO gs p)), (.inr "q", oi (woO gs q)), (.inr "m", Ls (woL gs ks))])] = .ok .non (some ((Th.B p q ks).wo gs).d) := init_ok (.B (woO gs p) (woO gs q) (woL gs ks))
  have kf : ∀ (s4 s5 s6 : Sl) (acc : List (L2.Key × D)), xFld fc_kind "kind" (xVal 1) (enW (schD a b c nd) (.B p q ks) gs acc s4 s5 s6) = .ok (.str "B") (enW (schD a b c nd) (.B p q ks) gs acc s4 s5 s6) := fun s4 s5 s6 acc => r_fld (C := 4) (fs := [("kind", .str "B"), ("contents", .dct (Th.B p q ks).cont)]) (r_val rfl) (by decide) rfl
  have lp : xForD (pFld fc_contents "contents" (pSlot 1)) .items (yTup 2 (yCons (yName 4) (yCons (yName 5) yNil))) bodyW (enW (schD a b c nd) (.B p q ks) gs [] .no .no .no) = .nx (enW (schD a b c nd) (.B p q ks) gs [(.inr "p", oi (woO gs p)), (.inr "q", oi (woO gs q)), (.inr "m", Ls (woL gs ks))] (.val (.str "m")) (.val (Ls ks)) (.val (fldD "m" (shL ["A", "B"]) false))) := by
    refine r_forD (kvs := (Th.B p q ks).cont) (e1 := enW (schD a b c nd) (.B p q ks) gs [] .no .no .no) rfl ?_
    refine for_cons (e1 := enW (schD a b c nd) (.B p q ks) gs [] (.val (.str "p")) (.val (oi p)) .no) (by (exists trivial)) w1 (fk_nx ?_)
    refine for_cons (e1 := enW (schD a b c nd) (.B p q ks) gs [(.inr "p", oi (woO gs p))] (.val (.str "q")) (.val (oi q)) (.val (fldD "p" (shR ["A"] b) nd))) (by (exists trivial)) w3 (fk_nx ?_)
    exact for_cons (e1 := enW (schD a b c nd) (.B p q ks) gs [(.inr "p", oi (woO gs p)), (.inr "q", oi (woO gs q))] (.val (.str "m")) (.val (Ls ks)) (.val (fldD "q" (shR ["B"] c) false))) (by (exists trivial)) w4 (fk_nx rfl)
  have k1 := kf (.val (.str "m")) (.val (Ls ks)) (.val (fldD "m" (shL ["A", "B"]) false)) [(.inr "p", oi (woO gs p)), (.inr "q", oi (woO gs q)), (.inr "m", Ls (woL gs ks))]
  unfold bodyW at lp
  unfold d_thing_without b_thing_without
  (exists lp, k1, i)
theorem tw_ok {a b c : Str} {nd : Bool} {t : Th} (ot : okT t) {gs : List Int} (hg : gs.length < 1000) : d_thing_without [.val (schD a b c nd), .val t.d, .val (Ls gs)] = .ok (t.wo gs).d none := by
  cases t with
  | A x y z ks => exact tw_A ot.1 hg
  | B x y ks => exact tw_B ot.1 hg
theorem putKD_new {kvs : List (L2.Key × D)} {k : L2.Key} {v : D} (h : k ∉ kvs.map (·.1)) : putKD kvs k v = kvs ++ [(k, v)] := by
  unfold putKD
  rw [if_neg]
  intro e
  obtain ⟨q, hq, e⟩ := List.any_eq_true.mp e
  exact h (List.mem_map.mpr ⟨q, hq, of_decide_eq_true e⟩)
abbrev WnE (sc : D) (Q : Pic) (gs : List Int) : Dv.Env := [.val sc, .val (picD Q), .val (Ls gs), .no, .no]
/-- the whole picture -/
theorem wn_loop {a b c : Str} {nd : Bool} {gs : List Int} {Q : Pic} (hg : gs.length < 1000) : ∀ (P : Pic) (acc : List (L2.Key × D)) (env : Dv.Env), (∀ p ∈ P, okT p.2) → (P.map (·.1)).Nodup → (∀ p ∈ P, (.inl p.1 : L2.Key) ∉ acc.map (·.1)) → acc.length + P.length < 1000 → wipeE env [3, 4] = WnE (schD a b c nd) Q gs →
    ∃ env', dcmpL (yTup 2 (yCons (yName 3) (yCons (yName 4) yNil))) xYes (xVal 3) (xCall 3 d_thing_without (gVal (xVal 0) (gVal (xVal 4) (gVal (xVal 2) Dv.gNil)))) [3, 4] (Wk.items.ds (picK P)) acc env = .ok (acc ++ picK (woP gs P)) env' ∧ wipeE env' [3, 4] = WnE (schD a b c nd) Q gs
  | [], acc, env, _, _, _, _, hw => ⟨env, by
    show Res.ok acc env = Res.ok (acc ++ []) env
    rw [List.append_nil], hw⟩
  | p :: P, acc, env, ok, nd2, hn, hl, hw => by
    rw [List.length_cons] at hl
    obtain ⟨n1, n2⟩ := List.nodup_cons.mp nd2
    have tw := tw_ok (a := a) (b := b) (c := c) (nd := nd) (ok p (List.mem_cons_self ..)) hg
    have np := hn p (List.mem_cons_self ..)
    obtain ⟨env', ih, hw'⟩ := wn_loop (a := a) (b := b) (c := c) (nd := nd) (Q := Q) hg P (acc ++ [(.inl p.1, (p.2.wo gs).d)]) [.val (schD a b c nd), .val (picD Q), .val (Ls gs), .val (.int p.1), .val p.2.d] (fun q hq => ok q (List.mem_cons_of_mem _ hq)) n2 (fun q hq => by
      rw [List.map_append, List.mem_append]
      rintro (h | h)
      · exact hn q (List.mem_cons_of_mem _ hq) h
      · simp at h
        exact n1 (List.mem_map.mpr ⟨q, hq, h⟩)) (by rw [List.length_append]; simp; omega) rfl
    refine ⟨env', ?_, hw'⟩
    show dcmpL _ _ _ _ _ (.tup [.int p.1, p.2.d] :: Wk.items.ds (picK P)) acc env = _
    refine dcmp_cons (e1 := [.val (schD a b c nd), .val (picD Q), .val (Ls gs), .val (.int p.1), .val p.2.d]) hw (by (exists trivial)) rfl (r_val rfl) (by (exists tw)) rfl (by omega) (putKD_new np) ?_
    rw [ih, List.append_assoc]
    rfl
theorem wn_ok {a b c : Str} {nd : Bool} {gs : List Int} {P : Pic} (hg : gs.length < 1000) (g : Good P) (hP : P.length ≤ 7) : d_without_numbers [.val (schD a b c nd), .val (picD P), .val (Ls gs)] = .ok (picD (woP gs P)) none := by
  obtain ⟨env', c1, c2⟩ := wn_loop (a := a) (b := b) (c := c) (nd := nd) (Q := P) hg P [] (WnE (schD a b c nd) P gs) g.2 g.1 (fun p hp h => by cases h) (by simp; omega) rfl
  rw [List.nil_append] at c1
  have dc : xDcD (pSlot 1) .items (yTup 2 (yCons (yName 3) (yCons (yName 4) yNil))) xYes (xVal 3) (xCall 3 d_thing_without (gVal (xVal 0) (gVal (xVal 4) (gVal (xVal 2) Dv.gNil)))) [3, 4] (WnE (schD a b c nd) P gs) = .ok (picD (woP gs P)) (WnE (schD a b c nd) P gs) := r_dcD (kvs := picK P) (e1 := WnE (schD a b c nd) P gs) rfl c1 c2
  unfold d_without_numbers b_without_numbers
  (exists dc)
end
end K48L
namespace K48L
open PySem PySem.Spec PyProof.Rows L2 Dv K48
set_option autoImplicit false
noncomputable section
theorem nmA : d__law_names [.val (.str "A")] = .ok (Ss ["a", "t", "r", "l"]) none := by
  unfold d__law_names b__law_names
  (exists trivial)
theorem nmB : d__law_names [.val (.str "B")] = .ok (Ss ["p", "q", "m"]) none := by
  unfold d__law_names b__law_names
  (exists trivial)
def bodyD1 : EvS := (xSeq (xSet 7 (xOp oDGet (xFld fc_contents "contents" (xVal 4)) (xVal 6)))
 (xSeq (xIfS (xAndT (xTest (xOp (oOr (oIn false) (oInD false)) (xVal 6) (xLst (xCons (xC (.str "r")) (xCons (xC (.str "p")) (xCons (xC (.str "q")) xNil)))))) (xTest (xOp (oOr (oIn false) (oInD false)) (xVar 7) (xVal 1))))
 (xSet 7 (xC .non))
 xNx)
 (xSeq (xIfS (xTest (xOp (oOr (oIn false) (oInD false)) (xVal 6) (xLst (xCons (xC (.str "l")) (xCons (xC (.str "m")) xNil)))))
 (xBox 7 (xLc (iSq (xVar 7)) (yName 8) (xTest (xOp (oOr (oIn true) (oInD true)) (xVal 8) (xVal 1))) (xVal 8) [8]))
 xNx)
 (xDPut 5 (xVal 6) (xVar 7)))))
structure NV (s : Sl) : Prop where
  h : s = .no ∨ ∃ d, s = .val d
theorem nv_par {s : Sl} (h : NV s) : isPar s = false := by rcases h.h with rfl | ⟨d, rfl⟩ <;> rfl
theorem nv_box {s : Sl} (h : NV s) : boxable (some s) = true := by rcases h.h with rfl | ⟨d, rfl⟩ <;> rfl
abbrev enD (P : Pic) (gs : List Int) (rows : List D) (k : Int) (t : Th) (acc : List (L2.Key × D)) (s6 s7 : Sl) : Dv.Env := [.val (picD P), .val (Ls gs), .box (.lst rows), .val (.int k), .val t.d, .box (.dct acc), s6, s7, .no]
theorem inO (z : Option Int) (gs : List Int) : oOr (oIn false) (oInD false) (oi z) (Ls gs) = some (.bl (match z with | some k => decide (k ∈ gs) | none => false)) := by
  cases z with
  | some k => exact inI k gs
  | none =>
    have h : ∀ gs : List Int, anyEq .non (gs.map D.int) = some false := fun gs => by
      induction gs with
      | nil => rfl
      | cons g gs ih =>
        rw [List.map_cons]
        unfold anyEq
        rw [ih]
        rfl
    unfold oOr oIn
    show (match (match flatD .non, anyEq .non (gs.map D.int) with | true, some b => some (D.bl (if false = true then !b else b)) | _, _ => none) with | some d => some d | none => _) = _
    rw [h]
    rfl
section
variable {P : Pic} {gs : List Int} {rows : List D} {k : Int} {t : Th} {acc acc' : List (L2.Key × D)} {n : Str} {c d : D} {s7 : Sl}
theorem d_set (h1 : oDGet (.dct t.cont) (.str n) = some c) (f7 : NV s7) : xSet 7 (xOp oDGet (xFld fc_contents "contents" (xVal 4)) (xVal 6)) (enD P gs rows k t acc (.val (.str n)) s7) = .nx (enD P gs rows k t acc (.val (.str n)) (.val c)) := by
  refine r_set (d := c) (e1 := enD P gs rows k t acc (.val (.str n)) s7) ?_ ?_
  · have q : xFld fc_contents "contents" (xVal 4) (enD P gs rows k t acc (.val (.str n)) s7) = .ok (.dct t.cont) (enD P gs rows k t acc (.val (.str n)) s7) := r_fld (C := 4) (fs := [("kind", .str t.kd), ("contents", .dct t.cont)]) (r_val rfl) (by decide) rfl
    exact r_op q (r_val rfl) h1
  · rw [setE_at (s := s7) rfl (nv_par f7)]
    rfl
theorem due_0 (h1 : oDGet (.dct t.cont) (.str n) = some c) (f7 : NV s7) (q1 : oOr (oIn false) (oInD false) (.str n) (.lst [.str "r", .str "p", .str "q"]) = some (.bl false)) (q2 : oOr (oIn false) (oInD false) (.str n) (.lst [.str "l", .str "m"]) = some (.bl false)) (hl : acc.length < 1000) (hp : putKD acc (.inr n) c = acc') :
    bodyD1 (enD P gs rows k t acc (.val (.str n)) s7) = .nx (enD P gs rows k t acc' (.val (.str n)) (.val c)) := by
  have e1 := d_set (P := P) (gs := gs) (rows := rows) (k := k) (acc := acc) h1 f7
  have hl2 : acc.length < 1000000 := by omega
  subst hp
  unfold bodyD1
  (exists e1, q1, q2, hl2)
theorem due_1 {z : Option Int} (h1 : oDGet (.dct t.cont) (.str n) = some (oi z)) (f7 : NV s7) (q1 : oOr (oIn false) (oInD false) (.str n) (.lst [.str "r", .str "p", .str "q"]) = some (.bl true)) (q2 : oOr (oIn false) (oInD false) (.str n) (.lst [.str "l", .str "m"]) = some (.bl false)) (hl : acc.length < 1000) (hp : putKD acc (.inr n) (oi (woO gs z)) = acc') :
    bodyD1 (enD P gs rows k t acc (.val (.str n)) s7) = .nx (enD P gs rows k t acc' (.val (.str n)) (.val (oi (woO gs z)))) := by
  have e1 := d_set (P := P) (gs := gs) (rows := rows) (k := k) (acc := acc) h1 f7
  have hl2 : acc.length < 1000000 := by omega
  have q3 := inO z gs
  subst hp
  cases z with
  | none =>
    have q3 : oOr (oIn false) (oInD false) .non (Ls gs) = some (.bl false) := q3
    show bodyD1 (enD P gs rows k t acc (.val (.str n)) s7) = .nx (enD P gs rows k t (putKD acc (.inr n) .non) (.val (.str n)) (.val .non))
    have e1 : xSet 7 (xOp oDGet (xFld fc_contents "contents" (xVal 4)) (xVal 6)) (enD P gs rows k t acc (.val (.str n)) s7) = .nx (enD P gs rows k t acc (.val (.str n)) (.val .non)) := e1
    unfold bodyD1
    (exists e1, q1, q2, q3, hl2)
  | some j =>
    have q3 : oOr (oIn false) (oInD false) (.int j) (Ls gs) = some (.bl (decide (j ∈ gs))) := q3
    have e1 : xSet 7 (xOp oDGet (xFld fc_contents "contents" (xVal 4)) (xVal 6)) (enD P gs rows k t acc (.val (.str n)) s7) = .nx (enD P gs rows k t acc (.val (.str n)) (.val (.int j))) := e1
    cases hj : decide (j ∈ gs) with
    | true =>
      rw [hj] at q3
      have w : oi (woO gs (some j)) = .non := by
        show oi (if decide (j ∈ gs) = true then none else some j) = _
        rw [hj]
        rfl
      rw [w]
      unfold bodyD1
      (exists e1, q1, q2, q3, hl2)
    | false =>
      rw [hj] at q3
      have w : oi (woO gs (some j)) = .int j := by
        show oi (if decide (j ∈ gs) = true then none else some j) = _
        rw [hj]
        rfl
      rw [w]
      unfold bodyD1
      (exists e1, q1, q2, q3, hl2)
theorem due_2 {ks : List Int} (hk : ks.length ≤ 4) (h1 : oDGet (.dct t.cont) (.str n) = some (Ls ks)) (f7 : NV s7) (q1 : oOr (oIn false) (oInD false) (.str n) (.lst [.str "r", .str "p", .str "q"]) = some (.bl false)) (q2 : oOr (oIn false) (oInD false) (.str n) (.lst [.str "l", .str "m"]) = some (.bl true)) (hl : acc.length < 1000) (hp : putKD acc (.inr n) (Ls (woL gs ks)) = acc') :
    bodyD1 (enD P gs rows k t acc (.val (.str n)) s7) = .nx (enD P gs rows k t acc' (.val (.str n)) (.val (Ls (woL gs ks)))) := by
  have e1 := d_set (P := P) (gs := gs) (rows := rows) (k := k) (acc := acc) h1 f7
  have hl2 : acc.length < 1000000 := by omega
  obtain ⟨env', c1, c2⟩ := cmp_ints (i := 8) (ta := xTest (xOp (oOr (oIn true) (oInD true)) (xVal 8) (xVal 1))) (env := enD P gs rows k t acc (.val (.str n)) (.val (Ls ks))) (fun k => !decide (k ∈ gs)) ks rfl (by omega) (fun j _ => ⟨[.val (picD P), .val (Ls gs), .box (.lst rows), .val (.int k), .val t.d, .box (.dct acc), .val (.str n), .val (Ls ks), .val (.int j)], [.val (picD P), .val (Ls gs), .box (.lst rows), .val (.int k), .val t.d, .box (.dct acc), .val (.str n), .val (Ls ks), .val (.int j)], by (exists trivial), by (exists notinI j gs), rfl, by (exists trivial)⟩)
  have lc : xLc (iSq (xVar 7)) (yName 8) (xTest (xOp (oOr (oIn true) (oInD true)) (xVal 8) (xVal 1))) (xVal 8) [8] (enD P gs rows k t acc (.val (.str n)) (.val (Ls ks))) = .ok (Ls (woL gs ks)) (enD P gs rows k t acc (.val (.str n)) (.val (Ls ks))) := r_lc (by (exists trivial)) c1 c2
  have bx : xBox 7 (xLc (iSq (xVar 7)) (yName 8) (xTest (xOp (oOr (oIn true) (oInD true)) (xVal 8) (xVal 1))) (xVal 8) [8]) (enD P gs rows k t acc (.val (.str n)) (.val (Ls ks))) = .nx (enD P gs rows k t acc (.val (.str n)) (.box (Ls (woL gs ks)))) := r_box lc rfl rfl rfl
  subst hp
  unfold bodyD1
  (exists e1, q1, q2, bx, hl2)
end
theorem q_rpq_a : oOr (oIn false) (oInD false) (.str "a") (.lst [.str "r", .str "p", .str "q"]) = some (.bl false) := by rfl
theorem q_rpq_t : oOr (oIn false) (oInD false) (.str "t") (.lst [.str "r", .str "p", .str "q"]) = some (.bl false) := by rfl
theorem q_rpq_r : oOr (oIn false) (oInD false) (.str "r") (.lst [.str "r", .str "p", .str "q"]) = some (.bl true) := by rfl
theorem q_rpq_p : oOr (oIn false) (oInD false) (.str "p") (.lst [.str "r", .str "p", .str "q"]) = some (.bl true) := by rfl
theorem q_rpq_q : oOr (oIn false) (oInD false) (.str "q") (.lst [.str "r", .str "p", .str "q"]) = some (.bl true) := by rfl
theorem q_rpq_l : oOr (oIn false) (oInD false) (.str "l") (.lst [.str "r", .str "p", .str "q"]) = some (.bl false) := by rfl
theorem q_rpq_m : oOr (oIn false) (oInD false) (.str "m") (.lst [.str "r", .str "p", .str "q"]) = some (.bl false) := by rfl
theorem q_lm_a : oOr (oIn false) (oInD false) (.str "a") (.lst [.str "l", .str "m"]) = some (.bl false) := by rfl
theorem q_lm_t : oOr (oIn false) (oInD false) (.str "t") (.lst [.str "l", .str "m"]) = some (.bl false) := by rfl
theorem q_lm_r : oOr (oIn false) (oInD false) (.str "r") (.lst [.str "l", .str "m"]) = some (.bl false) := by rfl
theorem q_lm_p : oOr (oIn false) (oInD false) (.str "p") (.lst [.str "l", .str "m"]) = some (.bl false) := by rfl
theorem q_lm_q : oOr (oIn false) (oInD false) (.str "q") (.lst [.str "l", .str "m"]) = some (.bl false) := by rfl
theorem q_lm_l : oOr (oIn false) (oInD false) (.str "l") (.lst [.str "l", .str "m"]) = some (.bl true) := by rfl
theorem q_lm_m : oOr (oIn false) (oInD false) (.str "m") (.lst [.str "l", .str "m"]) = some (.bl true) := by rfl
def bodyD0 : EvS := (xSeq (xSet 4 (xOp oDGet (xVal 0) (xVal 3)))
 (xSeq (xBox 5 xDNew)
 (xSeq (xFor (iSq (xCall 1 d__law_names (gVal (xFld fc_kind "kind" (xVal 4)) Dv.gNil))) (yName 6) bodyD1)
 (xDrop (xOwnM mApp 2 (xCons (xTup (xCons (xVal 3) (xCons (xFld fc_kind "kind" (xVal 4)) (xCons (xBor (xCB fRepr (xCons (xVal 5) xNil))) xNil)))) xNil))))))
theorem appD {l : List D} {x : D} (h : l.length < 1000000) : mApp (.lst l) [x] = some (.non, .lst (l ++ [x])) := by
  show (if l.length < 1000000 then some (D.non, D.lst (l ++ [x])) else none) = _
  rw [if_pos h]
theorem flds (P : Pic) (gs : List Int) (rows : List D) (k : Int) (t : Th) (ot : okT t) (s6 s7 : Sl) (f6 : NV s6) (f7 : NV s7) : ∃ (ns : List Str) (s6' s7' : Sl), NV s6' ∧ NV s7' ∧ d__law_names [.val (.str t.kd)] = .ok (Ss ns) none ∧ forL (yName 6) bodyD1 (ns.map .str) (enD P gs rows k t [] s6 s7) = .nx (enD P gs rows k t (t.wo gs).cont s6' s7') := by
  have y : ∀ (n : Str) (acc : List (L2.Key × D)) (s6 s7 : Sl), NV s6 → yName 6 (.str n) (enD P gs rows k t acc s6 s7) = some (enD P gs rows k t acc (.val (.str n)) s7) := fun n acc s6 s7 f6 => by
    refine z_name ?_
    rw [setE_at (s := s6) rfl (nv_par f6)]
    rfl
  cases t with
  | A x y' z ks =>
    have w1 := due_0 (P := P) (gs := gs) (rows := rows) (k := k) (t := .A x y' z ks) (n := "a") (c := oi x) (acc := []) rfl f7 q_rpq_a q_lm_a (by decide) rfl
    have w2 := due_0 (P := P) (gs := gs) (rows := rows) (k := k) (t := .A x y' z ks) (n := "t") (c := os y') (acc := [(.inr "a", oi x)]) (s7 := .val (oi x)) rfl ⟨.inr ⟨_, rfl⟩⟩ q_rpq_t q_lm_t (by simp) rfl
    have w3 := due_1 (P := P) (gs := gs) (rows := rows) (k := k) (t := .A x y' z ks) (n := "r") (z := z) (acc := [(.inr "a", oi x), (.inr "t", os y')]) (s7 := .val (os y')) rfl ⟨.inr ⟨_, rfl⟩⟩ q_rpq_r q_lm_r (by simp) rfl
    have w4 := due_2 (P := P) (gs := gs) (rows := rows) (k := k) (t := .A x y' z ks) (n := "l") (ks := ks) (acc := [(.inr "a", oi x), (.inr "t", os y'), (.inr "r", oi (woO gs z))]) (s7 := .val (oi (woO gs z))) ot.1 rfl ⟨.inr ⟨_, rfl⟩⟩ q_rpq_l q_lm_l (by simp) rfl
    refine ⟨["a", "t", "r", "l"], .val (.str "l"), .val (Ls (woL gs ks)), ⟨.inr ⟨_, rfl⟩⟩, ⟨.inr ⟨_, rfl⟩⟩, nmA, ?_⟩
    refine for_cons (y "a" _ _ _ f6) w1 (fk_nx ?_)
    refine for_cons (y "t" _ _ _ ⟨.inr ⟨_, rfl⟩⟩) w2 (fk_nx ?_)
    refine for_cons (y "r" _ _ _ ⟨.inr ⟨_, rfl⟩⟩) w3 (fk_nx ?_)
    exact for_cons (y "l" _ _ _ ⟨.inr ⟨_, rfl⟩⟩) w4 (fk_nx rfl)
  | B p q ks =>
    have w1 := due_1 (P := P) (gs := gs) (rows := rows) (k := k) (t := .B p q ks) (n := "p") (z := p) (acc := []) rfl f7 q_rpq_p q_lm_p (by decide) rfl
    have w2 := due_1 (P := P) (gs := gs) (rows := rows) (k := k) (t := .B p q ks) (n := "q") (z := q) (acc := [(.inr "p", oi (woO gs p))]) (s7 := .val (oi (woO gs p))) rfl ⟨.inr ⟨_, rfl⟩⟩ q_rpq_q q_lm_q (by simp) rfl
    have w4 := due_2 (P := P) (gs := gs) (rows := rows) (k := k) (t := .B p q ks) (n := "m") (ks := ks) (acc := [(.inr "p", oi (woO gs p)), (.inr "q", oi (woO gs q))]) (s7 := .val (oi (woO gs q))) ot.1 rfl ⟨.inr ⟨_, rfl⟩⟩ q_rpq_m q_lm_m (by simp) rfl
    refine ⟨["p", "q", "m"], .val (.str "m"), .val (Ls (woL gs ks)), ⟨.inr ⟨_, rfl⟩⟩, ⟨.inr ⟨_, rfl⟩⟩, nmB, ?_⟩
    refine for_cons (y "p" _ _ _ f6) w1 (fk_nx ?_)
    refine for_cons (y "q" _ _ _ ⟨.inr ⟨_, rfl⟩⟩) w2 (fk_nx ?_)
    exact for_cons (y "m" _ _ _ ⟨.inr ⟨_, rfl⟩⟩) w4 (fk_nx rfl)
abbrev enR (P : Pic) (gs : List Int) (rows : List D) (s3 s4 s5 s6 s7 : Sl) : Dv.Env := [.val (picD P), .val (Ls gs), .box (.lst rows), s3, s4, s5, s6, s7, .no]
theorem due_row (P : Pic) (g : Good P) (gs : List Int) (rows : List D) (k : Int) (t : Th) (ht : look P k = some t) (hr : rows.length < 1000) (s4 s5 s6 s7 : Sl) (f4 : NV s4) (f5 : boxable (some s5) = true) (f6 : NV s6) (f7 : NV s7) : ∃ s4' s5' s6' s7', NV s4' ∧ boxable (some s5') = true ∧ NV s6' ∧ NV s7' ∧ bodyD0 (enR P gs rows (.val (.int k)) s4 s5 s6 s7) = .nx (enR P gs (rows ++ [rowT k (t.wo gs)]) (.val (.int k)) s4' s5' s6' s7') := by
  have ot := look_ok g ht
  have h2 := dgetP P k
  rw [ht] at h2
  have h2 : oDGet (picD P) (.int k) = some t.d := h2
  obtain ⟨ns, q6, q7, i6, i7, nm, lp⟩ := flds P gs rows k t ot s6 s7 f6 f7
  have e4 : xSet 4 (xOp oDGet (xVal 0) (xVal 3)) (enR P gs rows (.val (.int k)) s4 s5 s6 s7) = .nx (enR P gs rows (.val (.int k)) (.val t.d) s5 s6 s7) := by
    refine r_set (d := t.d) (e1 := enR P gs rows (.val (.int k)) s4 s5 s6 s7) (r_op (r_val rfl) (r_val rfl) h2) ?_
    rw [setE_at (s := s4) rfl (nv_par f4)]
    rfl
  have e5 : xBox 5 xDNew (enR P gs rows (.val (.int k)) (.val t.d) s5 s6 s7) = .nx (enD P gs rows k t [] s6 s7) := r_box r_dnew rfl f5 rfl
  have kf : ∀ (acc : List (L2.Key × D)) (s6 s7 : Sl), xFld fc_kind "kind" (xVal 4) (enD P gs rows k t acc s6 s7) = .ok (.str t.kd) (enD P gs rows k t acc s6 s7) := fun acc s6 s7 => r_fld (C := 4) (fs := [("kind", .str t.kd), ("contents", .dct t.cont)]) (r_val rfl) (by decide) rfl
  have k1 := kf [] s6 s7
  have k2 := kf (t.wo gs).cont q6 q7
  have rp := repr_cont (wo_ok (gs := gs) ot)
  have bo : borE (enD P gs rows k t (t.wo gs).cont q6 q7) = [.val (picD P), .val (Ls gs), .val (.lst rows), .val (.int k), .val t.d, .val (.dct (t.wo gs).cont), q6, q7, .no] := by
    rcases i6.h with rfl | ⟨d, rfl⟩ <;> rcases i7.h with rfl | ⟨d', rfl⟩ <;> rfl
  have br : xBor (xCB fRepr (xCons (xVal 5) xNil)) (enD P gs rows k t (t.wo gs).cont q6 q7) = .ok (.str (tx (t.wo gs))) (enD P gs rows k t (t.wo gs).cont q6 q7) := r_bor bo (e1 := [.val (picD P), .val (Ls gs), .val (.lst rows), .val (.int k), .val t.d, .val (.dct (t.wo gs).cont), q6, q7, .no]) (by (exists rp)) rfl
  have ap : mApp (.lst rows) [.tup [.int k, .str t.kd, .str (tx (t.wo gs))]] = some (.non, .lst (rows ++ [rowT k (t.wo gs)])) := by
    rw [appD (by omega)]
    unfold rowT
    rw [wo_kd]
  have dr : xDrop (xOwnM mApp 2 (xCons (xTup (xCons (xVal 3) (xCons (xFld fc_kind "kind" (xVal 4)) (xCons (xBor (xCB fRepr (xCons (xVal 5) xNil))) xNil)))) xNil)) (enD P gs rows k t (t.wo gs).cont q6 q7) = .nx (enD P gs (rows ++ [rowT k (t.wo gs)]) k t (t.wo gs).cont q6 q7) := by
    (exists k2, br, ap)
  refine ⟨.val t.d, .box (.dct (t.wo gs).cont), q6, q7, ⟨.inr ⟨_, rfl⟩⟩, rfl, i6, i7, ?_⟩
  unfold bodyD0
  (exists e4, e5, k1, nm, lp, dr)
theorem due_loop (P : Pic) (g : Good P) (gs : List Int) : ∀ (ks : List Int), (∀ k ∈ ks, ∃ t, look P k = some t) → ∀ (rows : List D) (s3 s4 s5 s6 s7 : Sl), rows.length + ks.length < 1000 → NV s3 → NV s4 → boxable (some s5) = true → NV s6 → NV s7 → ∃ s3' s4' s5' s6' s7', forL (yName 3) bodyD0 (ks.map .int) (enR P gs rows s3 s4 s5 s6 s7) = .nx (enR P gs (rows ++ ks.map fun k => rowK (woP gs P) (.int k)) s3' s4' s5' s6' s7')
  | [], _, rows, s3, s4, s5, s6, s7, _, _, _, _, _, _ => ⟨s3, s4, s5, s6, s7, by
    rw [List.map_nil, List.map_nil, List.append_nil]
    rfl⟩
  | k :: ks, h, rows, s3, s4, s5, s6, s7, hl, f3, f4, f5, f6, f7 => by
    rw [List.length_cons] at hl
    obtain ⟨t, ht⟩ := h k (List.mem_cons_self ..)
    obtain ⟨r4, r5, r6, r7, i4, i5, i6, i7, e⟩ := due_row P g gs rows k t ht (by omega) s4 s5 s6 s7 f4 f5 f6 f7
    obtain ⟨q3, q4, q5, q6, q7, ih⟩ := due_loop P g gs ks (fun k hk => h k (List.mem_cons_of_mem _ hk)) (rows ++ [rowT k (t.wo gs)]) (.val (.int k)) r4 r5 r6 r7 (by rw [List.length_append]; simp; omega) ⟨.inr ⟨_, rfl⟩⟩ i4 i5 i6 i7
    have y : yName 3 (.int k) (enR P gs rows s3 s4 s5 s6 s7) = some (enR P gs rows (.val (.int k)) s4 s5 s6 s7) := by
      refine z_name ?_
      rw [setE_at (s := s3) rfl (nv_par f3)]
      rfl
    have er : rowK (woP gs P) (.int k) = rowT k (t.wo gs) := by
      show (match look (woP gs P) k with | some t => rowT k t | none => D.non) = _
      rw [woP_look, ht]
      rfl
    refine ⟨q3, q4, q5, q6, q7, ?_⟩
    rw [List.map_cons, List.map_cons, er]
    rw [List.append_assoc] at ih
    exact for_cons y e (fk_nx ih)
theorem sK_wo (gs : List Int) (P : Pic) : sK (woP gs P) = sK P := by
  unfold sK
  rw [woP_keys]
theorem due_ok (P : Pic) (g : Good P) (hP : P.length ≤ 7) (gs : List Int) : ∃ p, d__law_due [.val (picD P), .val (Ls gs)] = .ok (kepD (woP gs P)) p := by
  have k1 := keysL P
  have k2 := sortL (P.map (·.1))
  have nn : NV .no := ⟨.inl rfl⟩
  obtain ⟨q3, q4, q5, q6, q7, lp⟩ := due_loop P g gs (sK P) (keys_look P g) [] .no .no .no .no .no (by have := sK_len P; simp; omega) nn nn rfl nn nn
  have lp : forL (yName 3) bodyD0 ((sortI (P.map (·.1))).map .int) [.val (picD P), .val (Ls gs), .box (.lst []), .no, .no, .no, .no, .no, .no] = .nx [.val (picD P), .val (Ls gs), .box (.lst ((sK P).map fun k => rowK (woP gs P) (.int k))), q3, q4, q5, q6, q7, .no] := lp
  have e : kepD (woP gs P) = .lst ((sK P).map fun k => rowK (woP gs P) (.int k)) := by
    unfold kepD
    rw [sK_wo]
  rw [e]
  refine ⟨parOf [.val (picD P), .val (Ls gs), .val (.lst ((sK P).map fun k => rowK (woP gs P) (.int k))), q3, q4, q5, q6, q7, .no], ?_⟩
  unfold bodyD0 bodyD1 at lp
  unfold d__law_due b__law_due
  (exists k1, k2, lp)
end
end K48L
namespace K48L
open PySem PySem.Spec PyProof.Rows L2 Dv K48
set_option autoImplicit false
noncomputable section
abbrev A3 := Addr × Addr × Addr
def kvsOf : Pic → List A3 → List (L2.Key × V)
  | p :: P, x :: xs => (.inl p.1, .ref x.1) :: kvsOf P xs
  | _, _ => []
def isI (kv : List (L2.Key × V)) : Prop := ∀ q ∈ kv, ∃ n : Int, q.1 = .inl n
theorem kvs_isI : ∀ (P : Pic) (xs : List A3), isI (kvsOf P xs)
  | [], _ => fun q h => by cases h
  | _ :: _, [] => fun q h => by cases h
  | p :: P, x :: xs => fun q h => by
    rcases List.mem_cons.mp h with rfl | h
    · exact ⟨p.1, rfl⟩
    · exact kvs_isI P xs q h
theorem kvs_at : ∀ (P : Pic) (xs : List A3) (i : Nat) (p : Int × Th) (x : A3), P[i]? = some p → xs[i]? = some x → (kvsOf P xs)[i]? = some (.inl p.1, .ref x.1)
  | [], _, _, _, _, e, _ => by simp at e
  | _ :: _, [], _, _, _, _, e => by simp at e
  | q :: P, y :: xs, 0, p, x, e1, e2 => by
    simp at e1 e2
    subst e1
    subst e2
    rfl
  | q :: P, y :: xs, i + 1, p, x, e1, e2 => by
    simp at e1 e2
    exact kvs_at P xs i p x e1 e2
theorem kvs_len : ∀ (P : Pic) (xs : List A3), xs.length = P.length → (kvsOf P xs).length = P.length
  | [], _, _ => rfl
  | _ :: _, [], e => by cases e
  | q :: P, y :: xs, e => by
    show (kvsOf P xs).length + 1 = P.length + 1
    rw [kvs_len P xs (by simpa using e)]
theorem kvs_snoc : ∀ (P : Pic) (xs : List A3) (p : Int × Th) (x : A3), xs.length = P.length → kvsOf (P ++ [p]) (xs ++ [x]) = kvsOf P xs ++ [(.inl p.1, .ref x.1)]
  | [], [], _, _, _ => rfl
  | [], _ :: _, _, _, e => by cases e
  | _ :: _, [], _, _, e => by cases e
  | q :: P, y :: xs, p, x, e => by
    show _ :: kvsOf (P ++ [p]) (xs ++ [x]) = _
    rw [kvs_snoc P xs p x (by simpa using e)]
    rfl
theorem kvs_keys : ∀ (P : Pic) (xs : List A3), xs.length = P.length → (kvsOf P xs).map (·.1) = P.map fun p => (.inl p.1 : L2.Key)
  | [], _, _ => rfl
  | _ :: _, [], e => by cases e
  | q :: P, y :: xs, e => by
    show _ :: (kvsOf P xs).map (·.1) = _
    rw [kvs_keys P xs (by simpa using e)]
    rfl
section
variable {K : PySem.W.Frag} {A : Ad}
theorem cv_no {t : Th} {l : Addr} {kv : List (L2.Key × V)} (h : isI kv) : t.cv l ≠ kv := fun e => by
  cases t with
  | A x y z ks =>
    obtain ⟨n, e2⟩ := h _ (by rw [← e]; exact List.mem_cons_self ..)
    cases e2
  | B x y ks =>
    obtain ⟨n, e2⟩ := h _ (by rw [← e]; exact List.mem_cons_self ..)
    cases e2
theorem rd_dct {H : Hp} {c D : Addr} {kw kv : List (L2.Key × V)} (h : Rd H c (.dK kw)) (hD : Rd H D (.dK kv)) (n : kw ≠ kv) : c ≠ D := fun e => by
  subst e
  rcases h with h | ⟨o, h⟩ <;> rcases hD with hD | ⟨o', hD⟩ <;> rw [h] at hD <;> cases hD <;> exact n rfl
/-- a thing stays where a dict of numbers changes -/
theorem ThI.to {H H' : Hp} {a c l D : Addr} {t : Th} {kv : List (L2.Key × V)} (h : ThI A H a c l t) (hD : Rd H D (.dK kv)) (hk : isI kv) (x : ∀ b o, b ≠ D → H b = some o → H' b = some o) : ThI A H' a c l t := by
  obtain ⟨⟨dx, h1⟩, h2, h3⟩ := h
  have ne : ∀ {b : Addr} {o : HO}, H b = some o → (∀ z, o ≠ .dK z) → (∀ w z, o ≠ .frz w z) → b ≠ D := fun {b o} e n1 n2 q => by
    subst q
    rcases hD with hD | ⟨w, hD⟩ <;> rw [hD] at e <;> cases e
    · exact n1 _ rfl
    · exact n2 _ _ rfl
  have nc : c ≠ D := rd_dct h2 hD (cv_no hk)
  refine ⟨⟨dx, x _ _ (ne h1 (fun _ z => nomatch z) (fun _ _ z => nomatch z)) h1⟩, ?_, x _ _ (ne h3 (fun _ z => nomatch z) (fun _ _ z => nomatch z)) h3⟩
  rcases h2 with h2 | ⟨w, h2⟩
  · exact .inl (x _ _ nc h2)
  · exact .inr ⟨w, x _ _ nc h2⟩
def Src (A : Ad) (H : Hp) (P : Pic) (xs : List A3) : Prop := xs.length = P.length ∧ ∀ (i : Nat) (x : A3) (p : Int × Th), xs[i]? = some x → P[i]? = some p → ThI A H x.1 x.2.1 x.2.2 p.2
/-- new, or the old one -/
def Od (H : Hp) (y x : Addr) : Prop := H y = none ∨ y = x
def Cp (A : Ad) (H H' : Hp) (P : Pic) (xs ys : List A3) : Prop := Src A H' P ys ∧ (∀ x ∈ ys, H x.2.2 = none) ∧ (ys.map fun x => x.2.2).Nodup ∧ ∀ (i : Nat) (y x : A3), ys[i]? = some y → xs[i]? = some x → Od H y.1 x.1 ∧ Od H y.2.1 x.2.1
/-- the promise of picture_copy -/
def spPC (A : Ad) : Sp := fun vs H Q _ => ∃ (p : Addr) (P : Pic) (xs : List A3), vs = [.ref p] ∧ Rd H p (.dK (kvsOf P xs)) ∧ Src A H P xs ∧ (P.map (·.1)).Nodup ∧ P.length ≤ 1000 ∧
  ∀ (q : Addr) (H' : Hp) (ys : List A3), Same H H' → H q = none → H' q = some (.dK (kvsOf P ys)) → Cp A H H' P xs ys → Q (.ref q) H'
theorem put_new {kvs : List (L2.Key × V)} {k : L2.Key} {v : V} (h : k ∉ kvs.map (·.1)) : putK kvs k v = kvs ++ [(k, v)] := by
  unfold putK
  rw [if_neg]
  intro e
  obtain ⟨q, hq, e⟩ := List.any_eq_true.mp e
  exact h (List.mem_map.mpr ⟨q, hq, of_decide_eq_true e⟩)
theorem src_snoc {H : Hp} {P : Pic} {xs : List A3} {i : Nat} {p : Int × Th} {x : A3} (hp : P[i]? = some p) (h : Src A H (P.take i) xs) (hx : ThI A H x.1 x.2.1 x.2.2 p.2) : Src A H (P.take (i + 1)) (xs ++ [x]) := by
  have e : P.take (i + 1) = P.take i ++ [p] := by rw [List.take_add_one, hp]; rfl
  rw [e]
  refine ⟨by rw [List.length_append, List.length_append, h.1]; rfl, fun j y q hy hq => ?_⟩
  by_cases hj : j < xs.length
  · rw [List.getElem?_append_left hj] at hy
    rw [List.getElem?_append_left (by rw [← h.1]; exact hj)] at hq
    exact h.2 j y q hy hq
  · rw [List.getElem?_append_right (by omega)] at hy
    rw [List.getElem?_append_right (by rw [← h.1]; omega)] at hq
    have : j - xs.length = 0 := by
      have := (List.getElem?_eq_some_iff.mp hy).1
      simp at this
      omega
    rw [this] at hy
    rw [show j - (P.take i).length = 0 by rw [← h.1]; exact this] at hq
    cases hy
    cases hq
    exact hx
/-- one thing is copied, its list locked -/
theorem copied_turn {HL : Hp} {a c l : Addr} {t : Th} {od : Obj} {Q : VK} (E : XK) (hI : ∃ dx, HL a = some (.ins (S A 4) dx (flT c t))) (hc : Rd HL c (.dK (t.cv l))) (hl : HL l = some (.frz od (.lst (t.ks.map V.int))))
    (k : ∀ (a' c' l' : Addr) (H' : Hp), Same HL H' → HL l' = none → Od HL a' a → Od HL c' c → ThI A H' a' c' l' t → Q (.ref a') H') : spD K (S A) false 1 d_Thing_copied [.ref a] HL Q E := by
  obtain ⟨dx, ha⟩ := hI
  let G : Hp := fun b => if b = a then some (.ins (S A 4) dx (flT c t)) else if b = c then some (.dK (t.cv l)) else if b = l then some (.frz od (.lst (t.ks.map V.int))) else none
  have ac : c ≠ a := fun e => by
    subst e
    rcases hc with hc | ⟨o, hc⟩ <;> rw [ha] at hc <;> cases hc
  have al : l ≠ a := fun e => by
    subst e
    rw [ha] at hl
    cases hl
  have cl : l ≠ c := fun e => by
    subst e
    rcases hc with hc | ⟨o, hc⟩ <;> rw [hl] at hc <;> cases hc
  have ga : G a = some (.ins (S A 4) dx (flT c t)) := if_pos rfl
  have gc : G c = some (.dK (t.cv l)) := (if_neg ac).trans (if_pos rfl)
  have gl : G l = some (.frz od (.lst (t.ks.map V.int))) := ((if_neg al).trans (if_neg cl)).trans (if_pos rfl)
  have gi : ∀ b u, G b = some u → (b = a ∧ u = .ins (S A 4) dx (flT c t)) ∨ (b = c ∧ u = .dK (t.cv l)) ∨ (b = l ∧ u = .frz od (.lst (t.ks.map V.int))) := fun b u e => by
    have e : (if b = a then some (HO.ins (S A 4) dx (flT c t)) else if b = c then some (.dK (t.cv l)) else if b = l then some (.frz od (.lst (t.ks.map V.int))) else none) = some u := e
    by_cases h1 : b = a
    · rw [if_pos h1] at e; cases e; exact .inl ⟨h1, rfl⟩
    · rw [if_neg h1] at e
      by_cases h2 : b = c
      · rw [if_pos h2] at e; cases e; exact .inr (.inl ⟨h2, rfl⟩)
      · rw [if_neg h2] at e
        by_cases h3 : b = l
        · rw [if_pos h3] at e; cases e; exact .inr (.inr ⟨h3, rfl⟩)
        · rw [if_neg h3] at e; cases e
  have inn : Inn G HL := fun b u e => by
    rcases gi b u e with ⟨rfl, rfl⟩ | ⟨rfl, rfl⟩ | ⟨rfl, rfl⟩
    · exact .inl ha
    · rcases hc with hc | ⟨o, hc⟩
      · exact .inl hc
      · exact .inr ⟨o, _, rfl, hc⟩
    · exact .inl hl
  refine ⟨G, [.val t.dS], none, inn, ⟨.cons (thS_to ga gc gl) .nil, (show (0 : Nat) ≤ 1 from Nat.zero_le 1), fun _ e => nomatch e⟩, rfl, ?_⟩
  rw [copiedS_ok]
  intro G' H' f _
  rw [if_neg (by decide)]
  intro v rv
  obtain ⟨a', c', l', dx', rfl, g1, g2, g3⟩ := thI_of rv
  have hn : G l' = none := by
    cases e : G l' with
    | none => rfl
    | some u =>
      have := f.g _ _ e
      rw [g3] at this
      cases this
      rcases gi _ _ e with ⟨_, q⟩ | ⟨_, q⟩ | ⟨_, q⟩ <;> cases q
  have oa : Od HL a' a := by
    cases e : G a' with
    | none => exact .inl (f.new a' (by rw [g1]; exact Option.some_ne_none _) e)
    | some u =>
      have := f.g _ _ e
      rw [g1] at this
      cases this
      rcases gi _ _ e with ⟨q, _⟩ | ⟨_, q⟩ | ⟨_, q⟩
      · exact .inr q
      · cases q
      · cases q
  have oc : Od HL c' c := by
    cases e : G c' with
    | none => exact .inl (f.new c' (by rw [g2]; exact Option.some_ne_none _) e)
    | some u =>
      have := f.g _ _ e
      rw [g2] at this
      cases this
      rcases gi _ _ e with ⟨_, q⟩ | ⟨q, _⟩ | ⟨_, q⟩
      · cases q
      · exact .inr q
      · cases q
  exact k a' c' l' H' (fun b o e => f.keep b o e (by intro q; cases q)) (f.new l' (by rw [g3]; exact Option.some_ne_none _) hn) oa oc ⟨⟨dx', f.inn.ins g1⟩, f.inn.dct (.inl g2), f.inn.lst g3⟩
end
end
end K48L
namespace K48L
open PySem PySem.Spec PyProof.Rows L2 Dv K48
set_option autoImplicit false
noncomputable section
variable {P : Program} {w : World} {K : PySem.W.Frag} {mg : Str → Option Value} {base : Heap} {A : Ad}
theorem sc_picture_copy : FnScope ["picture", "number", "thing"] ["picture"] (defScope (topS 13)) := ⟨rfl, rfl, rfl, by decide +kernel, rfl, by decide +kernel, by decide +kernel⟩
theorem fl_no {c : Addr} {t : Th} : (flT c t).lookup ("copied" : Str) = none := by
  have h1 : (("copied" : Str) == ("kind" : Str)) = false := by decide +kernel
  have h2 : (("copied" : Str) == ("contents" : Str)) = false := by decide +kernel
  unfold flT
  simp only [List.lookup, h1, h2]
theorem ifTr {a b : Prop} (h : a) : if true = true then a else b := by rw [if_pos rfl]; exact h
theorem some_ne {α : Type} {o : Option α} {x : α} (h : o = some x) : o ≠ none := by rw [h]; exact Option.some_ne_none _
/-- what is known ahead of the turn i -/
def PCI (A : Ad) (H1 : Hp) (D : Addr) (Pi : Pic) (xs : List A3) (i : Nat) (H' : Hp) : Prop := Same H1 H' ∧ ∃ ys : List A3, H' D = some (.dK (kvsOf (Pi.take i) ys)) ∧ Cp A H1 H' (Pi.take i) xs ys
/-- a copy joins -/
theorem pci_next {H1 Hi H' : Hp} {D T a c l a' c' l' : Addr} {xs : List A3} {Pi : Pic} {i : Nat} {n : Int} {t : Th} {ks : List V} {od : Obj} {o : HO} {ys : List A3} (hp : Pi[i]? = some (n, t)) (hx0 : xs[i]? = some (a, c, l)) (nd : (Pi.map (·.1)).Nodup) (hD : H1 D = none) (hl : Hi l = some (.lst ks)) (sm : Same H1 Hi)
    (hiD : Hi D = some (.dK (kvsOf (Pi.take i) ys))) (cp : Cp A H1 Hi (Pi.take i) xs ys) (hT : Hi T = none) (s1 : Same (upd (upd Hi T o) l (.frz od (.lst ks))) H') (nl : (upd (upd Hi T o) l (.frz od (.lst ks))) l' = none) (oa : Od (upd (upd Hi T o) l (.frz od (.lst ks))) a' a) (oc : Od (upd (upd Hi T o) l (.frz od (.lst ks))) c' c) (th : ThI A H' a' c' l' t) :
    H' l = some (.frz od (.lst ks)) ∧ (upd H' l (.lst ks)) D = some (.dK (kvsOf (Pi.take i) ys)) ∧ PCI A H1 D Pi xs (i + 1) (upd (upd H' l (.lst ks)) D (.dK (putK (kvsOf (Pi.take i) ys) (.inl n) (.ref a')))) := by
  have hlD : l ≠ D := fun e => by rw [e, hiD] at hl; cases hl
  have e1 : H' l = some (.frz od (.lst ks)) := s1 _ _ upd_same
  -- what stood, stands
  have keep : ∀ b u, b ≠ D → Hi b = some u → (upd (upd H' l (.lst ks)) D (.dK (putK (kvsOf (Pi.take i) ys) (.inl n) (.ref a')))) b = some u := fun b u h e => by
    rw [upd_ne h]
    by_cases hb : b = l
    · subst hb
      rw [hl] at e
      rw [upd_same]
      exact e
    · rw [upd_ne hb]
      refine s1 _ _ ?_
      rw [upd_ne hb, upd_ne (fun q => by rw [q, hT] at e; cases e)]
      exact e
  have hD' : H' D = some (.dK (kvsOf (Pi.take i) ys)) := by
    refine s1 _ _ ?_
    rw [upd_ne (fun q => hlD q.symm), upd_ne (fun q => by rw [q, hT] at hiD; cases hiD)]
    exact hiD
  have e2 : (upd H' l (.lst ks)) D = some (.dK (kvsOf (Pi.take i) ys)) := by
    rw [upd_ne (fun q => hlD q.symm)]
    exact hD'
  have hkI := kvs_isI (Pi.take i) ys
  have down : ∀ {b z : Addr}, Od (upd (upd Hi T o) l (.frz od (.lst ks))) b z → Od H1 b z := fun {b z} h => by
    rcases h with h | h
    · refine .inl ?_
      have h1 : b ≠ l := fun q => by rw [q, upd_same] at h; cases h
      rw [upd_ne h1] at h
      have h2 : b ≠ T := fun q => by rw [q, upd_same] at h; cases h
      rw [upd_ne h2] at h
      exact sm.free h
    · exact .inr h
  refine ⟨e1, e2, fun b u e => keep b u (fun q => by rw [q, hD] at e; cases e) (sm _ _ e), ys ++ [(a', c', l')], ?_, ?_, fun x hx => ?_, ?_, fun j y x hy hx => ?_⟩
  · rw [upd_same]
    have et : Pi.take (i + 1) = Pi.take i ++ [(n, t)] := by rw [List.take_add_one, hp]; rfl
    have hn : (.inl n : L2.Key) ∉ (kvsOf (Pi.take i) ys).map (·.1) := by
      rw [kvs_keys _ _ cp.1.1]
      intro hm
      obtain ⟨q, hq, e⟩ := List.mem_map.mp hm
      cases e
      have hi : i < Pi.length := (List.getElem?_eq_some_iff.mp hp).1
      have nd2 : ((Pi.take (i + 1)).map (·.1)).Nodup := nd.sublist ((List.take_sublist _ _).map _)
      rw [et, List.map_append, List.nodup_append] at nd2
      exact nd2.2.2 q.1 (List.mem_map.mpr ⟨q, hq, rfl⟩) q.1 (by simp) rfl
    rw [put_new hn, et, kvs_snoc _ _ _ _ cp.1.1]
  · refine src_snoc hp ⟨cp.1.1, fun j x q hx hq => (cp.1.2 j x q hx hq).to (.inl hiD) hkI keep⟩ ?_
    -- the new one
    have ne : ∀ {b : Addr} {u : HO}, H' b = some u → u ≠ .frz od (.lst ks) → b ≠ l := fun {b u} e z q => by
      rw [q, e1] at e
      exact z (Option.some.inj e).symm
    have th2 : ThI A (upd H' l (.lst ks)) a' c' l' t := by
      obtain ⟨⟨dx, h1⟩, h2, h3⟩ := th
      refine ⟨⟨dx, by rw [upd_ne (ne h1 (fun z => nomatch z))]; exact h1⟩, ?_, by rw [upd_ne (ne h3 (fun z => nomatch z))]; exact h3⟩
      rcases h2 with h2 | ⟨w, h2⟩
      · exact .inl (by rw [upd_ne (ne h2 (fun z => nomatch z))]; exact h2)
      · exact .inr ⟨w, by rw [upd_ne (ne h2 (fun z => by cases z))]; exact h2⟩
    exact th2.to (.inl e2) hkI fun b u h e => by rw [upd_ne h]; exact e
  · rcases List.mem_append.mp hx with hx | hx
    · exact cp.2.1 x hx
    · rw [List.mem_singleton.mp hx]
      have h1 : l' ≠ l := fun q => by rw [q, upd_same] at nl; cases nl
      rw [upd_ne h1] at nl
      have h2 : l' ≠ T := fun q => by rw [q, upd_same] at nl; cases nl
      rw [upd_ne h2] at nl
      exact sm.free nl
  · rw [List.map_append, List.nodup_append]
    refine ⟨cp.2.2.1, by simp, fun x hx y hy => ?_⟩
    obtain ⟨z, hz, rfl⟩ := List.mem_map.mp hx
    rw [show y = l' by simpa using hy]
    intro q
    obtain ⟨j, hj⟩ := List.getElem?_of_mem hz
    have hjl : j < (Pi.take i).length := by
      rw [← cp.1.1]
      exact (List.getElem?_eq_some_iff.mp hj).1
    have h3 := (cp.1.2 j z _ hj (List.getElem?_eq_getElem hjl)).lst
    rw [q] at h3
    by_cases hq : l' = l
    · rw [hq, upd_same] at nl; cases nl
    · rw [upd_ne hq, upd_ne (fun q => by rw [q, hT] at h3; cases h3), h3] at nl
      cases nl
  · by_cases hj : j < ys.length
    · rw [List.getElem?_append_left hj] at hy
      exact cp.2.2.2 j y x hy hx
    · rw [List.getElem?_append_right (by omega)] at hy
      have h0 : j - ys.length = 0 := by
        have := (List.getElem?_eq_some_iff.mp hy).1
        simp at this
        omega
      rw [h0] at hy
      cases hy
      have hi : i < Pi.length := (List.getElem?_eq_some_iff.mp hp).1
      have hl3 : ys.length = i := by rw [cp.1.1, List.length_take]; omega
      rw [show j = i by omega, hx0] at hx
      cases hx
      exact ⟨down oa, down oc⟩
def gCp (A : Ad) (K : PySem.W.Frag) : Addr → Addr → Sp → Prop := fun C f sp => C = A.C_Thing ∧ f = A.f_Thing_copied ∧ sp = spD K (S A) false 1 d_Thing_copied
/-- the walk over the locked picture -/
theorem pc_loop (T : Txt K mg A) {H1 : Hp} {p : Addr} {Pi : Pic} {xs : List A3} {od : Obj} {σ : L2.St} {Q : VK} (hσ : σ = [some (.ref p), none, none]) (hp : H1 p = some (.frz od (.dK (kvsOf Pi xs)))) (src1 : Src A H1 Pi xs) (nd : (Pi.map (·.1)).Nodup) (hlen : Pi.length ≤ 1000)
    (q : ∀ (D : Addr) (H' : Hp) (ys : List A3), Same H1 H' → H1 D = none → H' D = some (.dK (kvsOf Pi ys)) → Cp A H1 H' Pi xs ys → Q (.ref D) H') :
    tDc (iItems (tVar 0)) (gTup K 2 (L2.gCons (L2.gName 1) (L2.gCons (L2.gName 2) L2.gNil))) tYes (tVar 1) (tLockE (tMD (gCp A K) "copied" E0 (tVar 2) tNil)) [1, 2] σ H1 Q := by
  subst hσ
  refine ⟨_, rfl, p, od, _, rfl, hp, fun D hD => ?_⟩
  have hlv : (kvsOf Pi xs).length = Pi.length := kvs_len Pi xs src1.1
  refine ⟨fun i m H' => m = Pi.length - i ∧ i ≤ Pi.length ∧ PCI A H1 D Pi xs i H', ⟨Pi.length, rfl, Nat.zero_le _, Dv.same_upd hD, [], upd_same, ⟨⟨rfl, fun j x y hx => (by simp at hx)⟩, (fun x hx => nomatch hx), List.nodup_nil, fun i y x hy => (by simp at hy)⟩⟩, ?_⟩
  rintro i m Hi ⟨rfl, hi, sm, ys, hiD, cp⟩
  have hpi : Hi p = some (.frz od (.dK (kvsOf Pi xs))) := sm _ _ hp
  by_cases hlt : i < Pi.length
  · refine .inr ⟨⟨hpi, by rw [hlv]; exact hlt⟩, fun H' => PCI A H1 D Pi xs (i + 1) H', fun H' h => ⟨_, by omega, rfl, hlt, h⟩, ?_⟩
    rintro x HT ⟨T0, k, v, ek, rfl, hT, rfl⟩
    obtain ⟨⟨n, t⟩, hn⟩ : ∃ y, Pi[i]? = some y := ⟨_, List.getElem?_eq_getElem hlt⟩
    obtain ⟨⟨a, c, l⟩, hx⟩ : ∃ y, xs[i]? = some y := ⟨_, List.getElem?_eq_getElem (by rw [src1.1]; exact hlt)⟩
    have ek2 := kvs_at Pi xs i _ _ hn hx
    rw [ek] at ek2
    cases ek2
    have ht1 := src1.2 i _ _ hx hn
    have ht : ThI A Hi a c l t := by
      obtain ⟨⟨dx, h1⟩, h2, h3⟩ := ht1
      refine ⟨⟨dx, sm _ _ h1⟩, ?_, sm _ _ h3⟩
      rcases h2 with h2 | ⟨z, h2⟩
      · exact .inl (sm _ _ h2)
      · exact .inr ⟨z, sm _ _ h2⟩
    refine ⟨T0, _, rfl, SqT.of upd_same, rfl, _, _, rfl, _, _, rfl, rfl, rfl, ?_⟩
    unfold tYes
    dsimp only
    rw [if_pos rfl]
    refine ⟨_, rfl, ?_⟩
    have ne : ∀ {b : Addr} {u : HO}, Hi b = some u → b ≠ T0 := fun {b u} e q => by rw [q, hT] at e; cases e
    have hl2 : (upd Hi T0 (.tup [kV (.inl n), .ref a])) l = some (.lst (t.ks.map V.int)) := by rw [upd_ne (ne ht.lst)]; exact ht.lst
    refine ⟨l, _, hl2, trivial, fun od2 => ?_⟩
    have nl : ∀ {b : Addr} {u : HO}, Hi b = some u → (∀ z, u ≠ .lst z) → b ≠ l := fun {b u} e z q => by
      rw [q, ht.lst] at e
      exact z _ (Option.some.inj e).symm
    obtain ⟨⟨dx, h1⟩, h2, h3⟩ := id ht
    have h1' : (upd (upd Hi T0 (.tup [kV (.inl n), .ref a])) l (.frz od2 (.lst (t.ks.map V.int)))) a = some (.ins (S A 4) dx (flT c t)) := by
      rw [upd_ne (nl h1 (fun z e => nomatch e)), upd_ne (ne h1)]
      exact h1
    have h2' : Rd (upd (upd Hi T0 (.tup [kV (.inl n), .ref a])) l (.frz od2 (.lst (t.ks.map V.int)))) c (.dK (t.cv l)) := by
      rcases h2 with h2 | ⟨z, h2⟩
      · refine .inl ?_
        rw [upd_ne (nl h2 (fun z e => nomatch e)), upd_ne (ne h2)]
        exact h2
      · refine .inr ⟨z, ?_⟩
        rw [upd_ne (nl h2 (fun z e => nomatch e)), upd_ne (ne h2)]
        exact h2
    refine ⟨_, rfl, a, _, dx, _, _, _, rfl, h1', fl_no, ⟨rfl, rfl, rfl⟩, ?_⟩
    refine copied_turn E0 ⟨dx, h1'⟩ h2' upd_same fun a' c' l' H' s1 nl' oa oc th => ?_
    obtain ⟨z1, z2, z3⟩ := pci_next hn hx nd hD ht.lst sm hiD cp hT s1 nl' oa oc th
    refine ⟨z1, _, .inl n, rfl, z2, ?_, z3⟩
    rw [kvs_len _ _ cp.1.1, List.length_take]
    have := line10 (n := 1000) (by decide)
    have hs : sizeLine = 16777216 := sizeLine_eq
    omega
  · have e : i = Pi.length := by omega
    subst e
    rw [List.take_length] at hiD cp
    exact .inl ⟨⟨hpi, by rw [hlv]; exact Nat.le_refl _⟩, q D Hi ys sm hD hiD cp⟩
theorem okp_picture_copy (T : Txt K mg A) : FnOk P w K mg base CX0 5 A.f_picture_copy A.fd_picture_copy ["picture"] (spPC A) := by
  refine T.F_picture_copy.ok sc_picture_copy (fun vs H Q E h => ?_) (fun cdv Ar outer s H vs Q E hr h => ?_)
  · obtain ⟨p, P, xs, rfl, _⟩ := h
    rfl
  obtain ⟨p, Pi, xs, rfl, hp, src, nd, hlen, q⟩ := h
  refine ⟨_, pss_one (s_lk (ps_ret (pe_dc (g := gTup K 2 (L2.gCons (L2.gName 1) (L2.gCons (L2.gName 2) L2.gNil))) (tk := tVar 1) (tv := tLockE (tMD (gCp A K) "copied" E0 (tVar 2) tNil)) rfl sc_picture_copy.nd (pi_items (pv 0)) (blkOk_by (own := [("number", 1), ("thing", 2)]) (N := ["picture", "number", "thing"]) (sc := defScope (topS 13)) (by decide +kernel)) ?pg (fun _ _ _ _ _ => pts_nil) ?pk ?pv))), ?rd⟩
  case pg => exact fun _ _ _ _ _ => (pg_tup rfl (pgs_cons (pg_name (i := 1) sc_picture_copy.nd rfl (Or.inl rfl)) (pgs_cons (pg_name (i := 2) sc_picture_copy.nd rfl (Or.inl rfl)) pgs_nil)))
  case pk => exact fun _ _ _ _ _ => pv 1
  case pv => exact fun _ _ _ _ _ => pe_lock (pe_methD0 (G := gCp A K) (k := 4) (E' := E0) (pv 2) (fun C f sp hg => by
      obtain ⟨rfl, rfl, rfl⟩ := hg
      exact ⟨T.cl_Thing, T.me_Thing_copied, _, _, ok_Thing_copied T, T.b_Thing_copied⟩) (hr.mono (by decide)) pass0)
  case rd =>
  rcases hp with hp | ⟨od, hp⟩
  · refine .inr ⟨p, _, hp, trivial, fun od => ?_⟩
    have src1 : Src A (upd H p (.frz od (.dK (kvsOf Pi xs)))) Pi xs := ⟨src.1, fun j x y hx hy => (src.2 j x y hx hy).to (.inl hp) (kvs_isI Pi xs) fun b o hb e => by rw [upd_ne hb]; exact e⟩
    refine pc_loop T rfl upd_same src1 nd hlen fun D Hi ys sm hD hiD cp => ?_
    have hpi : Hi p = some (.frz od (.dK (kvsOf Pi xs))) := sm _ _ upd_same
    have hpD : p ≠ D := fun e => by rw [← e, upd_same] at hD; cases hD
    have nD : H D = none := by
      rw [upd_ne (fun z => hpD z.symm)] at hD
      exact hD
    have back : ∀ b u, b ≠ p → Hi b = some u → (upd Hi p (.dK (kvsOf Pi xs))) b = some u := fun b u hb e => by rw [upd_ne hb]; exact e
    have free : ∀ {b : Addr}, (upd H p (.frz od (.dK (kvsOf Pi xs)))) b = none → H b = none := fun {b} h => by
      by_cases hb : b = p
      · rw [hb, upd_same] at h; cases h
      · rw [upd_ne hb] at h; exact h
    refine ⟨hpi, q D _ ys (fun b u e => ?_) nD ((back _ _ (fun z => hpD z.symm) hiD)) ⟨⟨cp.1.1, fun j x y hx hy => (cp.1.2 j x y hx hy).to (.inr ⟨od, hpi⟩) (kvs_isI Pi xs) back⟩, fun x hx => free (cp.2.1 x hx), cp.2.2.1, fun j y x hy hx => ?_⟩⟩
    · by_cases hb : b = p
      · subst hb
        rw [hp] at e
        rw [upd_same]
        exact e
      · exact back b u hb (sm _ _ (by rw [upd_ne hb]; exact e))
    · obtain ⟨o1, o2⟩ := cp.2.2.2 j y x hy hx
      exact ⟨o1.imp free id, o2.imp free id⟩
  · exact .inl (pc_loop T rfl hp src nd hlen fun D Hi ys sm hD hiD cp => q D Hi ys sm hD hiD cp)
end
end K48L
namespace K48L
open PySem PySem.Spec PyProof.Rows L2 Dv K48
set_option autoImplicit false
noncomputable section
variable {P : Program} {w : World} {K : PySem.W.Frag} {mg : Str → Option Value} {base : Heap} {A : Ad}
/-! ### a picture's places -/
/-- the same, no dict locked -/
structure ThG (A : Ad) (G : Hp) (a c l : Addr) (t : Th) : Prop where
  ins : ∃ dx, G a = some (.ins (S A 4) dx (flT c t))
  dct : G c = some (.dK (t.cv l))
  lst : G l = some (.lst (t.ks.map V.int))
def SrcG (A : Ad) (G : Hp) (P : Pic) (xs : List A3) : Prop := xs.length = P.length ∧ ∀ (i : Nat) (x : A3) (p : Int × Th), xs[i]? = some x → P[i]? = some p → ThG A G x.1 x.2.1 x.2.2 p.2
theorem repK_src {G : Hp} : ∀ {Pi : Pic} {ws : List (L2.Key × V)}, RepK K (S A) G (picK Pi) ws → ∃ xs, ws = kvsOf Pi xs ∧ SrcG A G Pi xs
  | [], _, r => by
    cases r
    exact ⟨[], rfl, rfl, fun i x p hx => by simp at hx⟩
  | q :: Pi, _, ⟨v, ws, e, r1, r2⟩ => by
    subst e
    obtain ⟨xs, rfl, hl, h⟩ := repK_src r2
    obtain ⟨a, c, l, dx, rfl, g1, g2, g3⟩ := thI_of r1
    refine ⟨(a, c, l) :: xs, rfl, by rw [List.length_cons, List.length_cons, hl], fun i x p hx hp => ?_⟩
    cases i with
    | zero =>
      simp at hx hp
      subst hx
      subst hp
      exact ⟨⟨dx, g1⟩, g2, g3⟩
    | succ i => exact h i x p (by simpa using hx) (by simpa using hp)
theorem src_repK {G : Hp} : ∀ {Pi : Pic} {xs : List A3}, SrcG A G Pi xs → RepK K (S A) G (picK Pi) (kvsOf Pi xs)
  | [], xs, _ => by
    show kvsOf [] xs = []
    cases xs <;> rfl
  | q :: Pi, [], h => by cases h.1
  | q :: Pi, x :: xs, h => by
    obtain ⟨⟨dx, g1⟩, g2, g3⟩ := h.2 0 x q rfl rfl
    exact ⟨_, _, rfl, thI_to g1 g2 g3, src_repK ⟨by simpa using h.1, fun i y p hy hp => h.2 (i + 1) y p (by simpa using hy) (by simpa using hp)⟩⟩
theorem pic_src {G : Hp} {Pi : Pic} {v : V} (r : Rep K (S A) G (.dct (picK Pi)) v) : ∃ p xs, v = .ref p ∧ G p = some (.dK (kvsOf Pi xs)) ∧ SrcG A G Pi xs := by
  obtain ⟨p, ws, rfl, g, rk⟩ := r
  obtain ⟨xs, rfl, h⟩ := repK_src rk
  exact ⟨p, xs, rfl, g, h⟩
theorem src_inn {G H : Hp} {Pi : Pic} {xs : List A3} (i : Inn G H) (h : SrcG A G Pi xs) : Src A H Pi xs := ⟨h.1, fun j x p hx hp => by
  obtain ⟨⟨dx, g1⟩, g2, g3⟩ := h.2 j x p hx hp
  exact ⟨⟨dx, i.ins g1⟩, i.dct (.inl g2), i.lst g3⟩⟩
/-- a dict, its lock taken away -/
def unl : Option HO → Option HO
  | some (.frz _ (.dK k)) => some (.dK k)
  | x => x
theorem unl_in {x : Option HO} {u : HO} (e : unl x = some u) : x = some u ∨ ∃ o kvs, u = .dK kvs ∧ x = some (.frz o u) := by
  unfold unl at e
  split at e
  · cases e
    exact .inr ⟨_, _, rfl, rfl⟩
  · exact .inl e
theorem unl_rd {x : Option HO} {k : List (L2.Key × V)} (e : x = some (.dK k) ∨ ∃ o, x = some (.frz o (.dK k))) : unl x = some (.dK k) := by
  rcases e with rfl | ⟨o, rfl⟩ <;> rfl
/-- what is held, and what is new -/
def extN (G H H' : Hp) : Hp := fun a => match G a with
  | some u => some u
  | none => match H a with
    | none => unl (H' a)
    | some _ => none
theorem extN_g {G H H' : Hp} {a : Addr} {u : HO} (e : G a = some u) : extN G H H' a = some u := by unfold extN; rw [e]
theorem extN_n {G H H' : Hp} {a : Addr} (e : G a = none) (h : H a = none) : extN G H H' a = unl (H' a) := by unfold extN; rw [e]; dsimp only; rw [h]
theorem extN_o {G H H' : Hp} {a : Addr} {u : HO} (e : G a = none) (h : H a = some u) : extN G H H' a = none := by unfold extN; rw [e]; dsimp only; rw [h]
theorem extN_ex {G H H' : Hp} (i : Inn G H) (s : Same H H') : Ex G H (extN G H H') H' := by
  refine ⟨fun a u e => extN_g e, s, fun a u e => ?_, fun a h e => ?_⟩
  · cases g : G a with
    | some z =>
      rw [extN_g g] at e
      cases e
      exact i.up s a _ g
    | none =>
      cases hh : H a with
      | none => rw [extN_n g hh] at e; exact unl_in e
      | some z => rw [extN_o g hh] at e; cases e
  · cases hh : H a with
    | none => rfl
    | some z => exact (h (extN_o e hh)).elim
theorem held_rd {G H H' : Hp} {a : Addr} {k k' : List (L2.Key × V)} (i : Inn G H) (s : Same H H') (g : G a = some (.dK k)) (r : Rd H' a (.dK k')) : k' = k := by
  rcases i.dct (.inl g) with q | ⟨z, q⟩ <;> rcases r with r | ⟨z', r⟩ <;> have := s _ _ q <;> rw [r] at this <;> cases this <;> rfl
/-- a copied picture is held there -/
theorem cp_rep {G H H' : Hp} {Pi : Pic} {xs ys : List A3} (i : Inn G H) (s : Same H H') (hx : SrcG A G Pi xs) (h : Cp A H H' Pi xs ys) : SrcG A (extN G H H') Pi ys := by
  refine ⟨h.1.1, fun j y p hy hp => ?_⟩
  have hj : j < xs.length := by
    rw [hx.1]
    exact (List.getElem?_eq_some_iff.mp hp).1
  have ex : xs[j]? = some xs[j] := List.getElem?_eq_getElem hj
  obtain ⟨o1, o2⟩ := h.2.2.2 j y _ hy ex
  obtain ⟨⟨dx, h1⟩, h2, h3⟩ := h.1.2 j y p hy hp
  obtain ⟨⟨dx0, g1⟩, g2, g3⟩ := hx.2 j _ p ex hp
  refine ⟨⟨dx, ?_⟩, ?_, ?_⟩
  · rcases o1 with o1 | o1
    · rw [extN_n (i.some o1) o1, h1]
      rfl
    · rw [o1] at h1 ⊢
      have := s _ _ (i.ins g1)
      rw [h1] at this
      rw [extN_g g1]
      exact this.symm
  · rcases o2 with o2 | o2
    · rw [extN_n (i.some o2) o2]
      exact unl_rd h2
    · rw [o2] at h2 ⊢
      rw [extN_g g2, held_rd i s g2 h2]
  · have z := h.2.1 y (List.mem_of_getElem? hy)
    rw [extN_n (i.some z) z, h3]
    rfl
end
end K48L
namespace K48L
open PySem PySem.Spec PyProof.Rows L2 Dv K48
set_option autoImplicit false
noncomputable section
variable {P : Program} {w : World} {K : PySem.W.Frag} {mg : Str → Option Value} {base : Heap} {A : Ad}
/-! ### states -/
theorem ste_down {B : Base} {G0 G H : Hp} (st : Ste B [] G H) (h0 : Same B.G G0) (h1 : Same G0 G) : Ste B [] G0 H :=
  ⟨h0, fun a u e => st.inn a u (h1 a u e), fun a h e => st.new a (fun q => by
    cases g : G0 a with
    | none => exact h g
    | some u => rw [h1 a u g] at q; cases q) e, st.keep, st.lock, (fun a e => by
    obtain ⟨p1, p2⟩ := st.par a e
    refine ⟨?_, p2⟩
    cases g : G0 a with
    | none => rfl
    | some u => rw [h1 a u g] at p1; cases p1), fun p hp => (nomatch hp)⟩
/-- all that is new is held -/
theorem ste_all {B : Base} {G H : Hp} (st : Ste B [] G H) (hr : B.r = none) : Ste B [] (extN G B.H H) H := by
  refine ⟨st.g0.trans fun a u e => extN_g e, fun a u e => ?_, fun a h e => ?_, st.keep, st.lock, (fun a e => by rw [hr] at e; cases e), fun p hp => (nomatch hp)⟩
  · cases g : G a with
    | some z => rw [extN_g g] at e; cases e; exact st.inn a _ g
    | none =>
      cases hh : B.H a with
      | none => rw [extN_n g hh] at e; exact unl_in e
      | some z => rw [extN_o g hh] at e; cases e
  · cases hh : B.H a with
    | none => rfl
    | some z =>
      cases g : G a with
      | none => exact (h (extN_o g hh)).elim
      | some u =>
        have := st.new a (by rw [g]; exact Option.some_ne_none _) e
        rw [hh] at this
        cases this
theorem ste_upd {B : Base} {G H : Hp} {l : Addr} {o : HO} (st : Ste B [] G H) (hr : B.r = none) (g : G l = none) (b : B.H l = none) : Ste B [] G (upd H l o) := by
  refine ⟨st.g0, fun a u e => ?_, st.new, fun a u e h1 h2 => ?_, (fun p hp => nomatch hp), (fun a e => by rw [hr] at e; cases e), fun p hp => (nomatch hp)⟩
  · have : a ≠ l := fun q => by rw [q, g] at e; cases e
    rw [upd_ne this]
    exact st.inn a u e
  · have : a ≠ l := fun q => by rw [q, b] at e; cases e
    rw [upd_ne this]
    exact st.keep a u e h1 h2
/-- slots without objects of one's own -/
def isV : Sl → Bool
  | .no => true
  | .val _ => true
  | _ => false
theorem rel_vals {B B' : Base} {L L' : Lk} {G G' H H' : Hp} {env : Dv.Env} {σ : L2.St} (hv : env.all isV = true) (r : Rel K (S A) B L G H env σ) (s : Same G G') : Rel K (S A) B' L' G' H' env σ := by
  have own : ∀ (i : Nat) (z : Sl), env[i]? = some z → isOwn z = true → False := fun i z e o => by
    have := List.all_eq_true.mp hv z (List.mem_of_getElem? e)
    cases z <;> first | (cases o; done) | (cases this; done)
  refine ⟨paired_of (paired_len r.at_) fun i z x h1 h2 => ?_, fun i j z t a _ h1 _ o1 => (own i z h1 o1).elim, fun i z a h1 o1 => (own i z h1 o1).elim⟩
  obtain ⟨y, hy, q⟩ := rel_at r h1
  rw [h2] at hy
  cases hy
  cases z with
  | no => trivial
  | val d =>
    obtain ⟨v, e, q⟩ := q
    exact ⟨v, e, q.mono s⟩
  | box d => exact (own i _ h1 rfl).elim
  | par d => exact (own i _ h1 rfl).elim
/-- a slot is stored that holds no object of one's own -/
theorem rel_put {B : Base} {L : Lk} {G H : Hp} {env : Dv.Env} {σ : L2.St} {i : Nat} {d : D} {v : V} (hv : env.all isV = true) (r : Rel K (S A) B L G H env σ) (q : Rep K (S A) G d v) : Rel K (S A) B L G H (env.set i (.val d)) (σ.set i (some v)) := by
  have own : ∀ (j : Nat) (z : Sl), (env.set i (.val d))[j]? = some z → isOwn z = true → False := fun j z e o => by
    rcases set_at e with ⟨_, rfl⟩ | ⟨_, e⟩
    · cases o
    · have := List.all_eq_true.mp hv z (List.mem_of_getElem? e)
      cases z <;> first | (cases o; done) | (cases this; done)
  exact ⟨paired_set ⟨v, rfl, q⟩ i r.at_, fun a b z t c _ h1 _ o1 => (own a z h1 o1).elim, fun a z c h1 o1 => (own a z h1 o1).elim⟩
theorem rel_drop {B : Base} {L : Lk} {G H : Hp} {env : Dv.Env} {σ : L2.St} {i : Nat} {x : Option V} (hv : env.all isV = true) (r : Rel K (S A) B L G H env σ) : Rel K (S A) B L G H (env.set i .no) (σ.set i x) := by
  have own : ∀ (j : Nat) (z : Sl), (env.set i .no)[j]? = some z → isOwn z = true → False := fun j z e o => by
    rcases set_at e with ⟨_, rfl⟩ | ⟨_, e⟩
    · cases o
    · have := List.all_eq_true.mp hv z (List.mem_of_getElem? e)
      cases z <;> first | (cases o; done) | (cases this; done)
  exact ⟨paired_set trivial i r.at_, fun a b z t c _ h1 _ o1 => (own a z h1 o1).elim, fun a z c h1 o1 => (own a z h1 o1).elim⟩
theorem all_set {env : Dv.Env} {i : Nat} {s : Sl} (hv : env.all isV = true) (hs : isV s = true) : (env.set i s).all isV = true := by
  refine List.all_eq_true.mpr fun z hz => ?_
  obtain ⟨j, hj⟩ := List.getElem?_of_mem hz
  rcases set_at hj with ⟨_, rfl⟩ | ⟨_, e⟩
  · exact hs
  · exact List.all_eq_true.mp hv z (List.mem_of_getElem? e)
/-! ### the loop's things -/
/-- the thing at the number n now -/
def nowT (done : List Int) (p : Int × Th) : Th := if p.1 ∈ done then p.2.app 88 else p.2
theorem cv_app (t : Th) (k : Int) (l : Addr) : (t.app k).cv l = t.cv l := by cases t <;> rfl
theorem fl_app (t : Th) (k : Int) (c : Addr) : flT c (t.app k) = flT c t := by unfold flT; rw [app_kd]
theorem ks_app (t : Th) (k : Int) : (t.app k).ks = t.ks ++ [k] := by cases t <;> rfl
theorem valV_kvs : ∀ {Pi : Pic} {ys : List A3} {j : Nat} {p : Int × Th} {y : A3}, (Pi.map (·.1)).Nodup → Pi[j]? = some p → ys[j]? = some y → ys.length = Pi.length → valV (kvsOf Pi ys) (.inl p.1) = some (.ref y.1)
  | [], _, _, _, _, _, e, _, _ => by simp at e
  | _ :: _, [], _, _, _, _, _, e, _ => by simp at e
  | q :: Pi, z :: ys, j, p, y, nd, e1, e2, hl => by
    have nd' : q.1 ∉ Pi.map (·.1) ∧ (Pi.map (·.1)).Nodup := List.nodup_cons.mp nd
    cases j with
    | zero =>
      simp at e1 e2
      subst e1
      subst e2
      show valV ((.inl q.1, .ref z.1) :: kvsOf Pi ys) (.inl q.1) = _
      unfold valV
      rw [List.find?_cons_of_pos (by simp)]
      rfl
    | succ j =>
      simp at e1 e2
      have h := valV_kvs nd'.2 e1 e2 (by simpa using hl)
      have hne : ¬ ((.inl q.1 : L2.Key) = .inl p.1) := fun e => by
        have e : q.1 = p.1 := Sum.inl.inj e
        exact nd'.1 (List.mem_map.mpr ⟨p, List.mem_of_getElem? e1, e.symm⟩)
      show valV ((.inl q.1, .ref z.1) :: kvsOf Pi ys) (.inl p.1) = _
      unfold valV at h ⊢
      rw [List.find?_cons_of_neg (by simpa using hne)]
      exact h
end
end K48L
namespace K48L
open PySem PySem.Spec PyProof.Rows L2 Dv K48
set_option autoImplicit false
noncomputable section
/-! ### heaps: pictures by numbers -/
abbrev HM := List (Int × Pic)
abbrev HP := List (Addr × List A3)
def hpK : HM → HP → List (L2.Key × V)
  | m :: M, p :: ps => (.inl m.1, .ref p.1) :: hpK M ps
  | _, _ => []
theorem hp_at : ∀ (M : HM) (ps : HP) (i : Nat) (m : Int × Pic) (p : Addr × List A3), M[i]? = some m → ps[i]? = some p → (hpK M ps)[i]? = some (.inl m.1, .ref p.1)
  | [], _, _, _, _, e, _ => by simp at e
  | _ :: _, [], _, _, _, _, e => by simp at e
  | n :: M, z :: ps, 0, m, p, e1, e2 => by
    simp at e1 e2
    subst e1
    subst e2
    rfl
  | n :: M, z :: ps, i + 1, m, p, e1, e2 => by
    simp at e1 e2
    exact hp_at M ps i m p e1 e2
theorem hp_len : ∀ (M : HM) (ps : HP), ps.length = M.length → (hpK M ps).length = M.length
  | [], _, _ => rfl
  | _ :: _, [], e => by cases e
  | m :: M, p :: ps, e => by
    show (hpK M ps).length + 1 = M.length + 1
    rw [hp_len M ps (by simpa using e)]
theorem hp_snoc : ∀ (M : HM) (ps : HP) (m : Int × Pic) (p : Addr × List A3), ps.length = M.length → hpK (M ++ [m]) (ps ++ [p]) = hpK M ps ++ [(.inl m.1, .ref p.1)]
  | [], [], _, _, _ => rfl
  | [], _ :: _, _, _, e => by cases e
  | _ :: _, [], _, _, e => by cases e
  | n :: M, z :: ps, m, p, e => by
    show _ :: hpK (M ++ [m]) (ps ++ [p]) = _
    rw [hp_snoc M ps m p (by simpa using e)]
    rfl
theorem hp_keys : ∀ (M : HM) (ps : HP), ps.length = M.length → (hpK M ps).map (·.1) = M.map fun m => (.inl m.1 : L2.Key)
  | [], _, _ => rfl
  | _ :: _, [], e => by cases e
  | m :: M, p :: ps, e => by
    show _ :: (hpK M ps).map (·.1) = _
    rw [hp_keys M ps (by simpa using e)]
    rfl
theorem hp_isI : ∀ (M : HM) (ps : HP), isI (hpK M ps)
  | [], _ => fun q h => by cases h
  | _ :: _, [] => fun q h => by cases h
  | m :: M, p :: ps => fun q h => by
    rcases List.mem_cons.mp h with rfl | h
    · exact ⟨m.1, rfl⟩
    · exact hp_isI M ps q h
section
variable {K : PySem.W.Frag} {A : Ad}
/-- a picture stands there -/
structure PiA (A : Ad) (H : Hp) (p : Addr) (P : Pic) (xs : List A3) : Prop where
  d : Rd H p (.dK (kvsOf P xs))
  s : Src A H P xs
theorem ThI.up {H H' : Hp} {a c l : Addr} {t : Th} (i : Inn H H') (h : ThI A H a c l t) : ThI A H' a c l t := by
  obtain ⟨⟨dx, h1⟩, h2, h3⟩ := h
  exact ⟨⟨dx, i.ins h1⟩, i.dct h2, i.lst h3⟩
theorem Src.up {H H' : Hp} {P : Pic} {xs : List A3} (i : Inn H H') (h : Src A H P xs) : Src A H' P xs := ⟨h.1, fun j x p hx hp => (h.2 j x p hx hp).up i⟩
theorem PiA.up {H H' : Hp} {p : Addr} {P : Pic} {xs : List A3} (i : Inn H H') (h : PiA A H p P xs) : PiA A H' p P xs := ⟨i.dct h.d, h.s.up i⟩
theorem inn_same {H H' : Hp} (s : Same H H') : Inn H H' := fun a u e => .inl (s _ _ e)
theorem inn_lock {H : Hp} {D : Addr} {od : Obj} {kv : List (L2.Key × V)} (h : H D = some (.dK kv)) : Inn H (upd H D (.frz od (.dK kv))) := fun a u e => by
  by_cases hb : a = D
  · subst hb
    rw [h] at e
    cases e
    exact .inr ⟨od, kv, rfl, upd_same⟩
  · exact .inl (by rw [upd_ne hb]; exact e)
/-- a lock is taken off -/
theorem rd_re {H : Hp} {b D : Addr} {k kv : List (L2.Key × V)} (h : Rd H b (.dK k)) (hD : Rd H D (.dK kv)) : Rd (upd H D (.dK kv)) b (.dK k) := by
  by_cases hb : b = D
  · subst hb
    have : k = kv := by
      rcases h with h | ⟨o, h⟩ <;> rcases hD with hD | ⟨o', hD⟩ <;> rw [h] at hD <;> cases hD <;> rfl
    subst this
    exact .inl upd_same
  · rcases h with h | ⟨o, h⟩
    · exact .inl (by rw [upd_ne hb]; exact h)
    · exact .inr ⟨o, by rw [upd_ne hb]; exact h⟩
theorem rd_no {H : Hp} {b D : Addr} {kv : List (L2.Key × V)} {u : HO} (h : H b = some u) (hD : Rd H D (.dK kv)) (n1 : ∀ z, u ≠ .dK z) (n2 : ∀ w z, u ≠ .frz w z) : b ≠ D := fun e => by
  subst e
  rcases hD with hD | ⟨o, hD⟩ <;> rw [h] at hD <;> cases hD
  · exact n1 _ rfl
  · exact n2 _ _ rfl
theorem ThI.un {H : Hp} {a c l D : Addr} {t : Th} {kv : List (L2.Key × V)} (h : ThI A H a c l t) (hD : Rd H D (.dK kv)) : ThI A (upd H D (.dK kv)) a c l t := by
  obtain ⟨⟨dx, h1⟩, h2, h3⟩ := h
  exact ⟨⟨dx, by rw [upd_ne (rd_no h1 hD (fun z e => nomatch e) (fun w z e => nomatch e))]; exact h1⟩, rd_re h2 hD, by rw [upd_ne (rd_no h3 hD (fun z e => nomatch e) (fun w z e => nomatch e))]; exact h3⟩
theorem PiA.un {H : Hp} {p D : Addr} {P : Pic} {xs : List A3} {kv : List (L2.Key × V)} (h : PiA A H p P xs) (hD : Rd H D (.dK kv)) : PiA A (upd H D (.dK kv)) p P xs := ⟨rd_re h.d hD, h.s.1, fun j x q hx hq => (h.s.2 j x q hx hq).un hD⟩
/-- where a dict of numbers changes -/
theorem PiA.to {H H' : Hp} {p D : Addr} {P : Pic} {xs : List A3} {kv : List (L2.Key × V)} (h : PiA A H p P xs) (hp : p ≠ D) (hD : Rd H D (.dK kv)) (hk : isI kv) (x : ∀ b o, b ≠ D → H b = some o → H' b = some o) : PiA A H' p P xs := by
  refine ⟨?_, h.s.1, fun j y q hy hq => (h.s.2 j y q hy hq).to hD hk x⟩
  rcases h.d with e | ⟨o, e⟩
  · exact .inl (x _ _ hp e)
  · exact .inr ⟨o, x _ _ hp e⟩
/-- where an instance without fields gets some -/
theorem PiA.ins {H : Hp} {p z C dz : Addr} {fs : List (Str × V)} {P : Pic} {xs : List A3} (h : PiA A H p P xs) (hz : H z = some (.ins C dz [])) : PiA A (upd H z (.ins C dz fs)) p P xs := by
  have dn : ∀ {b : Addr} {k : List (L2.Key × V)}, Rd H b (.dK k) → Rd (upd H z (.ins C dz fs)) b (.dK k) := fun {b k} h => by
    have hb : b ≠ z := fun e => by
      subst e
      rcases h with h | ⟨o, h⟩ <;> rw [hz] at h <;> cases h
    rcases h with h | ⟨o, h⟩
    · exact .inl (by rw [upd_ne hb]; exact h)
    · exact .inr ⟨o, by rw [upd_ne hb]; exact h⟩
  refine ⟨dn h.d, h.s.1, fun j x q hx hq => ?_⟩
  obtain ⟨⟨dx, h1⟩, h2, h3⟩ := h.s.2 j x q hx hq
  refine ⟨⟨dx, ?_⟩, dn h2, ?_⟩
  · rw [upd_ne (fun e => by rw [e, hz] at h1; cases h1)]; exact h1
  · rw [upd_ne (fun e => by rw [e, hz] at h3; cases h3)]; exact h3
def HpS (A : Ad) (H : Hp) (M : HM) (ps : HP) : Prop := ps.length = M.length ∧ ∀ (i : Nat) (m : Int × Pic) (p : Addr × List A3), M[i]? = some m → ps[i]? = some p → PiA A H p.1 m.2 p.2
theorem HpS.imp {H H' : Hp} {M : HM} {ps : HP} (h : HpS A H M ps) (f : ∀ p P xs, PiA A H p P xs → PiA A H' p P xs) : HpS A H' M ps := ⟨h.1, fun i m p hm hp => f _ _ _ (h.2 i m p hm hp)⟩
theorem HpS.snoc {H : Hp} {M : HM} {ps : HP} {i : Nat} {m : Int × Pic} {p : Addr × List A3} (hm : M[i]? = some m) (h : HpS A H (M.take i) ps) (hp : PiA A H p.1 m.2 p.2) : HpS A H (M.take (i + 1)) (ps ++ [p]) := by
  have e : M.take (i + 1) = M.take i ++ [m] := by rw [List.take_add_one, hm]; rfl
  rw [e]
  refine ⟨by rw [List.length_append, List.length_append, h.1]; rfl, fun j n z hn hz => ?_⟩
  by_cases hj : j < ps.length
  · rw [List.getElem?_append_left hj] at hz
    rw [List.getElem?_append_left (by rw [← h.1]; exact hj)] at hn
    exact h.2 j n z hn hz
  · rw [List.getElem?_append_right (by omega)] at hz
    rw [List.getElem?_append_right (by rw [← h.1]; omega)] at hn
    have h0 : j - ps.length = 0 := by
      have := (List.getElem?_eq_some_iff.mp hz).1
      simp at this
      omega
    rw [h0] at hz
    rw [show j - (M.take i).length = 0 by rw [← h.1]; exact h0] at hn
    cases hz
    cases hn
    exact hp
def OkM (M : HM) : Prop := (M.map (·.1)).Nodup ∧ M.length ≤ 2 ∧ ∀ m ∈ M, Good m.2 ∧ m.2.length ≤ 7
/-- all of it is new -/
def Nw (H : Hp) (qs : HP) : Prop := ∀ q ∈ qs, H q.1 = none ∧ ∀ y ∈ q.2, H y.2.2 = none
theorem Nw.down {H H' : Hp} {qs : HP} (h : Nw H' qs) (s : ∀ b, H' b = none → H b = none) : Nw H qs := fun q hq => ⟨s _ (h q hq).1, fun y hy => s _ ((h q hq).2 y hy)⟩
/-- none of it is locked -/
def Ul (H : Hp) (qs : HP) : Prop := (∀ q ∈ qs, ∃ k, H q.1 = some (.dK k)) ∧ (qs.map fun q => q.1).Nodup
/-- the promise of Heap.__init__ -/
def spHI (A : Ad) : Sp := fun vs H Q _ => ∃ (h dx D0 : Addr) (M : HM) (ps : HP), vs = [.ref h, .ref D0] ∧ H h = some (.ins A.C_Heap dx []) ∧ Rd H D0 (.dK (hpK M ps)) ∧ HpS A H M ps ∧ OkM M ∧
  ∀ (D : Addr) (H' : Hp) (qs : HP), (∀ b o, b ≠ h → H b = some o → H' b = some o) → H' h = some (.ins A.C_Heap dx [("pictures", .ref D)]) → H D = none → H' D = some (.dK (hpK M qs)) → HpS A H' M qs → Nw H qs → Ul H' qs → Q .non H'
variable {P : Program} {w : World} {mg : Str → Option Value} {base : Heap}
theorem sc_Heap_init : FnScope ["self", "pictures", "number", "picture"] ["self", "pictures"] (defScope (inClass (topS 18) 0)) := ⟨rfl, rfl, rfl, by decide +kernel, rfl, by decide +kernel, by decide +kernel⟩
/-- ahead of the turn i -/
def HI (A : Ad) (H1 : Hp) (D : Addr) (M : HM) (i : Nat) (H' : Hp) : Prop := Same H1 H' ∧ ∃ qs : HP, H' D = some (.dK (hpK (M.take i) qs)) ∧ HpS A H' (M.take i) qs ∧ (∀ q ∈ qs, q.1 ≠ D) ∧ Nw H1 qs ∧ Ul H' qs
theorem hi_loop {H1 : Hp} {h D0 : Addr} {M : HM} {ps : HP} {od : Obj} {σ : L2.St} {Q : VK} (hσ : σ = [some (.ref h), some (.ref D0), none, none]) (hp : H1 D0 = some (.frz od (.dK (hpK M ps)))) (src1 : HpS A H1 M ps) (ok : OkM M)
    (q : ∀ (D : Addr) (H' : Hp) (qs : HP), Same H1 H' → H1 D = none → H' D = some (.dK (hpK M qs)) → HpS A H' M qs → Nw H1 qs → Ul H' qs → Q (.ref D) H') :
    tDc (iItems (tVar 1)) (gTup K 2 (L2.gCons (L2.gName 2) (L2.gCons (L2.gName 3) L2.gNil))) tYes (tVar 2) (tCall (spPC A) [] E0 (tCons (tVar 3) tNil)) [2, 3] σ H1 Q := by
  subst hσ
  refine ⟨_, rfl, D0, od, _, rfl, hp, fun D hD => ?_⟩
  have hlv : (hpK M ps).length = M.length := hp_len M ps src1.1
  refine ⟨fun i m H' => m = M.length - i ∧ i ≤ M.length ∧ HI A H1 D M i H', ⟨M.length, rfl, Nat.zero_le _, Dv.same_upd hD, [], upd_same, ⟨rfl, fun j m p hm => (by simp at hm)⟩, (fun q hq => nomatch hq), (fun q hq => nomatch hq), (fun q hq => nomatch hq), List.nodup_nil⟩, ?_⟩
  rintro i m Hi ⟨rfl, hi, sm, qs, hiD, hs, hne, nw, ul⟩
  have hpi : Hi D0 = some (.frz od (.dK (hpK M ps))) := sm _ _ hp
  by_cases hlt : i < M.length
  · refine .inr ⟨⟨hpi, by rw [hlv]; exact hlt⟩, fun H' => HI A H1 D M (i + 1) H', fun H' h => ⟨_, by omega, rfl, hlt, h⟩, ?_⟩
    rintro x HT ⟨T0, k, v, ek, rfl, hT, rfl⟩
    obtain ⟨⟨n, Pi⟩, hn⟩ : ∃ y, M[i]? = some y := ⟨_, List.getElem?_eq_getElem hlt⟩
    obtain ⟨⟨p, xs⟩, hx⟩ : ∃ y, ps[i]? = some y := ⟨_, List.getElem?_eq_getElem (by rw [src1.1]; exact hlt)⟩
    have ek2 := hp_at M ps i _ _ hn hx
    rw [ek] at ek2
    cases ek2
    obtain ⟨okP, okL⟩ := ok.2.2 _ (List.mem_of_getElem? hn)
    have okL : Pi.length ≤ 7 := okL
    have sT : Same Hi (upd Hi T0 (.tup [kV (.inl n), .ref p])) := Dv.same_upd hT
    have pa : PiA A (upd Hi T0 (.tup [kV (.inl n), .ref p])) p Pi xs := (src1.2 i _ _ hn hx).up (inn_same (sm.trans sT))
    refine ⟨T0, _, rfl, SqT.of upd_same, rfl, _, _, rfl, _, _, rfl, rfl, rfl, ?_⟩
    unfold tYes
    dsimp only
    rw [if_pos rfl]
    refine ⟨_, rfl, ?_⟩
    refine ⟨_, rfl, p, Pi, xs, rfl, pa.d, pa.s, okP.1, by omega, fun r H' ys s7 nr hr cp => ?_⟩
    have s8 : Same Hi H' := sT.trans s7
    have hD2 : H' D = some (.dK (hpK (M.take i) qs)) := s8 _ _ hiD
    have rD : r ≠ D := fun e => by
      rw [e] at nr
      have := sT _ _ hiD
      rw [nr] at this
      cases this
    have keep : ∀ b o, b ≠ D → H' b = some o → (upd H' D (.dK (putK (hpK (M.take i) qs) (.inl n) (.ref r)))) b = some o := fun b o hb e => by rw [upd_ne hb]; exact e
    refine ⟨_, .inl n, rfl, hD2, ?_, ?_⟩
    · rw [hp_len _ _ hs.1, List.length_take]
      have := line10 (n := 1000) (by decide)
      have := ok.2.1
      omega
    · have et : M.take (i + 1) = M.take i ++ [(n, Pi)] := by rw [List.take_add_one, hn]; rfl
      have hk : (.inl n : L2.Key) ∉ (hpK (M.take i) qs).map (·.1) := by
        rw [hp_keys _ _ hs.1]
        intro hm
        obtain ⟨z, hz, e⟩ := List.mem_map.mp hm
        cases e
        have nd2 : ((M.take (i + 1)).map (·.1)).Nodup := ok.1.sublist ((List.take_sublist _ _).map _)
        rw [et, List.map_append, List.nodup_append] at nd2
        exact nd2.2.2 z.1 (List.mem_map.mpr ⟨z, hz, rfl⟩) z.1 (by simp) rfl
      have hI := hp_isI (M.take i) qs
      have n1 : ∀ b, (upd Hi T0 (.tup [kV (.inl n), .ref p])) b = none → H1 b = none := fun b hb => (sm.trans sT).free hb
      refine ⟨fun b u e => keep b u (fun z => by rw [z, hD] at e; cases e) (s8 _ _ (sm _ _ e)), qs ++ [(r, ys)], ?_, ?_, fun z hz => ?_, fun z hz => ?_, fun z hz => ?_, ?_⟩
      · rw [upd_same, put_new hk, et, hp_snoc _ _ _ _ hs.1]
      · refine HpS.snoc hn ⟨hs.1, fun j m z hm hz => ((hs.2 j m z hm hz).up (inn_same s8)).to (hne z (List.mem_of_getElem? hz)) (.inl hD2) hI keep⟩ ?_
        exact PiA.to ⟨.inl hr, cp.1⟩ rD (.inl hD2) hI keep
      · rcases List.mem_append.mp hz with hz | hz
        · exact hne z hz
        · rw [List.mem_singleton.mp hz]
          exact rD
      · rcases List.mem_append.mp hz with hz | hz
        · exact nw z hz
        · rw [List.mem_singleton.mp hz]
          exact ⟨n1 _ nr, fun y hy => n1 _ (cp.2.1 y hy)⟩
      · rcases List.mem_append.mp hz with hz | hz
        · obtain ⟨k, e⟩ := ul.1 z hz
          exact ⟨k, keep _ _ (hne z hz) (s8 _ _ e)⟩
        · rw [List.mem_singleton.mp hz]
          exact ⟨_, keep _ _ rD hr⟩
      · rw [List.map_append, List.nodup_append]
        refine ⟨ul.2, by simp, fun a ha b hb => ?_⟩
        obtain ⟨z, hz, rfl⟩ := List.mem_map.mp ha
        rw [show b = r by simpa using hb]
        intro e
        obtain ⟨k, e2⟩ := ul.1 z hz
        have e3 := sT _ _ e2
        rw [e, nr] at e3
        cases e3
  · have e : i = M.length := by omega
    subst e
    rw [List.take_length] at hiD hs
    exact .inl ⟨⟨hpi, by rw [hlv]; exact Nat.le_refl _⟩, q D Hi qs sm hD hiD hs nw ul⟩
theorem okp_Heap___init__ (T : Txt K mg A) : FnOk P w K mg base CX0 6 A.f_Heap___init__ A.fd_Heap___init__ ["self", "pictures"] (spHI A) := by
  refine T.F_Heap___init__.ok sc_Heap_init (fun vs H Q E h => ?_) (fun cdv Ar outer s H vs Q E hr h => ?_)
  · obtain ⟨h, dx, D0, M, ps, rfl, _⟩ := h
    rfl
  obtain ⟨z, dx, D0, M, ps, rfl, hz, hD, hs, ok, q⟩ := h
  refine ⟨_, pss_one (s_lk (ps_fld (pv 0) (pe_dc (g := gTup K 2 (L2.gCons (L2.gName 2) (L2.gCons (L2.gName 3) L2.gNil))) (tk := tVar 2) (tv := tCall (spPC A) [] E0 (tCons (tVar 3) tNil)) rfl sc_Heap_init.nd (pi_items (pv 1)) (blkOk_by (own := [("number", 2), ("picture", 3)]) (N := ["self", "pictures", "number", "picture"]) (sc := defScope (inClass (topS 18) 0)) (by decide +kernel)) ?pg (fun _ _ _ _ _ => pts_nil) ?pk ?pv) rfl)), ?rd⟩
  case pg => exact fun _ _ _ _ _ => (pg_tup rfl (pgs_cons (pg_name (i := 2) sc_Heap_init.nd rfl (Or.inl rfl)) (pgs_cons (pg_name (i := 3) sc_Heap_init.nd rfl (Or.inl rfl)) pgs_nil)))
  case pk => exact fun _ _ _ _ _ => pv 2
  case pv => exact fun _ _ _ _ _ => pe_call (okp_picture_copy T) (hr.mono (by decide)) (by rfl) T.g_picture_copy T.F_picture_copy.kp T.b_picture_copy .nil pass0 (pa_cons (pv 3) pa_nil)
  case rd =>
  have zD : z ≠ D0 := rd_no hz hD (fun z e => nomatch e) (fun w z e => nomatch e)
  rcases hD with hD | ⟨od, hD⟩
  · refine .inr ⟨D0, _, hD, trivial, fun od => ?_⟩
    have iL := inn_lock (od := od) hD
    refine hi_loop rfl upd_same (hs.imp fun p P xs h => h.up iL) ok fun D H' qs sm nD hD' hs' nw ul => ?_
    have z1 : H' z = some (.ins A.C_Heap dx []) := sm _ _ (by rw [upd_ne zD]; exact hz)
    refine ⟨_, rfl, z, _, _, _, rfl, z1, T.cl_Heap, T.na_Heap_pictures, by decide, ?_⟩
    have d1 : H' D0 = some (.frz od (.dK (hpK M ps))) := sm _ _ upd_same
    have d2 : (upd H' z (.ins A.C_Heap dx [("pictures", .ref D)])) D0 = some (.frz od (.dK (hpK M ps))) := by rw [upd_ne (fun e => zD e.symm)]; exact d1
    have DD : D ≠ D0 := fun e => by rw [e, upd_same] at nD; cases nD
    have Dz : D ≠ z := fun e => by rw [e, upd_ne zD, hz] at nD; cases nD
    have fr : ∀ {b}, (upd H D0 (.frz od (.dK (hpK M ps)))) b = none → H b = none := fun {b} h => by
      by_cases hb : b = D0
      · rw [hb, upd_same] at h; cases h
      · rw [upd_ne hb] at h; exact h
    refine ⟨d2, q D _ qs (fun b o hb e => ?_) ?_ (fr nD) ?_ (hs'.imp fun p P xs h => (h.ins z1).un (.inr ⟨od, d2⟩)) (nw.down fun b hb => fr hb) ⟨fun y hy => ?_, ul.2⟩⟩
    · by_cases hb2 : b = D0
      · rw [hb2] at e ⊢
        rw [hD] at e
        rw [upd_same]
        exact e
      · rw [upd_ne hb2, upd_ne hb]
        exact sm _ _ (by rw [upd_ne hb2]; exact e)
    · rw [upd_ne zD, upd_same]
      rfl
    · rw [upd_ne DD, upd_ne Dz]
      exact hD'
    · obtain ⟨k, e⟩ := ul.1 y hy
      by_cases hb2 : y.1 = D0
      · exact ⟨_, by rw [hb2, upd_same]⟩
      · exact ⟨k, by rw [upd_ne hb2, upd_ne (fun q => by rw [q, z1] at e; cases e)]; exact e⟩
  · refine .inl (hi_loop rfl hD hs ok fun D H' qs sm nD hD' hs' nw ul => ?_)
    have z1 : H' z = some (.ins A.C_Heap dx []) := sm _ _ hz
    refine ⟨_, rfl, z, _, _, _, rfl, z1, T.cl_Heap, T.na_Heap_pictures, by decide, ?_⟩
    have Dz : D ≠ z := fun e => by rw [e, hz] at nD; cases nD
    refine q D _ qs (fun b o hb e => ?_) upd_same nD ?_ (hs'.imp fun p P xs h => h.ins z1) nw ⟨fun y hy => ?_, ul.2⟩
    · rw [upd_ne hb]
      exact sm _ _ e
    · rw [upd_ne Dz]
      exact hD'
    · obtain ⟨k, e⟩ := ul.1 y hy
      exact ⟨k, by rw [upd_ne (fun q => by rw [q, z1] at e; cases e)]; exact e⟩
/-- a heap stands there, its dict not locked -/
structure HpA (A : Ad) (H : Hp) (h D : Addr) (M : HM) (ps : HP) : Prop where
  h : ∃ dx, H h = some (.ins A.C_Heap dx [("pictures", .ref D)])
  d : Rd H D (.dK (hpK M ps))
  s : HpS A H M ps
theorem HpA.up {H H' : Hp} {h D : Addr} {M : HM} {ps : HP} (i : Inn H H') (x : HpA A H h D M ps) : HpA A H' h D M ps := by
  obtain ⟨⟨dx, h1⟩, h2, h3⟩ := x
  exact ⟨⟨dx, i.ins h1⟩, i.dct h2, h3.imp fun p P xs h => h.up i⟩
/-- Heap(..) of a dict of pictures -/
theorem mk_heap {H1 : Hp} {D0 : Addr} {M : HM} {ps : HP} {Q : VK} (hD : Rd H1 D0 (.dK (hpK M ps))) (hs : HpS A H1 M ps) (ok : OkM M)
    (k : ∀ (h D : Addr) (H' : Hp) (qs : HP), Same H1 H' → H1 h = none → H1 D = none → HpA A H' h D M qs → Nw H1 qs → Ul H' qs → Q (.ref h) H') (x dx : Addr) (h1 : H1 x = none) (h2 : H1 dx = none) (h3 : dx ≠ x) :
    spHI A [.ref x, .ref D0] (upd (upd H1 dx (.own x)) x (.ins A.C_Heap dx [])) (fun v H2 => v = .non ∧ Q (.ref x) H2) E0 := by
  have s1 : Same H1 (upd (upd H1 dx (.own x)) x (.ins A.C_Heap dx [])) := fun b o e => by
    rw [upd_ne (fun q => by rw [q, h1] at e; cases e), upd_ne (fun q => by rw [q, h2] at e; cases e)]
    exact e
  refine ⟨x, dx, D0, M, ps, rfl, upd_same, (inn_same s1).dct hD, hs.imp fun p P xs h => h.up (inn_same s1), ok, fun D H' qs k1 k2 k3 k4 k5 k6 k7 => ⟨rfl, ?_⟩⟩
  exact k x D H' qs (fun b o e => k1 b o (fun q => by rw [q, h1] at e; cases e) (s1 _ _ e)) h1 (s1.free k3) ⟨⟨dx, k2⟩, .inl k4, k5⟩ (k6.down fun b hb => s1.free hb) k7
/-- the promise of Heap.copied -/
def spHC (A : Ad) : Sp := fun vs H Q _ => ∃ (h D : Addr) (M : HM) (ps : HP), vs = [.ref h] ∧ HpA A H h D M ps ∧ OkM M ∧
  ∀ (h' D' : Addr) (H' : Hp) (qs : HP), Same H H' → H h' = none → H D' = none → HpA A H' h' D' M qs → Nw H qs → Q (.ref h') H'
theorem sc_Heap_copied : FnScope ["self"] ["self"] (defScope (inClass (topS 18) 2)) := ⟨rfl, rfl, rfl, by decide +kernel, rfl, by decide +kernel, by decide +kernel⟩
theorem okp_Heap_copied (T : Txt K mg A) : FnOk P w K mg base CX0 8 A.f_Heap_copied A.fd_Heap_copied ["self"] (spHC A) := by
  refine T.F_Heap_copied.ok sc_Heap_copied (fun vs H Q E h => ?_) (fun cdv Ar outer s H vs Q E hr h => ?_)
  · obtain ⟨h, D, M, ps, rfl, _⟩ := h
    rfl
  obtain ⟨z, D, M, ps, rfl, ha, ok, q⟩ := h
  refine ⟨_, pss_one (ps_ret (pe_make (E := E0) T.mk_Heap (okp_Heap___init__ T) (hr.mono (by decide)) (by rfl) T.g_Heap T.b_Heap___init__ .nil pass0 (pa_cons (pe_fld (pv 0) rfl) pa_nil))), ?_⟩
  obtain ⟨⟨dx, h1⟩, h2, h3⟩ := ha
  exact ⟨_, rfl, z, _, dx, _, _, rfl, h1, T.cl_Heap, T.na_Heap_pictures, rfl, fun x dy g1 g2 g3 => mk_heap h2 h3 ok (fun h' D' H' qs a b c d e _ => q h' D' H' qs a b c d e) x dy g1 g2 g3⟩
end
end
end K48L
namespace K48L
open PySem PySem.Spec PyProof.Rows L2 Dv K48
set_option autoImplicit false
noncomputable section
section
variable {K : PySem.W.Frag} {A : Ad} {P : Program} {w : World} {mg : Str → Option Value} {base : Heap}
/-! ### all that stands, held -/
def uH (H : Hp) : Hp := fun a => unl (H a)
theorem uH_inn (H : Hp) : Inn (uH H) H := fun a u e => unl_in e
theorem uH_same {H H' : Hp} (s : Same H H') : Same (uH H) (uH H') := fun a u e => by
  cases h : H a with
  | none =>
    have e : unl (H a) = some u := e
    rw [h] at e
    cases e
  | some v =>
    have e : unl (H a) = some u := e
    show unl (H' a) = some u
    rw [s _ _ h, ← h]
    exact e
theorem uH_ins {H : Hp} {a C dx : Addr} {fs : List (Str × V)} (h : H a = some (.ins C dx fs)) : uH H a = some (.ins C dx fs) := by
  show unl (H a) = _
  rw [h]
  rfl
theorem uH_lst {H : Hp} {a : Addr} {xs : List V} (h : H a = some (.lst xs)) : uH H a = some (.lst xs) := by
  show unl (H a) = _
  rw [h]
  rfl
theorem uH_dct {H : Hp} {a : Addr} {k : List (L2.Key × V)} (h : Rd H a (.dK k)) : uH H a = some (.dK k) := unl_rd h
theorem ThI.g {H : Hp} {a c l : Addr} {t : Th} (h : ThI A H a c l t) : ThG A (uH H) a c l t := by
  obtain ⟨⟨dx, h1⟩, h2, h3⟩ := h
  exact ⟨⟨dx, uH_ins h1⟩, uH_dct h2, uH_lst h3⟩
theorem thG_rep {G : Hp} {a c l : Addr} {t : Th} (h : ThG A G a c l t) : Rep K (S A) G t.d (.ref a) := by
  obtain ⟨⟨dx, g1⟩, g2, g3⟩ := h
  exact thI_to g1 g2 g3
theorem PiA.rep {H : Hp} {p : Addr} {Pi : Pic} {xs : List A3} (h : PiA A H p Pi xs) : Rep K (S A) (uH H) (picD Pi) (.ref p) := ⟨p, _, rfl, uH_dct h.d, src_repK ⟨h.s.1, fun i x q hx hq => (h.s.2 i x q hx hq).g⟩⟩
def hpD (M : HM) : D := .ins 5 [("pictures", .dct (M.map fun m => ((.inl m.1 : L2.Key), picD m.2)))]
theorem hp_repK {H : Hp} : ∀ {M : HM} {ps : HP}, HpS A H M ps → RepK K (S A) (uH H) (M.map fun m => ((.inl m.1 : L2.Key), picD m.2)) (hpK M ps)
  | [], [], _ => rfl
  | [], _ :: _, h => by cases h.1
  | _ :: _, [], h => by cases h.1
  | m :: M, p :: ps, h => ⟨_, _, rfl, (h.2 0 m p rfl rfl).rep, hp_repK ⟨by simpa using h.1, fun i n q hn hq => h.2 (i + 1) n q (by simpa using hn) (by simpa using hq)⟩⟩
theorem HpA.rep {H : Hp} {h D : Addr} {M : HM} {ps : HP} (x : HpA A H h D M ps) : Rep K (S A) (uH H) (hpD M) (.ref h) := by
  obtain ⟨⟨dx, h1⟩, h2, h3⟩ := x
  exact ⟨h, dx, _, rfl, uH_ins h1, _, _, rfl, ⟨D, _, rfl, uH_dct h2, hp_repK h3⟩, rfl⟩
/-! ### things, pictures, heaps compared -/
abbrev tTh (K : PySem.W.Frag) (A : Ad) : V → V → Hp → (Bool → Hp → Prop) → Prop := tRef (rIn K A.C_Thing (spD K (S A) false 2 d_Thing___eq__) E0)
abbrev tPi (K : PySem.W.Frag) (A : Ad) : V → V → Hp → (Bool → Hp → Prop) → Prop := tRef (rDk (tTh K A))
theorem th_eq {H : Hp} {a c l a' c' l' : Addr} {t : Th} {R : Bool → Hp → Prop} (ok : okT t) (h1 : ThI A H a c l t) (h2 : ThI A H a' c' l' t) (k : ∀ H', Same H H' → R true H') : tTh K A (.ref a) (.ref a') H R := by
  refine ⟨a, a', rfl, rfl, fun _ => k H (.refl _), fun _ => ?_⟩
  obtain ⟨dx, e1⟩ := h1.ins
  obtain ⟨dy, e2⟩ := h2.ins
  refine ⟨dx, _, dy, _, e1, e2, uH H, [.val t.d, .val t.d], none, uH_inn H, ⟨.cons (thG_rep h1.g) (.cons (thG_rep h2.g) .nil), Nat.zero_le _, fun b e => by cases e⟩, rfl, ?_⟩
  rw [eq_self ok]
  intro G' H' f pk
  rw [if_neg (by decide)]
  intro v rv
  exact ⟨true, rv, k H' fun b o e => f.keep b o e (by intro q; cases q)⟩
theorem hits_pic {od : Obj} {p p' : Addr} {Pi : Pic} {xs ys : List A3} (gd : Good Pi) : ∀ (P2 : Pic) (xs2 : List A3) (H : Hp) (R : Bool → Hp → Prop), Src A H P2 xs2 → (∀ z ∈ P2, z ∈ Pi) → H p = some (.frz od (.dK (kvsOf Pi xs))) → Rd H p' (.dK (kvsOf Pi ys)) → Src A H Pi ys → (∀ H', Same H H' → R true H') → hitsT (tTh K A) od p p' (kvsOf Pi xs) (kvsOf Pi ys) (kvsOf P2 xs2) H R
  | [], _, H, R, _, _, hp, _, _, k => ⟨hp, k H (.refl _)⟩
  | _ :: _, [], H, R, s2, _, _, _, _, _ => by cases s2.1
  | z :: P2, x :: xs2, H, R, s2, hm, hp, hp', sy, k => by
    have hz := hm z (List.mem_cons_self ..)
    obtain ⟨j, hj⟩ := List.getElem?_of_mem hz
    have hjl := (List.getElem?_eq_some_iff.mp hj).1
    obtain ⟨y, hy⟩ : ∃ y, ys[j]? = some y := ⟨_, List.getElem?_eq_getElem (by rw [sy.1]; exact hjl)⟩
    refine ⟨hp, hp', ?_⟩
    have hv : valV (kvsOf Pi ys) (.inl z.1) = some (.ref y.1) := valV_kvs gd.1 hj hy sy.1
    rw [hv]
    refine th_eq (gd.2 z hz) (s2.2 0 x z rfl rfl) (sy.2 j y z hy hj) fun H' sm => ?_
    rw [if_pos rfl]
    exact hits_pic gd P2 xs2 H' R ⟨by simpa using s2.1, fun i y q hy hq => ((s2.2 (i + 1) y q (by simpa using hy) (by simpa using hq))).up (inn_same sm)⟩ (fun z hz => hm z (List.mem_cons_of_mem _ hz)) (sm _ _ hp) ((inn_same sm).dct hp') (sy.up (inn_same sm)) fun H2 s2 => k H2 (sm.trans s2)
theorem same_un {H H' : Hp} {p : Addr} {od : Obj} {kv : List (L2.Key × V)} (h : H p = some (.dK kv)) (s : Same (upd H p (.frz od (.dK kv))) H') : Same H (upd H' p (.dK kv)) := fun b o e => by
  by_cases hb : b = p
  · subst hb
    rw [h] at e
    rw [upd_same]
    exact e
  · rw [upd_ne hb]
    exact s _ _ (by rw [upd_ne hb]; exact e)
/-- what a locked comparison wants -/
theorem dk_of {T : V → V → Hp → (Bool → Hp → Prop) → Prop} {H : Hp} {a b : Addr} {ks ls : List (L2.Key × V)} {R : Bool → Hp → Prop} (ne : a ≠ b) (ha : Rd H a (.dK ks)) (hb : Rd H b (.dK ls)) (hl : ks.length = ls.length) {r : Bool} (k : ∀ H', Same H H' → R r H')
    (h : ∀ (od : Obj) (H1 : Hp) (R1 : Bool → Hp → Prop), Inn H H1 → H1 a = some (.frz od (.dK ks)) → (∀ H', Same H1 H' → R1 r H') → hitsT T od a b ks ls ks H1 R1) : rDk T a b H R := by
  refine ⟨ks, ls, hb, ?_⟩
  rcases ha with ha | ⟨od, ha⟩
  · refine .inr ⟨ne, ha, ?_⟩
    rw [if_pos hl]
    exact fun od => h od _ _ (inn_lock ha) upd_same fun H' sm => ⟨sm _ _ upd_same, k _ (same_un ha sm)⟩
  · refine .inl ⟨od, ha, ?_⟩
    rw [if_pos hl]
    exact h od H R (inn_same (.refl _)) ha k
theorem dk_ne {T : V → V → Hp → (Bool → Hp → Prop) → Prop} {H : Hp} {a b : Addr} {ks ls : List (L2.Key × V)} {R : Bool → Hp → Prop} (ne : a ≠ b) (ha : Rd H a (.dK ks)) (hb : Rd H b (.dK ls)) (hl : ks.length ≠ ls.length) (k : R false H) : rDk T a b H R := by
  refine ⟨ks, ls, hb, ?_⟩
  rcases ha with ha | ⟨od, ha⟩
  · exact .inr ⟨ne, ha, by rw [if_neg hl]; exact k⟩
  · exact .inl ⟨od, ha, by rw [if_neg hl]; exact k⟩
theorem pi_eq {H : Hp} {p p' : Addr} {Pi : Pic} {xs ys : List A3} {R : Bool → Hp → Prop} (gd : Good Pi) (h1 : PiA A H p Pi xs) (h2 : PiA A H p' Pi ys) (k : ∀ H', Same H H' → R true H') : tPi K A (.ref p) (.ref p') H R :=
  ⟨p, p', rfl, rfl, fun _ => k H (.refl _), fun ne => dk_of ne h1.d h2.d (by rw [kvs_len _ _ h1.s.1, kvs_len _ _ h2.s.1]) k fun od H1 R1 i e k1 => hits_pic gd Pi xs H1 R1 (h1.s.up i) (fun _ h => h) e (i.dct h2.d) (h2.s.up i) k1⟩
theorem rd_uq {H : Hp} {a : Addr} {k k' : List (L2.Key × V)} (h1 : Rd H a (.dK k)) (h2 : Rd H a (.dK k')) : k = k' := by
  rcases h1 with q | ⟨o, q⟩ <;> rcases h2 with q' | ⟨o', q'⟩ <;> rw [q] at q' <;> cases q' <;> rfl
theorem pi_ne {H : Hp} {p p' : Addr} {Pi Pj : Pic} {xs ys : List A3} {R : Bool → Hp → Prop} (hl : Pi.length ≠ Pj.length) (h1 : PiA A H p Pi xs) (h2 : PiA A H p' Pj ys) (k : R false H) : tPi K A (.ref p) (.ref p') H R := by
  have ne : (kvsOf Pi xs).length ≠ (kvsOf Pj ys).length := by
    rw [kvs_len _ _ h1.s.1, kvs_len _ _ h2.s.1]
    exact hl
  refine ⟨p, p', rfl, rfl, fun e => ?_, fun e => dk_ne e h1.d h2.d ne k⟩
  subst e
  exact (ne (by rw [rd_uq h1.d h2.d])).elim
/-- which heaps are equal -/
inductive HEq (N : HM) : HM → Bool → Prop
  | nil : HEq N [] true
  | ok {m : Int × Pic} {M : HM} {r : Bool} : m ∈ N → HEq N M r → HEq N (m :: M) r
  | ne {n : Int} {Pi Pj : Pic} {M : HM} : (n, Pj) ∈ N → Pi.length ≠ Pj.length → HEq N ((n, Pi) :: M) false
theorem valV_hp : ∀ {M : HM} {qs : HP} {j : Nat} {m : Int × Pic} {q : Addr × List A3}, (M.map (·.1)).Nodup → M[j]? = some m → qs[j]? = some q → qs.length = M.length → valV (hpK M qs) (.inl m.1) = some (.ref q.1)
  | [], _, _, _, _, _, e, _, _ => by simp at e
  | _ :: _, [], _, _, _, _, _, e, _ => by simp at e
  | n :: M, z :: qs, j, m, q, nd, e1, e2, hl => by
    have nd' : n.1 ∉ M.map (·.1) ∧ (M.map (·.1)).Nodup := List.nodup_cons.mp nd
    cases j with
    | zero =>
      simp at e1 e2
      subst e1
      subst e2
      show valV ((.inl n.1, .ref z.1) :: hpK M qs) (.inl n.1) = _
      unfold valV
      rw [List.find?_cons_of_pos (by simp)]
      rfl
    | succ j =>
      simp at e1 e2
      have h := valV_hp nd'.2 e1 e2 (by simpa using hl)
      have hne : ¬ ((.inl n.1 : L2.Key) = .inl m.1) := fun e => by
        have e : n.1 = m.1 := Sum.inl.inj e
        exact nd'.1 (List.mem_map.mpr ⟨m, List.mem_of_getElem? e1, e.symm⟩)
      show valV ((.inl n.1, .ref z.1) :: hpK M qs) (.inl m.1) = _
      unfold valV at h ⊢
      rw [List.find?_cons_of_neg (by simpa using hne)]
      exact h
theorem hits_hp {od : Obj} {D D' : Addr} {M N : HM} {ps qs : HP} (okN : OkM N) : ∀ {M2 : HM} {r : Bool}, HEq N M2 r → ∀ (ps2 : HP) (H : Hp) (R : Bool → Hp → Prop), HpS A H M2 ps2 → (∀ m ∈ M2, Good m.2) → H D = some (.frz od (.dK (hpK M ps))) → Rd H D' (.dK (hpK N qs)) → HpS A H N qs → (∀ H', Same H H' → R r H') → hitsT (tPi K A) od D D' (hpK M ps) (hpK N qs) (hpK M2 ps2) H R := by
  intro M2 r he
  induction he with
  | nil =>
    intro ps2 H R _ _ hD _ _ k
    exact ⟨hD, k H (.refl _)⟩
  | @ok m M2 r hm he ih =>
    intro ps2 H R s2 hg hD hD' sq k
    match ps2, s2 with
    | [], s2 => cases s2.1
    | p :: ps2, s2 =>
      obtain ⟨j, hj⟩ := List.getElem?_of_mem hm
      have hjl := (List.getElem?_eq_some_iff.mp hj).1
      have hq : qs[j]? = some (qs[j]'(by rw [sq.1]; exact hjl)) := List.getElem?_eq_getElem (by rw [sq.1]; exact hjl)
      have hv := valV_hp okN.1 hj hq sq.1
      refine ⟨hD, hD', ?_⟩
      show match valV (hpK N qs) (.inl m.1) with
        | none => R false H
        | some y => tPi K A (.ref p.1) y H fun e H' => if e = true then hitsT (tPi K A) od D D' (hpK M ps) (hpK N qs) (hpK M2 ps2) H' R else R false H'
      rw [hv]
      refine pi_eq (hg m (List.mem_cons_self ..)) (s2.2 0 m p rfl rfl) (sq.2 j m _ hj hq) fun H' sm => ?_
      rw [if_pos rfl]
      exact ih ps2 H' R ⟨by simpa using s2.1, fun i n z hn hz => (s2.2 (i + 1) n z (by simpa using hn) (by simpa using hz)).up (inn_same sm)⟩ (fun z hz => hg z (List.mem_cons_of_mem _ hz)) (sm _ _ hD) ((inn_same sm).dct hD') (sq.imp fun p P xs h => h.up (inn_same sm)) fun H2 s2 => k H2 (sm.trans s2)
  | @ne n Pi Pj M2 hm hl =>
    intro ps2 H R s2 hg hD hD' sq k
    match ps2, s2 with
    | [], s2 => cases s2.1
    | p :: ps2, s2 =>
      obtain ⟨j, hj⟩ := List.getElem?_of_mem hm
      have hjl := (List.getElem?_eq_some_iff.mp hj).1
      have hq : qs[j]? = some (qs[j]'(by rw [sq.1]; exact hjl)) := List.getElem?_eq_getElem (by rw [sq.1]; exact hjl)
      have hv := valV_hp okN.1 hj hq sq.1
      refine ⟨hD, hD', ?_⟩
      show match valV (hpK N qs) (.inl n) with
        | none => R false H
        | some y => tPi K A (.ref p.1) y H fun e H' => if e = true then hitsT (tPi K A) od D D' (hpK M ps) (hpK N qs) (hpK M2 ps2) H' R else R false H'
      rw [hv]
      refine pi_ne hl (s2.2 0 _ p rfl rfl) (sq.2 j _ _ hj hq) ?_
      rw [if_neg (by decide)]
      exact k H (.refl _)
/-- the answer of Heap.__eq__ -/
def HRes (M N : HM) (r : Bool) : Prop := (M.length ≠ N.length ∧ r = false) ∨ (M.length = N.length ∧ HEq N M r)
theorem hd_eq {H : Hp} {D D' : Addr} {M N : HM} {ps qs : HP} {r : Bool} {R : Bool → Hp → Prop} (okM : OkM M) (okN : OkM N) (h1 : Rd H D (.dK (hpK M ps))) (s1 : HpS A H M ps) (h2 : Rd H D' (.dK (hpK N qs))) (s2 : HpS A H N qs) (ne : D ≠ D') (hr : HRes M N r) (k : ∀ H', Same H H' → R r H') : rDk (tPi K A) D D' H R := by
  rcases hr with ⟨hl, rfl⟩ | ⟨hl, he⟩
  · exact dk_ne ne h1 h2 (by rw [hp_len _ _ s1.1, hp_len _ _ s2.1]; exact hl) (k H (.refl _))
  · exact dk_of ne h1 h2 (by rw [hp_len _ _ s1.1, hp_len _ _ s2.1]; exact hl) k fun od H1 R1 i e k1 => hits_hp okN he ps H1 R1 (s1.imp fun p P xs h => h.up i) (fun m hm => (okM.2.2 m hm).1) e (i.dct h2) (s2.imp fun p P xs h => h.up i) k1
/-- the promise of Heap.__eq__ -/
def spHE (A : Ad) : Sp := fun vs H Q _ => ∃ (h D : Addr) (M : HM) (ps : HP) (y : V) (r : Bool), vs = [.ref h, y] ∧ HpA A H h D M ps ∧ OkM M ∧
  ((∃ (h' D' : Addr) (N : HM) (qs : HP), y = .ref h' ∧ D ≠ D' ∧ HpA A H h' D' N qs ∧ OkM N ∧ HRes M N r) ∨ (∃ i, y = .int i ∧ r = false)) ∧ ∀ H', Same H H' → Q (.bl r) H'
theorem sc_Heap_eq : FnScope ["self", "other"] ["self", "other"] (defScope (inClass (topS 18) 3)) := ⟨rfl, rfl, rfl, by decide +kernel, rfl, by decide +kernel, by decide +kernel⟩
theorem is5 (fs : List (Str × D)) : fIs isOO isOB isBT [.ins 5 fs, .st 5] = some (.bl true) := rfl
theorem is5i (i : Int) : fIs isOO isOB isBT [.int i, .st 5] = some (.bl false) := rfl
theorem okp_Heap___eq__ (T : Txt K mg A) : FnOk P w K mg base CX0 6 A.f_Heap___eq__ A.fd_Heap___eq__ ["self", "other"] (spHE A) := by
  refine T.F_Heap___eq__.ok sc_Heap_eq (fun vs H Q E h => ?_) (fun cdv Ar outer s H vs Q E hr h => ?_)
  · obtain ⟨h, D, M, ps, y, r, rfl, _⟩ := h
    rfl
  obtain ⟨z, D, M, ps, y, r, rfl, ha, okM, hy, q⟩ := h
  refine ⟨_, pss_one (ps_ret (pe_and (show QE (S A) _ E0 _ (xCB (fIs isOO isOB isBT) (xCons (xVal 1) (xCons (xC (.st 5)) xNil))) from q_callB call_isi (sc_is (isk T)) rfl T.b_isinstance (by decide +kernel) (q_cons (q_vl (pv 1)) (q_cons (q_c (pe_glob (v := .ref A.C_Heap) rfl T.g_Heap rfl) fun _ => rfl) q_nil)))
    (pe_one (pe_cmpR (op_DD (T := tPi K A) hr.units0 (dicts_ok (A := _) hr.in1.units0 (ins_ok T.eqo_Thing (ok_Thing___eq__ T) T.b_Thing___eq__ pass0 (hr.in1.in1.mono (by decide)) rfl))) (pe_fld (pv 0) rfl) (pe_fld (pv 1) rfl) (nomark _))))), ?_⟩
  obtain ⟨⟨dx, h1⟩, h2, h3⟩ := id ha
  rcases hy with ⟨h', D', N, qs, rfl, ne, hb, okN, hr2⟩ | ⟨i, rfl, rfl⟩
  · have ok : ArgsOk K (S A) (uH H) H none [.val (hpD M), .val (hpD N)] [.ref z, .ref h'] := ⟨.cons ha.rep (.cons hb.rep .nil), Nat.zero_le _, fun a e => by cases e⟩
    have st0 : Ste ⟨uH H, H, none⟩ [] (uH H) H := ste_start (uH_inn H) ok
    have rl0 : Rel K (S A) ⟨uH H, H, none⟩ [] (uH H) H [.val (hpD M), .val (hpD N)] (L2.start ["self", "other"] [.ref z, .ref h']) := start_rel (N := ["self", "other"]) ok (show 2 ≤ 2 by decide)
    refine ⟨_, [], _, _, st0, rl0, ?_⟩
    rw [show xCB (fIs isOO isOB isBT) (xCons (xVal 1) (xCons (xC (.st 5)) xNil)) [.val (hpD M), .val (hpD N)] = .ok (.bl true) [.val (hpD M), .val (hpD N)] from by
      unfold hpD
      (exists is5)]
    intro G1 H1 s1 st1 _ v hv
    have hv : v = .bl true := hv
    subst hv
    refine ⟨true, rfl, ?_⟩
    rw [if_pos rfl]
    have sm : Same H H1 := fun b o e => st1.keep b o e (by intro q; cases q) (fun p hp => nomatch hp)
    have i1 := inn_same sm
    obtain ⟨⟨dy, g1⟩, g2, g3⟩ := id hb
    refine ⟨_, rfl, z, _, dx, _, _, rfl, sm _ _ h1, T.cl_Heap, T.na_Heap_pictures, rfl, _, rfl, h', _, dy, _, _, rfl, sm _ _ g1, T.cl_Heap, T.na_Heap_pictures, rfl, D, D', rfl, rfl, ?_⟩
    exact hd_eq okM okN (i1.dct h2) (h3.imp fun p P xs h => h.up i1) (i1.dct g2) (g3.imp fun p P xs h => h.up i1) ne hr2 fun H' s' => q H' (sm.trans s')
  · have ok : ArgsOk K (S A) (uH H) H none [.val (hpD M), .val (.int i)] [.ref z, .int i] := ⟨.cons ha.rep (.cons rfl .nil), Nat.zero_le _, fun a e => by cases e⟩
    have st0 : Ste ⟨uH H, H, none⟩ [] (uH H) H := ste_start (uH_inn H) ok
    have rl0 : Rel K (S A) ⟨uH H, H, none⟩ [] (uH H) H [.val (hpD M), .val (.int i)] (L2.start ["self", "other"] [.ref z, .int i]) := start_rel (N := ["self", "other"]) ok (show 2 ≤ 2 by decide)
    refine ⟨_, [], _, _, st0, rl0, ?_⟩
    rw [show xCB (fIs isOO isOB isBT) (xCons (xVal 1) (xCons (xC (.st 5)) xNil)) [.val (hpD M), .val (.int i)] = .ok (.bl false) [.val (hpD M), .val (.int i)] from by
      (exists is5i)]
    intro G1 H1 s1 st1 _ v hv
    have hv : v = .bl false := hv
    subst hv
    refine ⟨false, rfl, ?_⟩
    rw [if_neg (by decide)]
    exact q H1 fun b o e => st1.keep b o e (by intro q; cases q) (fun p hp => nomatch hp)
end
end
end K48L
namespace K48L
open PySem PySem.Spec PyProof.Rows L2 Dv K48
set_option autoImplicit false
noncomputable section
section
variable {K : PySem.W.Frag} {A : Ad} {P : Program} {w : World} {mg : Str → Option Value} {base : Heap} {B : Base} {G H H' : Hp} {E : XK} {σ : L2.St}
/-! ### statements computed -/
theorem ts_nx {f : EvS} {env env' : Dv.Env} {Z : Ends} (st : Ste B [] G H) (rl : Rel K (S A) B [] G H env σ) (e : f env = .nx env') (k : ∀ σ' G' H', Same G G' → Ste B [] G' H' → Rel K (S A) B [] G' H' env' σ' → Z.nx σ' H') : TS' K (S A) E f Z σ H := ⟨B, [], G, env, st, rl, by rw [e]; exact k⟩
/-- all that stands is held -/
abbrev bH (H : Hp) : Base := ⟨uH H, H, none⟩
theorem st_bH (H : Hp) : Ste (bH H) [] (uH H) H := ⟨.refl _, uH_inn H, fun a h e => (h e).elim, fun a o e _ _ => e, (fun p hp => nomatch hp), (fun a e => by cases e), fun p hp => nomatch hp⟩
theorem st_same {G' H' : Hp} (st : Ste (bH H) [] G' H') : Same H H' := fun b o e => st.keep b o e (by intro q; cases q) (fun p hp => nomatch hp)
theorem rel_none : ∀ σ : L2.St, Rel K (S A) B [] G H (List.replicate σ.length .no) σ := fun σ => by
  have no : ∀ (i : Nat) (s : Sl), (List.replicate σ.length Sl.no)[i]? = some s → s = .no := fun i s e => by
    have := List.mem_of_getElem? e
    exact (List.mem_replicate.mp this).2
  refine ⟨paired_of (by rw [List.length_replicate]) fun i z x h1 h2 => ?_, fun i j s t a _ h1 _ o1 => ?_, fun i s a h1 o1 => ?_⟩
  · rw [no i z h1]
    trivial
  · rw [no i s h1] at o1
    cases o1
  · rw [no i s h1] at o1
    cases o1
/-- a slot's value is told -/
theorem rel_know {env : Dv.Env} {i : Nat} {d : D} {v : V} (hv : env.all isV = true) (r : Rel K (S A) B [] G H env σ) (h : σ[i]? = some (some v)) (q : Rep K (S A) G d v) : Rel K (S A) B [] G H (env.set i (.val d)) σ := by
  have own : ∀ (j : Nat) (z : Sl), (env.set i (.val d))[j]? = some z → isOwn z = true → False := fun j z e o => by
    rcases set_at e with ⟨_, rfl⟩ | ⟨_, e⟩
    · cases o
    · have := List.all_eq_true.mp hv z (List.mem_of_getElem? e)
      cases z <;> first | (cases o; done) | (cases this; done)
  have e : σ.set i (some v) = σ := by
    refine List.ext_getElem? fun j => ?_
    rw [List.getElem?_set]
    split
    · rename_i hij
      subst hij
      rw [h]
      split
      · rfl
      · rename_i hl
        rw [List.getElem?_eq_none (by omega)] at h
        cases h
    · rfl
  have p := paired_set (F := SlOk K (S A) B G H) (a := .val d) (b := some v) ⟨v, rfl, q⟩ i r.at_
  rw [e] at p
  exact ⟨p, fun a b z t c _ h1 _ o1 => (own a z h1 o1).elim, fun a z c h1 o1 => (own a z h1 o1).elim⟩
theorem tb_H {f : EvT} {env env' : Dv.Env} {b : Bool} {Q : Bool → Hp → Prop} (rl : Rel K (S A) (bH H) [] (uH H) H env σ) (e : f env = .ok b env') (k : ∀ H', Same H H' → Q b H') : TB K (S A) E f σ H Q := ⟨bH H, [], uH H, env, st_bH H, rl, by
  rw [e]
  intro G' H' s st' rl' v hv
  cases hv
  exact k H' (st_same st')⟩
theorem td_H {f : Ev} {env env' : Dv.Env} {b : Bool} {Q : VK} (rl : Rel K (S A) (bH H) [] (uH H) H env σ) (e : f env = .ok (.bl b) env') (k : ∀ H', Same H H' → Q (.bl b) H') : TD K (S A) E f σ H Q := ⟨bH H, [], uH H, env, st_bH H, rl, by
  rw [e]
  intro G' H' s st' rl' v hv
  have hv : v = .bl b := hv
  subst hv
  exact k H' (st_same st')⟩
/-! ### what was kept -/
def IsRow (d : D) : Prop := ∃ n k s, d = .tup [.int n, .str k, .str s]
theorem rows_to {G G' : Hp} (f : ∀ a xs, SqT K G a xs → SqT K G' a xs) : ∀ {rows : List D} {vs : List V}, (∀ d ∈ rows, IsRow d) → RepL K (S A) G rows vs → RepL K (S A) G' rows vs
  | [], _, _, r => r
  | d :: rows, _, h, ⟨v, ws, e, r1, r2⟩ => by
    obtain ⟨n, k, s, rfl⟩ := h d (List.mem_cons_self ..)
    obtain ⟨a, us, e1, q, r3⟩ := r1
    refine ⟨v, ws, e, ⟨a, us, e1, f _ _ q, ?_⟩, rows_to f (fun d hd => h d (List.mem_cons_of_mem _ hd)) r2⟩
    obtain ⟨x1, y1, f1, g1, x2, y2, f2, g2, x3, y3, f3, g3, g4⟩ := r3
    exact ⟨x1, y1, f1, g1, x2, y2, f2, g2, x3, y3, f3, g3, g4⟩
def kRows (Pi : Pic) : List D := (sK Pi).map fun k => rowK Pi (.int k)
theorem kRows_ok {Pi : Pic} (g : Good Pi) : ∀ d ∈ kRows Pi, IsRow d := fun d hd => by
  obtain ⟨k, hk, rfl⟩ := List.mem_map.mp hd
  obtain ⟨t, ht⟩ := keys_look Pi g k hk
  refine ⟨k, t.kd, tx t, ?_⟩
  show (match look Pi k with | some t => rowT k t | none => D.non) = _
  rw [ht]
  rfl
def KpA (K : PySem.W.Frag) (A : Ad) (H : Hp) (v : V) (Pi : Pic) : Prop := ∃ a vs, v = .ref a ∧ H a = some (.lst vs) ∧ RepL K (S A) H (kRows Pi) vs
theorem kp_of {v : V} {Pi : Pic} (g : Good Pi) (i : Inn G H) (r : Rep K (S A) G (kepD Pi) v) : KpA K A H v Pi := by
  obtain ⟨a, vs, rfl, ga, rl⟩ := r
  exact ⟨a, vs, rfl, i.lst ga, rows_to (fun b xs q => i.tup q) (kRows_ok g) rl⟩
theorem KpA.rep {v : V} {Pi : Pic} (g : Good Pi) (h : KpA K A H v Pi) : Rep K (S A) (uH H) (kepD Pi) v := by
  obtain ⟨a, vs, rfl, ha, rl⟩ := h
  refine ⟨a, vs, rfl, uH_lst ha, rows_to (fun b xs q => ?_) (kRows_ok g) rl⟩
  rcases q with (q | ⟨o, q⟩) | q
  · refine .inl (.inl ?_)
    show unl (H b) = _
    rw [q]
    rfl
  · refine .inl (.inr ⟨o, ?_⟩)
    show unl (H b) = _
    rw [q]
    rfl
  · exact .inr q
theorem KpA.up {v : V} {Pi : Pic} (g : Good Pi) (h : KpA K A H v Pi) (s : Same H H') : KpA K A H' v Pi := by
  obtain ⟨a, vs, rfl, ha, rl⟩ := h
  exact ⟨a, vs, rfl, s _ _ ha, rl.mono s⟩
theorem KpA.upd {v : V} {Pi : Pic} (g : Good Pi) (h : KpA K A H v Pi) {l : Addr} {zs : List Int} {us : List V} (hl : H l = some (.lst (zs.map V.int))) (ne : Pi ≠ []) : KpA K A (upd H l (.lst us)) v Pi := by
  obtain ⟨a, vs, rfl, ha, rl⟩ := h
  have al : a ≠ l := fun e => by
    subst e
    rw [hl] at ha
    cases ha
    have hr : kRows Pi ≠ [] := fun e => by
      have := congrArg List.length e
      unfold kRows at this
      rw [List.length_map, sK_len] at this
      exact ne (List.eq_nil_of_length_eq_zero this)
    cases hk : kRows Pi with
    | nil => exact hr hk
    | cons d r =>
      rw [hk] at rl
      obtain ⟨v, ws, e, r1, _⟩ := rl
      obtain ⟨n, k, s, rfl⟩ := kRows_ok g d (by rw [hk]; exact List.mem_cons_self ..)
      obtain ⟨b, us', rfl, _⟩ := r1
      cases zs with
      | nil => cases e
      | cons z zs => cases e
  refine ⟨a, vs, rfl, by rw [upd_ne al]; exact ha, rows_to (fun b xs q => ?_) (kRows_ok g) rl⟩
  rcases q with (q | ⟨o, q⟩) | q
  · exact .inl (.inl (by rw [upd_ne (fun e => by rw [e, hl] at q; cases q)]; exact q))
  · exact .inl (.inr ⟨o, by rw [upd_ne (fun e => by rw [e, hl] at q; cases q)]; exact q⟩)
  · exact .inr q
theorem KpA.updD {v : V} {Pi : Pic} (g : Good Pi) (h : KpA K A H v Pi) {l : Addr} {kv kv' : List (L2.Key × V)} (hl : H l = some (.dK kv)) : KpA K A (L2.upd H l (.dK kv')) v Pi := by
  obtain ⟨a, vs, rfl, ha, rl⟩ := h
  refine ⟨a, vs, rfl, by rw [upd_ne (fun e => by rw [e, hl] at ha; cases ha)]; exact ha, rows_to (fun b xs q => ?_) (kRows_ok g) rl⟩
  rcases q with (q | ⟨o, q⟩) | q
  · exact .inl (.inl (by rw [upd_ne (fun e => by rw [e, hl] at q; cases q)]; exact q))
  · exact .inl (.inr ⟨o, by rw [upd_ne (fun e => by rw [e, hl] at q; cases q)]; exact q⟩)
  · exact .inr q
/-! ### a heap's picture -/
def spPO (A : Ad) : Sp := fun vs H Q _ => ∃ (h D : Addr) (n : Int) (kvs : List (L2.Key × V)) (v : V), vs = [.ref h, .int n] ∧ (∃ dx, H h = some (.ins A.C_Heap dx [("pictures", .ref D)])) ∧ Rd H D (.dK kvs) ∧ valV kvs (.inl n) = some v ∧ Q v H
theorem okp_Heap_picture_of (T : Txt K mg A) : FnOk P w K mg base CX0 4 A.f_Heap_picture_of A.fd_Heap_picture_of ["self", "number"] (spPO A) := by
  refine T.F_Heap_picture_of.ok sc_Heap_picture_of (fun vs H Q E h => ?_) (fun cdv Ar outer s H vs Q E hr h => ?_)
  · obtain ⟨h, D, n, kvs, v, rfl, _⟩ := h
    rfl
  obtain ⟨h, D, n, kvs, v, rfl, ⟨dx, h1⟩, h2, h3, q⟩ := h
  refine ⟨_, pss_one (ps_ret (pe_dget (u1 hr) (pe_fld (pv 0) rfl) (pv 1) (fun _ _ => rfl))), ?_⟩
  exact ⟨_, rfl, h, _, dx, _, _, rfl, h1, T.cl_Heap, T.na_Heap_pictures, rfl, .int n, rfl, D, v, rfl, .inl ⟨kvs, .inl n, h2, rfl, h3.symm⟩, q⟩
end
end
end K48L
namespace K48L
open PySem PySem.Spec PyProof.Rows L2 Dv K48
set_option autoImplicit false
noncomputable section
section
variable {K : PySem.W.Frag} {A : Ad} {P : Program} {w : World} {mg : Str → Option Value} {base : Heap} {H H' : Hp} {σ : L2.St}
def kyOf : Th → Str
  | .A _ _ _ _ => "l"
  | .B _ _ _ => "m"
theorem cv_ky (t : Th) (l : Addr) : valV (t.cv l) (.inr (kyOf t)) = some (.ref l) := by
  cases t <;> rfl
/-- a thing whose list has grown -/
structure ThL (A : Ad) (H : Hp) (x : A3) (t : Th) (i : Nat) : Prop where
  ins : ∃ dx, H x.1 = some (.ins (S A 4) dx (flT x.2.1 t))
  dct : Rd H x.2.1 (.dK (t.cv x.2.2))
  lst : ∃ zs : List Int, H x.2.2 = some (.lst (zs.map V.int)) ∧ zs.length ≤ 4 + i
structure Gv where
  Pi : Pic
  Fi : Pic
  p : Addr
  xs : List A3
  pf : Addr
  fs : List A3
  h : Addr
  D : Addr
  hs : HP
  o : Addr
  D' : Addr
  os : HP
  v4 : V
abbrev Gv.M (g : Gv) : HM := [(3, g.Pi), (4, g.Fi)]
/-- what stands from the loop on -/
structure LI (K : PySem.W.Frag) (A : Ad) (g : Gv) (i : Nat) (H : Hp) : Prop where
  pd : Rd H g.p (.dK (kvsOf g.Pi g.xs))
  th : ∀ (j : Nat) (x : A3) (q : Int × Th), g.xs[j]? = some x → g.Pi[j]? = some q → ThL A H x q.2 i
  hp : HpA A H g.h g.D g.M g.hs
  op : HpA A H g.o g.D' g.M g.os
  fd : Rd H g.pf (.dK (kvsOf g.Fi g.fs))
  kp : KpA K A H g.v4 g.Pi
  ul : Ul H g.hs
/-- and does not change -/
structure LF (A : Ad) (g : Gv) : Prop where
  gP : Good g.Pi
  lP : g.Pi.length ≤ 7
  gF : Good g.Fi
  lF : g.Fi.length ≤ 7
  ln : g.xs.length = g.Pi.length
  fl : g.fs.length = g.Fi.length
  lh : ∀ x ∈ g.xs, ∀ q ∈ g.hs, ∀ y ∈ q.2, y.2.2 ≠ x.2.2
  lo : ∀ x ∈ g.xs, ∀ q ∈ g.os, ∀ y ∈ q.2, y.2.2 ≠ x.2.2
  dd : g.D ≠ g.D'
  qo : ∀ q ∈ g.hs, ∀ r ∈ g.os, q.1 ≠ r.1
  qD : ∀ q ∈ g.hs, q.1 ≠ g.D'
  qf : ∀ q ∈ g.hs, q.1 ≠ g.pf
theorem LI.up {g : Gv} (f : LF A g) {i : Nat} (h : LI K A g i H) (s : Same H H') : LI K A g i H' := by
  have im := inn_same s
  refine ⟨im.dct h.pd, fun j x q hx hq => ?_, h.hp.up im, h.op.up im, im.dct h.fd, h.kp.up f.gP s, fun q hq => ?_, h.ul.2⟩
  · obtain ⟨⟨dx, h1⟩, h2, zs, h3, h4⟩ := h.th j x q hx hq
    exact ⟨⟨dx, s _ _ h1⟩, im.dct h2, zs, s _ _ h3, h4⟩
  · obtain ⟨k, e⟩ := h.ul.1 q hq
    exact ⟨k, s _ _ e⟩
/-- a list grows: what is not it -/
theorem PiA.lst {p : Addr} {P : Pic} {xs : List A3} {l : Addr} {us vs : List V} (h : PiA A H p P xs) (hl : H l = some (.lst vs)) (ne : ∀ y ∈ xs, y.2.2 ≠ l) : PiA A (upd H l (.lst us)) p P xs := by
  have dn : ∀ {b : Addr} {k : List (L2.Key × V)}, Rd H b (.dK k) → Rd (upd H l (.lst us)) b (.dK k) := fun {b k} h => by
    have hb : b ≠ l := fun e => by
      subst e
      rcases h with h | ⟨o, h⟩ <;> rw [hl] at h <;> cases h
    rcases h with h | ⟨o, h⟩
    · exact .inl (by rw [upd_ne hb]; exact h)
    · exact .inr ⟨o, by rw [upd_ne hb]; exact h⟩
  refine ⟨dn h.d, h.s.1, fun j x q hx hq => ?_⟩
  obtain ⟨⟨dx, h1⟩, h2, h3⟩ := h.s.2 j x q hx hq
  exact ⟨⟨dx, by rw [upd_ne (fun e => by rw [e, hl] at h1; cases h1)]; exact h1⟩, dn h2, by rw [upd_ne (ne x (List.mem_of_getElem? hx))]; exact h3⟩
theorem HpA.lst {h D : Addr} {M : HM} {ps : HP} {l : Addr} {us vs : List V} (x : HpA A H h D M ps) (hl : H l = some (.lst vs)) (ne : ∀ q ∈ ps, ∀ y ∈ q.2, y.2.2 ≠ l) : HpA A (upd H l (.lst us)) h D M ps := by
  obtain ⟨⟨dx, h1⟩, h2, h3⟩ := x
  refine ⟨⟨dx, by rw [upd_ne (fun e => by rw [e, hl] at h1; cases h1)]; exact h1⟩, ?_, h3.1, fun i m p hm hp => (h3.2 i m p hm hp).lst hl (ne p (List.mem_of_getElem? hp))⟩
  have hb : D ≠ l := fun e => by
    subst e
    rcases h2 with h | ⟨o, h⟩ <;> rw [hl] at h <;> cases h
  rcases h2 with h | ⟨o, h⟩
  · exact .inl (by rw [upd_ne hb]; exact h)
  · exact .inr ⟨o, by rw [upd_ne hb]; exact h⟩
theorem LI.app {g : Gv} (f : LF A g) {i j : Nat} (h : LI K A g i H) {x : A3} {q : Int × Th} (hx : g.xs[j]? = some x) (hq : g.Pi[j]? = some q) : ∃ zs : List Int, H x.2.2 = some (.lst (zs.map V.int)) ∧ zs.length ≤ 4 + i ∧ LI K A g (i + 1) (upd H x.2.2 (.lst (zs.map V.int ++ [V.int 99]))) := by
  obtain ⟨⟨dx, h1⟩, h2, zs, h3, h4⟩ := h.th j x q hx hq
  have hm := List.mem_of_getElem? hx
  have ne : g.Pi ≠ [] := fun e => by rw [e] at hq; simp at hq
  have dn : ∀ {b : Addr} {k : List (L2.Key × V)}, Rd H b (.dK k) → Rd (upd H x.2.2 (.lst (zs.map V.int ++ [V.int 99]))) b (.dK k) := fun {b k} h => by
    have hb : b ≠ x.2.2 := fun e => by
      subst e
      rcases h with h | ⟨o, h⟩ <;> rw [h3] at h <;> cases h
    rcases h with h | ⟨o, h⟩
    · exact .inl (by rw [upd_ne hb]; exact h)
    · exact .inr ⟨o, by rw [upd_ne hb]; exact h⟩
  refine ⟨zs, h3, h4, dn h.pd, fun k y r hy hr => ?_, h.hp.lst h3 (f.lh x hm), h.op.lst h3 (f.lo x hm), dn h.fd, h.kp.upd f.gP h3 ne, fun q hq => ?_, h.ul.2⟩
  · obtain ⟨⟨dy, e1⟩, e2, us, e3, e4⟩ := h.th k y r hy hr
    refine ⟨⟨dy, by rw [upd_ne (fun e => by rw [e, h3] at e1; cases e1)]; exact e1⟩, dn e2, ?_⟩
    by_cases hyx : y.2.2 = x.2.2
    · refine ⟨zs ++ [99], ?_, by rw [List.length_append]; simp; omega⟩
      rw [hyx, upd_same, List.map_append]
      rfl
    · exact ⟨us, by rw [upd_ne hyx]; exact e3, by omega⟩
  · obtain ⟨k, e⟩ := h.ul.1 q hq
    exact ⟨k, by rw [upd_ne (fun z => by rw [z, h3] at e; cases e)]; exact e⟩
/-! ### the loop -/
abbrev rEqL (K : PySem.W.Frag) : R2 := r2or rEq (rEqD K)
def tKd (K : PySem.W.Frag) : TE := tFld K (tDGet (tVar 3) (tVar 9)) "kind"
def tRow (K : PySem.W.Frag) : TE := tDGet (tFld K (tDGet (tVar 3) (tVar 9)) "contents") (tIf (tTest (tOp (rEqL K) (tKd K) (tC (V.str "A")))) (tC (V.str "l")) (tC (V.str "m")))
def tB10 (K : PySem.W.Frag) : TS := tSeq (tAsg (tRow K) (L2.gName 10)) (tDrop (tBM K "list" rAppend (tVar 10) (tCons (tC (V.int 99)) tNil)))
/-- the slots that the law goes on with -/
structure Sg (g : Gv) (σ : L2.St) : Prop where
  len : σ.length = 13
  s3 : σ[3]? = some (some (.ref g.p))
  s4 : σ[4]? = some (some g.v4)
  s6 : σ[6]? = some (some (.ref g.pf))
  s7 : σ[7]? = some (some (.ref g.h))
  s8 : σ[8]? = some (some (.ref g.o))
theorem Sg.set {g : Gv} (s : Sg g σ) {k : Nat} {x : Option V} (h : 9 ≤ k) : Sg g (σ.set k x) := by
  refine ⟨by rw [List.length_set]; exact s.len, ?_, ?_, ?_, ?_, ?_⟩ <;> (rw [List.getElem?_set_ne (by omega)]) <;> first | exact s.s3 | exact s.s4 | exact s.s6 | exact s.s7 | exact s.s8
theorem turn10 (T : Txt K mg A) {g : Gv} (f : LF A g) {i : Nat} (hi : i < 100) (v : LI K A g i H) (sg : Sg g σ) {n : Int} {t : Th} (ht : look g.Pi n = some t) {Z : Ends} (k : ∀ σ' H', LI K A g (i + 1) H' → (∀ l us, H l = some (.lst us) → (∀ x ∈ g.xs, x.2.2 ≠ l) → H' l = some (.lst us)) → Sg g σ' → Z.nx σ' H') : tB10 K Z (σ.set 9 (some (.int n))) H := by
  have hm := look_mem ht
  obtain ⟨j, hp⟩ := List.getElem?_of_mem hm
  have hj := (List.getElem?_eq_some_iff.mp hp).1
  obtain ⟨x, hx⟩ : ∃ x, g.xs[j]? = some x := ⟨_, List.getElem?_eq_getElem (by rw [f.ln]; exact hj)⟩
  obtain ⟨⟨dx, h1⟩, h2, _⟩ := id (v.th j x _ hx hp)
  have s3 : (σ.set 9 (some (.int n)))[3]? = some (some (.ref g.p)) := (sg.set (x := some (.int n)) (by decide)).s3
  have s9 : (σ.set 9 (some (V.int n)))[9]? = some (some (V.int n)) := by rw [List.getElem?_set_self (by rw [sg.len]; decide)]
  have vv : some (V.ref x.1) = valV (kvsOf g.Pi g.xs) (.inl n) := (valV_kvs f.gP.1 hp hx f.ln).symm
  have hk : ∀ (Q : VK), Q (.str (kyOf t)) H → (tIf (tTest (tOp (rEqL K) (tKd K) (tC (V.str "A")))) (tC (V.str "l")) (tC (V.str "m"))) (σ.set 9 (some (.int n))) H Q := fun Q q => by
    have so : ∀ (b : Bool) (Q' : VK), scalD (.str t.kd) (.str "A") = some b → Q' (.bl b) H → rEqL K (.str t.kd) (.str "A") H Q' := fun b Q' e q' => by
      obtain ⟨z1, z2⟩ := scalD_ok (K := K) (S := S A) (G := uH H) (x := .str t.kd) (y := .str "A") (v := .str t.kd) (w := .str "A") rfl rfl e
      exact .inl ⟨z1, by rw [z2]; exact q'⟩
    refine ⟨_, s3, .int n, s9, g.p, .ref x.1, rfl, .inl ⟨_, .inl n, v.pd, rfl, vv⟩, x.1, _, dx, _, .str t.kd, rfl, h1, T.cl_Thing, T.na_Thing_kind, rfl, ?_⟩
    cases t with
    | A a b c d => exact so true _ rfl ⟨true, rfl, q⟩
    | B a b d => exact so false _ rfl ⟨false, rfl, q⟩
  refine ⟨_, s3, .int n, s9, g.p, .ref x.1, rfl, .inl ⟨_, .inl n, v.pd, rfl, vv⟩, x.1, _, dx, _, .ref x.2.1, rfl, h1, T.cl_Thing, T.na_Thing_contents, rfl, hk _ ?_⟩
  refine ⟨x.2.1, .ref x.2.2, rfl, .inl ⟨_, .inr (kyOf t), h2, rfl, (cv_ky t _).symm⟩, ?_⟩
  obtain ⟨zs, hl, hz, v2⟩ := v.app f hx hp
  refine ⟨_, by rw [List.getElem?_set_self (by rw [List.length_set, sg.len]; decide)], show tyV K "list" (.ref x.2.2) H from Or.inl ⟨rfl, _, .inl (.inl hl)⟩, ?_⟩
  refine ⟨_, _, _, rfl, rfl, hl, ?_, ?_⟩
  · rw [List.length_map]
    have := line10 (n := 1000) (by decide)
    omega
  · exact k _ _ v2 (fun l us e ne => by rw [upd_ne (fun z => ne x (List.mem_of_getElem? hx) z.symm)]; exact e) ((sg.set (by decide)).set (by decide))
theorem loop10 (T : Txt K mg A) {g : Gv} (f : LF A g) (v : LI K A g 0 H) (sg : Sg g σ) {sl : Addr} (hsl : H sl = some (.lst ((sK g.Pi).map V.int))) (ns : ∀ x ∈ g.xs, x.2.2 ≠ sl) {wi : TI} {Z : Ends} (hw : ∀ R : It → Hp → Prop, R (Itl K sl) H → wi σ H R)
    (k : ∀ σ' H' i, LI K A g i H' → Sg g σ' → Z.nx σ' H') : tFor wi (L2.gName 9) (tB10 K) Z σ H := by
  have hlen := sK_len g.Pi
  have lP := f.lP
  refine hw _ ⟨fun i m σ H => m = (sK g.Pi).length - i ∧ i ≤ (sK g.Pi).length ∧ LI K A g i H ∧ Sg g σ ∧ H sl = some (.lst ((sK g.Pi).map V.int)), ⟨_, rfl, Nat.zero_le _, v, sg, hsl⟩, ?_⟩
  rintro i m σi Hi ⟨rfl, hi, vi, si, li⟩
  have sq : SqL K Hi sl ((sK g.Pi).map V.int) := .inl (.inl li)
  by_cases hlt : i < (sK g.Pi).length
  · obtain ⟨n, hn⟩ : ∃ n, (sK g.Pi)[i]? = some n := ⟨_, List.getElem?_eq_getElem hlt⟩
    have hx : ((sK g.Pi).map V.int)[i]? = some (.int n) := by rw [List.getElem?_map, hn]; rfl
    refine .inr ⟨⟨_, _, sq, hx⟩, fun σ' H' => LI K A g (i + 1) H' ∧ Sg g σ' ∧ H' sl = some (.lst ((sK g.Pi).map V.int)), fun σ' H' ⟨a, b, c⟩ => ⟨_, by omega, rfl, hlt, a, b, c⟩, ?_⟩
    rintro x Hx ⟨rfl, hall⟩
    have := hall _ sq
    rw [hx] at this
    cases this
    obtain ⟨t, ht⟩ := keys_look g.Pi f.gP n (List.mem_of_getElem? hn)
    exact turn10 T f (by omega) vi si ht fun σ' H' a e b => ⟨a, b, e sl _ li ns⟩
  · exact .inl ⟨⟨_, sq, by rw [List.length_map]; omega⟩, k σi Hi i vi si⟩
end
end
end K48L
namespace K48L
open PySem PySem.Spec PyProof.Rows L2 Dv K48
set_option autoImplicit false
noncomputable section
variable {mg : Str → Option Value} {K : PySem.W.Frag} {A : Ad} {H : Hp} {σ : L2.St}
def xS0 : EvS := (xBox 1 (xCall 2 d__law_cells (gVal (xVal 0) (gVal (xC (.int 35)) Dv.gNil))))
def xS1 : EvS := (xSet 2 (xCall 2 d__law_schema (gVal (xCall 1 d__law_rules (gSlot 1 Dv.gNil)) (gVal (xC (.bl false)) Dv.gNil))))
def xS2 : EvS := (xSet 3 (xCall 1 d__law_picture (gSlot 1 Dv.gNil)))
def xS3 : EvS := (xSet 4 (xCall 1 d__law_shown (gVal (xVal 3) Dv.gNil)))
def xS4 : EvS := (xBox 5 (xLc (iRg1 (xCons (xCall 2 d__law_draw (gSlot 1 (gVal (xC (.int 5)) Dv.gNil))) xNil)) (yName 12) xYes (xOp oAdd (xC (.int 1)) (xCall 2 d__law_draw (gSlot 1 (gVal (xC (.int 9)) Dv.gNil)))) [12]))
def xS5 : EvS := (xSet 6 (xCall 3 d_without_numbers (gVal (xVal 2) (gVal (xVal 3) (gVal (xVar 5) Dv.gNil)))))
def xS6 : EvS := (xIfS (xOrT (xTest (xOp oNe (xCall 1 d__law_shown (gVal (xVal 6) Dv.gNil)) (xCall 2 d__law_due (gVal (xVal 3) (gVal (xVar 5) Dv.gNil))))) (xTest (xOp oNe (xCall 1 d__law_shown (gVal (xVal 3) Dv.gNil)) (xVal 4))))
 (xRet (xC (.bl false)))
 xNx)
def xSrt : Ev := (xCB fSorted (xCons (xCB fListD (xCons (xVal 3) xNil)) xNil))
def xT11 : EvT := (xTest (xOp oNe (xCall 1 d__law_shown (gVal (xMeth "picture_of" 2 [(5, 25, d_Heap_picture_of)] (xVal 7) (gVal (xC (.int 3)) Dv.gNil)) Dv.gNil)) (xVal 4)))
def xE14 : Ev := (xOp oEq (xCall 1 d__law_shown (gVal (xMeth "picture_of" 2 [(5, 25, d_Heap_picture_of)] (xVal 8) (gVal (xC (.int 3)) Dv.gNil)) Dv.gNil)) (xVal 4))
abbrev tOw (K : PySem.W.Frag) (A : Ad) (b : Bool) (x y : TE) : TE := tOp (rOwn K A.C_Heap (spHE A) E0 b) x y
abbrev tHp (A : Ad) (l : List (TE × TE)) : TE := tMake A.C_Heap (spHI A) [] E0 (tCons (tDisp l) tNil)
abbrev tNo : TS := tRet (tC (V.bl false))
def tT9 (K : PySem.W.Frag) (A : Ad) : TT := tOr (tTest (tOw K A true (tVar 8) (tVar 7))) (tOr (tTest (tOw K A false (tVar 7) (tC (V.int 3)))) (tOr (tTest (tOw K A true (tVar 7) (tHp A [(tC (V.int 4), tVar 6), (tC (V.int 3), tVar 3)]))) (tTest (tOw K A false (tVar 7) (tHp A [(tC (V.int 3), tVar 3)])))))
def tEnd (K : PySem.W.Frag) (A : Ad) : TS := tRet (tAndV (tOp (rEqL K) (tOw K A false (tVar 8) (tVar 7)) (tDNotIn (tC (V.int 1)) (tVar 6))) (TD K (S A) E0 xE14))
def tQ12 (K : PySem.W.Frag) (A : Ad) : TS := tSeq (tAsg (tMeth A.C_Heap "picture_of" (spPO A) [] E0 (tVar 7) (tCons (tC (V.int 4)) tNil)) (L2.gName 11)) (tSeq (tDrop (tDPop2 (tVar 11) (tC (V.int 1)) (tC V.non))) (tEnd K A))
def tQ10 (K : PySem.W.Frag) (A : Ad) : TS := tSeq (tFor (iSeq K (TF K (S A) E0 xSrt)) (L2.gName 9) (tB10 K)) (tSeq (tIfS (tOr (TB K (S A) E0 xT11) (tTest (tOw K A true (tVar 8) (tVar 7)))) tNo tNext) (tQ12 K A))
def tQ7 (K : PySem.W.Frag) (A : Ad) : TS := tSeq (tAsg (tHp A [(tC (V.int 3), tVar 3), (tC (V.int 4), tVar 6)]) (L2.gName 7)) (tSeq (tAsg (tMeth A.C_Heap "copied" (spHC A) [] E0 (tVar 7) tNil) (L2.gName 8)) (tSeq (tIfS (tT9 K A) tNo tNext) (tQ10 K A)))
def tLaw (K : PySem.W.Frag) (A : Ad) : TS := (tSeq (TS' K (S A) E0 xS0) (tSeq (TS' K (S A) E0 xS1) (tSeq (TS' K (S A) E0 xS2) (tSeq (TS' K (S A) E0 xS3) (tSeq (TS' K (S A) E0 xS4) (tSeq (TS' K (S A) E0 xS5) (tSeq (TS' K (S A) E0 xS6) (tQ7 K A))))))))
abbrev nmL : List Str := ["script", "draws", "schema", "picture", "kept", "gone", "found", "heap", "other", "number", "row", "mine", "_law_turn"]
/-! ### displays of pictures -/
theorem disp2 {n m : Int} {i j : Nat} {p q : Addr} {Q : VK} (nm : n ≠ m) (hi : σ[i]? = some (some (.ref p))) (hj : σ[j]? = some (some (.ref q))) (k : ∀ (D0 : Addr) (H' : Hp), Same H H' → H D0 = none → H' D0 = some (.dK [(.inl n, .ref p), (.inl m, .ref q)]) → Q (.ref D0) H') : tDisp [(tC (.int n), tVar i), (tC (.int m), tVar j)] σ H Q := fun D0 h0 => by
  refine ⟨_, hi, _, hj, ?_⟩
  refine ⟨upd_same, [(.inl n, .ref p), (.inl m, .ref q)], rfl, (by simp), ?_⟩
  have e : mergeK ([] : List (L2.Key × V)) [((.inl n : L2.Key), V.ref p), ((.inl m : L2.Key), V.ref q)] = [((.inl n : L2.Key), V.ref p), ((.inl m : L2.Key), V.ref q)] := by
    show putK (putK [] (Sum.inl n : L2.Key) (V.ref p)) (Sum.inl m : L2.Key) (V.ref q) = _
    rw [show putK ([] : List (L2.Key × V)) (.inl n) (.ref p) = [(.inl n, .ref p)] from rfl]
    rw [put_new (by simpa using fun e => nm e.symm)]
    rfl
  rw [e]
  exact k D0 _ (fun b o e => by
    have hb : b ≠ D0 := fun z => by rw [z, h0] at e; cases e
    rw [upd_ne hb, upd_ne hb]
    exact e) h0 upd_same
theorem disp1 {n : Int} {i : Nat} {p : Addr} {Q : VK} (hi : σ[i]? = some (some (.ref p))) (k : ∀ (D0 : Addr) (H' : Hp), Same H H' → H D0 = none → H' D0 = some (.dK [(.inl n, .ref p)]) → Q (.ref D0) H') : tDisp [(tC (.int n), tVar i)] σ H Q := fun D0 h0 => by
  refine ⟨_, hi, ?_⟩
  refine ⟨upd_same, [(.inl n, .ref p)], rfl, (by simp), ?_⟩
  exact k D0 _ (fun b o e => by
    have hb : b ≠ D0 := fun z => by rw [z, h0] at e; cases e
    rw [upd_ne hb, upd_ne hb]
    exact e) h0 upd_same
theorem hps1 {m : Int × Pic} {p : Addr × List A3} (h : PiA A H p.1 m.2 p.2) : HpS A H [m] [p] := ⟨rfl, fun i n q hn hq => by
  cases i with
  | zero => simp at hn hq; subst hn; subst hq; exact h
  | succ i => simp at hn⟩
theorem hps2 {m n : Int × Pic} {p q : Addr × List A3} (h1 : PiA A H p.1 m.2 p.2) (h2 : PiA A H q.1 n.2 q.2) : HpS A H [m, n] [p, q] := ⟨rfl, fun i z w hz hw => by
  match i with
  | 0 => simp at hz hw; subst hz; subst hw; exact h1
  | 1 => simp at hz hw; subst hz; subst hw; exact h2
  | i + 2 => simp at hz⟩
theorem okM2 {n m : Int} {Pi Fi : Pic} (nm : n ≠ m) (g1 : Good Pi) (l1 : Pi.length ≤ 7) (g2 : Good Fi) (l2 : Fi.length ≤ 7) : OkM [(n, Pi), (m, Fi)] := ⟨by simpa using nm, Nat.le_refl 2, fun z hz => by
  simp only [List.mem_cons, List.not_mem_nil, or_false] at hz
  rcases hz with rfl | rfl
  · exact ⟨g1, l1⟩
  · exact ⟨g2, l2⟩⟩
theorem okM1 {n : Int} {Pi : Pic} (g1 : Good Pi) (l1 : Pi.length ≤ 7) : OkM [(n, Pi)] := ⟨by simp, by simp, fun z hz => by
  simp only [List.mem_cons, List.not_mem_nil, or_false] at hz
  subst hz
  exact ⟨g1, l1⟩⟩
theorem hr_eq {M N : HM} (hl : M.length = N.length) (h : ∀ m ∈ M, m ∈ N) : HRes M N true := .inr ⟨hl, by
  clear hl
  induction M with
  | nil => exact .nil
  | cons m M ih => exact .ok (h m (List.mem_cons_self ..)) (ih fun z hz => h z (List.mem_cons_of_mem _ hz))⟩
/-- two heaps compared -/
theorem own_h {b : Bool} {tx ty : TE} {h D : Addr} {M N : HM} {ps : HP} {r : Bool} {Q : VK} (hx : ∀ Q : VK, Q (.ref h) H → tx σ H Q) (hy : ∀ Q : VK, (∀ (h' D' : Addr) (qs : HP) (H1 : Hp), Same H H1 → HpA A H1 h' D' N qs → D ≠ D' → Q (.ref h') H1) → ty σ H Q)
    (ha : HpA A H h D M ps) (okM : OkM M) (okN : OkM N) (hr : HRes M N r) (k : ∀ H', Same H H' → Q (.bl (if b then !r else r)) H') : tOw K A b tx ty σ H Q := by
  refine hx _ (hy _ fun h' D' qs H1 s1 hb ne => ?_)
  have ha1 := ha.up (inn_same s1)
  obtain ⟨dx, e1⟩ := ha1.h
  obtain ⟨dy, e2⟩ := hb.h
  exact ⟨h, dx, _, rfl, e1, .inl ⟨h', dy, _, rfl, e2⟩, h, D, M, ps, _, r, rfl, ha1, okM, .inl ⟨h', D', N, qs, rfl, ne, hb, okN, hr⟩, fun H' s' => ⟨r, rfl, k H' (s1.trans s')⟩⟩
/-! ### computed -/
abbrev hpF (M : HM) : List (Str × D) := [("pictures", .dct (M.map fun m => ((.inl m.1 : L2.Key), picD m.2)))]
theorem e_po {M : HM} {n : Int} {Pi : Pic} (h : oDGet (.dct (M.map fun m => ((.inl m.1 : L2.Key), picD m.2))) (.int n) = some (picD Pi)) : d_Heap_picture_of [.val (hpD M), .val (.int n)] = .ok (picD Pi) none := by
  unfold d_Heap_picture_of b_Heap_picture_of hpD
  (exists h)
abbrev enF (d4 d7 d8 : Sl) : Dv.Env := [.no, .no, .no, .no, d4, .no, .no, d7, d8, .no, .no, .no, .no]
theorem e_T11 {M : HM} {Pi : Pic} (g : Good Pi) (lP : Pi.length ≤ 7) (h : oDGet (.dct (M.map fun m => ((.inl m.1 : L2.Key), picD m.2))) (.int 3) = some (picD Pi)) : xT11 (enF (.val (kepD Pi)) (.val (hpD M)) .no) = .ok false (enF (.val (kepD Pi)) (.val (hpD M)) .no) := by
  have po := e_po h
  have sh := shown_ok Pi g lP
  have ne := kep_ne Pi g
  have c1 : xMeth "picture_of" 2 [(5, 25, d_Heap_picture_of)] (xVal 7) (gVal (xC (.int 3)) Dv.gNil) (enF (.val (kepD Pi)) (.val (hpD M)) .no) = .ok (picD Pi) (enF (.val (kepD Pi)) (.val (hpD M)) .no) := r_meth (C := 5) (fs := hpF M) (j := 25) (g := d_Heap_picture_of) (r_val rfl) rfl rfl (r_gval r_c r_gnil) rfl rfl rfl po
  unfold xT11
  (exists c1, sh, ne)
theorem e_E14 {M : HM} {Pi : Pic} (g : Good Pi) (lP : Pi.length ≤ 7) (h : oDGet (.dct (M.map fun m => ((.inl m.1 : L2.Key), picD m.2))) (.int 3) = some (picD Pi)) : xE14 (enF (.val (kepD Pi)) .no (.val (hpD M))) = .ok (.bl true) (enF (.val (kepD Pi)) .no (.val (hpD M))) := by
  have po := e_po h
  have sh := shown_ok Pi g lP
  have eq := kep_eq Pi g
  have c1 : xMeth "picture_of" 2 [(5, 25, d_Heap_picture_of)] (xVal 8) (gVal (xC (.int 3)) Dv.gNil) (enF (.val (kepD Pi)) .no (.val (hpD M))) = .ok (picD Pi) (enF (.val (kepD Pi)) .no (.val (hpD M))) := r_meth (C := 5) (fs := hpF M) (j := 25) (g := d_Heap_picture_of) (r_val rfl) rfl rfl (r_gval r_c r_gnil) rfl rfl rfl po
  unfold xE14
  (exists c1, sh, eq)
theorem e_Srt {Pi : Pic} : xSrt ((List.replicate 13 Sl.no).set 3 (.val (picD Pi))) = .ok (Ls (sK Pi)) ((List.replicate 13 Sl.no).set 3 (.val (picD Pi))) := by
  have k1 := keysL Pi
  have k2 := sortL (Pi.map (·.1))
  show xSrt [.no, .no, .no, .val (picD Pi), .no, .no, .no, .no, .no, .no, .no, .no, .no] = .ok (Ls (sortI (Pi.map (·.1)))) [.no, .no, .no, .val (picD Pi), .no, .no, .no, .no, .no, .no, .no, .no, .no]
  unfold xSrt
  (exists k1, k2)
/-! ### a number is dropped -/
def dropP (n : Int) (P : Pic) : Pic := P.filter fun p => decide (p.1 ≠ n)
def dropY (n : Int) : Pic → List A3 → List A3
  | p :: P, y :: ys => if p.1 = n then dropY n P ys else y :: dropY n P ys
  | _, _ => []
theorem drop_src {n : Int} : ∀ {Pi : Pic} {ys : List A3}, Src A H Pi ys → dropK (kvsOf Pi ys) (.inl n) = kvsOf (dropP n Pi) (dropY n Pi ys) ∧ Src A H (dropP n Pi) (dropY n Pi ys)
  | [], _, h => ⟨rfl, rfl, fun i x p hx hp => by simp [dropP] at hp⟩
  | _ :: _, [], h => by cases h.1
  | p :: Pi, y :: ys, h => by
    obtain ⟨e, s⟩ := drop_src (n := n) (Pi := Pi) (ys := ys) ⟨by simpa using h.1, fun i x q hx hq => h.2 (i + 1) x q (by simpa using hx) (by simpa using hq)⟩
    by_cases hp : p.1 = n
    · have e1 : dropP n (p :: Pi) = dropP n Pi := by
        unfold dropP
        rw [List.filter_cons_of_neg (by simpa using hp)]
      have e2 : dropY n (p :: Pi) (y :: ys) = dropY n Pi ys := if_pos hp
      rw [e1, e2]
      refine ⟨?_, s⟩
      rw [← e]
      show dropK ((.inl p.1, .ref y.1) :: kvsOf Pi ys) (.inl n) = _
      unfold dropK
      rw [List.filter_cons_of_neg (by simp [hp])]
    · have e1 : dropP n (p :: Pi) = p :: dropP n Pi := by
        unfold dropP
        rw [List.filter_cons_of_pos (by simpa using hp)]
      have e2 : dropY n (p :: Pi) (y :: ys) = y :: dropY n Pi ys := if_neg hp
      rw [e1, e2]
      refine ⟨?_, by rw [List.length_cons, List.length_cons, s.1], fun i x q hx hq => ?_⟩
      · show _ = (.inl p.1, .ref y.1) :: kvsOf (dropP n Pi) (dropY n Pi ys)
        rw [← e]
        show dropK ((.inl p.1, .ref y.1) :: kvsOf Pi ys) (.inl n) = _
        unfold dropK
        rw [List.filter_cons_of_pos (by simp [hp])]
      · cases i with
        | zero =>
          simp at hx hq
          subst hx
          subst hq
          exact h.2 0 _ _ rfl rfl
        | succ i => exact s.2 i x q (by simpa using hx) (by simpa using hq)
theorem dropP_good {n : Int} {Pi : Pic} (g : Good Pi) : Good (dropP n Pi) := ⟨g.1.sublist (List.Sublist.map _ (List.filter_sublist ..)), fun p hp => g.2 p (List.mem_filter.mp hp).1⟩
theorem dropP_lt {n : Int} {Pi : Pic} (h : n ∈ Pi.map (·.1)) : (dropP n Pi).length < Pi.length := by
  obtain ⟨p, hp, rfl⟩ := List.mem_map.mp h
  exact List.length_filter_lt_length_iff_exists.mpr ⟨p, hp, by simp⟩
theorem valV_in {n : Int} : ∀ {Pi : Pic} {ys : List A3}, ys.length = Pi.length → ((valV (kvsOf Pi ys) (.inl n)).isSome = decide (n ∈ Pi.map (·.1)))
  | [], _, _ => rfl
  | _ :: _, [], h => by cases h
  | p :: Pi, y :: ys, h => by
    have ih := valV_in (n := n) (Pi := Pi) (ys := ys) (by simpa using h)
    show (valV ((.inl p.1, .ref y.1) :: kvsOf Pi ys) (.inl n)).isSome = _
    unfold valV at ih ⊢
    by_cases hp : p.1 = n
    · rw [List.find?_cons_of_pos (by simp [hp])]
      simp [hp]
    · rw [List.find?_cons_of_neg (by simp [hp]), ih]
      have : ¬ n = p.1 := fun e => hp e.symm
      simp [this]
/-! ### the end of the law -/
theorem end_ok2 (T : Txt K mg A) {g : Gv} (f : LF A g) (op : HpA A H g.o g.D' g.M g.os) (fd : Rd H g.pf (.dK (kvsOf g.Fi g.fs))) (kp : KpA K A H g.v4 g.Pi) {N : HM} {hs : HP} (okN : OkM N) (hp : HpA A H g.h g.D N hs) {r : Bool} (hr : HRes g.M N r) (hin : r = !decide (1 ∈ g.Fi.map (·.1))) (sg : Sg g σ) {Q : VK} {Z : Ends} (hZ : Z.rt = Q) (q : ∀ H', Q (.bl true) H') : tEnd K A Z σ H := by
  have okM := okM2 (n := 3) (m := 4) (by decide) f.gP f.lP f.gF f.lF
  refine own_h (b := false) (r := r) (fun Q h => ⟨_, sg.s8, h⟩) (fun Q k => ⟨_, sg.s7, k g.h g.D hs H (.refl _) hp fun e => f.dd e.symm⟩) op okM okN hr fun H1 s1 => ?_
  have op1 := op.up (inn_same s1)
  have kp1 := kp.up f.gP s1
  refine ⟨_, sg.s6, g.pf, _, rfl, .inl ⟨_, .inl 1, (inn_same s1).dct fd, rfl, rfl⟩, ?_⟩
  have e1 : valV (kvsOf g.Fi g.fs) (.inl 1) = valV (kvsOf g.Fi g.fs) (.inl 1) := rfl
  have e2 := valV_in (n := 1) f.fl
  rw [e2]
  generalize hc : (!decide (1 ∈ g.Fi.map fun p => p.1)) = c at hin ⊢
  subst hin
  have so : rEqL K (.bl r) (.bl r) H1 fun x H' => ∃ c, x = .bl c ∧ if c = true then TD K (S A) E0 xE14 σ H' Z.rt else Z.rt (.bl false) H' := by
    have e3 : scalD (.bl r) (.bl r) = some true := by
      show some (decide (r = r)) = _
      rw [decide_eq_true rfl]
    obtain ⟨z1, z2⟩ := scalD_ok (K := K) (S := S A) (G := uH H1) (x := .bl r) (y := .bl r) (v := .bl r) (w := .bl r) rfl rfl e3
    refine .inl ⟨z1, ?_⟩
    rw [z2]
    refine ⟨true, rfl, ?_⟩
    rw [if_pos rfl]
    have r0 : Rel K (S A) (bH H1) [] (uH H1) H1 (List.replicate σ.length .no) σ := rel_none σ
    rw [sg.len] at r0
    have r1 := rel_know rfl r0 sg.s8 op1.rep
    have r2 := rel_know rfl r1 sg.s4 (kp1.rep f.gP)
    exact td_H r2 (e_E14 (M := g.M) f.gP f.lP rfl) fun H' _ => by
      rw [hZ]
      exact q H'
  exact so
theorem q12_ok (T : Txt K mg A) {g : Gv} (f : LF A g) {i : Nat} (v : LI K A g i H) (sg : Sg g σ) {Q : VK} {Z : Ends} (hZ : Z.rt = Q) (q : ∀ H', Q (.bl true) H') : tQ12 K A Z σ H := by
  have okM := okM2 (n := 3) (m := 4) (by decide) f.gP f.lP f.gF f.lF
  obtain ⟨⟨dx, h1⟩, h2, h3⟩ := id v.hp
  have hl : g.hs.length = 2 := h3.1
  obtain ⟨q3, q4, hq⟩ : ∃ q3 q4, g.hs = [q3, q4] := by
    match hh : g.hs, hl with
    | [a, b], _ => exact ⟨a, b, rfl⟩
  have p3 : PiA A H q3.1 g.Pi q3.2 := h3.2 0 (3, g.Pi) q3 rfl (by rw [hq]; rfl)
  have p4 : PiA A H q4.1 g.Fi q4.2 := h3.2 1 (4, g.Fi) q4 rfl (by rw [hq]; rfl)
  have m3 : q3 ∈ g.hs := by rw [hq]; simp
  have m4 : q4 ∈ g.hs := by rw [hq]; simp
  have hd : Rd H g.D (.dK [(.inl 3, .ref q3.1), (.inl 4, .ref q4.1)]) := by
    have := h2
    rw [hq] at this
    exact this
  refine ⟨_, sg.s7, g.h, dx, _, rfl, h1, rfl, g.h, g.D, 4, _, .ref q4.1, rfl, ⟨dx, h1⟩, hd, rfl, ?_⟩
  have sg2 : Sg g (σ.set 11 (some (.ref q4.1))) := sg.set (by decide)
  obtain ⟨k4, u4⟩ := v.ul.1 q4 m4
  have : k4 = kvsOf g.Fi q4.2 := rd_uq (.inl u4) p4.d
  subst this
  have vin := valV_in (n := 1) p4.s.1
  refine ⟨_, by rw [List.getElem?_set_self (by rw [sg.len]; decide)], q4.1, rfl, .inl ⟨_, .inl u4⟩, ?_⟩
  refine ⟨_, .inl 1, u4, rfl, fun w hw => ?_, fun hn => ?_⟩
  · -- 1 goes
    rw [hw] at vin
    have hin : 1 ∈ g.Fi.map (·.1) := of_decide_eq_true vin.symm
    obtain ⟨dk, sk⟩ := drop_src (n := 1) p4.s
    have hI := kvs_isI g.Fi q4.2
    have keep : ∀ b o, b ≠ q4.1 → H b = some o → (upd H q4.1 (.dK (dropK (kvsOf g.Fi q4.2) (.inl 1)))) b = some o := fun b o hb e => by rw [upd_ne hb]; exact e
    have nd := v.ul.2
    rw [hq] at nd
    have n34 : q3.1 ≠ q4.1 := by simpa using nd
    have rdk : ∀ {b : Addr} {k : List (L2.Key × V)}, b ≠ q4.1 → Rd H b (.dK k) → Rd (upd H q4.1 (.dK (dropK (kvsOf g.Fi q4.2) (.inl 1)))) b (.dK k) := fun {b k} hb h => by
      rcases h with h | ⟨o, h⟩
      · exact .inl (keep _ _ hb h)
      · exact .inr ⟨o, keep _ _ hb h⟩
    have D4 : g.D ≠ q4.1 := fun e => by
      have e2 := rd_uq (e ▸ hd) p4.d
      cases hF : g.Fi with
      | nil => rw [hF] at hin; simp at hin
      | cons z Fi' =>
        rw [hF] at e2
        have s4 := p4.s
        rw [hF] at s4
        match hy : q4.2, s4 with
        | [], s4 => cases s4.1
        | y :: ys, s4 =>
          rw [hy] at e2
          have e3 := (List.cons.inj e2).1
          have e4 : (V.ref q3.1) = .ref y.1 := congrArg Prod.snd e3
          injection e4 with e5
          obtain ⟨dy, e6⟩ := (s4.2 0 y z rfl rfl).ins
          rw [← e5] at e6
          rcases p3.d with e7 | ⟨o, e7⟩ <;> rw [e6] at e7 <;> cases e7
    have ins : ∀ {b C dz : Addr} {fs : List (Str × V)}, H b = some (.ins C dz fs) → b ≠ q4.1 := fun e z => by
      rw [z, u4] at e
      cases e
    have pa3 : PiA A (upd H q4.1 (.dK (dropK (kvsOf g.Fi q4.2) (.inl 1)))) q3.1 g.Pi q3.2 := p3.to n34 (.inl u4) hI keep
    have pa4 : PiA A (upd H q4.1 (.dK (dropK (kvsOf g.Fi q4.2) (.inl 1)))) q4.1 (dropP 1 g.Fi) (dropY 1 g.Fi q4.2) := ⟨.inl (by rw [upd_same, dk]), sk.1, fun j x z hx hz => (sk.2 j x z hx hz).to (.inl u4) hI keep⟩
    have hpN : HpA A (upd H q4.1 (.dK (dropK (kvsOf g.Fi q4.2) (.inl 1)))) g.h g.D [(3, g.Pi), (4, dropP 1 g.Fi)] [q3, (q4.1, dropY 1 g.Fi q4.2)] := ⟨⟨dx, keep _ _ (ins h1) h1⟩, rdk D4 hd, hps2 pa3 pa4⟩
    obtain ⟨⟨dz, o1⟩, o2, o3⟩ := id v.op
    have op : HpA A (upd H q4.1 (.dK (dropK (kvsOf g.Fi q4.2) (.inl 1)))) g.o g.D' g.M g.os := ⟨⟨dz, keep _ _ (ins o1) o1⟩, rdk (fun e => f.qD q4 m4 e.symm) o2, o3.1, fun j m p hm hp => (o3.2 j m p hm hp).to (fun e => f.qo q4 m4 p (List.mem_of_getElem? hp) e.symm) (.inl u4) hI keep⟩
    have lF := f.lF
    have lt := dropP_lt hin
    have fd2 := rdk (fun e => f.qf q4 m4 e.symm) v.fd
    have kp2 := v.kp.updD f.gP (kv' := dropK (kvsOf g.Fi q4.2) (.inl 1)) u4
    exact end_ok2 T f op fd2 kp2 (okM2 (by decide) f.gP f.lP (dropP_good f.gF) (by omega)) hpN (r := false) (.inr ⟨rfl, .ok (by simp) (.ne (Pj := dropP 1 g.Fi) (by simp) (by omega))⟩) (by rw [decide_eq_true hin]; rfl) sg2 hZ q
  · rw [hn] at vin
    have hin : ¬ 1 ∈ g.Fi.map (·.1) := of_decide_eq_false vin.symm
    exact end_ok2 T f v.op v.fd v.kp okM v.hp (hr_eq rfl fun m h => h) (by rw [decide_eq_false hin]; rfl) sg2 hZ q
theorem q10_ok (T : Txt K mg A) {g : Gv} (f : LF A g) (v : LI K A g 0 H) (pa : PiA A H g.p g.Pi g.xs) (sg : Sg g σ) {Q : VK} {Z : Ends} (hZ : Z.rt = Q) (q : ∀ H', Q (.bl true) H') : tQ10 K A Z σ H := by
  have okM := okM2 (n := 3) (m := 4) (by decide) f.gP f.lP f.gF f.lF
  have r0 : Rel K (S A) (bH H) [] (uH H) H (List.replicate σ.length .no) σ := rel_none σ
  rw [sg.len] at r0
  have r1 := rel_know rfl r0 sg.s3 pa.rep
  refine ⟨bH H, [], uH H, _, st_bH H, r1, ?_⟩
  rw [e_Srt]
  intro G' H1 s1 st1 rl1 sl o n1 n2 n3 _ _ ro
  obtain ⟨vs, rfl, rv⟩ := ro
  have rv := repL_ints rv
  subst rv
  have sm := st_same st1
  refine ⟨sl, rfl, .inl ⟨⟨_, .inl (.inl n3)⟩, ?_⟩⟩
  have n2 : H sl = none := n2
  refine loop10 (wi := fun _ _ R => R (Itl K sl) H1) T f (v.up f sm) sg n3 (fun x hx e => ?_) (fun R h => h) fun σ2 H2 i v2 sg2 => ?_
  · obtain ⟨j, hj⟩ := List.getElem?_of_mem hx
    have hjl := (List.getElem?_eq_some_iff.mp hj).1
    rw [f.ln] at hjl
    obtain ⟨_, _, zs, e3, _⟩ := v.th j x _ hj (List.getElem?_eq_getElem hjl)
    rw [e, n2] at e3
    cases e3
  have r0 : Rel K (S A) (bH H2) [] (uH H2) H2 (List.replicate σ2.length .no) σ2 := rel_none σ2
  rw [sg2.len] at r0
  have r1 := rel_know rfl r0 sg2.s7 v2.hp.rep
  have r2 := rel_know rfl r1 sg2.s4 (v2.kp.rep f.gP)
  refine tb_H r2 (e_T11 (M := g.M) f.gP f.lP rfl) fun H3 s3 => ?_
  have v3 := v2.up f s3
  show tTest (tOw K A true (tVar 8) (tVar 7)) σ2 H3 _
  refine own_h (tx := tVar 8) (ty := tVar 7) (b := true) (r := true) (fun Q h => ⟨_, sg2.s8, h⟩) (fun Q k => ⟨_, sg2.s7, k g.h g.D g.hs H3 (.refl _) v3.hp fun e => f.dd e.symm⟩) v3.op okM okM (hr_eq rfl fun m h => h) fun H4 s4 => ?_
  exact ⟨false, rfl, q12_ok T f (v3.up f s4) sg2 hZ q⟩
theorem heap_of {h D : Addr} {M : HM} {ps : HP} {D' : Addr} (ha : HpA A H h D M ps) (nD : H D' = none) : D ≠ D' := fun e => by
  rcases ha.d with q | ⟨o, q⟩ <;> rw [e, nD] at q <;> cases q
theorem hp_two {n m : Int} {i j : Nat} {p q : Addr} {Pi Pj : Pic} {xs ys : List A3} {Q : VK} (nm : n ≠ m) (si : σ[i]? = some (some (.ref p))) (sj : σ[j]? = some (some (.ref q))) (pa : PiA A H p Pi xs) (pb : PiA A H q Pj ys) (ok : OkM [(n, Pi), (m, Pj)])
    (k : ∀ (h D : Addr) (H' : Hp) (hs : HP), Same H H' → H h = none → H D = none → HpA A H' h D [(n, Pi), (m, Pj)] hs → Nw H hs → Ul H' hs → Q (.ref h) H') : tHp A [(tC (V.int n), tVar i), (tC (V.int m), tVar j)] σ H Q := by
  show tDisp [(tC (V.int n), tVar i), (tC (V.int m), tVar j)] σ H fun x H1 => ∀ y dx, H1 y = none → H1 dx = none → dx ≠ y → spHI A [.ref y, x] (upd (upd H1 dx (.own y)) y (.ins A.C_Heap dx [])) (fun v H2 => v = .non ∧ Q (.ref y) H2) E0
  refine disp2 nm si sj fun D0 H1 z1 n1 e1 => ?_
  have i1 := inn_same z1
  exact mk_heap (M := [(n, Pi), (m, Pj)]) (ps := [(p, xs), (q, ys)]) (.inl e1) (hps2 (pa.up i1) (pb.up i1)) ok fun h D H2 hs z2 nh nD ha nw ul => k h D H2 hs (z1.trans z2) (z1.free nh) (z1.free nD) ha (nw.down fun b hb => z1.free hb) ul
theorem hp_one {n : Int} {i : Nat} {p : Addr} {Pi : Pic} {xs : List A3} {Q : VK} (si : σ[i]? = some (some (.ref p))) (pa : PiA A H p Pi xs) (ok : OkM [(n, Pi)])
    (k : ∀ (h D : Addr) (H' : Hp) (hs : HP), Same H H' → H h = none → H D = none → HpA A H' h D [(n, Pi)] hs → Nw H hs → Ul H' hs → Q (.ref h) H') : tHp A [(tC (V.int n), tVar i)] σ H Q := by
  show tDisp [(tC (V.int n), tVar i)] σ H fun x H1 => ∀ y dx, H1 y = none → H1 dx = none → dx ≠ y → spHI A [.ref y, x] (upd (upd H1 dx (.own y)) y (.ins A.C_Heap dx [])) (fun v H2 => v = .non ∧ Q (.ref y) H2) E0
  refine disp1 si fun D0 H1 z1 n1 e1 => ?_
  have i1 := inn_same z1
  exact mk_heap (M := [(n, Pi)]) (ps := [(p, xs)]) (.inl e1) (hps1 (pa.up i1)) ok fun h D H2 hs z2 nh nD ha nw ul => k h D H2 hs (z1.trans z2) (z1.free nh) (z1.free nD) ha (nw.down fun b hb => z1.free hb) ul
theorem q9_ok (T : Txt K mg A) {g : Gv} (f : LF A g) (v : LI K A g 0 H) (pa : PiA A H g.p g.Pi g.xs) (pb : PiA A H g.pf g.Fi g.fs) (sg : Sg g σ) {Q : VK} {Z : Ends} (hZ : Z.rt = Q) (q : ∀ H', Q (.bl true) H') : tIfS (tT9 K A) tNo tNext { nx := tQ10 K A Z, rt := Z.rt, bk := Z.bk, ct := Z.ct } σ H := by
  have okM := okM2 (n := 3) (m := 4) (by decide) f.gP f.lP f.gF f.lF
  -- other != heap
  refine own_h (tx := tVar 8) (ty := tVar 7) (b := true) (r := true) (fun Q h => ⟨_, sg.s8, h⟩) (fun Q k => ⟨_, sg.s7, k g.h g.D g.hs H (.refl _) v.hp fun e => f.dd e.symm⟩) v.op okM okM (hr_eq rfl fun m h => h) fun H1 s1 => ⟨false, rfl, ?_⟩
  have v1 := v.up f s1
  obtain ⟨⟨dx, e1⟩, _, _⟩ := id v1.hp
  -- heap == 3
  refine ⟨_, sg.s7, g.h, dx, _, rfl, e1, .inr ⟨3, rfl, T.sbi_Heap⟩, g.h, g.D, g.M, g.hs, _, false, rfl, v1.hp, okM, .inr ⟨3, rfl, rfl⟩, fun H2 s2 => ⟨false, rfl, false, rfl, ?_⟩⟩
  have v2 := v1.up f s2
  have s02 := s1.trans s2
  -- heap != Heap({4: .., 3: ..})
  have pa2 := pa.up (inn_same s02)
  have pb2 := pb.up (inn_same s02)
  refine own_h (tx := tVar 7) (ty := tHp A [(tC (V.int 4), tVar 6), (tC (V.int 3), tVar 3)]) (b := true) (r := true) (N := [(4, g.Fi), (3, g.Pi)]) (fun Q h => ⟨_, sg.s7, h⟩) (fun Q k => hp_two (by decide) sg.s6 sg.s3 pb2 pa2 (okM2 (by decide) f.gF f.lF f.gP f.lP) fun h D H4 hs s4 nh nD ha nw ul => k h D hs H4 s4 ha (heap_of v2.hp nD)) v2.hp okM (okM2 (by decide) f.gF f.lF f.gP f.lP) (hr_eq rfl fun m h => by simp at h ⊢; exact h.symm) fun H3 s3 => ⟨false, rfl, ?_⟩
  have v3 := v2.up f s3
  have pa3 := pa2.up (inn_same s3)
  -- heap == Heap({3: ..})
  refine own_h (tx := tVar 7) (ty := tHp A [(tC (V.int 3), tVar 3)]) (b := false) (r := false) (N := [(3, g.Pi)]) (fun Q h => ⟨_, sg.s7, h⟩) (fun Q k => hp_one sg.s3 pa3 (okM1 f.gP f.lP) fun h D H5 hs s5 nh nD ha nw ul => k h D hs H5 s5 ha (heap_of v3.hp nD)) v3.hp okM (okM1 f.gP f.lP) (.inl ⟨(show (2 : Nat) ≠ 1 by decide), rfl⟩) fun H4 s4 => ⟨false, rfl, ?_⟩
  exact q10_ok T f (v3.up f s4) (pa3.up (inn_same s4)) sg hZ q
theorem q7_ok (T : Txt K mg A) {Pi Fi : Pic} {p pf : Addr} {xs fs : List A3} {v4 : V} (gP : Good Pi) (lP : Pi.length ≤ 7) (gF : Good Fi) (lF : Fi.length ≤ 7) (pa : PiA A H p Pi xs) (pb : PiA A H pf Fi fs) (kp : KpA K A H v4 Pi) (len : σ.length = 13) (s3 : σ[3]? = some (some (.ref p))) (s4 : σ[4]? = some (some v4)) (s6 : σ[6]? = some (some (.ref pf))) {Q : VK} {Z : Ends} (hZ : Z.rt = Q) (q : ∀ H', Q (.bl true) H') : tQ7 K A Z σ H := by
  have okM := okM2 (n := 3) (m := 4) (by decide) gP lP gF lF
  unfold tQ7
  rw [tSeq, tAsg]
  refine hp_two (by decide) s3 s6 pa pb okM fun h D H2 hs z12 nh nD ha nw ul => ?_
  show tSeq _ _ Z (σ.set 7 (some (.ref h))) H2
  obtain ⟨dh, eh⟩ := ha.h
  refine ⟨_, by rw [List.getElem?_set_self (by omega)], h, dh, _, rfl, eh, rfl, h, D, _, hs, rfl, ha, okM, fun o D' H3 os z3 no nD' ho nw' => ?_⟩
  show tSeq _ _ Z ((σ.set 7 (some (.ref h))).set 8 (some (.ref o))) H3
  have z13 := z12.trans z3
  have lst1 : ∀ x ∈ xs, ∃ vs, H x.2.2 = some (.lst vs) := fun x hx => by
    obtain ⟨j, hj⟩ := List.getElem?_of_mem hx
    have hjl := (List.getElem?_eq_some_iff.mp hj).1
    rw [pa.s.1] at hjl
    exact ⟨_, (pa.s.2 j x _ hj (List.getElem?_eq_getElem hjl)).lst⟩
  have g0 : LF A ⟨Pi, Fi, p, xs, pf, fs, h, D, hs, o, D', os, v4⟩ := {
    gP := gP
    lP := lP
    gF := gF
    lF := lF
    ln := pa.s.1
    fl := pb.s.1
    lh := fun x hx r hr y hy e => by
      obtain ⟨vs, e2⟩ := lst1 x hx
      have := (nw r hr).2 y hy
      rw [e, e2] at this
      cases this
    lo := fun x hx r hr y hy e => by
      obtain ⟨vs, e2⟩ := lst1 x hx
      have := (nw' r hr).2 y hy
      rw [e, z12 _ _ e2] at this
      cases this
    dd := heap_of ha nD'
    qo := fun r hr r' hr' e => by
      obtain ⟨k, e2⟩ := ul.1 r hr
      have := (nw' r' hr').1
      rw [← e, e2] at this
      cases this
    qD := fun r hr e => by
      obtain ⟨k, e2⟩ := ul.1 r hr
      rw [e, nD'] at e2
      cases e2
    qf := fun r hr e => by
      have := (nw r hr).1
      rcases pb.d with e2 | ⟨o, e2⟩ <;> rw [e, e2] at this <;> cases this }
  have v0 : LI K A ⟨Pi, Fi, p, xs, pf, fs, h, D, hs, o, D', os, v4⟩ 0 H3 := {
    pd := (inn_same z13).dct pa.d
    th := fun j x r hx hr => by
      obtain ⟨c1, c2, c3⟩ := (pa.up (inn_same z13)).s.2 j x r hx hr
      refine ⟨c1, c2, r.2.ks, c3, ?_⟩
      have ot := gP.2 r (List.mem_of_getElem? hr)
      have : r.2.ks.length ≤ 4 := by cases hh : r.2 <;> rw [hh] at ot <;> exact ot.1
      omega
    hp := ha.up (inn_same z3)
    op := ho
    fd := (inn_same z13).dct pb.d
    kp := kp.up gP z13
    ul := ⟨fun r hr => by
      obtain ⟨k, e⟩ := ul.1 r hr
      exact ⟨k, z3 _ _ e⟩, ul.2⟩ }
  have sg : Sg ⟨Pi, Fi, p, xs, pf, fs, h, D, hs, o, D', os, v4⟩ ((σ.set 7 (some (.ref h))).set 8 (some (.ref o))) := {
    len := by rw [List.length_set, List.length_set]; exact len
    s3 := by rw [List.getElem?_set_ne (by decide), List.getElem?_set_ne (by decide)]; exact s3
    s4 := by rw [List.getElem?_set_ne (by decide), List.getElem?_set_ne (by decide)]; exact s4
    s6 := by rw [List.getElem?_set_ne (by decide), List.getElem?_set_ne (by decide)]; exact s6
    s7 := by rw [List.getElem?_set_ne (by decide), List.getElem?_set_self (by omega)]
    s8 := by rw [List.getElem?_set_self (by rw [List.length_set]; omega)] }
  exact q9_ok T g0 v0 (pa.up (inn_same z13)) (pb.up (inn_same z13)) sg hZ q
/-! ### the steps ahead -/
abbrev envB (x0 : D) (l : List Int) (x2 x3 x4 x5 x6 s12 : Sl) : Dv.Env := [.val x0, .box (Ls l), x2, x3, x4, x5, x6, .no, .no, .no, .no, .no, s12]
theorem gone_loop {x0 : D} {x2 x3 x4 : Sl} : ∀ (xs acc l : List Int) (s12 : Sl), Dr l → acc.length + xs.length < 1000 → ∃ (l' gs : List Int) (s12' : Sl), cmpL (yName 12) xYes (xOp oAdd (xC (.int 1)) (xCall 2 d__law_draw (gSlot 1 (gVal (xC (.int 9)) Dv.gNil)))) [12] (xs.map .int) (acc.map .int) (envB x0 l x2 x3 x4 .no .no s12) = .ok ((acc ++ gs).map .int) (envB x0 l' x2 x3 x4 .no .no s12') ∧ Dr l' ∧ gs.length = xs.length
  | [], acc, l, s12, h, _ => ⟨l, [], s12, by rw [List.append_nil]; rfl, h, rfl⟩
  | x :: xs, acc, l, s12, h, hl => by
    rw [List.length_cons] at hl
    obtain ⟨v, l1, e, v0, v1, h1⟩ := draw_ok h 9 (by omega) (by omega)
    have hw : wipeE (envB x0 l x2 x3 x4 .no .no s12) [12] = envB x0 l x2 x3 x4 .no .no .no := rfl
    have y : yName 12 (.int x) (envB x0 l x2 x3 x4 .no .no .no) = some (envB x0 l x2 x3 x4 .no .no (.val (.int x))) := by (exists trivial)
    have q : oAdd (.int 1) (.int v) = some (.int (1 + v)) := addI
    obtain ⟨l2, gs, s, k1, k2, k3⟩ := gone_loop (x0 := x0) (x2 := x2) (x3 := x3) (x4 := x4) xs (acc ++ [1 + v]) l1 (.val (.int x)) h1 (by rw [List.length_append]; simp; omega)
    refine ⟨l2, (1 + v) :: gs, s, ?_, k2, by rw [List.length_cons, List.length_cons, k3]⟩
    rw [List.map_cons]
    have el : xOp oAdd (xC (.int 1)) (xCall 2 d__law_draw (gSlot 1 (gVal (xC (.int 9)) Dv.gNil))) (envB x0 l x2 x3 x4 .no .no (.val (.int x))) = .ok (.int (1 + v)) (envB x0 l1 x2 x3 x4 .no .no (.val (.int x))) := by (exists e, q)
    rw [show acc ++ (1 + v) :: gs = (acc ++ [1 + v]) ++ gs by rw [List.append_assoc]; rfl]
    exact cmp_cons hw y rfl (sel_t rfl (cmp_el el (by rw [List.length_map]; omega) (by rw [List.map_append]; rfl) k1))
theorem e_S4 {x0 : D} {x2 x3 x4 : Sl} {l : List Int} (h : Dr l) : ∃ (l' gs : List Int), xS4 (envB x0 l x2 x3 x4 .no .no .no) = .nx (envB x0 l' x2 x3 x4 (.box (Ls gs)) .no .no) ∧ gs.length < 1000 := by
  obtain ⟨v, l1, e, v0, v1, h1⟩ := draw_ok h 5 (by omega) (by omega)
  obtain ⟨xs, hx, hxl⟩ := rng0 v.toNat
  obtain ⟨l2, gs, s, k1, k2, k3⟩ := gone_loop (x0 := x0) (x2 := x2) (x3 := x3) (x4 := x4) xs [] l1 .no h1 (by simp; omega)
  have rg : iRg1 (xCons (xCall 2 d__law_draw (gSlot 1 (gVal (xC (.int 5)) Dv.gNil))) xNil) (envB x0 l x2 x3 x4 .no .no .no) = .ok (xs.map .int) (envB x0 l1 x2 x3 x4 .no .no .no) := by
    rw [← hx]
    exact r_rg1 (j := v) (by (exists e)) (by omega)
  have lc : xLc (iRg1 (xCons (xCall 2 d__law_draw (gSlot 1 (gVal (xC (.int 5)) Dv.gNil))) xNil)) (yName 12) xYes (xOp oAdd (xC (.int 1)) (xCall 2 d__law_draw (gSlot 1 (gVal (xC (.int 9)) Dv.gNil)))) [12] (envB x0 l x2 x3 x4 .no .no .no) = .ok (Ls gs) (envB x0 l2 x2 x3 x4 .no .no .no) := r_lc rg k1 rfl
  refine ⟨l2, gs, ?_, by omega⟩
  unfold xS4
  exact r_box lc rfl rfl rfl
theorem law_read (T : Txt K mg A) {a : Addr} {ns : List Int} {Q : VK} {Z : Ends} (hS : SqL K H a (ns.map V.int)) (q : ∀ H', Q (.bl true) H') (hZ : Z.rt = Q) : tLaw K A Z (L2.start nmL [.ref a]) H := by
  have ok : ArgsOk K (S A) H H none [.val (.scr (ns.map .int))] [.ref a] := ⟨.cons ⟨a, _, rfl, hS, ints_rep ns⟩ .nil, Nat.zero_le _, fun a e => by cases e⟩
  have st0 : Ste ⟨H, H, none⟩ [] H H := ste_start (fun a u e => .inl e) ok
  have rl0 : Rel K (S A) ⟨H, H, none⟩ [] H H [.val (.scr (ns.map .int)), .no, .no, .no, .no, .no, .no, .no, .no, .no, .no, .no, .no] (L2.start nmL [.ref a]) := start_rel (N := nmL) ok (show 1 ≤ 13 by decide)
  obtain ⟨l0, p0, e0, h0⟩ := cells_ok ns
  obtain ⟨ra, rb, rc, l1, e1, h1, na, nb, nc⟩ := rules_ok h0
  have e2 := schema_ok ra rb rc false
  obtain ⟨Pi, l3, e4, h3, g, lP⟩ := pic_ok h1
  have e5 := shown_ok Pi g lP
  refine ts_nx (env' := envB (.scr (ns.map .int)) l0 .no .no .no .no .no .no) st0 rl0 (by unfold xS0; (exists e0)) fun σ1 G1 H1 s1 st1 rl1 => ?_
  refine ts_nx (env' := envB (.scr (ns.map .int)) l1 (.val (schD ra rb rc false)) .no .no .no .no .no) st1 rl1 (by unfold xS1; (exists e1, e2)) fun σ2 G2 H2 s2 st2 rl2 => ?_
  refine ts_nx (env' := envB (.scr (ns.map .int)) l3 (.val (schD ra rb rc false)) (.val (picD Pi)) .no .no .no .no) st2 rl2 (by unfold xS2; (exists e4)) fun σ3 G3 H3 s3 st3 rl3 => ?_
  refine ts_nx (env' := envB (.scr (ns.map .int)) l3 (.val (schD ra rb rc false)) (.val (picD Pi)) (.val (kepD Pi)) .no .no .no) st3 rl3 (by unfold xS3; (exists e5)) fun σ4 G4 H4 s4 st4 rl4 => ?_
  obtain ⟨l4, gs, e6, hg⟩ := e_S4 (x0 := .scr (ns.map .int)) (x2 := .val (schD ra rb rc false)) (x3 := .val (picD Pi)) (x4 := .val (kepD Pi)) h3
  refine ts_nx st4 rl4 e6 fun σ5 G5 H5 s5 st5 rl5 => ?_
  have e7 := wn_ok (a := ra) (b := rb) (c := rc) (nd := false) hg g lP
  refine ts_nx (env' := envB (.scr (ns.map .int)) l4 (.val (schD ra rb rc false)) (.val (picD Pi)) (.val (kepD Pi)) (.val (Ls gs)) (.val (picD (woP gs Pi))) .no) st5 rl5 (by unfold xS5; (exists e7)) fun σ6 G6 H6 s6 st6 rl6 => ?_
  have gF : Good (woP gs Pi) := woP_ok g
  have lF : (woP gs Pi).length ≤ 7 := by rw [woP_len]; exact lP
  have e8 := shown_ok (woP gs Pi) gF lF
  obtain ⟨pd, e9⟩ := due_ok Pi g lP gs
  have n1 := kep_ne (woP gs Pi) gF
  have n2 := kep_ne Pi g
  refine ts_nx (env' := envB (.scr (ns.map .int)) l4 (.val (schD ra rb rc false)) (.val (picD Pi)) (.val (kepD Pi)) (.val (Ls gs)) (.val (picD (woP gs Pi))) .no) st6 rl6 (by unfold xS6; (exists e5, e8, e9, n1, n2)) fun σ G H7 s7 st7 rl7 => ?_
  clear rl6 rl5 rl4 rl3 rl2 rl1 rl0
  obtain ⟨x3, hx3, v3, rfl, r3⟩ := rel_at (i := 3) rl7 rfl
  obtain ⟨x4, hx4, v4, rfl, r4⟩ := rel_at (i := 4) rl7 rfl
  obtain ⟨x6, hx6, v6, rfl, r6⟩ := rel_at (i := 6) rl7 rfl
  obtain ⟨p, xs, rfl, gp, src⟩ := pic_src r3
  obtain ⟨pf, fs, rfl, gf, srcF⟩ := pic_src r6
  have ls : σ.length = 13 := by rw [← paired_len rl7.at_]; rfl
  exact q7_ok T g lP gF lF ⟨st7.inn.dct (.inl gp), src_inn st7.inn src⟩ ⟨st7.inn.dct (.inl gf), src_inn st7.inn srcF⟩ (kp_of g st7.inn r4) ls hx3 hx4 hx6 hZ q
end
end K48L
end
namespace K48L
open PySem PySem.Spec PyProof.Rows L2 Dv K48
set_option autoImplicit false
noncomputable section
variable {P : Program} {w : World} {K : PySem.W.Frag} {mg : Str → Option Value} {base : Heap} {A : Ad}
theorem sc_law : FnScope ["script", "draws", "schema", "picture", "kept", "gone", "found", "heap", "other", "number", "row", "mine", "_law_turn"] ["script"] (defScope (topS 38)) := ⟨rfl, rfl, rfl, by decide +kernel, rfl, by decide +kernel, by decide +kernel⟩
abbrev spLaw := Dv.spTrue
theorem ok_law (T : Txt K mg A) : FnG P w K mg base CX0 12 A.f_law A.fd_law ["script"] (spLaw K) := by
  refine okG T.F_law sc_law (fun vs H Q E h => ?_) (fun cdv Ar gd outer s H vs Q E hr h => ?_)
  · obtain ⟨a, ns, rfl, _⟩ := h
    rfl
  obtain ⟨a, ns, rfl, hS, hl, q⟩ := h
  refine ⟨_, (pss_cons (show QS (S A) _ E0 _ (xBox 1 (xCall 2 d__law_cells (gVal (xVal 0) (gVal (xC (.int 35)) gNil)))) from (s_box (i := 1) sc_law.nd rfl (.inr rfl) (qf_call (ok__law_cells T) (hr.mono (by decide)) (by rfl) T.g__law_cells T.F__law_cells.kp T.b__law_cells pass0 (g_val (q_vl (pv 0)) (g_val (q_c pe_int fun _ => rfl) g_nil)))))
 (pss_cons (show QS (S A) _ E0 _ (xSet 2 (xCall 2 d__law_schema (gVal (xCall 1 d__law_rules (gSlot 1 gNil)) (gVal (xC (.bl false)) gNil)))) from (s_set (i := 2) sc_law.nd rfl (.inl rfl) (q_call (ok__law_schema T) (hr.mono (by decide)) (by rfl) T.g__law_schema T.F__law_schema.kp T.b__law_schema pass0 (g_val (q_call (ok__law_rules T) (hr.mono (by decide)) (by rfl) T.g__law_rules T.F__law_rules.kp T.b__law_rules pass0 (g_slot (pv 1) g_nil)) (g_val (q_c pe_bl fun _ => rfl) g_nil)))))
 (pss_cons (show QS (S A) _ E0 _ (xSet 3 (xCall 1 d__law_picture (gSlot 1 gNil))) from (s_set (i := 3) sc_law.nd rfl (.inl rfl) (q_call (ok__law_picture T) (hr.mono (by decide)) (by rfl) T.g__law_picture T.F__law_picture.kp T.b__law_picture pass0 (g_slot (pv 1) g_nil))))
 (pss_cons (show QS (S A) _ E0 _ (xSet 4 (xCall 1 d__law_shown (gVal (xVal 3) gNil))) from (s_set (i := 4) sc_law.nd rfl (.inl rfl) (q_callG (ok__law_shown T) gd (hr.mono (by decide)) (by rfl) T.g__law_shown T.F__law_shown.kp T.b__law_shown pass0 (g_val (q_vl (pv 3)) g_nil))))
 (pss_cons (show QS (S A) _ E0 _ (xBox 5 (xLc (iRg1 (xCons (xCall 2 d__law_draw (gSlot 1 (gVal (xC (.int 5)) gNil))) xNil)) (yName 12) xYes (xOp oAdd (xC (.int 1)) (xCall 2 d__law_draw (gSlot 1 (gVal (xC (.int 9)) gNil)))) [12])) from (s_setLc (i := 5) (vs := [12]) rfl sc_law.nd rfl rfl (sw_true rfl rfl rfl (by decide +kernel)) (i_rng1 rfl T.b_range (q_cons (q_call (ok__law_draw T) (hr.mono (by decide)) (by rfl) T.g__law_draw T.F__law_draw.kp T.b__law_draw pass0 (g_slot (pv 1) (g_val (q_c pe_int fun _ => rfl) g_nil))) q_nil)) (blkOk_by (own := [("_law_turn", 12)]) (N := ["script", "draws", "schema", "picture", "kept", "gone", "found", "heap", "other", "number", "row", "mine", "_law_turn"]) (sc := defScope (topS 38)) (by decide +kernel)) rfl (fun _ _ _ _ _ => (pg_name (i := 12) sc_law.nd rfl (Or.inl rfl))) (Dv.g_name 12) (by decide) (fun _ _ _ _ _ => pts_nil) (fun _ _ _ h => yes_ok h) (fun _ _ _ _ _ => by exact (q_op (opOr op_add (opOr op_add_str op_cat)) so_add (q_c pe_int fun _ => rfl) (q_call (ok__law_draw T) (hr.mono (by decide)) (by rfl) T.g__law_draw T.F__law_draw.kp T.b__law_draw pass0 (g_slot (pv 1) (g_val (q_c pe_int fun _ => rfl) g_nil)))))))
 (pss_cons (show QS (S A) _ E0 _ (xSet 6 (xCall 3 d_without_numbers (gVal (xVal 2) (gVal (xVal 3) (gVal (xVar 5) gNil))))) from (s_set (i := 6) sc_law.nd rfl (.inl rfl) (q_call (ok_without_numbers T) (hr.mono (by decide)) (by rfl) T.g_without_numbers T.F_without_numbers.kp T.b_without_numbers pass0 (g_val (q_vl (pv 2)) (g_val (q_vl (pv 3)) (g_val (q_var (pv 5)) g_nil))))))
 (pss_cons (show QS (S A) _ E0 _ (xIfS (xOrT (xTest (xOp oNe (xCall 1 d__law_shown (gVal (xVal 6) gNil)) (xCall 2 d__law_due (gVal (xVal 3) (gVal (xVar 5) gNil))))) (xTest (xOp oNe (xCall 1 d__law_shown (gVal (xVal 3) gNil)) (xVal 4))))
 (xRet (xC (.bl false)))
 xNx) from (s_if (q_pt (q_wor (q_cmpT (opOr op_ne (op_neD (u64 hr))) so_ne (q_callG (ok__law_shown T) gd (hr.mono (by decide)) (by rfl) T.g__law_shown T.F__law_shown.kp T.b__law_shown pass0 (g_val (q_vl (pv 6)) g_nil)) (q_callG (ok__law_due T) gd (hr.mono (by decide)) (by rfl) T.g__law_due T.F__law_due.kp T.b__law_due pass0 (g_val (q_vl (pv 3)) (g_val (q_var (pv 5)) g_nil))) (nomark _)) (q_wor1 (q_cmpT (opOr op_ne (op_neD (u64 hr))) so_ne (q_callG (ok__law_shown T) gd (hr.mono (by decide)) (by rfl) T.g__law_shown T.F__law_shown.kp T.b__law_shown pass0 (g_val (q_vl (pv 3)) g_nil)) (q_vl (pv 4)) (nomark _)))))
 (s_one (s_ret (q_c pe_bl fun _ => rfl)))
 s_nil))
 (pss_cons (ps_set (i := 7) sc_law.nd rfl (.inl rfl) (pe_make (E := E0) T.mk_Heap (okp_Heap___init__ T) (hr.mono (by decide)) (by rfl) T.g_Heap T.b_Heap___init__ .nil pass0 (pa_cons (pe_disp (pps_cons pe_int (pv 3) (pps_cons pe_int (pv 6) pps_nil)) rfl rfl (by decide) (by decide)) pa_nil)))
 (pss_cons (ps_set (i := 8) sc_law.nd rfl (.inl rfl) (pe_meth0 (E := E0) (pv 7) T.cl_Heap T.me_Heap_copied (okp_Heap_copied T) (hr.mono (by decide)) T.b_Heap_copied .nil pass0))
 (pss_cons (ps_if (PW.pt (pw_or (pt_cmpR (op_ownNe T.eqo_Heap (okp_Heap___eq__ T) T.b_Heap___eq__ pass0 (hr.mono (by decide))) (pv 8) (pv 7) (nomark _)) (pw_or (pt_cmpR (op_ownEq T.eqo_Heap (okp_Heap___eq__ T) T.b_Heap___eq__ pass0 (hr.mono (by decide))) (pv 7) pe_int (nomark _)) (pw_or (pt_cmpR (op_ownNe T.eqo_Heap (okp_Heap___eq__ T) T.b_Heap___eq__ pass0 (hr.mono (by decide))) (pv 7) (pe_make (E := E0) T.mk_Heap (okp_Heap___init__ T) (hr.mono (by decide)) (by rfl) T.g_Heap T.b_Heap___init__ .nil pass0 (pa_cons (pe_disp (pps_cons pe_int (pv 6) (pps_cons pe_int (pv 3) pps_nil)) rfl rfl (by decide) (by decide)) pa_nil)) (nomark _)) (pw_or1 (pt_cmpR (op_ownEq T.eqo_Heap (okp_Heap___eq__ T) T.b_Heap___eq__ pass0 (hr.mono (by decide))) (pv 7) (pe_make (E := E0) T.mk_Heap (okp_Heap___init__ T) (hr.mono (by decide)) (by rfl) T.g_Heap T.b_Heap___init__ .nil pass0 (pa_cons (pe_disp (pps_cons pe_int (pv 3) pps_nil) rfl rfl (by decide) (by decide)) pa_nil)) (nomark _))))))) (pss_one (ps_ret pe_bl)) pss_nil)
 (pss_cons (ps_for PassesOwn.never rfl (pi_seq (show QF (S A) _ E0 _ (xCB fSorted (xCons (xCB fListD (xCons (xVal 3) xNil)) xNil)) from (qf_callB (cr_sortedI) sc_sorted rfl T.b_sorted (by decide +kernel) (q_cons (q_fr (qf_callTy (call_listD rfl) sc_listD rfl T.b_list (by decide +kernel) (q_cons (q_vl (pv 3)) q_nil))) q_nil)))) (pg_name (i := 9) sc_law.nd rfl (.inl rfl)) (pss_cons (ps_set (i := 10) sc_law.nd rfl (.inl rfl) (pe_dget (u1 hr) (pe_fld (pe_dget (u1 hr) (pv 3) (pv 9) (fun _ _ => rfl)) rfl) (pe_ifExp (pt_cmpR (opOr op_eq (op_eqD (u64 hr))) (pe_fld (pe_dget (u1 hr) (pv 3) (pv 9) (fun _ _ => rfl)) rfl) pe_str (nomark _)) pe_str pe_str) (fun _ _ => rfl))) (pss_one (ps_expr (pe_bm PySem.F.plainAttrs_list PySem.F.slot_list_append PySem.F.type_list_append mt_append (pv 10) (pa_cons pe_int pa_nil))))))
 (pss_cons (ps_if (PW.pt (pw_or (show QT (S A) _ E0 _ (xTest (xOp oNe (xCall 1 d__law_shown (gVal (xMeth "picture_of" 2 [(5, 25, d_Heap_picture_of)] (xVal 7) (gVal (xC (.int 3)) gNil)) gNil)) (xVal 4))) from (q_cmpT (opOr op_ne (op_neD (u64 hr))) so_ne (q_callG (ok__law_shown T) gd (hr.mono (by decide)) (by rfl) T.g__law_shown T.F__law_shown.kp T.b__law_shown pass0 (g_val (q_meth (q_vl (pv 7)) (mt_cons ⟨T.cl_Heap, T.me_Heap_picture_of, _, _, (ok_Heap_picture_of T).mono (show 1 ≤ 1 by decide), T.b_Heap_picture_of⟩ mt_nil) (hr.mono (by decide)) pass0 (g_val (q_c pe_int fun _ => rfl) g_nil)) g_nil)) (q_vl (pv 4)) (nomark _))) (pw_or1 (pt_cmpR (op_ownNe T.eqo_Heap (okp_Heap___eq__ T) T.b_Heap___eq__ pass0 (hr.mono (by decide))) (pv 8) (pv 7) (nomark _))))) (pss_one (ps_ret pe_bl)) pss_nil)
 (pss_cons (ps_set (i := 11) sc_law.nd rfl (.inl rfl) (pe_meth (E := E0) (pv 7) T.cl_Heap T.me_Heap_picture_of (okp_Heap_picture_of T) (hr.mono (by decide)) T.b_Heap_picture_of .nil pass0 (pa_cons pe_int pa_nil)))
 (pss_cons (ps_expr (pe_dpop2 (pv 11) pe_int pe_non ⟨rfl, rfl, rfl, rfl⟩))
 (pss_one (ps_ret (pe_and (pe_cmpR (opOr op_eq (op_eqD (u64 hr))) (pe_cmpR (op_ownEq T.eqo_Heap (okp_Heap___eq__ T) T.b_Heap___eq__ pass0 (hr.mono (by decide))) (pv 8) (pv 7) (nomark _)) (pe_cmp (pc_dnotin (u1 hr) pe_int (pv 6)) rfl) (nomark _)) (pe_one (show QE (S A) _ E0 _ (xOp oEq (xCall 1 d__law_shown (gVal (xMeth "picture_of" 2 [(5, 25, d_Heap_picture_of)] (xVal 8) (gVal (xC (.int 3)) gNil)) gNil)) (xVal 4)) from (q_cmp (opOr op_eq (op_eqD (u64 hr))) so_eq (q_callG (ok__law_shown T) gd (hr.mono (by decide)) (by rfl) T.g__law_shown T.F__law_shown.kp T.b__law_shown pass0 (g_val (q_meth (q_vl (pv 8)) (mt_cons ⟨T.cl_Heap, T.me_Heap_picture_of, _, _, (ok_Heap_picture_of T).mono (show 1 ≤ 1 by decide), T.b_Heap_picture_of⟩ mt_nil) (hr.mono (by decide)) pass0 (g_val (q_c pe_int fun _ => rfl) g_nil)) g_nil)) (q_vl (pv 4)) (nomark _))))))))))))))))))))), law_read T hS q rfl⟩
end
end K48L
open PySem PySem.W PySem.Calls PyProof.Rows in
set_option maxRecDepth 100000 in
set_option maxHeartbeats 0 in
theorem PySem.Challenge.cw_oneheap_k48_numbers_leave_contents_holds : PySem.Challenge.rw_oneheap_k48_numbers_leave_contents.Holds := by
  refine K48.endPre ?_
  refine Dv.walk_G (l := PySem.Challenge.rw_oneheap_k48_numbers_leave_contents) (n := 63) (k := 12) (x := "script") rfl (by decide) (by kernel_rfl) ⟨rfl, by decide, by decide⟩ ?F
  intro w mg fa h Y G hmg0
  obtain ⟨K, KX, c⟩ := Y
  have hmg : mg ("law" : PySem.Str) = some (.ref fa) := by
    have e : (HandSHeadRun.topDef (PySem.W.OpenLaw.row PySem.Challenge.rw_oneheap_k48_numbers_leave_contents).prog 38).name = ("law" : PySem.Str) := by kernel_rfl
    rw [← e]
    exact hmg0
  have T := K48.mk_txt (w := w) KX G c
  have e := hmg.symm.trans (K48.law_at KX G c)
  cases e
  refine ⟨K, (K48.adr K).fd_law, K48L.spLaw K, KX, fun s u => ?_, fun H a ns hl _ hS => ⟨a, ns, rfl, hS, hl, fun _ => rfl⟩, fun base _ _ => K48L.ok_law T⟩
  obtain ⟨_, _, _, _, _, _, _, _, _, e, _⟩ := T.F_law.ex
  rw [e]
  exact .of_eq rfl
