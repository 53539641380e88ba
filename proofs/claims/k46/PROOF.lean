import PyProof.Rows.All
import Wide.All
import OpenK.AllK
import Wide.FinOn
import HandS.ForMost
import HandS.Codes
import HandS.Exc
import HandS.ExcOwn
import HandS.ExcInit
import HandS.ExcField
import HandS.ExcIs
import HandS.WordsExc
import HandS.IsInst
import KE.KExcIs
import HandS.More
import HandS.Iter
import HandS.DictComp
import HandS.Star
import HandS.FStr
import HandS.Comp
import HandS.CallLocal
import HandS.Defaults
import HandS.Conv
import HandS.Wide
import HandS.Zip
import HandS.Flow
import HandS.SortInts
import HandS.NoneIn
import HandS.Deep
import HandS.Text
import KE.KStateDown
import HandS.Head0
import HandS.Head1
import HandS.Head2
import HandS.HeadEnd
import HandS.HeadHook1
import HandS.HeadHook2
import HandS.HeadHook3
import HandS.HeadHook4
import PySem.Challenge.RW_oneheap_k46_constraints_and_sizes
set_option Elab.async false
set_option linter.all false
set_option maxRecDepth 100000
set_option maxHeartbeats 0
namespace Dv
open PySem PySem.Spec PyProof.Rows L2
set_option autoImplicit false
noncomputable section
/-! ### values as trees -/
inductive D where
  | non | bl (b : Bool) | int (i : Int) | str (s : Str) | st (k : Nat) | ty (n : String)
  | lst (xs : List D) | scr (xs : List D) | tup (xs : List D) | dct (kvs : List (Key × D)) | ins (C : Nat) (fs : List (Str × D))

/-- G is held in H; its dicts may be locked -/
def Inn (G H : Hp) : Prop := ∀ a u, G a = some u → H a = some u ∨ ∃ o kvs, u = .dK kvs ∧ H a = some (.frz o u)

section
variable (K : PySem.W.Frag) (S : Nat → Addr)
mutual
def Rep (G : Hp) : D → V → Prop
  | .non, v => v = .non
  | .bl b, v => v = .bl b
  | .int i, v => v = .int i
  | .str s, v => v = .str s
  | .st k, v => v = .ref (S k)
  | .ty n, v => v = .ty n
  | .lst xs, v => ∃ a vs, v = .ref a ∧ G a = some (.lst vs) ∧ RepL G xs vs
  | .scr xs, v => ∃ a vs, v = .ref a ∧ SqL K G a vs ∧ RepL G xs vs
  | .tup xs, v => ∃ a vs, v = .ref a ∧ SqT K G a vs ∧ RepL G xs vs
  | .dct kvs, v => ∃ a ws, v = .ref a ∧ G a = some (.dK ws) ∧ RepK G kvs ws
  | .ins C fs, v => ∃ a dx ws, v = .ref a ∧ G a = some (.ins (S C) dx ws) ∧ RepF G fs ws
def RepL (G : Hp) : List D → List V → Prop
  | [], vs => vs = []
  | x :: xs, vs => ∃ v ws, vs = v :: ws ∧ Rep G x v ∧ RepL G xs ws
def RepK (G : Hp) : List (Key × D) → List (Key × V) → Prop
  | [], vs => vs = []
  | x :: xs, vs => ∃ v ws, vs = (x.1, v) :: ws ∧ Rep G x.2 v ∧ RepK G xs ws
def RepF (G : Hp) : List (Str × D) → List (Str × V) → Prop
  | [], vs => vs = []
  | x :: xs, vs => ∃ v ws, vs = (x.1, v) :: ws ∧ Rep G x.2 v ∧ RepF G xs ws
end
/-- an object of one's own: its content -/
def RepO (G : Hp) : D → HO → Prop
  | .lst xs, o => ∃ vs, o = .lst vs ∧ RepL K S G xs vs
  | .dct kvs, o => ∃ ws, o = .dK ws ∧ RepK K S G kvs ws
  | .ins C fs, o => ∃ dx ws, o = .ins (S C) dx ws ∧ RepF K S G fs ws
  | _, _ => False
end
section
variable {K : PySem.W.Frag} {S : Nat → Addr}
mutual
theorem Rep.mono {G G' : Hp} (h : Same G G') : ∀ {d : D} {v : V}, Rep K S G d v → Rep K S G' d v
  | .non, _, r => r
  | .bl _, _, r => r
  | .int _, _, r => r
  | .str _, _, r => r
  | .st _, _, r => r
  | .ty _, _, r => r
  | .lst xs, _, ⟨a, vs, e, q, r⟩ => ⟨a, vs, e, h _ _ q, RepL.mono h r⟩
  | .scr xs, _, ⟨a, vs, e, q, r⟩ => ⟨a, vs, e, h.seq q, RepL.mono h r⟩
  | .tup xs, _, ⟨a, vs, e, q, r⟩ => ⟨a, vs, e, q.elim (fun q => .inl (q.elim (fun q => .inl (h _ _ q)) fun ⟨o, q⟩ => .inr ⟨o, h _ _ q⟩)) .inr, RepL.mono h r⟩
  | .dct kvs, _, ⟨a, ws, e, q, r⟩ => ⟨a, ws, e, h _ _ q, RepK.mono h r⟩
  | .ins C fs, _, ⟨a, dx, ws, e, q, r⟩ => ⟨a, dx, ws, e, h _ _ q, RepF.mono h r⟩
theorem RepL.mono {G G' : Hp} (h : Same G G') : ∀ {d : List D} {v : List V}, RepL K S G d v → RepL K S G' d v
  | [], _, r => r
  | x :: xs, _, ⟨v, ws, e, q, r⟩ => ⟨v, ws, e, Rep.mono h q, RepL.mono h r⟩
theorem RepK.mono {G G' : Hp} (h : Same G G') : ∀ {d : List (Key × D)} {v : List (Key × V)}, RepK K S G d v → RepK K S G' d v
  | [], _, r => r
  | x :: xs, _, ⟨v, ws, e, q, r⟩ => ⟨v, ws, e, Rep.mono h q, RepK.mono h r⟩
theorem RepF.mono {G G' : Hp} (h : Same G G') : ∀ {d : List (Str × D)} {v : List (Str × V)}, RepF K S G d v → RepF K S G' d v
  | [], _, r => r
  | x :: xs, _, ⟨v, ws, e, q, r⟩ => ⟨v, ws, e, Rep.mono h q, RepF.mono h r⟩
end
theorem RepO.mono {G G' : Hp} (h : Same G G') : ∀ {d : D} {o : HO}, RepO K S G d o → RepO K S G' d o
  | .lst xs, _, ⟨vs, e, r⟩ => ⟨vs, e, r.mono h⟩
  | .dct kvs, _, ⟨ws, e, r⟩ => ⟨ws, e, r.mono h⟩
  | .ins C fs, _, ⟨dx, ws, e, r⟩ => ⟨dx, ws, e, r.mono h⟩
theorem RepL.iff {G : Hp} : ∀ {xs : List D} {vs : List V}, RepL K S G xs vs ↔ Paired (Rep K S G) xs vs
  | [], vs => ⟨fun h => by cases h; exact .nil, fun h => by cases h; rfl⟩
  | x :: xs, vs => ⟨fun ⟨v, ws, e, q, r⟩ => by subst e; exact .cons q (RepL.iff.mp r), fun h => by
      cases h with
      | cons q r => exact ⟨_, _, rfl, q, RepL.iff.mpr r⟩⟩
theorem RepL.nil {G : Hp} : RepL K S G [] [] := rfl
theorem RepL.cons {G : Hp} {x : D} {v : V} {xs : List D} {vs : List V} (q : Rep K S G x v) (r : RepL K S G xs vs) : RepL K S G (x :: xs) (v :: vs) := ⟨v, vs, rfl, q, r⟩
theorem RepL.length {G : Hp} {xs : List D} {vs : List V} (h : RepL K S G xs vs) : xs.length = vs.length := Paired.length (RepL.iff.mp h)
theorem RepL.app {G : Hp} : ∀ {xs ys : List D} {vs ws : List V}, RepL K S G xs vs → RepL K S G ys ws → RepL K S G (xs ++ ys) (vs ++ ws)
  | [], _, _, _, r, q => by cases r; exact q
  | x :: xs, ys, _, ws, ⟨v, us, e, q, r⟩, q2 => by subst e; exact ⟨v, us ++ ws, rfl, q, r.app q2⟩
theorem RepL.get {G : Hp} : ∀ {xs : List D} {vs : List V} {i : Nat} {x : D}, RepL K S G xs vs → xs[i]? = some x → ∃ v, vs[i]? = some v ∧ Rep K S G x v
  | [], _, _, _, _, e => by simp at e
  | x :: xs, _, 0, y, ⟨v, ws, e, q, r⟩, h => by subst e; simp at h; subst h; exact ⟨v, rfl, q⟩
  | x :: xs, _, i + 1, y, ⟨v, ws, e, q, r⟩, h => by
    subst e
    obtain ⟨u, h1, h2⟩ := r.get (i := i) (x := y) (by simpa using h)
    exact ⟨u, by simpa using h1, h2⟩
theorem RepL.one {G : Hp} {x : D} {vs : List V} (h : RepL K S G [x] vs) : ∃ v, vs = [v] ∧ Rep K S G x v := by
  obtain ⟨v, ws, rfl, q, r⟩ := h
  cases r
  exact ⟨v, rfl, q⟩
theorem RepL.two {G : Hp} {x y : D} {vs : List V} (h : RepL K S G [x, y] vs) : ∃ v w, vs = [v, w] ∧ Rep K S G x v ∧ Rep K S G y w := by
  obtain ⟨v, ws, rfl, q, r⟩ := h
  obtain ⟨w, ws', rfl, q2, r⟩ := r
  cases r
  exact ⟨v, w, rfl, q, q2⟩
theorem RepL.take {G : Hp} : ∀ {xs : List D} {vs : List V} (n : Nat), RepL K S G xs vs → RepL K S G (xs.take n) (vs.take n)
  | _, _, 0, _ => rfl
  | [], _, n + 1, r => by cases r; rfl
  | x :: xs, _, n + 1, ⟨v, ws, e, q, r⟩ => by subst e; exact ⟨v, _, rfl, q, r.take n⟩
theorem RepL.drop {G : Hp} : ∀ {xs : List D} {vs : List V} (n : Nat), RepL K S G xs vs → RepL K S G (xs.drop n) (vs.drop n)
  | _, _, 0, r => r
  | [], _, n + 1, r => by cases r; rfl
  | x :: xs, _, n + 1, ⟨v, ws, e, q, r⟩ => by subst e; exact r.drop n
/-! Inn -/
theorem Inn.seq {G H : Hp} {a : Addr} {xs : List V} (e : Inn G H) (h : SqL K G a xs) : SqL K H a xs := by
  rcases h with (h | ⟨o, h⟩) | h
  · rcases e _ _ h with q | ⟨_, _, q, _⟩
    · exact .inl (.inl q)
    · cases q
  · rcases e _ _ h with q | ⟨_, _, q, _⟩
    · exact .inl (.inr ⟨o, q⟩)
    · cases q
  · exact .inr h
theorem Inn.tup {G H : Hp} {a : Addr} {xs : List V} (e : Inn G H) (h : SqT K G a xs) : SqT K H a xs := by
  rcases h with (h | ⟨o, h⟩) | h
  · rcases e _ _ h with q | ⟨_, _, q, _⟩
    · exact .inl (.inl q)
    · cases q
  · rcases e _ _ h with q | ⟨_, _, q, _⟩
    · exact .inl (.inr ⟨o, q⟩)
    · cases q
  · exact .inr h
theorem Inn.lst {G H : Hp} {a : Addr} {xs : List V} (e : Inn G H) (h : G a = some (.lst xs)) : H a = some (.lst xs) := by
  rcases e _ _ h with q | ⟨_, _, q, _⟩
  · exact q
  · cases q
theorem Inn.dct {G H : Hp} {a : Addr} {ws : List (Key × V)} (e : Inn G H) (h : Rd G a (.dK ws)) : Rd H a (.dK ws) := by
  rcases h with h | ⟨o, h⟩
  · rcases e _ _ h with q | ⟨o, _, q, q2⟩
    · exact .inl q
    · exact .inr ⟨o, q2⟩
  · rcases e _ _ h with q | ⟨_, _, q, _⟩
    · exact .inr ⟨o, q⟩
    · cases q
theorem Inn.ins {G H : Hp} {a C dx : Addr} {ws : List (Str × V)} (e : Inn G H) (h : G a = some (.ins C dx ws)) : H a = some (.ins C dx ws) := by
  rcases e _ _ h with q | ⟨_, _, q, _⟩
  · exact q
  · cases q
theorem Inn.some {G H : Hp} {a : Addr} (e : Inn G H) (h : H a = none) : G a = none := by
  cases q : G a with
  | none => rfl
  | some u =>
    rcases e _ _ q with q | ⟨_, _, _, q⟩
    · rw [h] at q; cases q
    · rw [h] at q; cases q
theorem Inn.up {G H H' : Hp} (e : Inn G H) (s : Same H H') : Inn G H' := fun a u h => (e a u h).elim (fun q => .inl (s _ _ q)) fun ⟨o, kvs, q1, q2⟩ => .inr ⟨o, kvs, q1, s _ _ q2⟩
/-- things are only added -/
structure Ex (G H G' H' : Hp) : Prop where
  g : Same G G'
  h : Same H H'
  inn : Inn G' H'
  new : ∀ a, G' a ≠ none → G a = none → H a = none
theorem Ex.refl {G H : Hp} (i : Inn G H) : Ex G H G H := ⟨.refl _, .refl _, i, fun _ h e => (h e).elim⟩
theorem Ex.trans {G H G1 H1 G2 H2 : Hp} (a : Ex G H G1 H1) (b : Ex G1 H1 G2 H2) : Ex G H G2 H2 := ⟨a.g.trans b.g, a.h.trans b.h, b.inn, fun x h e => by
  by_cases q : G1 x = none
  · have := b.new x h q
    exact a.h.free this
  · exact a.new x q e⟩
theorem same_upd {H : Hp} {p : Addr} {o : HO} (h : H p = none) : Same H (upd H p o) := fun b u e => by rw [upd_ne (ne_of_none e h)]; exact e
theorem Ex.new1 {G H : Hp} {p : Addr} {o : HO} (i : Inn G H) (hp : H p = none) : Ex G H (upd G p o) (upd H p o) := ⟨same_upd (i.some hp), same_upd hp, fun a u e => by
  by_cases h : a = p
  · subst h; rw [upd_same] at e ⊢; exact .inl e
  · rw [upd_ne h] at e ⊢; exact i a u e, fun a h e => by
  by_cases q : a = p
  · subst q; exact hp
  · rw [upd_ne q] at h; exact (h e).elim⟩
theorem Ex.skip {G H : Hp} {p : Addr} {o : HO} (i : Inn G H) (hp : H p = none) : Ex G H G (upd H p o) := ⟨.refl _, same_upd hp, i.up (same_upd hp), fun a h e => (h e).elim⟩
theorem Ex.same {G H H' : Hp} (i : Inn G H) (s : Same H H') : Ex G H G H' := ⟨.refl _, s, i.up s, fun a h e => (h e).elim⟩
end
/-! ### slots, the state of a def -/
inductive Sl where
  | no | val (d : D) | box (d : D) | par (d : D)
abbrev Env := List Sl
structure Base where
  G : Hp
  H : Hp
  r : Option Addr
abbrev Lk := List (Addr × HO)
structure Ste (B : Base) (L : Lk) (G H : Hp) : Prop where
  g0 : Same B.G G
  inn : Inn G H
  new : ∀ a, G a ≠ none → B.G a = none → B.H a = none
  keep : ∀ a o, B.H a = some o → B.r ≠ some a → (∀ p ∈ L, p.1 ≠ a) → H a = some o
  lock : ∀ p ∈ L, H p.1 = some p.2
  par : ∀ a, B.r = some a → G a = none ∧ H a ≠ none ∧ B.H a ≠ none ∧ ∀ p ∈ L, p.1 ≠ a
  out : ∀ p ∈ L, (∀ o u, p.2 ≠ .frz o u) → G p.1 = none
section
variable (K : PySem.W.Frag) (S : Nat → Addr)
def SlOk (B : Base) (G H : Hp) : Sl → Option V → Prop
  | .no, _ => True
  | .val d, x => ∃ v, x = some v ∧ Rep K S G d v
  | .box d, x => ∃ a o, x = some (V.ref a) ∧ G a = none ∧ B.H a = none ∧ H a = some o ∧ RepO K S G d o
  | .par d, x => ∃ a o, x = some (V.ref a) ∧ B.r = some a ∧ H a = some o ∧ RepO K S G d o
def isOwn : Sl → Bool
  | .box _ => true
  | .par _ => true
  | _ => false
structure Rel (B : Base) (L : Lk) (G H : Hp) (env : Env) (σ : L2.St) : Prop where
  at_ : Paired (SlOk K S B G H) env σ
  nd : ∀ (i j : Nat) (s t : Sl) (a : Addr), i ≠ j → env[i]? = some s → env[j]? = some t → isOwn s = true → isOwn t = true → σ[i]? = some (some (V.ref a)) → σ[j]? ≠ some (some (V.ref a))
  nl : ∀ (i : Nat) (s : Sl) (a : Addr), env[i]? = some s → isOwn s = true → σ[i]? = some (some (V.ref a)) → ∀ p ∈ L, p.1 ≠ a
end
section
variable {K : PySem.W.Frag} {S : Nat → Addr} {B : Base} {L : Lk} {G H G' H' : Hp} {env : Env} {σ : L2.St}
theorem Ste.free (s : Ste B L G H) {a : Addr} (h : H a = none) : B.H a = none := by
  cases q : B.H a with
  | none => rfl
  | some o =>
    by_cases hl : ∃ p ∈ L, p.1 = a
    · obtain ⟨p, hp, e⟩ := hl
      have := s.lock p hp
      rw [e, h] at this
      cases this
    · by_cases hr : B.r = some a
      · exact ((s.par a hr).2.1 h).elim
      · have := s.keep a o q hr fun p hp e => hl ⟨p, hp, e⟩
        rw [h] at this
        cases this
theorem Ste.ex (s : Ste B L G H) (x : Ex G H G' H') : Ste B L G' H' where
  g0 := s.g0.trans x.g
  inn := x.inn
  new := fun a h e => by
    by_cases q : G a = none
    · exact s.free (x.new a h q)
    · exact s.new a q e
  keep := fun a o e r l => x.h _ _ (s.keep a o e r l)
  lock := fun p hp => x.h _ _ (s.lock p hp)
  par := fun a r => by
    obtain ⟨h1, h2, h4, h3⟩ := s.par a r
    refine ⟨?_, fun e => h2 (x.h.free e), h4, h3⟩
    cases q : G' a with
    | none => rfl
    | some o => exact (h2 (x.new a (by rw [q]; intro e; cases e) h1)).elim
  out := fun p hp hf => by
    have h1 := s.out p hp hf
    cases q : G' p.1 with
    | none => rfl
    | some o =>
      have := x.new p.1 (by rw [q]; intro e; cases e) h1
      rw [s.lock p hp] at this
      cases this
theorem SlOk.ex (x : Ex G H G' H') {s : Sl} {o : Option V} (h : SlOk K S B G H s o) : SlOk K S B G' H' s o := by
  cases s with
  | no => trivial
  | val d =>
    obtain ⟨v, e, r⟩ := h
    exact ⟨v, e, r.mono x.g⟩
  | box d =>
    obtain ⟨a, o, e, g, b, e2, r⟩ := h
    refine ⟨a, o, e, ?_, b, x.h _ _ e2, r.mono x.g⟩
    cases q : G' a with
    | none => rfl
    | some u =>
      have := x.new a (by rw [q]; intro e; cases e) g
      rw [e2] at this
      cases this
  | par d =>
    obtain ⟨a, o, e, b, e2, r⟩ := h
    exact ⟨a, o, e, b, x.h _ _ e2, r.mono x.g⟩
theorem Rel.ex (r : Rel K S B L G H env σ) (x : Ex G H G' H') : Rel K S B L G' H' env σ := ⟨L2.Paired.mapP r.at_ fun _ _ q => q.ex x, r.nd, r.nl⟩
theorem paired_get {α γ : Type} {F : α → γ → Prop} : ∀ {l : List α} {m : List γ} {i : Nat} {a : α}, Paired F l m → l[i]? = some a → ∃ b, m[i]? = some b ∧ F a b
  | _, _, _, _, .nil, e => by simp at e
  | _, _, 0, _, .cons r _, e => by simp at e; subst e; exact ⟨_, rfl, r⟩
  | _, _, i + 1, a, .cons _ t, e => by
    obtain ⟨u, h1, h2⟩ := paired_get (i := i) (a := a) t (by simpa using e)
    exact ⟨u, by simpa using h1, h2⟩
theorem paired_set {α γ : Type} {F : α → γ → Prop} {a : α} {b : γ} (h : F a b) : ∀ {l : List α} {m : List γ} (i : Nat), Paired F l m → Paired F (l.set i a) (m.set i b)
  | _, _, _, .nil => .nil
  | _, _, 0, .cons _ t => .cons h t
  | _, _, i + 1, .cons q t => .cons q (paired_set h i t)
theorem paired_len {α γ : Type} {F : α → γ → Prop} {l : List α} {m : List γ} (p : Paired F l m) : l.length = m.length := Paired.length p
theorem paired_of {α γ : Type} {F : α → γ → Prop} : ∀ {l : List α} {m : List γ}, l.length = m.length → (∀ (i : Nat) a b, l[i]? = some a → m[i]? = some b → F a b) → Paired F l m
  | [], [], _, _ => .nil
  | a :: l, b :: m, e, h => .cons (h 0 a b rfl rfl) (paired_of (by simpa using e) fun i x y h1 h2 => h (i + 1) x y (by simpa using h1) (by simpa using h2))
end
/-! ### outcomes -/
inductive Res (α : Type) where
  | ok (a : α) (e : Env)
  | ex (C : Nat) (fs : List (Str × D)) (e : Env)
  | no
def Res.bind {α β : Type} (r : Res α) (k : α → Env → Res β) : Res β := match r with
  | .ok a e => k a e
  | .ex C fs e => .ex C fs e
  | .no => .no
def Res.of {α : Type} (o : Option α) (e : Env) : Res α := match o with
  | some a => .ok a e
  | none => .no
section
variable (K : PySem.W.Frag) (S : Nat → Addr) (E : XK)
def XD (G H : Hp) (fs : List (Str × D)) (od : Option Addr) : Prop := (fs = [] ∧ od = none) ∨ ∃ dd ws, od = some dd ∧ H dd = some (.xd ws) ∧ RepF K S G fs ws
def Post {α : Type} (B : Base) (L : Lk) (σ : L2.St) (G : Hp) (P : Hp → Hp → α → Env → Prop) : Res α → Prop
  | .ok a env => ∀ G' H', Same G G' → Ste B L G' H' → Rel K S B L G' H' env σ → P G' H' a env
  | .ex C fs env => ∀ od G' H', Same G G' → Ste B L G' H' → Rel K S B L G' H' env σ → XD K S G' H' fs od → E (Value.ref (S C)) od H'
  | .no => False
end
section
variable {K : PySem.W.Frag} {S : Nat → Addr} {E : XK} {B : Base} {L : Lk} {G G1 H G' H' : Hp} {env : Env} {σ : L2.St} {α β : Type} {r : Res α} {P P' : Hp → Hp → α → Env → Prop}
theorem Post.imp (h : Post K S E B L σ G P r) (f : ∀ G' H' a e, Same G G' → Ste B L G' H' → Rel K S B L G' H' e σ → P G' H' a e → P' G' H' a e) : Post K S E B L σ G P' r := by
  cases r with
  | ok a e => exact fun G' H' s st rl => f _ _ _ _ s st rl (h G' H' s st rl)
  | ex C fs e => exact h
  | no => exact h
theorem Post.up (h : Post K S E B L σ G P r) (s : Same G G1) : Post K S E B L σ G1 P r := by
  cases r with
  | ok a e => exact fun G' H' s' => h G' H' (s.trans s')
  | ex C fs e => exact fun od G' H' s' => h od G' H' (s.trans s')
  | no => exact h
theorem Post.bind {k : α → Env → Res β} {P : Hp → Hp → β → Env → Prop} (h : Post K S E B L σ G P (r.bind k)) : Post K S E B L σ G (fun G' H' a e => Post K S E B L σ G' P (k a e)) r := by
  cases r with
  | ok a e => exact fun G' H' s st rl => Post.up h s
  | ex C fs e => exact h
  | no => exact h
/-- bind, with what is known behind the first -/
theorem Post.then {k : α → Env → Res β} {P : Hp → Hp → β → Env → Prop} (h : Post K S E B L σ G P (r.bind k)) (f : ∀ G' H' a e, Same G G' → Ste B L G' H' → Rel K S B L G' H' e σ → Post K S E B L σ G' P (k a e) → P' G' H' a e) : Post K S E B L σ G P' r := (Post.bind h).imp f
theorem Post.of {o : Option α} {e : Env} (h : Post K S E B L σ G P (.of o e)) (st : Ste B L G H) (rl : Rel K S B L G H e σ) : ∃ a, o = some a ∧ ∀ G' H', Ex G H G' H' → P G' H' a e := by
  cases o with
  | none => exact h.elim
  | some a => exact ⟨a, rfl, fun G' H' x => h G' H' x.g (st.ex x) (rl.ex x)⟩
end
abbrev Ev := Env → Res D
abbrev EvT := Env → Res Bool
section
variable (K : PySem.W.Frag) (S : Nat → Addr) (E : XK)
def Tx {α γ : Type} (R : Hp → L2.St → α → γ → Prop) (f : Env → Res α) : L2.St → Hp → (γ → Hp → Prop) → Prop := fun σ H Q =>
  ∃ (B : Base) (L : Lk) (G : Hp) (env : Env), Ste B L G H ∧ Rel K S B L G H env σ ∧ Post K S E B L σ G (fun G' H' a _ => ∀ v, R G' σ a v → Q v H') (f env)
abbrev TD (f : Ev) : TE := Tx K S E (fun G _ d v => Rep K S G d v) f
abbrev TB (f : EvT) : TT := Tx K S E (fun _ _ b c => b = c) f
/-- the value is an object of one's own -/
def TF (f : Ev) : TE := fun σ H Q =>
  ∃ (B : Base) (L : Lk) (G : Hp) (env : Env), Ste B L G H ∧ Rel K S B L G H env σ ∧ Post K S E B L σ G (fun G' H' d e => ∀ a o, G' a = none → B.H a = none → H' a = some o → (∀ (i : Nat) (s : Sl), e[i]? = some s → isOwn s = true → σ[i]? ≠ some (some (V.ref a))) → (∀ p ∈ L, p.1 ≠ a) → RepO K S G' d o → Q (.ref a) H') (f env)
end
section
variable {K : PySem.W.Frag} {S : Nat → Addr} {X : Cx} {E : XK}
abbrev QE (S : Nat → Addr) (X : Cx) (E : XK) (e : Expr) (f : Ev) : Prop := PE X e (TD X.K S E f)
abbrev QF (S : Nat → Addr) (X : Cx) (E : XK) (e : Expr) (f : Ev) : Prop := PE X e (TF X.K S E f)
abbrev QT (S : Nat → Addr) (X : Cx) (E : XK) (e : Expr) (f : EvT) : Prop := PT X e (TB X.K S E f)
abbrev QW (S : Nat → Addr) (X : Cx) (E : XK) (e : Expr) (f : EvT) : Prop := PW X e (TB X.K S E f)
theorem pe_of {e : Expr} {t u : TE} (p : PE X e t) (h : ∀ σ H Q, u σ H Q → t σ H Q) : PE X e u := ⟨fun pins s σ H Q I q => p.run pins s σ H Q I (h σ H Q q)⟩
theorem pt_of {e : Expr} {t u : TT} (p : PT X e t) (h : ∀ σ H Q, u σ H Q → t σ H Q) : PT X e u := ⟨fun pins s σ H Q I q => p.run pins s σ H Q I (h σ H Q q)⟩
theorem pw_of {e : Expr} {t u : TT} (p : PW X e t) (h : ∀ σ H Q, u σ H Q → t σ H Q) : PW X e u := ⟨fun w pins s σ H Q I q => p.run w pins s σ H Q I (h σ H Q q)⟩
theorem pa_of {es : List Expr} {t u : TA} (p : PA X es t) (h : ∀ σ H Q, u σ H Q → t σ H Q) : PA X es u := ⟨fun pos pins s σ H Q I q => p.run pos pins s σ H Q I (h σ H Q q)⟩
theorem ps_of {st : Stmt} {t u : TS} (p : PS X st t) (h : ∀ D σ H, u D σ H → t D σ H) : PS X st u := ⟨fun pins s σ H D I q => p.run pins s σ H D I (h D σ H q)⟩
theorem pss_of {st : List Stmt} {t u : TS} (p : PSs X st t) (h : ∀ D σ H, u D σ H → t D σ H) : PSs X st u := ⟨fun pins s σ H D I q => p.run pins s σ H D I (h D σ H q)⟩
/-- an object of one's own becomes a value for ever -/
theorem freeze {B : Base} {L : Lk} {G H : Hp} {env : Env} {σ : L2.St} {a : Addr} {o : HO} {d : D} (st : Ste B L G H) (rl : Rel K S B L G H env σ) (ga : G a = none) (ba : B.H a = none) (ha : H a = some o) (hn : ∀ (i : Nat) (s : Sl), env[i]? = some s → isOwn s = true → σ[i]? ≠ some (some (V.ref a))) (hl : ∀ p ∈ L, p.1 ≠ a) (r : RepO K S G d o) :
    Same G (upd G a o) ∧ Ste B L (upd G a o) H ∧ Rel K S B L (upd G a o) H env σ ∧ Rep K S (upd G a o) d (.ref a) := by
  have sm : Same G (upd G a o) := same_upd ga
  refine ⟨sm, ⟨st.g0.trans sm, fun b u e => ?_, fun b h e => ?_, st.keep, st.lock, fun b e => ?_, fun p hp hf => by rw [upd_ne (hl p hp)]; exact st.out p hp hf⟩, ⟨?_, rl.nd, rl.nl⟩, ?_⟩
  · by_cases hb : b = a
    · subst hb; rw [upd_same] at e; cases e; exact .inl ha
    · rw [upd_ne hb] at e; exact st.inn _ _ e
  · by_cases hb : b = a
    · subst hb; exact ba
    · rw [upd_ne hb] at h; exact st.new b h e
  · obtain ⟨h1, h2, h4, h3⟩ := st.par b e
    refine ⟨?_, h2, h4, h3⟩
    by_cases hb : b = a
    · subst hb; exact (h4 ba).elim
    · rw [upd_ne hb]; exact h1
  · refine paired_of (paired_len rl.at_) fun i s x h1 h2 => ?_
    obtain ⟨x', h3, q⟩ := paired_get rl.at_ h1
    rw [h2] at h3
    cases h3
    cases s with
    | no => trivial
    | val d' =>
      obtain ⟨v, e, r'⟩ := q
      exact ⟨v, e, r'.mono sm⟩
    | box d' =>
      obtain ⟨b, o', e, g, bb, e2, r'⟩ := q
      refine ⟨b, o', e, ?_, bb, e2, r'.mono sm⟩
      rw [upd_ne]
      · exact g
      · intro eb
        subst eb
        exact hn i _ h1 rfl (by rw [h2, e])
    | par d' =>
      obtain ⟨b, o', e, bb, e2, r'⟩ := q
      exact ⟨b, o', e, bb, e2, r'.mono sm⟩
  · cases d with
    | lst xs =>
      obtain ⟨vs, rfl, q⟩ := r
      exact ⟨a, vs, rfl, upd_same, q.mono sm⟩
    | dct kvs =>
      obtain ⟨ws, rfl, q⟩ := r
      exact ⟨a, ws, rfl, upd_same, q.mono sm⟩
    | ins C fs =>
      obtain ⟨dx, ws, rfl, q⟩ := r
      exact ⟨a, dx, ws, rfl, upd_same, q.mono sm⟩
    | _ => exact r.elim
/-- what is one's own is a value -/
theorem q_fr {e : Expr} {f : Ev} (h : QF S X E e f) : QE S X E e f := pe_of h fun σ H Q ⟨B, L, G, env, st, rl, p⟩ => ⟨B, L, G, env, st, rl, by
  revert p
  cases f env with
  | no => exact fun p => p
  | ex C fs e' => exact fun p => p
  | ok d e' =>
    intro p G' H' sm st' rl' a o ga ba ha hn hl r
    obtain ⟨s1, s2, s3, s4⟩ := freeze st' rl' ga ba ha hn hl r
    exact p _ H' (sm.trans s1) s2 s3 _ s4⟩
end
end
end Dv
namespace Dv
open PySem PySem.Spec PyProof.Rows L2
set_option autoImplicit false
noncomputable section
section
variable {K : PySem.W.Frag} {S : Nat → Addr} {X : Cx} {E : XK} {a b c e : Expr} {ea eb ec ee : Ev} {pos : Pos}
/-! ### names -/
/-- a value at a slot; an object of one's own becomes a value -/
def xVar (i : Nat) : Ev := fun env => match env[i]? with
  | some (.val d) => .ok d env
  | some (.box d) => .ok d (env.set i (.val d))
  | _ => .no
/-- a value at a slot -/
def xVal (i : Nat) : Ev := fun env => match env[i]? with
  | some (.val d) => .ok d env
  | _ => .no
theorem rel_at {B : Base} {L : Lk} {G H : Hp} {env : Env} {σ : L2.St} {i : Nat} {s : Sl} (rl : Rel K S B L G H env σ) (h : env[i]? = some s) : ∃ x, σ[i]? = some x ∧ SlOk K S B G H s x := paired_get rl.at_ h
theorem set_at {α : Type} {l : List α} {i j : Nat} {a b : α} (h : (l.set i a)[j]? = some b) : (j = i ∧ b = a) ∨ (j ≠ i ∧ l[j]? = some b) := by
  by_cases e : j = i
  · subst e
    by_cases hl : j < l.length
    · rw [List.getElem?_set_self hl] at h
      cases h
      exact .inl ⟨rfl, rfl⟩
    · rw [List.getElem?_eq_none_iff.mpr (by rw [List.length_set]; omega)] at h
      cases h
  · rw [List.getElem?_set_ne (fun q => e q.symm)] at h
    exact .inr ⟨e, h⟩
/-- a slot's content is forgotten as one's own -/
theorem rel_val {B : Base} {L : Lk} {G H : Hp} {env : Env} {σ : L2.St} {i : Nat} {d : D} (rl : Rel K S B L G H env σ) (h : ∀ x, σ[i]? = some x → SlOk K S B G H (.val d) x) : Rel K S B L G H (env.set i (.val d)) σ := by
  refine ⟨paired_of (by rw [List.length_set]; exact paired_len rl.at_) fun j s x h1 h2 => ?_, fun j k s t v hjk h1 h2 o1 o2 => ?_, fun j s v h1 o1 => ?_⟩
  · rcases set_at h1 with ⟨rfl, rfl⟩ | ⟨hj, h1⟩
    · exact h x h2
    · obtain ⟨y, e, q⟩ := rel_at rl h1
      rw [h2] at e
      cases e
      exact q
  · rcases set_at h1 with ⟨rfl, rfl⟩ | ⟨hj, h1⟩
    · cases o1
    · rcases set_at h2 with ⟨rfl, rfl⟩ | ⟨hk, h2⟩
      · cases o2
      · exact rl.nd j k s t v hjk h1 h2 o1 o2
  · rcases set_at h1 with ⟨rfl, rfl⟩ | ⟨hj, h1⟩
    · cases o1
    · exact rl.nl j s v h1 o1
theorem rel_no {B : Base} {L : Lk} {G H : Hp} {env : Env} {σ : L2.St} {i : Nat} (rl : Rel K S B L G H env σ) : Rel K S B L G H (env.set i .no) σ := by
  refine ⟨paired_of (by rw [List.length_set]; exact paired_len rl.at_) fun j s x h1 h2 => ?_, fun j k s t v hjk h1 h2 o1 o2 => ?_, fun j s v h1 o1 => ?_⟩
  · rcases set_at h1 with ⟨rfl, rfl⟩ | ⟨hj, h1⟩
    · trivial
    · obtain ⟨y, e, q⟩ := rel_at rl h1
      rw [h2] at e
      cases e
      exact q
  · rcases set_at h1 with ⟨rfl, rfl⟩ | ⟨hj, h1⟩
    · cases o1
    · rcases set_at h2 with ⟨rfl, rfl⟩ | ⟨hk, h2⟩
      · cases o2
      · exact rl.nd j k s t v hjk h1 h2 o1 o2
  · rcases set_at h1 with ⟨rfl, rfl⟩ | ⟨hj, h1⟩
    · cases o1
    · exact rl.nl j s v h1 o1
/-- a box becomes a value -/
theorem thaw {B : Base} {L : Lk} {G H : Hp} {env : Env} {σ : L2.St} {i : Nat} {d : D} (st : Ste B L G H) (rl : Rel K S B L G H env σ) (h : env[i]? = some (.box d)) :
    ∃ (v : V) (G' : Hp), σ[i]? = some (some v) ∧ Same G G' ∧ Ste B L G' H ∧ Rel K S B L G' H (env.set i (.val d)) σ ∧ Rep K S G' d v := by
  obtain ⟨x, hx, p, o, rfl, gp, bp, hp, r⟩ := rel_at rl h
  have rl2 := rel_no (i := i) rl
  obtain ⟨s1, s2, s3, s4⟩ := freeze st rl2 gp bp hp (fun j s h1 o1 q => by
    rcases set_at h1 with ⟨rfl, rfl⟩ | ⟨hj, h1⟩
    · cases o1
    · exact rl.nd i j _ s p (fun e => hj e.symm) h h1 rfl o1 hx q) (fun q hq => rl.nl i _ p h rfl hx q hq) r
  refine ⟨.ref p, _, hx, s1, s2, ?_, s4⟩
  have := rel_val (i := i) (d := d) s3 (fun y hy => by
    rw [hx] at hy
    cases hy
    exact ⟨_, rfl, s4⟩)
  rw [List.set_set] at this
  exact this
theorem q_var {i : Nat} (p : PE X e (tVar i)) : QE S X E e (xVar i) := pe_of p fun σ H Q ⟨B, L, G, env, st, rl, po⟩ => by
  unfold xVar at po
  split at po
  · rename_i d h
    obtain ⟨x, hx, v, rfl, r⟩ := rel_at rl h
    exact ⟨v, hx, po G H (.refl _) st rl v r⟩
  · rename_i d h
    obtain ⟨v, G', hx, s1, s2, s3, s4⟩ := thaw st rl h
    exact ⟨v, hx, po G' H s1 s2 s3 v s4⟩
  · exact po.elim
theorem q_vl {i : Nat} (p : PE X e (tVar i)) : QE S X E e (xVal i) := pe_of p fun σ H Q ⟨B, L, G, env, st, rl, po⟩ => by
  unfold xVal at po
  split at po
  · rename_i d h
    obtain ⟨x, hx, v, rfl, r⟩ := rel_at rl h
    exact ⟨v, hx, po G H (.refl _) st rl v r⟩
  · exact po.elim
def xC (d : D) : Ev := fun env => .ok d env
theorem q_c {d : D} {v : V} (p : PE X e (tC v)) (r : ∀ G, Rep X.K S G d v) : QE S X E e (xC d) := pe_of p fun σ H Q ⟨B, L, G, env, st, rl, po⟩ => po G H (.refl _) st rl v (r G)
def xNo {α : Type} : Env → Res α := fun _ => .no
theorem q_no : QE S X E e xNo := ⟨fun _ _ _ _ _ _ ⟨_, _, _, _, _, _, po⟩ => po.elim⟩
/-! ### operations -/
abbrev FO := D → D → Option D
def SOp (K : PySem.W.Frag) (S : Nat → Addr) (f : FO) (r : R2) : Prop := ∀ (G H : Hp) (x y d : D) (v w : V) (Q : VK), Inn G H → Rep K S G x v → Rep K S G y w → f x y = some d → (∀ G' H' u, Ex G H G' H' → Rep K S G' d u → Q u H') → r v w H Q
abbrev FU := D → Option D
def SUn (K : PySem.W.Frag) (S : Nat → Addr) (f : FU) (r : V → Hp → VK → Prop) : Prop := ∀ (G H : Hp) (x d : D) (v : V) (Q : VK), Inn G H → Rep K S G x v → f x = some d → (∀ G' H' u, Ex G H G' H' → Rep K S G' d u → Q u H') → r v H Q
abbrev FC := List D → Option D
def SCl (K : PySem.W.Frag) (S : Nat → Addr) (f : FC) (r : List V → Hp → VK → Prop) : Prop := ∀ (G H : Hp) (xs : List D) (d : D) (vs : List V) (Q : VK), Inn G H → RepL K S G xs vs → f xs = some d → (∀ G' H' u, Ex G H G' H' → Rep K S G' d u → Q u H') → r vs H Q
def r2or (a b : R2) : R2 := fun x y H Q => a x y H Q ∨ b x y H Q
theorem opOr {f : Value → Value → Sem Value} {r r' : R2} (a : OpR X f r) (b : OpR X f r') : OpR X f (r2or r r') := fun pins s σ H x y v u Q I r1 r2 h => h.elim (a pins s σ H x y v u Q I r1 r2) (b pins s σ H x y v u Q I r1 r2)
def xOp (f : FO) (a b : Ev) : Ev := fun env => (a env).bind fun x e1 => (b e1).bind fun y e2 => .of (f x y) e2
theorem snd_op {f : FO} {r : R2} {σ : L2.St} {H : Hp} {Q : VK} (so : SOp K S f r) (q : TD K S E (xOp f ea eb) σ H Q) : tOp r (TD K S E ea) (TD K S E eb) σ H Q := by
  obtain ⟨B, L, G, env, st, rl, po⟩ := q
  exact ⟨B, L, G, env, st, rl, po.then fun G1 H1 x e1 sm1 st1 rl1 p1 v rv => ⟨B, L, G1, e1, st1, rl1, p1.then fun G2 H2 y e2 sm2 st2 rl2 p2 w rw' => by
    obtain ⟨d, hd, k⟩ := p2.of st2 rl2
    exact so G2 H2 x y d v w Q st2.inn (rv.mono sm2) rw' hd fun G' H' u ex ru => k G' H' ex u ru⟩⟩
theorem q_op {op : Operator} {f : FO} {r : R2} (ho : OpR X (binaryOp op) r) (so : SOp X.K S f r) (ha : QE S X E a ea) (hb : QE S X E b eb) : QE S X E (.BinOp a op b pos) (xOp f ea eb) := pe_of (pe_op ho ha hb) fun _ _ _ q => snd_op so q
theorem q_cmp {op : CmpOp} {f : FO} {r : R2} (ho : OpR X (compareOp op) r) (so : SOp X.K S f r) (ha : QE S X E a ea) (hb : QE S X E b eb) (hm : behindInMarks op b = false) : QE S X E (.Compare a [op] [b] pos) (xOp f ea eb) := pe_of (pe_cmpR ho ha hb hm) fun _ _ _ q => snd_op so q
theorem q_ix {f : FO} {r : R2} (ho : IxR X r) (so : SOp X.K S f r) (ha : QE S X E a ea) (hb : QE S X E b eb) (hs : PlainIx b) : QE S X E (.Subscript a b pos) (xOp f ea eb) := pe_of (pe_ix ho ha hb hs) fun _ _ _ q => snd_op so q
def xUn (f : FU) (a : Ev) : Ev := fun env => (a env).bind fun x e1 => .of (f x) e1
theorem q_un {op : UnaryOp} {f : FU} {r : V → Hp → VK → Prop} (ho : UnR X (unaryOp op) r) (so : SUn X.K S f r) (ha : QE S X E a ea) : QE S X E (.UnaryOp op a pos) (xUn f ea) := pe_of (pe_un ho ha) fun σ H Q ⟨B, L, G, env, st, rl, po⟩ => ⟨B, L, G, env, st, rl, po.then fun G1 H1 x e1 sm1 st1 rl1 p1 v rv => by
    obtain ⟨d, hd, k⟩ := p1.of st1 rl1
    exact so G1 H1 x d v Q st1.inn rv hd fun G' H' u ex ru => k G' H' ex u ru⟩
def oNot : FU := fun x => match x with
  | .bl b => some (.bl (!b))
  | _ => none
theorem q_not (ha : QE S X E a ea) : QE S X E (.UnaryOp .Not a pos) (xUn oNot ea) := pe_of (pe_not ha) fun σ H Q ⟨B, L, G, env, st, rl, po⟩ => ⟨B, L, G, env, st, rl, po.then fun G1 H1 x e1 sm1 st1 rl1 p1 v rv => by
    obtain ⟨d, hd, k⟩ := p1.of st1 rl1
    cases x with
    | bl b => cases hd; exact ⟨b, rv, k G1 H1 (.refl st1.inn) _ rfl⟩
    | _ => cases hd⟩
/-! chains -/
def xChain (f g : FO) (a b c : Ev) : Ev := fun env => (a env).bind fun x e1 => (b e1).bind fun y e2 => match f x y with
  | some (.bl true) => (c e2).bind fun z e3 => .of (g y z) e3
  | some (.bl false) => .ok (.bl false) e2
  | _ => .no
theorem snd_chain {f g : FO} {r r' : R2} {σ : L2.St} {H : Hp} {Q : VK} (so : SOp K S f r) (so' : SOp K S g r') (q : TD K S E (xChain f g ea eb ec) σ H Q) : tChain r r' (TD K S E ea) (TD K S E eb) (TD K S E ec) σ H Q := by
  obtain ⟨B, L, G, env, st, rl, po⟩ := q
  refine ⟨B, L, G, env, st, rl, po.then fun G1 H1 x e1 sm1 st1 rl1 p1 v rv => ⟨B, L, G1, e1, st1, rl1, p1.then fun G2 H2 y e2 sm2 st2 rl2 p2 w rw' => ?_⟩⟩
  split at p2
  · rename_i hf
    refine so G2 H2 x y _ v w _ st2.inn (rv.mono sm2) rw' hf fun G3 H3 u ex ru => ?_
    cases ru
    refine ⟨true, rfl, ?_⟩
    rw [if_pos rfl]
    exact ⟨B, L, G3, e2, st2.ex ex, rl2.ex ex, (p2.up ex.g).then fun G4 H4 z e3 sm4 st4 rl4 p4 w' rz => by
      obtain ⟨d, hd, k⟩ := p4.of st4 rl4
      exact so' G4 H4 y z d w w' Q st4.inn ((rw'.mono ex.g).mono sm4) rz hd fun G' H' u ex ru => k G' H' ex u ru⟩
  · rename_i hf
    refine so G2 H2 x y _ v w _ st2.inn (rv.mono sm2) rw' hf fun G3 H3 u ex ru => ?_
    cases ru
    refine ⟨false, rfl, ?_⟩
    rw [if_neg (by decide)]
    exact p2 G3 H3 ex.g (st2.ex ex) (rl2.ex ex) _ rfl
  · exact p2.elim
theorem q_chain {op op' : CmpOp} {f g : FO} {r r' : R2} (ho : OpR X (compareOp op) r) (ho' : OpR X (compareOp op') r') (so : SOp X.K S f r) (so' : SOp X.K S g r') (ha : QE S X E a ea) (hb : QE S X E b eb) (hc : QE S X E c ec)
    (hm : lastMarks [op, op'] [b, c] = false := by with_unfolding_all rfl) : QE S X E (.Compare a [op, op'] [b, c] pos) (xChain f g ea eb ec) := pe_of (pe_chain ho ho' ha hb hc hm) fun _ _ _ q => snd_chain so so' q
/-! ### tests -/
def xTest (a : Ev) : EvT := fun env => (a env).bind fun x e1 => match x with
  | .bl b => .ok b e1
  | _ => .no
theorem snd_test {ta : TE} {σ : L2.St} {H : Hp} {Q : Bool → Hp → Prop} (hi : ∀ Q, TD K S E ea σ H Q → ta σ H Q) (q : TB K S E (xTest ea) σ H Q) : tB ta σ H Q := by
  obtain ⟨B, L, G, env, st, rl, po⟩ := q
  refine hi _ ⟨B, L, G, env, st, rl, po.then fun G1 H1 x e1 sm1 st1 rl1 p1 v rv => ?_⟩
  cases x with
  | bl b => exact ⟨b, rv, p1 G1 H1 (.refl _) st1 rl1 b rfl⟩
  | _ => exact p1.elim
theorem q_val (ha : QE S X E a ea) (he : ∀ whole, isTrue a X.env whole = (do let v ← whole; standAt a.pos; holding [v] (truthy v)) := by intro _; rfl) : QT S X E a (xTest ea) := pt_of (pt_val ha he) fun _ _ _ q => snd_test (fun _ h => h) q
theorem q_cmpT {op : CmpOp} {f : FO} {r : R2} (ho : OpR X (compareOp op) r) (so : SOp X.K S f r) (ha : QE S X E a ea) (hb : QE S X E b eb) (hm : behindInMarks op b = false) : QT S X E (.Compare a [op] [b] pos) (xTest (xOp f ea eb)) := pt_of (pt_cmpR ho ha hb hm) fun _ _ _ q => snd_test (fun _ h => snd_op so h) q
theorem q_chainT {op op' : CmpOp} {f g : FO} {r r' : R2} (ho : OpR X (compareOp op) r) (ho' : OpR X (compareOp op') r') (so : SOp X.K S f r) (so' : SOp X.K S g r') (ha : QE S X E a ea) (hb : QE S X E b eb) (hc : QE S X E c ec)
    (hm : lastMarks [op, op'] [b, c] = false := by with_unfolding_all rfl) : QT S X E (.Compare a [op, op'] [b, c] pos) (xTest (xChain f g ea eb ec)) := pt_of (pt_chain ho ho' ha hb hc hm) fun _ _ _ q => snd_test (fun _ h => snd_chain so so' h) q
variable {et eu : EvT} {rest : List Expr}
def xNotT (a : EvT) : EvT := fun env => (a env).bind fun x e1 => .ok (!x) e1
theorem q_notT (ha : QT S X E a et) : QT S X E (.UnaryOp .Not a pos) (xNotT et) := pt_of (pt_not ha) fun σ H Q ⟨B, L, G, env, st, rl, po⟩ => ⟨B, L, G, env, st, rl, po.then fun G1 H1 x e1 sm1 st1 rl1 p1 v rv => by
  cases rv
  exact p1 G1 H1 (.refl _) st1 rl1 _ rfl⟩
def xAndT (a b : EvT) : EvT := fun env => (a env).bind fun x e1 => match x with
  | true => b e1
  | false => .ok false e1
def xOrT (a b : EvT) : EvT := fun env => (a env).bind fun x e1 => match x with
  | true => .ok true e1
  | false => b e1
theorem q_wand1 (ha : QT S X E a et) : QW S X E (.BoolOp .And [a] pos) et := pw_and1 ha
theorem q_wor1 (ha : QT S X E a et) : QW S X E (.BoolOp .Or [a] pos) et := pw_or1 ha
theorem q_wand (ha : QT S X E a et) (hb : QW S X E (.BoolOp .And (b :: rest) pos) eu) : QW S X E (.BoolOp .And (a :: b :: rest) pos) (xAndT et eu) := pw_of (pw_and ha hb) fun σ H Q ⟨B, L, G, env, st, rl, po⟩ => ⟨B, L, G, env, st, rl, po.then fun G1 H1 x e1 sm1 st1 rl1 p1 v rv => by
  cases rv
  cases x with
  | true => exact ⟨B, L, G1, e1, st1, rl1, p1⟩
  | false => exact p1 G1 H1 (.refl _) st1 rl1 _ rfl⟩
theorem q_wor (ha : QT S X E a et) (hb : QW S X E (.BoolOp .Or (b :: rest) pos) eu) : QW S X E (.BoolOp .Or (a :: b :: rest) pos) (xOrT et eu) := pw_of (pw_or ha hb) fun σ H Q ⟨B, L, G, env, st, rl, po⟩ => ⟨B, L, G, env, st, rl, po.then fun G1 H1 x e1 sm1 st1 rl1 p1 v rv => by
  cases rv
  cases x with
  | true => exact p1 G1 H1 (.refl _) st1 rl1 _ rfl
  | false => exact ⟨B, L, G1, e1, st1, rl1, p1⟩⟩
theorem q_pt (h : QW S X E a et) : QT S X E a et := PW.pt h
/-! and, or as values -/
def xAndV (a b : Ev) : Ev := fun env => (a env).bind fun x e1 => match x with
  | .bl true => b e1
  | .bl false => .ok (.bl false) e1
  | _ => .no
def xOrV (a b : Ev) : Ev := fun env => (a env).bind fun x e1 => match x with
  | .bl true => .ok (.bl true) e1
  | .bl false => b e1
  | _ => .no
theorem q_one {op : BoolOp} (h : QE S X E a ea) : QE S X E (.BoolOp op [a] pos) ea := pe_one h
theorem q_and (ha : QE S X E a ea) (hb : QE S X E (.BoolOp .And (b :: rest) pos) eb) : QE S X E (.BoolOp .And (a :: b :: rest) pos) (xAndV ea eb) := pe_of (pe_and ha hb) fun σ H Q ⟨B, L, G, env, st, rl, po⟩ => ⟨B, L, G, env, st, rl, po.then fun G1 H1 x e1 sm1 st1 rl1 p1 v rv => by
  cases x with
  | bl c =>
    refine ⟨c, rv, ?_⟩
    cases c with
    | true => exact ⟨B, L, G1, e1, st1, rl1, p1⟩
    | false => exact p1 G1 H1 (.refl _) st1 rl1 _ rfl
  | _ => exact p1.elim⟩
theorem q_or (ha : QE S X E a ea) (hb : QE S X E (.BoolOp .Or (b :: rest) pos) eb) : QE S X E (.BoolOp .Or (a :: b :: rest) pos) (xOrV ea eb) := pe_of (pe_or ha hb) fun σ H Q ⟨B, L, G, env, st, rl, po⟩ => ⟨B, L, G, env, st, rl, po.then fun G1 H1 x e1 sm1 st1 rl1 p1 v rv => by
  cases x with
  | bl c =>
    refine ⟨c, rv, ?_⟩
    cases c with
    | true => exact p1 G1 H1 (.refl _) st1 rl1 _ rfl
    | false => exact ⟨B, L, G1, e1, st1, rl1, p1⟩
  | _ => exact p1.elim⟩
def xIf (t : EvT) (a b : Ev) : Ev := fun env => (t env).bind fun x e1 => match x with
  | true => a e1
  | false => b e1
theorem q_if {c : Expr} (hc : QT S X E c et) (ha : QE S X E a ea) (hb : QE S X E b eb) : QE S X E (.IfExp c a b pos) (xIf et ea eb) := pe_of (pe_ifExp hc ha hb) fun σ H Q ⟨B, L, G, env, st, rl, po⟩ => ⟨B, L, G, env, st, rl, po.then fun G1 H1 x e1 sm1 st1 rl1 p1 v rv => by
  cases rv
  cases x with
  | true => exact ⟨B, L, G1, e1, st1, rl1, p1⟩
  | false => exact ⟨B, L, G1, e1, st1, rl1, p1⟩⟩
/-! ### lists of arguments -/
abbrev EvA := Env → Res (List D)
abbrev TAe (K : PySem.W.Frag) (S : Nat → Addr) (E : XK) (f : EvA) : TA := Tx K S E (fun G _ d v => RepL K S G d v) f
abbrev QA (S : Nat → Addr) (X : Cx) (E : XK) (es : List Expr) (f : EvA) : Prop := PA X es (TAe X.K S E f)
def xNil : EvA := fun env => .ok [] env
def xCons (a : Ev) (r : EvA) : EvA := fun env => (a env).bind fun x e1 => (r e1).bind fun xs e2 => .ok (x :: xs) e2
variable {es : List Expr} {er : EvA}
theorem q_nil : QA S X E [] xNil := pa_of pa_nil fun σ H Q ⟨B, L, G, env, st, rl, po⟩ => po G H (.refl _) st rl [] rfl
theorem q_cons (ha : QE S X E a ea) (hr : QA S X E es er) (hs : starEach (a :: es) X.env = (false, eval a X.env) :: starEach es X.env := by rfl) : QA S X E (a :: es) (xCons ea er) := pa_of (pa_cons ha hr hs) fun σ H Q ⟨B, L, G, env, st, rl, po⟩ => ⟨B, L, G, env, st, rl, po.then fun G1 H1 x e1 sm1 st1 rl1 p1 v rv => ⟨B, L, G1, e1, st1, rl1, p1.then fun G2 H2 xs e2 sm2 st2 rl2 p2 vs rvs => p2 G2 H2 (.refl _) st2 rl2 _ ((RepL.cons (rv.mono sm2) rvs))⟩⟩
theorem line10 {n : Nat} (h : n ≤ 1000000) : n ≤ sizeLine := by
  have : sizeLine = 16777216 := sizeLine_eq
  omega
/-! displays -/
def xLst (r : EvA) : Ev := fun env => (r env).bind fun xs e => if xs.length ≤ 1000000 then .ok (.lst xs) e else .no
def xTup (r : EvA) : Ev := fun env => (r env).bind fun xs e => if xs.length ≤ 1000000 then .ok (.tup xs) e else .no
/-- a new object -/
theorem Rel.fresh {B : Base} {L : Lk} {G H : Hp} {env : Env} {σ : L2.St} (rl : Rel K S B L G H env σ) {p : Addr} (hp : H p = none) : ∀ (i : Nat) (s : Sl), env[i]? = some s → isOwn s = true → σ[i]? ≠ some (some (V.ref p)) := fun i s h1 h2 h3 => by
  obtain ⟨x, hx, q⟩ := rel_at rl h1
  rw [h3] at hx
  cases hx
  cases s with
  | box d =>
    obtain ⟨a, o, e, _, _, e2, _⟩ := q
    cases e
    rw [hp] at e2
    cases e2
  | par d =>
    obtain ⟨a, o, e, _, e2, _⟩ := q
    cases e
    rw [hp] at e2
    cases e2
  | _ => cases h2
theorem Ste.nolock {B : Base} {L : Lk} {G H : Hp} (st : Ste B L G H) {p : Addr} (hp : H p = none) : ∀ q ∈ L, q.1 ≠ p := fun q hq e => by
  have := st.lock q hq
  rw [e, hp] at this
  cases this
/-- what a new object of one's own asks -/
theorem fresh_ok {B : Base} {L : Lk} {G H : Hp} {env : Env} {σ : L2.St} {d : D} {o : HO} {Q : VK} (st : Ste B L G H) (rl : Rel K S B L G H env σ)
    (k : ∀ G' H', Same G G' → Ste B L G' H' → Rel K S B L G' H' env σ → ∀ a o, G' a = none → B.H a = none → H' a = some o → (∀ (i : Nat) (s : Sl), env[i]? = some s → isOwn s = true → σ[i]? ≠ some (some (V.ref a))) → (∀ p ∈ L, p.1 ≠ a) → RepO K S G' d o → Q (.ref a) H')
    (r : RepO K S G d o) : ∀ p, H p = none → Q (.ref p) (upd H p o) := fun p hp => by
  have x := Ex.skip (o := o) st.inn hp
  exact k G _ (.refl _) (st.ex x) (rl.ex x) p o (st.inn.some hp) (st.free hp) upd_same (rl.fresh hp) (st.nolock hp) r
theorem qf_lst (h : QA S X E es er) : QF S X E (.List es pos) (xLst er) := pe_of (pe_lst h) fun σ H Q ⟨B, L, G, env, st, rl, po⟩ => ⟨B, L, G, env, st, rl, po.then fun G1 H1 xs e1 sm1 st1 rl1 p1 vs rv => by
  split at p1
  · rename_i hl
    exact ⟨line10 (by rw [← rv.length]; exact hl), fresh_ok st1 rl1 p1 ⟨vs, rfl, rv⟩⟩
  · exact p1.elim⟩
theorem q_lst (h : QA S X E es er) : QE S X E (.List es pos) (xLst er) := q_fr (qf_lst h)
theorem q_tup {x1} (h : QA S X E es er) : QE S X E (.Tuple es x1 pos) (xTup er) := pe_of (pe_tup h) fun σ H Q ⟨B, L, G, env, st, rl, po⟩ => ⟨B, L, G, env, st, rl, po.then fun G1 H1 xs e1 sm1 st1 rl1 p1 vs rv => by
  split at p1
  · rename_i hl
    refine ⟨line10 (by rw [← rv.length]; exact hl), fun p hp => ?_⟩
    have x := Ex.new1 (o := .tup vs) st1.inn hp
    exact p1 _ _ x.g (st1.ex x) (rl1.ex x) _ ⟨p, vs, rfl, .inl (.inl upd_same), rv.mono x.g⟩
  · exact p1.elim⟩
/-! calls of built-ins -/
def xCB (f : FC) (r : EvA) : Ev := fun env => (r env).bind fun xs e => .of (f xs) e
theorem snd_cb {f : FC} {r : List V → Hp → VK → Prop} {σ : L2.St} {H : Hp} {Q : VK} (so : SCl K S f r) (q : TD K S E (xCB f er) σ H Q) : tCB r (TAe K S E er) σ H Q := by
  obtain ⟨B, L, G, env, st, rl, po⟩ := q
  exact ⟨B, L, G, env, st, rl, po.then fun G1 H1 xs e1 sm1 st1 rl1 p1 vs rv => by
    obtain ⟨d, hd, k⟩ := p1.of st1 rl1
    exact so G1 H1 xs d vs Q st1.inn rv hd fun G' H' u ex ru => k G' H' ex u ru⟩
theorem q_callB {id : String} {x : Str} {p : Pos} {f : FC} {r : List V → Hp → VK → Prop} (hc : CallR X (.builtin id) r) (so : SCl X.K S f r) (hg : Gl X x) (hm : X.mg x = none) (hv : bootBuiltins x = some (.builtin id)) (ha : QA S X E (a :: es) er) (hn : x ≠ "__name__" := by decide) (hdb : (x == ("__debug__" : Str)) = false := by decide)
    (he : starEach (a :: es) X.env = (false, eval a X.env) :: starEach es X.env := by rfl) (hpl : (backTo pos (starEach es X.env)).any (·.1) = false := by rfl) : QE S X E (.Call (.Name x p) (a :: es) [] pos) (xCB f er) := pe_of (pe_callB hc hg hm hv ha hn hdb he hpl) fun _ _ _ q => snd_cb so q
theorem q_callTy {T : String} {x : Str} {p : Pos} {f : FC} {r : List V → Hp → VK → Prop} (hc : CallR X (.type T) r) (so : SCl X.K S f r) (hg : Gl X x) (hm : X.mg x = none) (hv : bootBuiltins x = some (.type T)) (ha : QA S X E (a :: es) er) (hn : x ≠ "__name__" := by decide) (hdb : (x == ("__debug__" : Str)) = false := by decide)
    (he : starEach (a :: es) X.env = (false, eval a X.env) :: starEach es X.env := by rfl) (hpl : (backTo pos (starEach es X.env)).any (·.1) = false := by rfl) : QE S X E (.Call (.Name x p) (a :: es) [] pos) (xCB f er) := pe_of (pe_callTy hc hg hm hv ha hn hdb he hpl) fun _ _ _ q => snd_cb so q
end
end
end Dv
namespace Dv
open PySem PySem.Spec PyProof.Rows L2
set_option autoImplicit false
noncomputable section
/-! ### defs -/
inductive Ar where
  | val (d : D) | par (d : D)
def Ar.sl : Ar → Sl
  | .val d => .val d
  | .par d => .par d
def Ar.own : Ar → Bool
  | .par _ => true
  | _ => false
inductive FRes where
  | ok (d : D) (p : Option D)
  | ex (C : Nat) (fs : List (Str × D)) (p : Option D)
  | no
abbrev Fn := List Ar → FRes
section
variable (K : PySem.W.Frag) (S : Nat → Addr) (E : XK)
def ArOk (G H : Hp) (r : Option Addr) : Ar → V → Prop
  | .val d, v => Rep K S G d v
  | .par d, v => ∃ a o, v = .ref a ∧ r = some a ∧ H a = some o ∧ RepO K S G d o
structure Fin (G H : Hp) (r : Option Addr) (G' H' : Hp) : Prop where
  g : Same G G'
  inn : Inn G' H'
  new : ∀ a, G' a ≠ none → G a = none → H a = none
  keep : ∀ a o, H a = some o → r ≠ some a → H' a = some o
def ParOk (r : Option Addr) (p : Option D) (G' H' : Hp) : Prop := ∀ d, p = some d → ∃ a o, r = some a ∧ H' a = some o ∧ RepO K S G' d o
def FPost (fr : Bool) (G H : Hp) (r : Option Addr) (Q : VK) : FRes → Prop
  | .ok d p => ∀ G' H', Fin G H r G' H' → ParOk K S r p G' H' → if fr = true then ∀ a o, H a = none → G' a = none → H' a = some o → RepO K S G' d o → Q (.ref a) H' else ∀ v, Rep K S G' d v → Q v H'
  | .ex C fs p => ∀ od G' H', Fin G H r G' H' → ParOk K S r p G' H' → XD K S G' H' fs od → E (Value.ref (S C)) od H'
  | .no => False
def ownN (as : List Ar) : Nat := (as.filter Ar.own).length
structure ArgsOk (G H : Hp) (r : Option Addr) (as : List Ar) (vs : List V) : Prop where
  at_ : Paired (ArOk K S G H r) as vs
  one : ownN as ≤ 1
  par : ∀ a, r = some a → G a = none ∧ H a ≠ none ∧ 1 ≤ ownN as
/-- a def's promise: g tells what comes out; fr: a new object that nobody else has -/
def spD (fr : Bool) (n : Nat) (g : Fn) : Sp := fun vs H Q E => ∃ (G : Hp) (as : List Ar) (r : Option Addr), Inn G H ∧ ArgsOk K S G H r as vs ∧ as.length = n ∧ FPost K S E fr G H r Q (g as)
theorem spD_len {fr : Bool} {n : Nat} {g : Fn} {vs : List V} {H : Hp} {Q : VK} (h : spD K S fr n g vs H Q E) : vs.length = n := by
  obtain ⟨G, as, r, _, ok, hl, _⟩ := h
  rw [← hl, paired_len ok.at_]
end
section
variable {K : PySem.W.Frag} {S : Nat → Addr} {E : XK} {B : Base} {L : Lk} {G H G' H' : Hp} {env : Env} {σ : L2.St} {r : Option Addr}
/-- the callee's end, for the caller -/
theorem Ste.fin (st : Ste B L G H) (rl : Rel K S B L G H env σ) (f : Fin G H r G' H') (hr : ∀ a, r = some a → (∃ (i : Nat) (s : Sl), env[i]? = some s ∧ isOwn s = true ∧ σ[i]? = some (some (V.ref a))) ∧ H' a ≠ none) : Ste B L G' H' := by
  have hb : ∀ a, r = some a → B.H a = none ∨ B.r = some a := fun a e => by
    obtain ⟨⟨i, s, h1, h2, h3⟩, _⟩ := hr a e
    obtain ⟨x, hx, q⟩ := rel_at rl h1
    rw [h3] at hx
    cases hx
    cases s with
    | box d => obtain ⟨a', o, e1, _, b, _⟩ := q; cases e1; exact .inl b
    | par d => obtain ⟨a', o, e1, b, _⟩ := q; cases e1; exact .inr b
    | _ => cases h2
  have hL : ∀ a, r = some a → ∀ p ∈ L, p.1 ≠ a := fun a e => by
    obtain ⟨⟨i, s, h1, h2, h3⟩, _⟩ := hr a e
    exact rl.nl i s a h1 h2 h3
  refine ⟨st.g0.trans f.g, f.inn, fun a h e => ?_, fun a o e hr' hl => ?_, fun p hp => ?_, fun a e => ?_, fun p hp hf => ?_⟩
  · by_cases q : G a = none
    · exact st.free (f.new a h q)
    · exact st.new a q e
  · refine f.keep a o (st.keep a o e hr' hl) fun q => ?_
    rcases hb a q with h | h
    · rw [e] at h; cases h
    · exact hr' h
  · exact f.keep _ _ (st.lock p hp) fun q => hL _ q p hp rfl
  · obtain ⟨h1, h2, h3, h4⟩ := st.par a e
    refine ⟨?_, ?_, h3, h4⟩
    · cases q : G' a with
      | none => rfl
      | some o => exact (h2 (f.new a (by rw [q]; intro e; cases e) h1)).elim
    · by_cases q : r = some a
      · exact (hr a q).2
      · cases q2 : H a with
        | none => exact (h2 q2).elim
        | some o => rw [f.keep a o q2 q]; intro e; cases e
  · have h1 := st.out p hp hf
    cases q : G' p.1 with
    | none => rfl
    | some o =>
      have := f.new p.1 (by rw [q]; intro e; cases e) h1
      rw [st.lock p hp] at this
      cases this
theorem SlOk.fin {s : Sl} {x : Option V} (h : SlOk K S B G H s x) (f : Fin G H r G' H') (hn : isOwn s = true → ∀ a, x = some (V.ref a) → r ≠ some a) : SlOk K S B G' H' s x := by
  cases s with
  | no => trivial
  | val d => obtain ⟨v, e, q⟩ := h; exact ⟨v, e, q.mono f.g⟩
  | box d =>
    obtain ⟨a, o, e, g, b, e2, q⟩ := h
    refine ⟨a, o, e, ?_, b, f.keep _ _ e2 (hn rfl a e), q.mono f.g⟩
    cases q2 : G' a with
    | none => rfl
    | some u =>
      have := f.new a (by rw [q2]; intro e; cases e) g
      rw [e2] at this
      cases this
  | par d =>
    obtain ⟨a, o, e, b, e2, q⟩ := h
    exact ⟨a, o, e, b, f.keep _ _ e2 (hn rfl a e), q.mono f.g⟩
theorem Rel.fin0 (rl : Rel K S B L G H env σ) (f : Fin G H none G' H') : Rel K S B L G' H' env σ := ⟨L2.Paired.mapP rl.at_ fun _ _ q => q.fin f (fun _ _ _ e => by cases e), rl.nd, rl.nl⟩
/-- the slot's new content -/
def putSl (s : Sl) (d : D) : Sl := match s with
  | .box _ => .box d
  | .par _ => .par d
  | s => s
theorem own_put {s : Sl} {d : D} : isOwn (putSl s d) = isOwn s := by cases s <;> rfl
theorem Rel.fin1 (rl : Rel K S B L G H env σ) {a : Addr} {i : Nat} {s : Sl} {d : D} {o : HO} (f : Fin G H (some a) G' H') (hi : env[i]? = some s) (hs : isOwn s = true) (hx : σ[i]? = some (some (V.ref a))) (ha : H' a = some o) (ho : RepO K S G' d o) : Rel K S B L G' H' (env.set i (putSl s d)) σ := by
  refine ⟨paired_of (by rw [List.length_set]; exact paired_len rl.at_) fun j t x h1 h2 => ?_, fun j k t u v hjk h1 h2 o1 o2 q => ?_, fun j t v h1 o1 q => ?_⟩
  · rcases set_at h1 with ⟨rfl, rfl⟩ | ⟨hj, h1⟩
    · rw [hx] at h2
      cases h2
      obtain ⟨y, hy, q⟩ := rel_at rl hi
      rw [hx] at hy
      cases hy
      cases s with
      | box d' =>
        obtain ⟨a', o', e, g, b, e2, _⟩ := q
        cases e
        refine ⟨a, o, rfl, ?_, b, ha, ho⟩
        cases q2 : G' a with
        | none => rfl
        | some u =>
          have := f.new a (by rw [q2]; intro e; cases e) g
          rw [e2] at this
          cases this
      | par d' =>
        obtain ⟨a', o', e, b, e2, _⟩ := q
        cases e
        exact ⟨a, o, rfl, b, ha, ho⟩
      | _ => cases hs
    · obtain ⟨y, hy, q⟩ := rel_at rl h1
      rw [h2] at hy
      cases hy
      exact q.fin f fun o1 b e1 e2 => by
        cases e2
        exact rl.nd i j s t a (fun e => hj e.symm) hi h1 hs o1 hx (by rw [h2, e1])
  · have h1' : ∃ t', env[j]? = some t' ∧ isOwn t' = true := by
      rcases set_at h1 with ⟨rfl, rfl⟩ | ⟨hj, h1⟩
      · exact ⟨s, hi, hs⟩
      · exact ⟨t, h1, o1⟩
    have h2' : ∃ t', env[k]? = some t' ∧ isOwn t' = true := by
      rcases set_at h2 with ⟨rfl, rfl⟩ | ⟨hj, h2⟩
      · exact ⟨s, hi, hs⟩
      · exact ⟨u, h2, o2⟩
    obtain ⟨t', e1, e2⟩ := h1'
    obtain ⟨u', e3, e4⟩ := h2'
    exact rl.nd j k t' u' v hjk e1 e3 e2 e4 q
  · have h1' : ∃ t', env[j]? = some t' ∧ isOwn t' = true := by
      rcases set_at h1 with ⟨rfl, rfl⟩ | ⟨hj, h1⟩
      · exact ⟨s, hi, hs⟩
      · exact ⟨t, h1, o1⟩
    obtain ⟨t', e1, e2⟩ := h1'
    exact rl.nl j t' v e1 e2 q
end
/-! ### arguments: values, and slots of one's own -/
inductive Ag where
  | v (d : D) | s (i : Nat)
abbrev EvG' := Env → Res (List Ag)
def resv (as : List Ag) (env : Env) : Option (List Ar) := match as with
  | [] => some []
  | .v d :: r => (resv r env).map (Ar.val d :: ·)
  | .s i :: r => match env[i]? with
    | some (.box d) => (resv r env).map (Ar.par d :: ·)
    | some (.par d) => (resv r env).map (Ar.par d :: ·)
    | _ => none
def slotOf (as : List Ag) : List Nat := match as with
  | [] => []
  | .v _ :: r => slotOf r
  | .s i :: r => i :: slotOf r
/-- the run of a call -/
def callG (g : Fn) (as : List Ag) (env : Env) : Res D := match resv as env with
  | none => .no
  | some args => match slotOf as with
    | [] => match g args with
      | .ok d _ => .ok d env
      | .ex C fs _ => .ex C fs env
      | .no => .no
    | [i] => match env[i]? with
      | some s => match g args with
        | .ok d (some p) => .ok d (env.set i (putSl s p))
        | .ex C fs (some p) => .ex C fs (env.set i (putSl s p))
        | _ => .no
      | none => .no
    | _ => .no
section
variable (K : PySem.W.Frag) (S : Nat → Addr)
def AgOk (G : Hp) (σ : L2.St) : Ag → V → Prop
  | .v d, v => Rep K S G d v
  | .s i, v => σ[i]? = some (some v)
end
section
variable {K : PySem.W.Frag} {S : Nat → Addr} {E : XK} {B : Base} {L : Lk} {G H : Hp} {env : Env} {σ : L2.St}
theorem resv_none : ∀ {as : List Ag} {args : List Ar} {vs : List V}, resv as env = some args → slotOf as = [] → Paired (AgOk K S G σ) as vs → Paired (ArOk K S G H none) args vs ∧ ownN args = 0
  | [], _, _, e, _, .nil => by cases e; exact ⟨.nil, rfl⟩
  | .v d :: r, _, _, e, h, .cons q t => by
    have e : (resv r env).map (Ar.val d :: ·) = some _ := e
    cases hr : resv r env with
    | none => rw [hr] at e; cases e
    | some args =>
      rw [hr] at e
      cases e
      obtain ⟨a, b⟩ := resv_none hr h t
      exact ⟨.cons q a, b⟩
  | .s i :: r, _, _, _, h, _ => by cases h
theorem resv_one (rl : Rel K S B L G H env σ) : ∀ {as : List Ag} {args : List Ar} {vs : List V} {i : Nat}, resv as env = some args → slotOf as = [i] → Paired (AgOk K S G σ) as vs →
    ∃ a s, σ[i]? = some (some (V.ref a)) ∧ env[i]? = some s ∧ isOwn s = true ∧ Paired (ArOk K S G H (some a)) args vs ∧ ownN args = 1
  | [], _, _, _, _, h, _ => by cases h
  | .v d :: r, _, _, i, e, h, .cons q t => by
    have e : (resv r env).map (Ar.val d :: ·) = some _ := e
    cases hr : resv r env with
    | none => rw [hr] at e; cases e
    | some args =>
      rw [hr] at e
      cases e
      obtain ⟨a, s, h1, h2, h3, h4, h5⟩ := resv_one rl hr h t
      exact ⟨a, s, h1, h2, h3, .cons q h4, h5⟩
  | .s j :: r, _, _, i, e, h, .cons (b := v) q t => by
    have h : j :: slotOf r = [i] := h
    injection h with h1 h2
    subst h1
    have q : σ[j]? = some (some v) := q
    have e : (match env[j]? with
      | some (.box d) => (resv r env).map (Ar.par d :: ·)
      | some (.par d) => (resv r env).map (Ar.par d :: ·)
      | _ => none) = some _ := e
    cases hr : resv r env with
    | none => rw [hr] at e; split at e <;> cases e
    | some args =>
      rw [hr] at e
      split at e
      · rename_i d hd
        cases e
        obtain ⟨x, hx, a, o, rfl, g, b, ha, ho⟩ := rel_at rl hd
        rw [q] at hx
        cases hx
        obtain ⟨t1, t2⟩ := resv_none (H := H) hr h2 t
        refine ⟨a, _, q, hd, rfl, .cons ⟨a, o, rfl, rfl, ha, ho⟩ (L2.Paired.mapP t1 fun x y z => ?_), ?_⟩
        · cases x with
          | val d => exact z
          | par d => obtain ⟨a', o', _, e, _⟩ := z; cases e
        · show (List.filter Ar.own (Ar.par d :: args)).length = 1
          have t2 : (List.filter Ar.own args).length = 0 := t2
          rw [List.filter_cons_of_pos rfl, List.length_cons, t2]
      · rename_i d hd
        cases e
        obtain ⟨x, hx, a, o, rfl, b, ha, ho⟩ := rel_at rl hd
        rw [q] at hx
        cases hx
        obtain ⟨t1, t2⟩ := resv_none (H := H) hr h2 t
        refine ⟨a, _, q, hd, rfl, .cons ⟨a, o, rfl, rfl, ha, ho⟩ (L2.Paired.mapP t1 fun x y z => ?_), ?_⟩
        · cases x with
          | val d => exact z
          | par d => obtain ⟨a', o', _, e, _⟩ := z; cases e
        · show (List.filter Ar.own (Ar.par d :: args)).length = 1
          have t2 : (List.filter Ar.own args).length = 0 := t2
          rw [List.filter_cons_of_pos rfl, List.length_cons, t2]
      · cases e
theorem own_free (st : Ste B L G H) (rl : Rel K S B L G H env σ) {i : Nat} {s : Sl} {a : Addr} (h1 : env[i]? = some s) (h2 : isOwn s = true) (h3 : σ[i]? = some (some (V.ref a))) : G a = none ∧ H a ≠ none := by
  obtain ⟨x, hx, q⟩ := rel_at rl h1
  rw [h3] at hx
  cases hx
  cases s with
  | box d => obtain ⟨a', o, e, g, _, ha, _⟩ := q; cases e; exact ⟨g, by rw [ha]; intro e; cases e⟩
  | par d => obtain ⟨a', o, e, g, ha, _⟩ := q; cases e; exact ⟨(st.par a g).1, by rw [ha]; intro e; cases e⟩
  | _ => cases h2
theorem resv_len : ∀ {as : List Ag} {args : List Ar}, resv as env = some args → args.length = as.length
  | [], _, e => by cases e; rfl
  | .v d :: r, args, e => by
    have e : (resv r env).map (Ar.val d :: ·) = some args := e
    cases hr : resv r env with
    | none => rw [hr] at e; cases e
    | some z => rw [hr] at e; cases e; rw [List.length_cons, List.length_cons, resv_len hr]
  | .s i :: r, args, e => by
    have e : (match env[i]? with
      | some (.box d) => (resv r env).map (Ar.par d :: ·)
      | some (.par d) => (resv r env).map (Ar.par d :: ·)
      | _ => none) = some args := e
    cases hr : resv r env with
    | none => rw [hr] at e; split at e <;> cases e
    | some z => rw [hr] at e; split at e <;> first | (cases e; done) | (cases e; rw [List.length_cons, List.length_cons, resv_len hr])
/-- a call meets the callee's promise -/
theorem call_ok {g : Fn} {fr : Bool} {n : Nat} {as : List Ag} {vs : List V} {Q : VK} (st : Ste B L G H) (rl : Rel K S B L G H env σ) (ra : Paired (AgOk K S G σ) as vs) (hn : as.length = n)
    {P : Hp → Hp → D → Env → Prop} (p : Post K S E B L σ G P (callG g as env))
    (hP : ∀ G' H' d e, (∀ (j : Nat) (s : Sl), e[j]? = some s → isOwn s = true → ∃ s', env[j]? = some s' ∧ isOwn s' = true) → Ste B L G' H' → Rel K S B L G' H' e σ → P G' H' d e → if fr = true then ∀ a o, H a = none → G' a = none → H' a = some o → RepO K S G' d o → Q (.ref a) H' else ∀ v, Rep K S G' d v → Q v H') : spD K S fr n g vs H Q E := by
  unfold callG at p
  split at p
  · exact p.elim
  · rename_i args hres
    have hlen : args.length = n := by rw [resv_len hres, hn]
    split at p
    · rename_i hsl
      obtain ⟨t1, t2⟩ := resv_none (H := H) hres hsl ra
      refine ⟨G, args, none, st.inn, ⟨t1, by omega, fun a e => by cases e⟩, hlen, ?_⟩
      split at p
      · rename_i d pp hg
        rw [hg]
        intro G' H' f _
        have st' := st.fin rl f fun a e => by cases e
        have rl' := rl.fin0 f
        exact hP G' H' d env (fun j s h1 h2 => ⟨s, h1, h2⟩) st' rl' (p G' H' f.g st' rl')
      · rename_i C fs pp hg
        rw [hg]
        intro od G' H' f _ x
        exact p od G' H' f.g (st.fin rl f fun a e => by cases e) (rl.fin0 f) x
      · exact p.elim
    · rename_i i hsl
      obtain ⟨a, s, h1, h2, h3, h4, h5⟩ := resv_one rl hres hsl ra
      obtain ⟨ga, ha⟩ := own_free st rl h2 h3 h1
      rw [h2] at p
      refine ⟨G, args, some a, st.inn, ⟨h4, by omega, fun b e => by cases e; exact ⟨ga, ha, by omega⟩⟩, hlen, ?_⟩
      dsimp only at p
      split at p
      · rename_i d pp hg
        rw [hg]
        intro G' H' f po
        obtain ⟨b, o, e, hb, ho⟩ := po pp rfl
        cases e
        have st' := st.fin rl f fun b e => by cases e; exact ⟨⟨i, s, h2, h3, h1⟩, by rw [hb]; intro e; cases e⟩
        have rl' := rl.fin1 f h2 h3 h1 hb ho
        exact hP G' H' d _ (fun j t e1 e2 => by
          rcases set_at e1 with ⟨rfl, rfl⟩ | ⟨_, e1⟩
          · exact ⟨s, h2, h3⟩
          · exact ⟨t, e1, e2⟩) st' rl' (p G' H' f.g st' rl')
      · rename_i C fs pp hg
        rw [hg]
        intro od G' H' f po x
        obtain ⟨b, o, e, hb, ho⟩ := po pp rfl
        cases e
        exact p od G' H' f.g (st.fin rl f fun b e => by cases e; exact ⟨⟨i, s, h2, h3, h1⟩, by rw [hb]; intro e; cases e⟩) (rl.fin1 f h2 h3 h1 hb ho) x
      · exact p.elim
    · exact p.elim
end
end
end Dv
namespace Dv
open PySem PySem.Spec PyProof.Rows L2
set_option autoImplicit false
noncomputable section
section
variable {S : Nat → Addr} {X : Cx} {E : XK} {a b c e o : Expr} {es : List Expr} {ea eb ec ee eo : Ev} {pos apos p : Pos} {CX : CXT} {k : Nat} {f C : Addr} {fd : FuncData} {ps : List Str} {fr : Bool} {n : Nat} {g : Fn} {x m : Str}
abbrev TAg (K : PySem.W.Frag) (S : Nat → Addr) (E : XK) (f : EvG') : TA := Tx K S E (fun G σ d v => Paired (AgOk K S G σ) d v) f
abbrev QG (S : Nat → Addr) (X : Cx) (E : XK) (es : List Expr) (f : EvG') : Prop := PA X es (TAg X.K S E f)
def gNil : EvG' := fun env => .ok [] env
def gVal (a : Ev) (r : EvG') : EvG' := fun env => (a env).bind fun x e1 => (r e1).bind fun xs e2 => .ok (.v x :: xs) e2
def gSlot (i : Nat) (r : EvG') : EvG' := fun env => match env[i]? with
  | some s => if isOwn s = true then (r env).bind fun xs e2 => .ok (.s i :: xs) e2 else .no
  | none => .no
variable {eg : EvG'}
theorem AgOk.mono {K : PySem.W.Frag} {G G' : Hp} {σ : L2.St} (h : Same G G') {x : Ag} {v : V} (r : AgOk K S G σ x v) : AgOk K S G' σ x v := by
  cases x with
  | v d => exact Rep.mono h r
  | s i => exact r
theorem g_nil : QG S X E [] gNil := pa_of pa_nil fun σ H Q ⟨B, L, G, env, st, rl, po⟩ => po G H (.refl _) st rl [] .nil
theorem g_val (ha : QE S X E a ea) (hr : QG S X E es eg) (hs : starEach (a :: es) X.env = (false, eval a X.env) :: starEach es X.env := by rfl) : QG S X E (a :: es) (gVal ea eg) := pa_of (pa_cons ha hr hs) fun σ H Q ⟨B, L, G, env, st, rl, po⟩ => ⟨B, L, G, env, st, rl, po.then fun G1 H1 x e1 sm1 st1 rl1 p1 v rv => ⟨B, L, G1, e1, st1, rl1, p1.then fun G2 H2 xs e2 sm2 st2 rl2 p2 vs rvs => p2 G2 H2 (.refl _) st2 rl2 _ (.cons (rv.mono sm2) rvs)⟩⟩
theorem own_at {K : PySem.W.Frag} {B : Base} {L : Lk} {G H : Hp} {env : Env} {σ : L2.St} {i : Nat} {s : Sl} (rl : Rel K S B L G H env σ) (h : env[i]? = some s) (ho : isOwn s = true) : ∃ a, σ[i]? = some (some (V.ref a)) := by
  obtain ⟨x, hx, q⟩ := rel_at rl h
  cases s with
  | box d => obtain ⟨a, o, rfl, _⟩ := q; exact ⟨a, hx⟩
  | par d => obtain ⟨a, o, rfl, _⟩ := q; exact ⟨a, hx⟩
  | _ => cases ho
theorem g_slot {i : Nat} (ha : PE X a (tVar i)) (hr : QG S X E es eg) (hs : starEach (a :: es) X.env = (false, eval a X.env) :: starEach es X.env := by rfl) : QG S X E (a :: es) (gSlot i eg) := pa_of (pa_cons ha hr hs) fun σ H Q ⟨B, L, G, env, st, rl, po⟩ => by
  unfold gSlot at po
  split at po
  · rename_i s hs
    split at po
    · rename_i ho
      obtain ⟨p, hp⟩ := own_at rl hs ho
      exact ⟨_, hp, B, L, G, env, st, rl, po.then fun G2 H2 xs e2 sm2 st2 rl2 p2 vs rvs => p2 G2 H2 (.refl _) st2 rl2 _ (.cons hp rvs)⟩
    · exact po.elim
  · exact po.elim
/-! ### calls -/
def xCall (n : Nat) (g : Fn) (r : EvG') : Ev := fun env => (r env).bind fun as e => if as.length = n then callG g as e else .no
theorem len_of {K : PySem.W.Frag} {E : XK} {B : Base} {L : Lk} {G : Hp} {σ : L2.St} {P : Hp → Hp → D → Env → Prop} {as : List Ag} {e : Env} {n : Nat} {g : Fn} (p : Post K S E B L σ G P (if as.length = n then callG g as e else .no)) : as.length = n ∧ Post K S E B L σ G P (callG g as e) := by
  by_cases h : as.length = n
  · rw [if_pos h] at p; exact ⟨h, p⟩
  · rw [if_neg h] at p; exact p.elim
theorem snd_call {K : PySem.W.Frag} {σ : L2.St} {H : Hp} {Q : VK} (q : TD K S E (xCall n g eg) σ H Q) : tCall (spD K S false n g) [] E (TAg K S E eg) σ H Q := by
  obtain ⟨B, L, G, env, st, rl, po⟩ := q
  refine ⟨B, L, G, env, st, rl, po.then fun G1 H1 as e1 sm1 st1 rl1 p1 vs rv => ?_⟩
  obtain ⟨hn, p1⟩ := len_of p1
  rw [List.append_nil]
  exact call_ok st1 rl1 rv hn p1 fun G' H' d e _ _ _ h => h
theorem sndf_call {K : PySem.W.Frag} {σ : L2.St} {H : Hp} {Q : VK} (q : TF K S E (xCall n g eg) σ H Q) : tCall (spD K S true n g) [] E (TAg K S E eg) σ H Q := by
  obtain ⟨B, L, G, env, st, rl, po⟩ := q
  refine ⟨B, L, G, env, st, rl, po.then fun G1 H1 as e1 sm1 st1 rl1 p1 vs rv => ?_⟩
  obtain ⟨hn, p1⟩ := len_of p1
  rw [List.append_nil]
  refine call_ok st1 rl1 rv hn p1 fun G' H' d e hown st' rl' h => ?_
  rw [if_pos rfl]
  intro q o hq gq hq' r
  refine h q o gq (st1.free hq) hq' (fun i s h1 h2 h3 => ?_) (st1.nolock hq) r
  -- the slots' addresses were there ahead of the call
  obtain ⟨s', e1, e2⟩ := hown i s h1 h2
  exact rl1.fresh hq i s' e1 e2 h3

theorem q_call (F : FnOk X.prog X.w X.K X.mg X.base CX k f fd ps (spD X.K S false n g)) (hr : Room k X.A) (hg : Gl X x) (hm : X.mg x = some (.ref f)) (hk : PySem.W.keepIn X.K (.ref f) = true) (hb : Binds X.K fd ps []) (hx : Passes CX X E)
    (ha : QG S X E (e :: es) eg) (hdb : (x == ("__debug__" : Str)) = false := by decide) (he : starEach (e :: es) X.env = (false, eval e X.env) :: starEach es X.env := by rfl) (hpl : (backTo pos (starEach es X.env)).any (·.1) = false := by rfl) :
    QE S X E (.Call (.Name x p) (e :: es) [] pos) (xCall n g eg) := pe_of (pe_call F hr hg hm hk hb .nil hx ha hdb he hpl) fun _ _ _ q => snd_call q
theorem qf_call (F : FnOk X.prog X.w X.K X.mg X.base CX k f fd ps (spD X.K S true n g)) (hr : Room k X.A) (hg : Gl X x) (hm : X.mg x = some (.ref f)) (hk : PySem.W.keepIn X.K (.ref f) = true) (hb : Binds X.K fd ps []) (hx : Passes CX X E)
    (ha : QG S X E (e :: es) eg) (hdb : (x == ("__debug__" : Str)) = false := by decide) (he : starEach (e :: es) X.env = (false, eval e X.env) :: starEach es X.env := by rfl) (hpl : (backTo pos (starEach es X.env)).any (·.1) = false := by rfl) :
    QF S X E (.Call (.Name x p) (e :: es) [] pos) (xCall n g eg) := pe_of (pe_call F hr hg hm hk hb .nil hx ha hdb he hpl) fun _ _ _ q => sndf_call q
theorem tnil {K : PySem.W.Frag} {σ : L2.St} {H : Hp} {Q : List V → Hp → Prop} (q : TAg K S E gNil σ H Q) : tNil σ H Q := by
  obtain ⟨B, L, G, env, st, rl, po⟩ := q
  exact po G H (.refl _) st rl [] .nil
theorem q_call0 (F : FnOk X.prog X.w X.K X.mg X.base CX k f fd ps (spD X.K S false n g)) (hr : Room k X.A) (hg : Gl X x) (hm : X.mg x = some (.ref f)) (hk : PySem.W.keepIn X.K (.ref f) = true) (hb : Binds X.K fd ps []) (hx : Passes CX X E)
    (hdb : (x == ("__debug__" : Str)) = false := by decide) : QE S X E (.Call (.Name x p) [] [] pos) (xCall n g gNil) := pe_of (pe_call0 F hr hg hm hk hb .nil hx hdb) fun σ H Q q => tnil (snd_call q)
theorem qf_call0 (F : FnOk X.prog X.w X.K X.mg X.base CX k f fd ps (spD X.K S true n g)) (hr : Room k X.A) (hg : Gl X x) (hm : X.mg x = some (.ref f)) (hk : PySem.W.keepIn X.K (.ref f) = true) (hb : Binds X.K fd ps []) (hx : Passes CX X E)
    (hdb : (x == ("__debug__" : Str)) = false := by decide) : QF S X E (.Call (.Name x p) [] [] pos) (xCall n g gNil) := pe_of (pe_call0 F hr hg hm hk hb .nil hx hdb) fun σ H Q q => tnil (sndf_call q)
/-! ### C(..) -/
def xMake (ci n : Nat) (dcs : List D) (g : Fn) (r : EvA) : Ev := fun env => (r env).bind fun xs e => if xs.length + 1 + dcs.length = n then match g (.par (.ins ci []) :: (xs ++ dcs).map Ar.val) with
  | .ok .non (some p) => .ok p e
  | .ex C fs _ => .ex C fs e
  | _ => .no else .no
theorem args_vals {K : PySem.W.Frag} {G H : Hp} {r : Option Addr} : ∀ {xs : List D} {vs : List V}, RepL K S G xs vs → Paired (ArOk K S G H r) (xs.map Ar.val) vs
  | [], _, h => by cases h; exact .nil
  | x :: xs, _, ⟨v, ws, e, q, t⟩ => by subst e; exact .cons q (args_vals t)
theorem own_vals : ∀ xs : List D, ownN (xs.map Ar.val) = 0
  | [] => rfl
  | x :: xs => own_vals xs
theorem sndf_make {K : PySem.W.Frag} {ci : Nat} {dcs : List D} {dvs : List V} {er : EvA} {σ : L2.St} {H : Hp} {Q : VK} (hd : ∀ G, RepL K S G dcs dvs) (q : TF K S E (xMake ci n dcs g er) σ H Q) : tMake (S ci) (spD K S false n g) dvs E (TAe K S E er) σ H Q := by
  obtain ⟨B, L, G, env, st, rl, po⟩ := q
  refine ⟨B, L, G, env, st, rl, po.then fun G1 H1 xs e1 sm1 st1 rl1 p1 vs rv => ?_⟩
  intro x dx hx hdx hne
  by_cases hn : xs.length + 1 + dcs.length = n
  · rw [if_pos hn] at p1
    have h2 : Same H1 (upd (upd H1 dx (.own x)) x (.ins (S ci) dx [])) := (same_upd hdx).trans (same_upd (by rw [upd_ne (Ne.symm hne)]; exact hx))
    have gx : G1 x = none := st1.inn.some hx
    have key : ∀ (G' H' : Hp), Fin G1 (upd (upd H1 dx (.own x)) x (.ins (S ci) dx [])) (some x) G' H' → Ste B L G' H' ∧ Rel K S B L G' H' e1 σ ∧ G' x = none := fun G' H' f => by
      have ex : Ex G1 H1 G1 (upd (upd H1 dx (.own x)) x (.ins (S ci) dx [])) := Ex.same st1.inn h2
      have hx' : ∀ a o, H1 a = some o → some x ≠ some a := fun a o e q => by cases q; rw [hx] at e; cases e
      have ex2 : Ex G1 H1 _ _ := ⟨f.g, fun a o e => f.keep a o (h2 a o e) (hx' a o e), f.inn, fun a h1 h3 => h2.free (f.new a h1 h3)⟩
      refine ⟨st1.ex ex2, rl1.ex ex2, ?_⟩
      cases q : G' x with
      | none => rfl
      | some u =>
        have := f.new x (by rw [q]; intro e; cases e) gx
        rw [upd_same] at this
        cases this
    refine ⟨G1, .par (.ins ci []) :: (xs ++ dcs).map Ar.val, some x, st1.inn.up h2, ⟨.cons ⟨x, _, rfl, rfl, upd_same, dx, [], rfl, rfl⟩ (args_vals (rv.app (hd _))), ?_, fun a e => by cases e; exact ⟨gx, (by rw [upd_same]; intro e; cases e), (by show 1 ≤ (List.filter Ar.own (Ar.par (.ins ci []) :: (xs ++ dcs).map Ar.val)).length; rw [List.filter_cons_of_pos rfl, List.length_cons]; omega)⟩⟩, ?_, ?_⟩
    · show (List.filter Ar.own (Ar.par (.ins ci []) :: (xs ++ dcs).map Ar.val)).length ≤ 1
      rw [List.filter_cons_of_pos rfl, List.length_cons]
      have : (List.filter Ar.own ((xs ++ dcs).map Ar.val)).length = 0 := own_vals _
      omega
    · rw [List.length_cons, List.length_map, List.length_append]; omega
    · split at p1
      · rename_i pp hg
        rw [hg]
        intro G' H' f po
        rw [if_neg (by decide)]
        intro v rv'
        cases rv'
        obtain ⟨b, o, e, hb, ho⟩ := po pp rfl
        cases e
        obtain ⟨s1, s2, s3⟩ := key _ _ f
        exact ⟨rfl, p1 G' H' f.g s1 s2 x o s3 (st1.free hx) hb (rl1.fresh hx) (st1.nolock hx) ho⟩
      · rename_i C fs pp hg
        rw [hg]
        intro od G' H' f _ xd
        obtain ⟨s1, s2, s3⟩ := key _ _ f
        exact p1 od G' H' f.g s1 s2 xd
      · exact p1.elim
  · rw [if_neg hn] at p1
    exact p1.elim
theorem qf_make {ci : Nat} {dcs : List D} {dvs : List V} {ds : List Value} {er : EvA} (hd : ∀ G, RepL X.K S G dcs dvs) (M : Mk X.K (S ci) f) (F : FnOk X.prog X.w X.K X.mg X.base CX k f fd ps (spD X.K S false n g)) (hr : Room (k + 1) X.A) (hg : Gl X x) (hm : X.mg x = some (.ref (S ci))) (hb : Binds X.K fd ps ds) (hdv : Vals dvs ds) (hx : Passes CX X E)
    (ha : QA S X E (e :: es) er) (hdb : (x == ("__debug__" : Str)) = false := by decide) (he : starEach (e :: es) X.env = (false, eval e X.env) :: starEach es X.env := by rfl) (hpl : (backTo pos (starEach es X.env)).any (·.1) = false := by rfl) :
    QF S X E (.Call (.Name x p) (e :: es) [] pos) (xMake ci n dcs g er) := pe_of (pe_make M F hr hg hm hb hdv hx ha hdb he hpl) fun _ _ _ q => sndf_make hd q
theorem qf_make0 {ci : Nat} {dcs : List D} {dvs : List V} {ds : List Value} (hd : ∀ G, RepL X.K S G dcs dvs) (M : Mk X.K (S ci) f) (F : FnOk X.prog X.w X.K X.mg X.base CX k f fd ps (spD X.K S false n g)) (hr : Room (k + 1) X.A) (hg : Gl X x) (hm : X.mg x = some (.ref (S ci))) (hb : Binds X.K fd ps ds) (hdv : Vals dvs ds) (hx : Passes CX X E)
    (hdb : (x == ("__debug__" : Str)) = false := by decide) :
    QF S X E (.Call (.Name x p) [] [] pos) (xMake ci n dcs g xNil) := pe_of (pe_make0 M F hr hg hm hb hdv hx hdb) fun σ H Q q => by
  have := sndf_make hd q
  obtain ⟨B, L, G, env, st, rl, po⟩ := this
  exact po G H (.refl _) st rl [] rfl
/-! ### methods, by the receiver's class -/
def tMD (G : Addr → Addr → Sp → Prop) (m : Str) (E : XK) (ta : TE) (t : TA) : TE := fun σ H Q => ta σ H fun x H1 => ∃ a C dx fs f sp, x = .ref a ∧ H1 a = some (.ins C dx fs) ∧ fs.lookup m = none ∧ G C f sp ∧ t σ H1 fun vs H2 => sp (x :: vs) H2 Q E
def MG (X : Cx) (CX : CXT) (k : Nat) (m : Str) (G : Addr → Addr → Sp → Prop) : Prop := ∀ C f sp, G C f sp → Cls X.K C ∧ Meth X.K C m f ∧ ∃ fd ps, FnOk X.prog X.w X.K X.mg X.base CX k f fd ps sp ∧ Binds X.K fd ps []
theorem pe_methD {G : Addr → Addr → Sp → Prop} {ta : TE} {t : TA} {pl : Sem Bool} {E' : XK} (he : PE X o ta) (hG : MG X CX k m G) (hr : Room k X.A) (hx : Passes CX X E') (ha : PA X (e :: es) t)
    (hst : starEach (e :: es) X.env = (false, eval e X.env) :: starEach es X.env := by rfl) (hpl : (backTo pos (starEach es X.env)).any (·.1) = false := by rfl)
    (ht : eval (.Call (.Attribute o m apos) (e :: es) [] pos) X.env = (do
      let ov ← eval o X.env
      standAt apos.atName
      let (f, first) ← holding [ov] (getMethod ov m pl)
      callWith pos f first (backTo pos (starEach (e :: es) X.env)) (backToKw pos (keywordEach [] X.env))) := by rfl) :
    PE X (.Call (.Attribute o m apos) (e :: es) [] pos) (tMD G m E' ta t) := by
  refine ⟨fun pins s σ H Q I h => ?_⟩
  refine PySem.W.methodCall_KW (pl := pl) (thn (he.run pins s σ H _ I h) fun u s1 ⟨x, H1, I1, rx, a, C, dx, fs, f, sp, ex, ea, l, hg, q⟩ => ?_) ht
  obtain ⟨c, hm, fd, ps, F, hb⟩ := hG C f sp hg
  subst ex
  obtain rfl : u = Value.ref a := rx
  refine getmeth_ok I1 ea c hm l ?_
  refine PySem.W.callWith_K (first := [.ref a]) (h₀ := X.base) I.ok.mod.kin hm.kp (thn (ha.run pos pins s1 σ H1 _ I1 q) fun us s2 ⟨vs, H2, I2, r, q2⟩ => ⟨I2.kIn, ?_⟩) hst hpl
  exact run_fn (dvs := []) (us := .ref a :: us) (vs := .ref a :: vs) F hr hb .nil hx I2 (.cons rfl r) (by rw [List.append_nil]; exact q2)
theorem pe_methD0 {G : Addr → Addr → Sp → Prop} {ta : TE} {pl : Sem Bool} {E' : XK} (he : PE X o ta) (hG : MG X CX k m G) (hr : Room k X.A) (hx : Passes CX X E')
    (ht : eval (.Call (.Attribute o m apos) [] [] pos) X.env = (do
      let ov ← eval o X.env
      standAt apos.atName
      let (f, first) ← holding [ov] (getMethod ov m pl)
      callWith pos f first (backTo pos (starEach [] X.env)) (backToKw pos (keywordEach [] X.env))) := by rfl) :
    PE X (.Call (.Attribute o m apos) [] [] pos) (tMD G m E' ta tNil) := by
  refine ⟨fun pins s σ H Q I h => ?_⟩
  refine PySem.W.methodCall_KW (pl := pl) (thn (he.run pins s σ H _ I h) fun u s1 ⟨x, H1, I1, rx, a, C, dx, fs, f, sp, ex, ea, l, hg, q⟩ => ?_) ht
  obtain ⟨c, hm, fd, ps, F, hb⟩ := hG C f sp hg
  subst ex
  obtain rfl : u = Value.ref a := rx
  refine getmeth_ok I1 ea c hm l ?_
  exact PySem.W.callWith_K0 (first := [.ref a]) I1.kIn hm.kp (run_fn (dvs := []) (us := [.ref a]) (vs := [.ref a]) F hr hb .nil hx I1 (.cons rfl .nil) q)
/-- a table of methods by class: the method's place in S, its run -/
abbrev MT := List (Nat × Nat × Fn)
def MT.at (t : MT) (C : Nat) : Option (Nat × Fn) := match t with
  | [] => none
  | a :: r => if a.1 = C then some a.2 else MT.at r C
def MT.All (t : MT) (P : Nat → Nat → Fn → Prop) : Prop := match t with
  | [] => True
  | a :: r => P a.1 a.2.1 a.2.2 ∧ MT.All r P
theorem MT.All.get {P : Nat → Nat → Fn → Prop} : ∀ {t : MT} {C : Nat} {x : Nat × Fn}, MT.All t P → t.at C = some x → P C x.1 x.2
  | [], _, _, _, e => by cases e
  | a :: r, C, x, h, e => by
    have e : (if a.1 = C then some a.2 else MT.at r C) = some x := e
    by_cases q : a.1 = C
    · rw [if_pos q] at e; cases e; subst q; exact h.1
    · rw [if_neg q] at e; exact MT.All.get h.2 e
/-- o.m(..), o a value -/
def xMeth (m : Str) (n : Nat) (t : MT) (o : Ev) (r : EvG') : Ev := fun env => (o env).bind fun x e1 => match x with
  | .ins C fs => match t.at C with
    | some (_, g) => if fs.lookup m = none then (r e1).bind fun as e2 => if (Ag.v (.ins C fs) :: as).length = n then callG g (.v (.ins C fs) :: as) e2 else .no else .no
    | none => .no
  | _ => .no
def GT (K : PySem.W.Frag) (S : Nat → Addr) (fr : Bool) (n : Nat) (t : MT) : Addr → Addr → Sp → Prop := fun C f sp => ∃ c j g, t.at c = some (j, g) ∧ C = S c ∧ f = S j ∧ sp = spD K S fr n g
theorem mg_of' {t : MT} (h : MT.All t fun c j g => Cls X.K (S c) ∧ Meth X.K (S c) m (S j) ∧ ∃ fd ps, FnOk X.prog X.w X.K X.mg X.base CX k (S j) fd ps (spD X.K S fr n g) ∧ Binds X.K fd ps []) : MG X CX k m (GT X.K S fr n t) := by
  rintro C f sp ⟨c, j, g, e, rfl, rfl, rfl⟩
  exact h.get e
theorem lookF {K : PySem.W.Frag} {G : Hp} {m : Str} : ∀ {fs : List (Str × D)} {ws : List (Str × V)}, RepF K S G fs ws → (fs.lookup m = none → ws.lookup m = none) ∧ ∀ d, fs.lookup m = some d → ∃ v, ws.lookup m = some v ∧ Rep K S G d v
  | [], _, h => by cases h; exact ⟨fun _ => rfl, fun d e => by cases e⟩
  | x :: xs, _, ⟨v, ws, e, q, r⟩ => by
    subst e
    obtain ⟨h1, h2⟩ := lookF (m := m) r
    have e1 : List.lookup m (x :: xs) = match m == x.1 with
      | true => some x.2
      | false => List.lookup m xs := rfl
    have e2 : List.lookup m ((x.1, v) :: ws) = match m == x.1 with
      | true => some v
      | false => List.lookup m ws := rfl
    rw [e1, e2]
    cases m == x.1 with
    | true => exact ⟨fun e => (by cases e), fun d e => (by cases e; exact ⟨v, rfl, q⟩)⟩
    | false => exact ⟨h1, h2⟩
theorem snd_meth {K : PySem.W.Frag} {t : MT} {σ : L2.St} {H : Hp} {Q : VK} (q : TD K S E (xMeth m n t eo eg) σ H Q) : tMD (GT K S false n t) m E (TD K S E eo) (TAg K S E eg) σ H Q := by
  obtain ⟨B, L, G, env, st, rl, po⟩ := q
  refine ⟨B, L, G, env, st, rl, po.then fun G1 H1 x e1 sm1 st1 rl1 p1 v rv => ?_⟩
  cases x with
  | ins C fs =>
    dsimp only at p1
    split at p1
    · rename_i j g ht
      split at p1
      · rename_i hl
        obtain ⟨a, dx, ws, rfl, ga, rf⟩ := rv
        refine ⟨a, S C, dx, ws, S j, _, rfl, st1.inn.ins ga, (lookF rf).1 hl, ⟨C, j, g, ht, rfl, rfl, rfl⟩, B, L, G1, e1, st1, rl1, p1.then fun G2 H2 as e2 sm2 st2 rl2 p2 vs rvs => ?_⟩
        obtain ⟨hn, p2⟩ := len_of p2
        exact call_ok st2 rl2 (.cons (show AgOk K S G2 σ (.v (.ins C fs)) (.ref a) from ⟨a, dx, ws, rfl, sm2 _ _ ga, rf.mono sm2⟩) rvs) hn p2 fun G' H' d e _ _ _ h => h
      · exact p1.elim
    · exact p1.elim
  | _ => exact p1.elim
theorem sndf_meth {K : PySem.W.Frag} {t : MT} {σ : L2.St} {H : Hp} {Q : VK} (q : TF K S E (xMeth m n t eo eg) σ H Q) : tMD (GT K S true n t) m E (TD K S E eo) (TAg K S E eg) σ H Q := by
  obtain ⟨B, L, G, env, st, rl, po⟩ := q
  refine ⟨B, L, G, env, st, rl, po.then fun G1 H1 x e1 sm1 st1 rl1 p1 v rv => ?_⟩
  cases x with
  | ins C fs =>
    dsimp only at p1
    split at p1
    · rename_i j g ht
      split at p1
      · rename_i hl
        obtain ⟨a, dx, ws, rfl, ga, rf⟩ := rv
        refine ⟨a, S C, dx, ws, S j, _, rfl, st1.inn.ins ga, (lookF rf).1 hl, ⟨C, j, g, ht, rfl, rfl, rfl⟩, B, L, G1, e1, st1, rl1, p1.then fun G2 H2 as e2 sm2 st2 rl2 p2 vs rvs => ?_⟩
        obtain ⟨hn, p2⟩ := len_of p2
        refine call_ok st2 rl2 (.cons (show AgOk K S G2 σ (.v (.ins C fs)) (.ref a) from ⟨a, dx, ws, rfl, sm2 _ _ ga, rf.mono sm2⟩) rvs) hn p2 fun G' H' d e hown st' rl' h => ?_
        rw [if_pos rfl]
        intro q o hq gq hq' r
        exact h q o gq (st2.free hq) hq' (fun i s h1 h2 h3 => by
          obtain ⟨s', e1, e2⟩ := hown i s h1 h2
          exact rl2.fresh hq i s' e1 e2 h3) (st2.nolock hq) r
      · exact p1.elim
    · exact p1.elim
  | _ => exact p1.elim
variable {t : MT} {pl : Sem Bool}
theorem q_meth (ho : QE S X E o eo) (hG : MT.All t fun c j g => Cls X.K (S c) ∧ Meth X.K (S c) m (S j) ∧ ∃ fd ps, FnOk X.prog X.w X.K X.mg X.base CX k (S j) fd ps (spD X.K S false n g) ∧ Binds X.K fd ps []) (hr : Room k X.A) (hx : Passes CX X E) (ha : QG S X E (e :: es) eg)
    (hst : starEach (e :: es) X.env = (false, eval e X.env) :: starEach es X.env := by rfl) (hpl : (backTo pos (starEach es X.env)).any (·.1) = false := by rfl)
    (ht : eval (.Call (.Attribute o m apos) (e :: es) [] pos) X.env = (do
      let ov ← eval o X.env
      standAt apos.atName
      let (f, first) ← holding [ov] (getMethod ov m pl)
      callWith pos f first (backTo pos (starEach (e :: es) X.env)) (backToKw pos (keywordEach [] X.env))) := by rfl) : QE S X E (.Call (.Attribute o m apos) (e :: es) [] pos) (xMeth m n t eo eg) := pe_of (pe_methD (pl := pl) ho (mg_of' hG) hr hx ha hst hpl ht) fun _ _ _ q => snd_meth q
theorem qf_meth (ho : QE S X E o eo) (hG : MT.All t fun c j g => Cls X.K (S c) ∧ Meth X.K (S c) m (S j) ∧ ∃ fd ps, FnOk X.prog X.w X.K X.mg X.base CX k (S j) fd ps (spD X.K S true n g) ∧ Binds X.K fd ps []) (hr : Room k X.A) (hx : Passes CX X E) (ha : QG S X E (e :: es) eg)
    (hst : starEach (e :: es) X.env = (false, eval e X.env) :: starEach es X.env := by rfl) (hpl : (backTo pos (starEach es X.env)).any (·.1) = false := by rfl)
    (ht : eval (.Call (.Attribute o m apos) (e :: es) [] pos) X.env = (do
      let ov ← eval o X.env
      standAt apos.atName
      let (f, first) ← holding [ov] (getMethod ov m pl)
      callWith pos f first (backTo pos (starEach (e :: es) X.env)) (backToKw pos (keywordEach [] X.env))) := by rfl) : QF S X E (.Call (.Attribute o m apos) (e :: es) [] pos) (xMeth m n t eo eg) := pe_of (pe_methD (pl := pl) ho (mg_of' hG) hr hx ha hst hpl ht) fun _ _ _ q => sndf_meth q
theorem tMD0 {G : Addr → Addr → Sp → Prop} {K : PySem.W.Frag} {ta : TE} (hta : ∀ σ H Q Q', (∀ v H', Q v H' → Q' v H') → ta σ H Q → ta σ H Q') {σ : L2.St} {H : Hp} {Q : VK} (q : tMD G m E ta (TAg K S E gNil) σ H Q) : tMD G m E ta tNil σ H Q :=
  hta _ _ _ _ (fun v H' ⟨a, C, dx, fs, f, sp, h1, h2, h3, h4, h5⟩ => ⟨a, C, dx, fs, f, sp, h1, h2, h3, h4, tnil h5⟩) q
theorem td_mono {K : PySem.W.Frag} {f : Ev} {σ : L2.St} {H : Hp} {Q Q' : VK} (h : ∀ v H', Q v H' → Q' v H') (q : TD K S E f σ H Q) : TD K S E f σ H Q' := by
  obtain ⟨B, L, G, env, st, rl, po⟩ := q
  exact ⟨B, L, G, env, st, rl, po.imp fun _ _ _ _ _ _ _ p v r => h _ _ (p v r)⟩
theorem q_meth0 (ho : QE S X E o eo) (hG : MT.All t fun c j g => Cls X.K (S c) ∧ Meth X.K (S c) m (S j) ∧ ∃ fd ps, FnOk X.prog X.w X.K X.mg X.base CX k (S j) fd ps (spD X.K S false n g) ∧ Binds X.K fd ps []) (hr : Room k X.A) (hx : Passes CX X E)
    (ht : eval (.Call (.Attribute o m apos) [] [] pos) X.env = (do
      let ov ← eval o X.env
      standAt apos.atName
      let (f, first) ← holding [ov] (getMethod ov m pl)
      callWith pos f first (backTo pos (starEach [] X.env)) (backToKw pos (keywordEach [] X.env))) := by rfl) : QE S X E (.Call (.Attribute o m apos) [] [] pos) (xMeth m n t eo gNil) := pe_of (pe_methD0 (pl := pl) ho (mg_of' hG) hr hx ht) fun σ H Q q => tMD0 (ta := TD X.K S E eo) (fun _ _ _ _ h => td_mono h) (snd_meth q)
theorem qf_meth0 (ho : QE S X E o eo) (hG : MT.All t fun c j g => Cls X.K (S c) ∧ Meth X.K (S c) m (S j) ∧ ∃ fd ps, FnOk X.prog X.w X.K X.mg X.base CX k (S j) fd ps (spD X.K S true n g) ∧ Binds X.K fd ps []) (hr : Room k X.A) (hx : Passes CX X E)
    (ht : eval (.Call (.Attribute o m apos) [] [] pos) X.env = (do
      let ov ← eval o X.env
      standAt apos.atName
      let (f, first) ← holding [ov] (getMethod ov m pl)
      callWith pos f first (backTo pos (starEach [] X.env)) (backToKw pos (keywordEach [] X.env))) := by rfl) : QF S X E (.Call (.Attribute o m apos) [] [] pos) (xMeth m n t eo gNil) := pe_of (pe_methD0 (pl := pl) ho (mg_of' hG) hr hx ht) fun σ H Q q => tMD0 (ta := TD X.K S E eo) (fun _ _ _ _ h => td_mono h) (sndf_meth q)
/-! ### fields -/
def xFld (cs : List Nat) (f : Str) (a : Ev) : Ev := fun env => (a env).bind fun x e => match x with
  | .ins C fs => if C ∈ cs then .of (fs.lookup f) e else .no
  | _ => .no
/-- a field of an object of one's own -/
def xFldV (cs : List Nat) (f : Str) (i : Nat) : Ev := fun env => match env[i]? with
  | some (.box (.ins C fs)) => if C ∈ cs then .of (fs.lookup f) env else .no
  | some (.par (.ins C fs)) => if C ∈ cs then .of (fs.lookup f) env else .no
  | _ => .no
abbrev FldOk (K : PySem.W.Frag) (S : Nat → Addr) (f : Str) (cs : List Nat) : Prop := ∀ C ∈ cs, Cls K (S C) ∧ NoAttr K (S C) f
variable {cs : List Nat} {s : Str}
theorem q_fld (hc : FldOk X.K S s cs) (ha : QE S X E a ea) (hb : attributeBase a s X.env (eval a X.env) = eval a X.env) : QE S X E (.Attribute a s pos) (xFld cs s ea) := pe_of (pe_fld ha hb) fun σ H Q ⟨B, L, G, env, st, rl, po⟩ => ⟨B, L, G, env, st, rl, po.then fun G1 H1 x e1 sm1 st1 rl1 p1 v rv => by
  cases x with
  | ins C fs =>
    dsimp only at p1
    split at p1
    · rename_i hC
      obtain ⟨d, hd, k⟩ := p1.of st1 rl1
      obtain ⟨p, dx, ws, rfl, gp, rf⟩ := rv
      obtain ⟨u, hu, ru⟩ := (lookF rf).2 d hd
      exact ⟨p, S C, dx, ws, u, rfl, st1.inn.ins gp, (hc C hC).1, (hc C hC).2, hu, k G1 H1 (.refl st1.inn) u ru⟩
    · exact p1.elim
  | _ => exact p1.elim⟩
theorem fld_at {K : PySem.W.Frag} {B : Base} {L : Lk} {G H : Hp} {env : Env} {σ : L2.St} {i C : Nat} {fs : List (Str × D)} {sl : Sl} (rl : Rel K S B L G H env σ) (h : env[i]? = some sl) (hs : sl = .box (.ins C fs) ∨ sl = .par (.ins C fs)) : ∃ p dx ws, σ[i]? = some (some (V.ref p)) ∧ H p = some (.ins (S C) dx ws) ∧ RepF K S G fs ws := by
  obtain ⟨x, hx, q⟩ := rel_at rl h
  rcases hs with rfl | rfl
  · obtain ⟨p, o, rfl, _, _, hp, dx, ws, rfl, r⟩ := q
    exact ⟨p, dx, ws, hx, hp, r⟩
  · obtain ⟨p, o, rfl, _, hp, dx, ws, rfl, r⟩ := q
    exact ⟨p, dx, ws, hx, hp, r⟩
theorem q_fldV {i : Nat} (hc : FldOk X.K S s cs) (ha : PE X a (tVar i)) (hb : attributeBase a s X.env (eval a X.env) = eval a X.env) : QE S X E (.Attribute a s pos) (xFldV cs s i) := pe_of (pe_fld ha hb) fun σ H Q ⟨B, L, G, env, st, rl, po⟩ => by
  have key : ∀ C fs sl, env[i]? = some sl → (sl = .box (.ins C fs) ∨ sl = .par (.ins C fs)) → Post X.K S E B L σ G (fun G' H' d _ => ∀ v, Rep X.K S G' d v → Q v H') (if C ∈ cs then .of (fs.lookup s) env else .no) → tFld X.K (tVar i) s σ H Q := fun C fs sl h hs po => by
    split at po
    · rename_i hC
      obtain ⟨d, hd, k⟩ := po.of st rl
      obtain ⟨p, dx, ws, hx, hp, rf⟩ := fld_at rl h hs
      obtain ⟨u, hu, ru⟩ := (lookF rf).2 d hd
      exact ⟨.ref p, hx, p, S C, dx, ws, u, rfl, hp, (hc C hC).1, (hc C hC).2, hu, k G H (.refl st.inn) u ru⟩
    · exact po.elim
  unfold xFldV at po
  split at po
  · rename_i C fs h
    exact key C fs _ h (.inl rfl) po
  · rename_i C fs h
    exact key C fs _ h (.inr rfl) po
  · exact po.elim
end
end
end Dv
namespace Dv
open PySem PySem.Spec PyProof.Rows L2
set_option autoImplicit false
noncomputable section
/-! ### statements -/
inductive Sr where
  | nx (e : Env) | rt (d : D) (e : Env) | rf (d : D) (e : Env) | bk (e : Env) | ct (e : Env) | ex (C : Nat) (fs : List (Str × D)) (e : Env) | no
abbrev EvS := Env → Sr
def Res.st {α : Type} (r : Res α) (k : α → Env → Sr) : Sr := match r with
  | .ok a e => k a e
  | .ex C fs e => .ex C fs e
  | .no => .no
section
variable (K : PySem.W.Frag) (S : Nat → Addr) (E : XK)
def PostS (B : Base) (L : Lk) (G : Hp) (D : Ends) : Sr → Prop
  | .nx e => ∀ σ' G' H', Same G G' → Ste B L G' H' → Rel K S B L G' H' e σ' → D.nx σ' H'
  | .rt d e => ∀ σ' G' H', Same G G' → Ste B L G' H' → Rel K S B L G' H' e σ' → ∀ v, Rep K S G' d v → D.rt v H'
  | .rf d e => ∀ σ' G' H', Same G G' → Ste B L G' H' → Rel K S B L G' H' e σ' → ∀ a o, G' a = none → B.H a = none → H' a = some o → RepO K S G' d o → D.rt (.ref a) H'
  | .bk e => ∀ σ' G' H', Same G G' → Ste B L G' H' → Rel K S B L G' H' e σ' → D.bk σ' H'
  | .ct e => ∀ σ' G' H', Same G G' → Ste B L G' H' → Rel K S B L G' H' e σ' → D.ct σ' H'
  | .ex C fs e => ∀ σ' od G' H', Same G G' → Ste B L G' H' → Rel K S B L G' H' e σ' → XD K S G' H' fs od → E (Value.ref (S C)) od H'
  | .no => False
def TS' (f : EvS) : TS := fun D σ H => ∃ (B : Base) (L : Lk) (G : Hp) (env : Env), Ste B L G H ∧ Rel K S B L G H env σ ∧ PostS K S E B L G D (f env)
end
section
variable {K : PySem.W.Frag} {S : Nat → Addr} {E : XK} {B : Base} {L : Lk} {G G1 H : Hp} {σ : L2.St} {D D' : Ends} {r : Sr}
theorem PostS.up (h : PostS K S E B L G D r) (s : Same G G1) : PostS K S E B L G1 D r := by
  cases r with
  | no => exact h
  | nx e => exact fun σ' G' H' s' => h σ' G' H' (s.trans s')
  | rt d e => exact fun σ' G' H' s' => h σ' G' H' (s.trans s')
  | rf d e => exact fun σ' G' H' s' => h σ' G' H' (s.trans s')
  | bk e => exact fun σ' G' H' s' => h σ' G' H' (s.trans s')
  | ct e => exact fun σ' G' H' s' => h σ' G' H' (s.trans s')
  | ex C fs e => exact fun σ' od G' H' s' => h σ' od G' H' (s.trans s')
/-- a value first, then a statement's end -/
theorem Post.st {α : Type} {x : Res α} {k : α → Env → Sr} {P : Hp → Hp → α → Env → Prop} (h : PostS K S E B L G D (x.st k)) (f : ∀ G' H' a e, Same G G' → Ste B L G' H' → Rel K S B L G' H' e σ → PostS K S E B L G' D (k a e) → P G' H' a e) : Post K S E B L σ G P x := by
  cases x with
  | ok a e => exact fun G' H' s st rl => f G' H' a e s st rl (PostS.up h s)
  | ex C fs e => exact fun od G' H' s st rl x => h σ od G' H' s st rl x
  | no => exact h
end
section
variable {S : Nat → Addr} {X : Cx} {E : XK} {a b e : Expr} {ea eb ee : Ev} {pos : Pos} {st : Stmt} {rest : List Stmt} {es er : EvS} {et : EvT}
abbrev QS (S : Nat → Addr) (X : Cx) (E : XK) (st : Stmt) (f : EvS) : Prop := PS X st (TS' X.K S E f)
abbrev QSs (S : Nat → Addr) (X : Cx) (E : XK) (st : List Stmt) (f : EvS) : Prop := PSs X st (TS' X.K S E f)
def Sr.seq (r : Sr) (k : EvS) : Sr := match r with
  | .nx e => k e
  | r => r
def xSeq (a b : EvS) : EvS := fun env => (a env).seq b
def xNx : EvS := fun env => .nx env
theorem s_nil : QSs S X E [] xNx := pss_of pss_nil fun D σ H ⟨B, L, G, env, st, rl, po⟩ => po σ G H (.refl _) st rl
theorem s_one (h1 : QS S X E st es) : QSs S X E [st] es := pss_one h1
theorem PostS.seq {K : PySem.W.Frag} {B : Base} {L : Lk} {G : Hp} {D : Ends} {r : Sr} {k : EvS} (h : PostS K S E B L G D (r.seq k)) : PostS K S E B L G { D with nx := TS' K S E k D } r := by
  cases r with
  | nx e => exact fun σ' G' H' s st rl => ⟨B, L, G', e, st, rl, PostS.up h s⟩
  | rt d e => exact h
  | rf d e => exact h
  | bk e => exact h
  | ct e => exact h
  | ex C fs e => exact h
  | no => exact h
theorem s_cons (h1 : QS S X E st es) (h2 : QSs S X E rest er) : QSs S X E (st :: rest) (xSeq es er) := pss_of (pss_cons h1 h2) fun D σ H ⟨B, L, G, env, st, rl, po⟩ => ⟨B, L, G, env, st, rl, PostS.seq po⟩
theorem s_pass : QS S X E (.Pass pos) xNx := ps_of ps_pass fun D σ H ⟨B, L, G, env, st, rl, po⟩ => po σ G H (.refl _) st rl
def xBreak : EvS := fun env => .bk env
def xCont : EvS := fun env => .ct env
theorem s_break : QS S X E (.Break pos) xBreak := ps_of ps_break fun D σ H ⟨B, L, G, env, st, rl, po⟩ => po σ G H (.refl _) st rl
theorem s_continue : QS S X E (.Continue pos) xCont := ps_of ps_continue fun D σ H ⟨B, L, G, env, st, rl, po⟩ => po σ G H (.refl _) st rl
def xNoS : EvS := fun _ => .no
theorem s_no : QS S X E st xNoS := ps_of ps_never fun D σ H ⟨B, L, G, env, st, rl, po⟩ => po.elim
theorem ss_no {sts : List Stmt} : QSs S X E sts xNoS := pss_of pss_never fun D σ H ⟨B, L, G, env, st, rl, po⟩ => po.elim
def xDrop (a : Ev) : EvS := fun env => (a env).st fun _ e => .nx e
theorem s_expr (he : QE S X E e ee) (hs : swapsWith e none pos.line X.env = pure false := by rfl) : QS S X E (.Expr e pos) (xDrop ee) := ps_of (ps_expr he hs) fun D σ H ⟨B, L, G, env, st, rl, po⟩ => ⟨B, L, G, env, st, rl, Post.st po fun G' H' d e s st' rl' p v _ => p σ G' H' (.refl _) st' rl'⟩
def xRet (a : Ev) : EvS := fun env => (a env).st fun d e => .rt d e
theorem s_ret (he : QE S X E e ee) : QS S X E (.Return (some e) pos) (xRet ee) := ps_of (ps_ret he) fun D σ H ⟨B, L, G, env, st, rl, po⟩ => ⟨B, L, G, env, st, rl, Post.st po fun G' H' d e s st' rl' p v rv => p σ G' H' (.refl _) st' rl' v rv⟩
/-- what is returned is a new object of one's own -/
def xRetF (a : Ev) : EvS := fun env => (a env).st fun d e => .rf d e
theorem s_retF (he : QF S X E e ee) : QS S X E (.Return (some e) pos) (xRetF ee) := ps_of (ps_ret he) fun D σ H ⟨B, L, G, env, st, rl, po⟩ => ⟨B, L, G, env, st, rl, Post.st po fun G' H' d e s st' rl' p a o h1 h2 h3 _ _ h4 => p σ G' H' (.refl _) st' rl' a o h1 h2 h3 h4⟩
/-- .. that stands at a slot -/
def xRetV (i : Nat) : EvS := fun env => match env[i]? with
  | some (.box d) => .rf d (env.set i .no)
  | _ => .no
theorem s_retV {i : Nat} (he : PE X e (tVar i)) : QS S X E (.Return (some e) pos) (xRetV i) := ps_of (ps_ret he) fun D σ H ⟨B, L, G, env, st, rl, po⟩ => by
  unfold xRetV at po
  split at po
  · rename_i d h
    obtain ⟨x, hx, p, o, rfl, gp, bp, hp, r⟩ := rel_at rl h
    exact ⟨.ref p, hx, po σ G H (.refl _) st (rel_no rl) p o gp bp hp r⟩
  · exact po.elim
def xRetN : EvS := fun env => .rt .non env
theorem s_retN : QS S X E (.Return none pos) xRetN := ps_of ps_retN fun D σ H ⟨B, L, G, env, st, rl, po⟩ => po σ G H (.refl _) st rl .non rfl
def xIfS (c : EvT) (a b : EvS) : EvS := fun env => (c env).st fun x e => match x with
  | true => a e
  | false => b e
theorem s_if {c : Expr} {as bs : List Stmt} (hc : QT S X E c et) (ha : QSs S X E as es) (hb : QSs S X E bs er) : QS S X E (.If c as bs pos) (xIfS et es er) := ps_of (ps_if hc ha hb) fun D σ H ⟨B, L, G, env, st, rl, po⟩ => ⟨B, L, G, env, st, rl, Post.st po fun G' H' x e s st' rl' p v rv => by
  cases rv
  cases x with
  | true => exact ⟨B, L, G', e, st', rl', p⟩
  | false => exact ⟨B, L, G', e, st', rl', p⟩⟩
/-! assignments -/
def setE (env : Env) (i : Nat) (d : D) : Option Env := match env[i]? with
  | some (.par _) => none
  | some _ => some (env.set i (.val d))
  | none => none
theorem rel_set {K : PySem.W.Frag} {B : Base} {L : Lk} {G H : Hp} {env env' : Env} {σ : L2.St} {i : Nat} {d : D} {v : V} (rl : Rel K S B L G H env σ) (h : setE env i d = some env') (r : Rep K S G d v) : Rel K S B L G H env' (σ.set i (some v)) := by
  have e : env' = env.set i (.val d) := by
    unfold setE at h
    split at h
    · cases h
    · cases h; rfl
    · cases h
  subst e
  refine ⟨paired_set ⟨v, rfl, r⟩ i rl.at_, fun j k s t w hjk h1 h2 o1 o2 h3 => ?_, fun j s w h1 o1 h3 => ?_⟩
  · rcases set_at h1 with ⟨rfl, rfl⟩ | ⟨hj, h1⟩
    · cases o1
    · rcases set_at h2 with ⟨rfl, rfl⟩ | ⟨hk, h2⟩
      · cases o2
      · rw [List.getElem?_set_ne (fun e => hj e.symm)] at h3
        rw [List.getElem?_set_ne (fun e => hk e.symm)]
        exact rl.nd j k s t w hjk h1 h2 o1 o2 h3
  · rcases set_at h1 with ⟨rfl, rfl⟩ | ⟨hj, h1⟩
    · cases o1
    · rw [List.getElem?_set_ne (fun e => hj e.symm)] at h3
      exact rl.nl j s w h1 o1 h3
def xSet (i : Nat) (a : Ev) : EvS := fun env => (a env).st fun d e => match setE e i d with
  | some e' => .nx e'
  | none => .no
theorem snd_set {K : PySem.W.Frag} {i : Nat} {D : Ends} {σ : L2.St} {H : Hp} (q : TS' K S E (xSet i ee) D σ H) : tAsg (TD K S E ee) (gName i) D σ H := by
  obtain ⟨B, L, G, env, st, rl, po⟩ := q
  exact ⟨B, L, G, env, st, rl, Post.st po fun G' H' d e s st' rl' p v rv => by
    split at p
    · rename_i e' h
      exact p _ G' H' (.refl _) st' (rel_set rl' h rv)
    · exact p.elim⟩
theorem s_set {i : Nat} {x : Str} {pos' : Pos} (hN : X.N.Nodup) (hi : X.N[i]? = some x) (hx : Loc X.env.scope x) (he : QE S X E e ee) (hs : swapsWith e (some (.Name x pos')) pos.line X.env = pure false := by rfl) (hf : X.fn x = true ∨ X.env.scope.names.lookup x = some .local := by first | exact .inl rfl | exact .inr rfl | assumption) :
    QS S X E (.Assign [.Name x pos'] e pos) (xSet i ee) := ps_of (ps_set hN hi hx he hs hf) fun _ _ _ q => snd_set q
/-- x = a new object of one's own -/
def xBox (i : Nat) (a : Ev) : EvS := fun env => (a env).st fun d e => match e[i]? with
  | some (.par _) => .no
  | some _ => .nx (e.set i (.box d))
  | none => .no
theorem rel_box {K : PySem.W.Frag} {B : Base} {L : Lk} {G H : Hp} {env : Env} {σ : L2.St} {i : Nat} {d : D} {p : Addr} {o : HO} (rl : Rel K S B L G H env σ) (g : G p = none) (b : B.H p = none) (h : H p = some o) (hn : ∀ (i : Nat) (s : Sl), env[i]? = some s → isOwn s = true → σ[i]? ≠ some (some (V.ref p))) (hl : ∀ q ∈ L, q.1 ≠ p) (r : RepO K S G d o) : Rel K S B L G H (env.set i (.box d)) (σ.set i (some (V.ref p))) := by
  refine ⟨paired_set ⟨p, o, rfl, g, b, h, r⟩ i rl.at_, fun j k s t w hjk h1 h2 o1 o2 h3 h4 => ?_, fun j s w h1 o1 h3 => ?_⟩
  · rcases set_at h1 with ⟨rfl, rfl⟩ | ⟨hj, h1⟩
    · rcases set_at h2 with ⟨rfl, rfl⟩ | ⟨hk, h2⟩
      · exact hjk rfl
      · rw [List.getElem?_set_ne (fun e => hk e.symm)] at h4
        rcases set_at h3 with ⟨_, e⟩ | ⟨hj', _⟩
        · cases e
          exact hn k t h2 o2 h4
        · exact hj' rfl
    · rw [List.getElem?_set_ne (fun e => hj e.symm)] at h3
      rcases set_at h2 with ⟨rfl, rfl⟩ | ⟨hk, h2⟩
      · rcases set_at h4 with ⟨_, e⟩ | ⟨hj', _⟩
        · cases e
          exact hn j s (by assumption) o1 h3
        · exact hj' rfl
      · rw [List.getElem?_set_ne (fun e => hk e.symm)] at h4
        exact rl.nd j k s t w hjk h1 h2 o1 o2 h3 h4
  · rcases set_at h1 with ⟨rfl, rfl⟩ | ⟨hj, h1⟩
    · rcases set_at h3 with ⟨_, e⟩ | ⟨hj', _⟩
      · cases e
        exact hl
      · exact (hj' rfl).elim
    · rw [List.getElem?_set_ne (fun e => hj e.symm)] at h3
      exact rl.nl j s w h1 o1 h3
theorem snd_box {K : PySem.W.Frag} {i : Nat} {D : Ends} {σ : L2.St} {H : Hp} (q : TS' K S E (xBox i ee) D σ H) : tAsg (TF K S E ee) (gName i) D σ H := by
  obtain ⟨B, L, G, env, st, rl, po⟩ := q
  exact ⟨B, L, G, env, st, rl, Post.st po fun G' H' d e s st' rl' p a o h1 h2 h3 h4 h5 h6 => by
    split at p
    · exact p.elim
    · exact p _ G' H' (.refl _) st' (rel_box rl' h1 h2 h3 h4 h5 h6)
    · exact p.elim⟩
theorem s_box {i : Nat} {x : Str} {pos' : Pos} (hN : X.N.Nodup) (hi : X.N[i]? = some x) (hx : Loc X.env.scope x) (he : QF S X E e ee) (hs : swapsWith e (some (.Name x pos')) pos.line X.env = pure false := by rfl) (hf : X.fn x = true ∨ X.env.scope.names.lookup x = some .local := by first | exact .inl rfl | exact .inr rfl | assumption) :
    QS S X E (.Assign [.Name x pos'] e pos) (xBox i ee) := ps_of (ps_set hN hi hx he hs hf) fun _ _ _ q => snd_box q
/-! o.f = e, o at a slot -/
def putD (f : Str) (v : D) : List (Str × D) → List (Str × D)
  | [] => [(f, v)]
  | (k, x) :: r => if k = f then (k, v) :: r else (k, x) :: putD f v r
theorem put_ok {K : PySem.W.Frag} {G : Hp} {f : Str} {d : D} {v : V} (r : Rep K S G d v) : ∀ {fs : List (Str × D)} {ws : List (Str × V)}, RepF K S G fs ws → RepF K S G (putD f d fs) (putF f v ws)
  | [], _, h => by cases h; exact ⟨v, [], rfl, r, rfl⟩
  | (k, x) :: xs, _, ⟨u, ws, e, q, t⟩ => by
    subst e
    show RepF K S G (if k = f then (k, d) :: xs else (k, x) :: putD f d xs) (if k = f then (k, v) :: ws else (k, u) :: putF f v ws)
    by_cases h : k = f
    · rw [if_pos h, if_pos h]
      exact ⟨v, ws, rfl, r, t⟩
    · rw [if_neg h, if_neg h]
      exact ⟨u, _, rfl, q, put_ok r t⟩
def xFldS (cs : List Nat) (f : Str) (i : Nat) (a : Ev) : EvS := fun env => (a env).st fun d e => match e[i]? with
  | some (.par (.ins C fs)) => if C ∈ cs ∧ fs.length ≤ 900 then .nx (e.set i (.par (.ins C (putD f d fs)))) else .no
  | some (.box (.ins C fs)) => if C ∈ cs ∧ fs.length ≤ 900 then .nx (e.set i (.box (.ins C (putD f d fs)))) else .no
  | _ => .no
theorem repF_len {K : PySem.W.Frag} {G : Hp} : ∀ {fs : List (Str × D)} {ws : List (Str × V)}, RepF K S G fs ws → fs.length = ws.length
  | [], _, h => by cases h; rfl
  | x :: xs, _, ⟨u, ws, e, q, t⟩ => by subst e; rw [List.length_cons, List.length_cons, repF_len t]
/-- an object of one's own is changed -/
theorem own_set {K : PySem.W.Frag} {B : Base} {L : Lk} {G H : Hp} {env : Env} {σ : L2.St} {i : Nat} {s : Sl} {p : Addr} {d : D} {o : HO} (st : Ste B L G H) (rl : Rel K S B L G H env σ) (hi : env[i]? = some s) (hs : isOwn s = true) (hx : σ[i]? = some (some (V.ref p))) (ro : RepO K S G d o) :
    Ste B L G (upd H p o) ∧ Rel K S B L G (upd H p o) (env.set i (putSl s d)) σ := by
  obtain ⟨gp, hp⟩ := own_free st rl hi hs hx
  have f : Fin G H (some p) G (upd H p o) := by
    refine ⟨.refl _, fun a u e => ?_, fun a h e => (h e).elim, fun a u e hr => ?_⟩
    · have hne : a ≠ p := fun q => by subst q; rw [gp] at e; cases e
      rw [upd_ne hne]
      exact st.inn a u e
    · rw [upd_ne (fun q => hr (by rw [q]))]
      exact e
  exact ⟨st.fin rl f fun a e => by cases e; exact ⟨⟨i, s, hi, hs, hx⟩, by rw [upd_same]; intro e; cases e⟩, rl.fin1 f hi hs hx upd_same ro⟩
theorem s_fld {cs : List Nat} {s : Str} {i : Nat} {o value : Expr} {ev : Ev} {pos' : Pos} (hc : FldOk X.K S s cs) (ho : PE X o (tVar i)) (hv : QE S X E value ev) (hs : swapsWith value (some (.Attribute o s pos')) pos.line X.env = pure false) :
    QS S X E (.Assign [.Attribute o s pos'] value pos) (xFldS cs s i ev) := ps_of (ps_fld ho hv hs) fun D σ H ⟨B, L, G, env, st, rl, po⟩ => ⟨B, L, G, env, st, rl, Post.st po fun G' H' d e sm st' rl' p v rv => by
  have key : ∀ C fs sl, e[i]? = some sl → isOwn sl = true → (sl = .box (.ins C fs) ∨ sl = .par (.ins C fs)) → C ∈ cs → fs.length ≤ 900 → (∀ p0 dx ws, σ[i]? = some (some (V.ref p0)) → H' p0 = some (.ins (S C) dx ws) → RepF X.K S G' fs ws → D.nx σ (upd H' p0 (.ins (S C) dx (putF s v ws)))) → ∃ v0, σ[i]? = some (some v0) ∧ ∃ a C dx fs, v0 = .ref a ∧ H' a = some (.ins C dx fs) ∧ Cls X.K C ∧ NoAttr X.K C s ∧ fs.length < 1000 ∧ D.nx σ (upd H' a (.ins C dx (putF s v fs))) := fun C fs sl h1 h2 h3 h4 h5 k => by
    obtain ⟨p0, dx, ws, hx, hp, rf⟩ := fld_at rl' h1 h3
    exact ⟨.ref p0, hx, p0, S C, dx, ws, rfl, hp, (hc C h4).1, (hc C h4).2, by rw [← repF_len rf]; omega, k p0 dx ws hx hp rf⟩
  split at p
  · rename_i C fs h
    split at p
    · rename_i hh
      refine key C fs _ h rfl (.inr rfl) hh.1 hh.2 fun p0 dx ws hx hp rf => ?_
      obtain ⟨s1, s2⟩ := own_set (d := .ins C (putD s d fs)) (o := .ins (S C) dx (putF s v ws)) st' rl' h rfl hx ⟨dx, _, rfl, put_ok rv rf⟩
      exact p σ G' _ (.refl _) s1 s2
    · exact p.elim
  · rename_i C fs h
    split at p
    · rename_i hh
      refine key C fs _ h rfl (.inl rfl) hh.1 hh.2 fun p0 dx ws hx hp rf => ?_
      obtain ⟨s1, s2⟩ := own_set (d := .ins C (putD s d fs)) (o := .ins (S C) dx (putF s v ws)) st' rl' h rfl hx ⟨dx, _, rfl, put_ok rv rf⟩
      exact p σ G' _ (.refl _) s1 s2
    · exact p.elim
  · exact p.elim⟩
end
/-! ### targets -/
abbrev Eg := D → Env → Option Env
abbrev Egs := List D → Env → Option Env
theorem wipe_at {σ : L2.St} : ∀ (vs : List Nat) (j : Nat), (wipe σ vs)[j]? = if j ∈ vs then (if j < σ.length then some none else none) else σ[j]?
  | [], j => by simp [wipe]
  | v :: vs, j => by
    unfold wipe
    by_cases h : v = j
    · subst h
      by_cases hl : v < σ.length
      · rw [List.getElem?_set_self (by rw [wipe_length]; exact hl)]
        simp [hl]
      · rw [List.getElem?_eq_none_iff.mpr (by rw [List.length_set, wipe_length]; omega)]
        simp [hl]
    · rw [List.getElem?_set_ne h, wipe_at vs j]
      have : j ≠ v := fun e => h e.symm
      simp [this]
theorem wipe_set {σ : L2.St} {i : Nat} {x : Option V} {vs : List Nat} (h : i ∈ vs) : wipe (σ.set i x) vs = wipe σ vs := by
  refine List.ext_getElem? fun j => ?_
  rw [wipe_at, wipe_at, List.length_set]
  by_cases hj : j ∈ vs
  · rw [if_pos hj, if_pos hj]
  · rw [if_neg hj, if_neg hj, List.getElem?_set_ne (fun e => hj (by rw [← e]; exact h))]
section
variable {K : PySem.W.Frag} {S : Nat → Addr}
def SndG (K : PySem.W.Frag) (S : Nat → Addr) (gs : List Nat) (eg : Eg) (g : TG) : Prop := ∀ (B : Base) (L : Lk) (G H : Hp) (env env' : Env) (σ : L2.St) (d : D) (v : V) (N : L2.St → Hp → Prop), Ste B L G H → Rel K S B L G H env σ → Rep K S G d v → eg d env = some env' →
  (∀ σ', Rel K S B L G H env' σ' → (∀ vs, (∀ i ∈ gs, i ∈ vs) → wipe σ' vs = wipe σ vs) → N σ' H) → g v σ H N
def SndGs (K : PySem.W.Frag) (S : Nat → Addr) (gs : List Nat) (eg : Egs) (g : TGs) : Prop := ∀ (B : Base) (L : Lk) (G H : Hp) (env env' : Env) (σ : L2.St) (d : List D) (v : List V) (N : L2.St → Hp → Prop), Ste B L G H → Rel K S B L G H env σ → RepL K S G d v → eg d env = some env' →
  (∀ σ', Rel K S B L G H env' σ' → (∀ vs, (∀ i ∈ gs, i ∈ vs) → wipe σ' vs = wipe σ vs) → N σ' H) → g v σ H N
def yName (i : Nat) : Eg := fun d env => setE env i d
def yNil : Egs := fun ds env => match ds with
  | [] => some env
  | _ => none
def yCons (a : Eg) (r : Egs) : Egs := fun ds env => match ds with
  | d :: ds => match a d env with
    | some e => r ds e
    | none => none
  | [] => none
def yTup (n : Nat) (r : Egs) : Eg := fun d env => match d with
  | .tup xs => if xs.length = n then r xs env else none
  | _ => none
theorem g_name (i : Nat) : SndG K S [i] (yName i) (gName i) := fun B L G H env env' σ d v N st rl r e k => k _ (rel_set rl e r) fun vs h => wipe_set (h i (List.mem_singleton.mpr rfl))
theorem gs_nil : SndGs K S [] yNil L2.gNil := fun B L G H env env' σ d v N st rl r e k => by
  cases d with
  | nil => cases r; cases e; exact ⟨rfl, k σ rl fun _ _ => rfl⟩
  | cons _ _ => cases e
theorem gs_cons {a : Eg} {r : Egs} {t : TG} {u : TGs} {g1 g2 : List Nat} (h1 : SndG K S g1 a t) (h2 : SndGs K S g2 r u) : SndGs K S (g1 ++ g2) (yCons a r) (gCons t u) := fun B L G H env env' σ d v N st rl rp e k => by
  cases d with
  | nil => cases e
  | cons x xs =>
    obtain ⟨w, ws, rfl, q, t'⟩ := rp
    have e : (match a x env with
      | some e => r xs e
      | none => none) = some env' := e
    split at e
    · rename_i e1 he
      exact ⟨w, ws, rfl, h1 B L G H env e1 σ x w _ st rl q he fun σ1 rl1 w1 => h2 B L G H e1 env' σ1 xs ws N st rl1 t' e fun σ2 rl2 w2 => k σ2 rl2 fun vs hv => (w2 vs fun i hi => hv i (List.mem_append_right _ hi)).trans (w1 vs fun i hi => hv i (List.mem_append_left _ hi))⟩
    · cases e
theorem g_tup {n : Nat} {r : Egs} {u : TGs} {gs : List Nat} (h : SndGs K S gs r u) : SndG K S gs (yTup n r) (gTup K n u) := fun B L G H env env' σ d v N st rl rp e k => by
  cases d with
  | tup xs =>
    obtain ⟨p, vs, rfl, q, t⟩ := rp
    have e : (if xs.length = n then r xs env else none) = some env' := e
    by_cases hn : xs.length = n
    · rw [if_pos hn] at e
      exact ⟨p, vs, rfl, st.inn.tup q, by rw [← t.length]; exact hn, h B L G H env env' σ xs vs N st rl t e k⟩
    · rw [if_neg hn] at e; cases e
  | _ => cases e
end
section
variable {S : Nat → Addr} {X : Cx} {E : XK} {e tg : Expr} {ee : Ev} {pos : Pos} {eg : Eg} {g : TG} {gs : List Nat}
def xAsg (a : Ev) (g : Eg) : EvS := fun env => (a env).st fun d e => match g d e with
  | some e' => .nx e'
  | none => .no
theorem s_asg (he : QE S X E e ee) (hg : PG X tg g) (sg : SndG X.K S gs eg g) (hs : swapsWithSole [tg] e pos.line X.env = pure false := by rfl) (hw : swappedStores [tg] e X.env = pure none := by rfl)
    (h1 : (assignEach [tg] X.env).map (·.2) = [assign tg X.env] := by rfl) : QS S X E (.Assign [tg] e pos) (xAsg ee eg) := ps_of (ps_asg he hg hs hw h1) fun D σ H ⟨B, L, G, env, st, rl, po⟩ => ⟨B, L, G, env, st, rl, Post.st po fun G' H' d e s st' rl' p v rv => by
  split at p
  · rename_i e' h
    exact sg B L G' H' _ e' σ d v _ st' rl' rv h fun σ' rl2 _ => p σ' G' H' (.refl _) st' rl2
  · exact p.elim⟩
end
end
end Dv
namespace Dv
open PySem PySem.Spec PyProof.Rows L2
set_option autoImplicit false
noncomputable section
/-! ### what is walked -/
abbrev EvI := Env → Res (List D)
def ItOk (K : PySem.W.Frag) (S : Nat → Addr) (B : Base) (L : Lk) (G : Hp) (J : It) (items : List D) : Prop := ∀ (i : Nat) (G1 H1 : Hp), Same G G1 → Ste B L G1 H1 →
  (items[i]? = none → J.stop i H1) ∧ ∀ d, items[i]? = some d → J.go i H1 ∧ ∀ x H2, J.yld i H1 x H2 → ∃ G2, Ex G1 H1 G2 H2 ∧ Rep K S G2 d x
def TIt (K : PySem.W.Frag) (S : Nat → Addr) (E : XK) (f : EvI) : TI := fun σ H R => ∃ (B : Base) (L : Lk) (G : Hp) (env : Env), Ste B L G H ∧ Rel K S B L G H env σ ∧ Post K S E B L σ G (fun G' H' ds _ => ∀ J, ItOk K S B L G' J ds → R J H') (f env)
abbrev QI (S : Nat → Addr) (X : Cx) (E : XK) (tg iter : Expr) (f : EvI) : Prop := PI X tg iter (TIt X.K S E f)
theorem pi_of {X : Cx} {tg iter : Expr} {t u : TI} (p : PI X tg iter t) (h : ∀ σ H R, u σ H R → t σ H R) : PI X tg iter u := ⟨fun pins s σ H R I q => p.run pins s σ H R I (h σ H R q)⟩
def iSeq (K : PySem.W.Frag) (tl : TE) : TI := fun σ H R => tl σ H fun x H1 => ∃ a, x = .ref a ∧ (((∃ xs, SqL K H1 a xs) ∧ R (Itl K a) H1) ∨ ((∃ xs, SqT K H1 a xs) ∧ R (Itt K a) H1))
theorem pi_seq {X : Cx} {tg l : Expr} {tl : TE} (hl : PE X l tl) : PI X tg l (iSeq X.K tl) := by
  refine ⟨fun pins s σ H R I h => ?_⟩
  refine thn (hl.run pins s σ H _ I h) fun v s1 ⟨x, H1, I1, r1, a, e, q⟩ => ?_
  subst e
  cases r1
  rcases q with ⟨⟨xs, hq⟩, q⟩ | ⟨⟨xs, hq⟩, q⟩
  · obtain ⟨its, rv, p, hz⟩ := I1.list hq
    refine wpAny_pyIter_list p.isList ?_
    refine ⟨s1.heap.objs.size, [s1.heap.objs.size], _, _, H1, rfl, I1.kept (t' := s1.toks) fun b o e => Heap.get?_push_of_some _ e, turn_list a _, ⟨_, Heap.get?_push_size _ rfl, rfl, rfl⟩, fun b hb => ?_, q⟩
    have e : b = s1.heap.objs.size := by simpa using hb
    subst e
    exact I1.fpOk (Nat.le_refl _) (I1.hok.fresh (Nat.le_refl _))
  · obtain ⟨its, rv, p, hz⟩ := I1.tuple hq
    refine wpAny_pyIter_tuple (show s1.heap.IsTuple a its.toArray from p) ?_
    refine ⟨s1.heap.objs.size, [s1.heap.objs.size], _, _, H1, rfl, I1.kept (t' := s1.toks) fun b o e => Heap.get?_push_of_some _ e, turn_tuple a _, ⟨_, Heap.get?_push_size _ rfl, rfl, rfl⟩, fun b hb => ?_, q⟩
    have e : b = s1.heap.objs.size := by simpa using hb
    subst e
    exact I1.fpOk (Nat.le_refl _) (I1.hok.fresh (Nat.le_refl _))
def seqD (d : D) : Option (List D) := match d with
  | .lst xs => some xs
  | .scr xs => some xs
  | .tup xs => some xs
  | _ => none
def lstD (d : D) : Option (List D) := match d with
  | .lst xs => some xs
  | .scr xs => some xs
  | _ => none
section
variable {K : PySem.W.Frag} {S : Nat → Addr} {X : Cx} {E : XK} {a b e tg : Expr} {es : List Expr} {ea eb ee : Ev} {er : EvA} {pos p : Pos}
theorem lst_sq {G : Hp} {d : D} {v : V} {xs : List D} (r : Rep K S G d v) (h : lstD d = some xs) : ∃ q vs, v = .ref q ∧ SqL K G q vs ∧ RepL K S G xs vs := by
  cases d with
  | lst ys => cases h; obtain ⟨q, vs, e, g, t⟩ := r; exact ⟨q, vs, e, .inl (.inl g), t⟩
  | scr ys => cases h; obtain ⟨q, vs, e, g, t⟩ := r; exact ⟨q, vs, e, g, t⟩
  | _ => cases h
theorem seq_sq {G : Hp} {d : D} {v : V} {xs : List D} (r : Rep K S G d v) (h : seqD d = some xs) : ∃ q vs, v = .ref q ∧ (SqL K G q vs ∨ SqT K G q vs) ∧ RepL K S G xs vs := by
  cases d with
  | lst ys => cases h; obtain ⟨q, vs, e, g, t⟩ := r; exact ⟨q, vs, e, .inl (.inl (.inl g)), t⟩
  | scr ys => cases h; obtain ⟨q, vs, e, g, t⟩ := r; exact ⟨q, vs, e, .inl g, t⟩
  | tup ys => cases h; obtain ⟨q, vs, e, g, t⟩ := r; exact ⟨q, vs, e, .inr g, t⟩
  | _ => cases h
theorem rep_none {G : Hp} {xs : List D} {vs : List V} {i : Nat} (r : RepL K S G xs vs) (h : xs[i]? = none) : vs.length ≤ i := by
  have := List.getElem?_eq_none_iff.mp h
  rw [← r.length]
  exact this
theorem same_sqT {G G' : Hp} {q : Addr} {vs : List V} (h : Same G G') (t : SqT K G q vs) : SqT K G' q vs := t.elim (fun t => .inl (t.elim (fun t => .inl (h _ _ t)) fun ⟨o, t⟩ => .inr ⟨o, h _ _ t⟩)) .inr
def iSq (f : Ev) : EvI := fun env => (f env).bind fun d e => .of (seqD d) e
theorem i_seq (ha : QE S X E e ee) : QI S X E tg e (iSq ee) := pi_of (pi_seq ha) fun σ H R ⟨B, L, G, env, st, rl, po⟩ => ⟨B, L, G, env, st, rl, po.then fun G1 H1 d e1 sm1 st1 rl1 p1 v rv => by
  obtain ⟨xs, hd, k⟩ := p1.of st1 rl1
  obtain ⟨q, vs, rfl, hq, t⟩ := seq_sq rv hd
  refine ⟨q, rfl, ?_⟩
  have kk := k G1 H1 (.refl st1.inn)
  rcases hq with hq | hq
  · refine .inl ⟨⟨vs, st1.inn.seq hq⟩, kk _ fun i G2 H2 sm2 st2 => ⟨fun h => ⟨vs, st2.inn.seq (sm2.seq hq), rep_none t h⟩, fun d h => ?_⟩⟩
    obtain ⟨u, hu, ru⟩ := t.get h
    refine ⟨⟨vs, u, st2.inn.seq (sm2.seq hq), hu⟩, fun x H3 ⟨e1, e2⟩ => ?_⟩
    have := e2 vs (st2.inn.seq (sm2.seq hq))
    rw [hu] at this
    cases this
    subst e1
    exact ⟨G2, .refl st2.inn, ru.mono sm2⟩
  · refine .inr ⟨⟨vs, st1.inn.tup hq⟩, kk _ fun i G2 H2 sm2 st2 => ⟨fun h => ⟨vs, st2.inn.tup (same_sqT sm2 hq), rep_none t h⟩, fun d h => ?_⟩⟩
    obtain ⟨u, hu, ru⟩ := t.get h
    refine ⟨⟨vs, u, st2.inn.tup (same_sqT sm2 hq), hu⟩, fun x H3 ⟨e1, e2⟩ => ?_⟩
    have := e2 vs (st2.inn.tup (same_sqT sm2 hq))
    rw [hu] at this
    cases this
    subst e1
    exact ⟨G2, .refl st2.inn, ru.mono sm2⟩⟩
def rngD (lo : Int) (n : Nat) : List D := (List.range n).map fun (k : Nat) => D.int (lo + (k : Int))
theorem rng_ok {B : Base} {L : Lk} {G : Hp} {lo : Int} {n : Nat} : ItOk K S B L G (Itr lo n) (rngD lo n) := fun i G1 H1 sm st => by
  have hl : (rngD lo n).length = n := by simp [rngD]
  refine ⟨fun h => ?_, fun d h => ?_⟩
  · have := List.getElem?_eq_none_iff.mp h
    show n ≤ i
    omega
  · have hi : i < n := by
      have := (List.getElem?_eq_some_iff.mp h).1
      omega
    refine ⟨hi, fun x H2 ⟨e1, e2⟩ => ?_⟩
    have e1 : H2 = H1 := e1
    have e2 : x = .int (lo + (i : Int)) := e2
    have e : (rngD lo n)[i]? = some (.int (lo + (i : Int))) := by
      unfold rngD
      rw [List.getElem?_map, List.getElem?_range hi]
      rfl
    rw [e] at h
    cases h
    subst e1
    exact ⟨G1, .refl st.inn, e2⟩
def iRg1 (r : EvA) : EvI := fun env => (r env).bind fun xs e => match xs with
  | [.int j] => if -(2 ^ 62) ≤ j ∧ j < 2 ^ 62 then .ok (rngD 0 j.toNat) e else .no
  | _ => .no
def iRg2 (r : EvA) : EvI := fun env => (r env).bind fun xs e => match xs with
  | [.int i, .int j] => if -(2 ^ 62) ≤ i ∧ i < 2 ^ 62 ∧ -(2 ^ 62) ≤ j ∧ j < 2 ^ 62 then .ok (rngD i (j - i).toNat) e else .no
  | _ => .no
theorem i_rng1 (hg : Gl X "range") (hm : X.mg "range" = none) (ha : QA S X E [a] er) (hs : starEach [a] X.env = [(false, eval a X.env)] := by rfl) : QI S X E tg (.Call (.Name "range" p) [a] [] pos) (iRg1 er) := pi_of (pi_range1 hg hm ha hs) fun σ H R ⟨B, L, G, env, st, rl, po⟩ => ⟨B, L, G, env, st, rl, po.then fun G1 H1 xs e1 sm1 st1 rl1 p1 vs rv => by
  split at p1
  · rename_i j
    obtain ⟨v, rfl, r⟩ := rv.one
    cases r
    split at p1
    · rename_i h
      exact ⟨j, rfl, h.1, h.2, p1 G1 H1 (.refl _) st1 rl1 _ rng_ok⟩
    · exact p1.elim
  · exact p1.elim⟩
theorem i_rng2 (hg : Gl X "range") (hm : X.mg "range" = none) (ha : QA S X E [a, b] er) (hs : starEach [a, b] X.env = [(false, eval a X.env), (false, eval b X.env)] := by rfl) (hs2 : starEach [b] X.env = [(false, eval b X.env)] := by rfl) : QI S X E tg (.Call (.Name "range" p) [a, b] [] pos) (iRg2 er) := pi_of (pi_range2 hg hm ha hs hs2) fun σ H R ⟨B, L, G, env, st, rl, po⟩ => ⟨B, L, G, env, st, rl, po.then fun G1 H1 xs e1 sm1 st1 rl1 p1 vs rv => by
  split at p1
  · rename_i i j
    obtain ⟨v, w, rfl, r, r'⟩ := rv.two
    cases r
    cases r'
    split at p1
    · rename_i h
      exact ⟨i, j, rfl, h, p1 G1 H1 (.refl _) st1 rl1 _ rng_ok⟩
    · exact p1.elim
  · exact p1.elim⟩
/-! zip, enumerate -/
def zipD : List D → List D → List D
  | x :: xs, y :: ys => .tup [x, y] :: zipD xs ys
  | _, _ => []
theorem zip_at : ∀ (xs ys : List D) (i : Nat), (zipD xs ys)[i]? = match xs[i]?, ys[i]? with
    | some x, some y => some (.tup [x, y])
    | _, _ => none
  | [], ys, i => by simp [zipD]
  | x :: xs, [], i => by
    simp [zipD]
  | x :: xs, y :: ys, 0 => rfl
  | x :: xs, y :: ys, i + 1 => by
    have := zip_at xs ys i
    simpa [zipD] using this
def iZp (r : EvA) : EvI := fun env => (r env).bind fun xs e => match xs with
  | [x, y] => match lstD x, lstD y with
    | some xs, some ys => .ok (zipD xs ys) e
    | _, _ => .no
  | _ => .no
variable {elts : List Expr} {kk : Nat} {tpos : Pos}
theorem zip_ok {B : Base} {L : Lk} {G : Hp} {q q' : Addr} {xs ys : List D} {vs ws : List V} (h1 : SqL K G q vs) (h2 : SqL K G q' ws) (r1 : RepL K S G xs vs) (r2 : RepL K S G ys ws) : ItOk K S B L G (Itz K q q') (zipD xs ys) := fun i G1 H1 sm st => by
  have a1 := st.inn.seq (sm.seq h1)
  have a2 := st.inn.seq (sm.seq h2)
  rw [zip_at]
  refine ⟨fun h => ⟨vs, ws, a1, a2, ?_⟩, fun d h => ?_⟩
  · cases e1 : xs[i]? with
    | none => exact .inl (rep_none r1 e1)
    | some x =>
      cases e2 : ys[i]? with
      | none => exact .inr (rep_none r2 e2)
      | some y => rw [e1, e2] at h; cases h
  · cases e1 : xs[i]? with
    | none => rw [e1] at h; cases h
    | some x =>
      cases e2 : ys[i]? with
      | none => rw [e1, e2] at h; cases h
      | some y =>
        rw [e1, e2] at h
        cases h
        obtain ⟨u, hu, ru⟩ := r1.get e1
        obtain ⟨w, hw, rw'⟩ := r2.get e2
        refine ⟨⟨vs, ws, u, w, a1, a2, hu, hw⟩, fun x' H2 ⟨T, x2, y2, e3, hT, e4, k1, k2⟩ => ?_⟩
        have z1 := k1 vs a1
        have z2 := k2 ws a2
        rw [hu] at z1
        rw [hw] at z2
        cases z1
        cases z2
        subst e3
        subst e4
        have ex := Ex.new1 (o := .tup [u, w]) st.inn hT
        exact ⟨_, ex, T, [u, w], rfl, .inl (.inl upd_same), .cons ((ru.mono sm).mono ex.g) (.cons ((rw'.mono sm).mono ex.g) .nil)⟩
theorem i_zip (hg : Gl X "zip") (hm : X.mg "zip" = none) (ha : QA S X E [a, b] er) (hs : starEach [a, b] X.env = (false, eval a X.env) :: starEach [b] X.env := by rfl) (hs2 : (backTo pos (starEach [b] X.env)).any (·.1) = false := by rfl) : QI S X E (.Tuple elts kk tpos) (.Call (.Name "zip" p) [a, b] [] pos) (iZp er) := pi_of (pi_zip hg hm ha hs hs2) fun σ H R ⟨B, L, G, env, st, rl, po⟩ => ⟨B, L, G, env, st, rl, po.then fun G1 H1 xs e1 sm1 st1 rl1 p1 vs rv => by
  split at p1
  · rename_i x y
    obtain ⟨v, w, rfl, r, r'⟩ := rv.two
    split at p1
    · rename_i xs ys h1 h2
      obtain ⟨q, vs, rfl, hq, t⟩ := lst_sq r h1
      obtain ⟨q', ws, rfl, hq', t'⟩ := lst_sq r' h2
      exact ⟨q, q', vs, ws, rfl, st1.inn.seq hq, st1.inn.seq hq', p1 G1 H1 (.refl _) st1 rl1 _ (zip_ok hq hq' t t')⟩
    · exact p1.elim
  · exact p1.elim⟩
def enumD : Nat → List D → List D
  | _, [] => []
  | n, x :: xs => .tup [.int (n : Int), x] :: enumD (n + 1) xs
theorem enum_at : ∀ (xs : List D) (n i : Nat), (enumD n xs)[i]? = (xs[i]?).map fun x => .tup [.int ((n + i : Nat) : Int), x]
  | [], n, i => by simp [enumD]
  | x :: xs, n, 0 => rfl
  | x :: xs, n, i + 1 => by
    have := enum_at xs (n + 1) i
    rw [show n + 1 + i = n + (i + 1) by omega] at this
    simpa [enumD] using this
def iEn (r : EvA) : EvI := fun env => (r env).bind fun xs e => match xs with
  | [x] => match lstD x with
    | some xs => .ok (enumD 0 xs) e
    | none => .no
  | _ => .no
theorem enum_ok {B : Base} {L : Lk} {G : Hp} {q : Addr} {xs : List D} {vs : List V} (h1 : SqL K G q vs) (r1 : RepL K S G xs vs) : ItOk K S B L G (Ite K q) (enumD 0 xs) := fun i G1 H1 sm st => by
  have a1 := st.inn.seq (sm.seq h1)
  rw [enum_at]
  refine ⟨fun h => ⟨vs, a1, ?_⟩, fun d h => ?_⟩
  · cases e1 : xs[i]? with
    | none => exact rep_none r1 e1
    | some x => rw [e1] at h; cases h
  · cases e1 : xs[i]? with
    | none => rw [e1] at h; cases h
    | some x =>
      rw [e1] at h
      cases h
      obtain ⟨u, hu, ru⟩ := r1.get e1
      refine ⟨⟨vs, u, a1, hu⟩, fun x' H2 ⟨T, x2, e3, hT, e4, k1⟩ => ?_⟩
      have z1 := k1 vs a1
      rw [hu] at z1
      cases z1
      subst e3
      subst e4
      have ex := Ex.new1 (o := .tup [.int (i : Nat), u]) st.inn hT
      refine ⟨_, ex, T, [.int (i : Nat), u], rfl, .inl (.inl upd_same), .cons ?_ (.cons ((ru.mono sm).mono ex.g) .nil)⟩
      show V.int ((i : Nat) : Int) = V.int ((0 + i : Nat) : Int)
      rw [Nat.zero_add]
theorem i_enum (hg : Gl X "enumerate") (hm : X.mg "enumerate" = none) (ha : QA S X E [e] er) (hs : starEach [e] X.env = [(false, eval e X.env)] := by rfl) : QI S X E (.Tuple elts kk tpos) (.Call (.Name "enumerate" p) [e] [] pos) (iEn er) := pi_of (pi_enum hg hm ha hs) fun σ H R ⟨B, L, G, env, st, rl, po⟩ => ⟨B, L, G, env, st, rl, po.then fun G1 H1 xs e1 sm1 st1 rl1 p1 vs rv => by
  split at p1
  · rename_i x
    obtain ⟨v, rfl, r⟩ := rv.one
    split at p1
    · rename_i xs h1
      obtain ⟨q, vs, rfl, hq, t⟩ := lst_sq r h1
      exact ⟨q, vs, rfl, st1.inn.seq hq, p1 G1 H1 (.refl _) st1 rl1 _ (enum_ok hq t)⟩
    · exact p1.elim
  · exact p1.elim⟩
/-! ### for -/
def forL (eg : Eg) (b : EvS) : List D → EvS
  | [], env => .nx env
  | x :: xs, env => match eg x env with
    | none => .no
    | some e1 => match b e1 with
      | .nx e2 => forL eg b xs e2
      | .ct e2 => forL eg b xs e2
      | .bk e2 => .nx e2
      | r => r
def xFor (ei : EvI) (eg : Eg) (b : EvS) : EvS := fun env => (ei env).st fun ds e => forL eg b ds e
variable {iter : Expr} {body : List Stmt} {ei : EvI} {eg : Eg} {g : TG} {gs : List Nat} {eb' : EvS}
theorem drop_at {α : Type} {l : List α} {i : Nat} {x : α} (h : l[i]? = some x) : l.drop i = x :: l.drop (i + 1) := by
  obtain ⟨hi, e⟩ := List.getElem?_eq_some_iff.mp h
  rw [List.drop_eq_getElem_cons hi, e]
theorem for_core {B : Base} {L : Lk} {G1 H1 : Hp} {e1 : Env} {σ : L2.St} {D : Ends} {ds : List Dv.D} {J : It} (sg : SndG K S gs eg g) (st1 : Ste B L G1 H1) (rl1 : Rel K S B L G1 H1 e1 σ) (hJ : ItOk K S B L G1 J ds) (p1 : PostS K S E B L G1 D (forL eg eb' ds e1)) :
    ∃ W : Nat → Nat → L2.St → Hp → Prop, (∃ m, W 0 m σ H1) ∧ ∀ i m σ H, W i m σ H →
      (J.stop i H ∧ D.nx σ H) ∨ (J.go i H ∧ ∃ N : L2.St → Hp → Prop, (∀ σ' H', N σ' H' → ∃ m', m' < m ∧ W (i + 1) m' σ' H') ∧ ∀ x H', J.yld i H x H' → g x σ H' fun σ2 H2 => TS' K S E eb' { D with nx := N, ct := N, bk := D.nx } σ2 H2) := by
  refine ⟨fun i m σ' H' => ∃ G' env', Same G1 G' ∧ Ste B L G' H' ∧ Rel K S B L G' H' env' σ' ∧ m = (ds.drop i).length ∧ PostS K S E B L G' D (forL eg eb' (ds.drop i) env'), ⟨_, G1, e1, .refl _, st1, rl1, rfl, p1⟩, ?_⟩
  rintro i m σ' H' ⟨G', env', sm, st', rl', rfl, po'⟩
  obtain ⟨t1, t2⟩ := hJ i G' H' sm st'
  cases hd : ds[i]? with
  | none =>
    have e : ds.drop i = [] := List.drop_eq_nil_iff.mpr (List.getElem?_eq_none_iff.mp hd)
    rw [e] at po'
    exact .inl ⟨t1 hd, po' σ' G' H' (.refl _) st' rl'⟩
  | some d =>
    obtain ⟨g1, g2⟩ := t2 d hd
    have e := drop_at hd
    rw [e] at po'
    refine .inr ⟨g1, fun σ2 H2 => ∃ G2 env2, Same G1 G2 ∧ Ste B L G2 H2 ∧ Rel K S B L G2 H2 env2 σ2 ∧ PostS K S E B L G2 D (forL eg eb' (ds.drop (i + 1)) env2), fun σ2 H2 ⟨G2, env2, a1, a2, a3, a4⟩ => ⟨(ds.drop (i + 1)).length, by rw [e, List.length_cons]; omega, G2, env2, a1, a2, a3, rfl, a4⟩, fun x H2 hy => ?_⟩
    obtain ⟨G2, ex, rx⟩ := g2 x H2 hy
    have st2 := st'.ex ex
    have rl2 := rl'.ex ex
    have po' : PostS K S E B L G' D (match eg d env' with
      | none => .no
      | some e1 => match eb' e1 with
        | .nx e2 => forL eg eb' (ds.drop (i + 1)) e2
        | .ct e2 => forL eg eb' (ds.drop (i + 1)) e2
        | .bk e2 => .nx e2
        | r => r) := po'
    cases hg : eg d env' with
    | none => rw [hg] at po'; exact po'.elim
    | some e3 =>
      rw [hg] at po'
      dsimp only at po'
      refine sg B L G2 H2 env' e3 σ' d x _ st2 rl2 rx hg fun σ3 rl3 _ => ⟨B, L, G2, e3, st2, rl3, ?_⟩
      have po2 := po'.up ex.g
      cases hb : eb' e3 with
      | nx e4 => rw [hb] at po2; exact fun σ4 G4 H4 s4 st4 rl4 => ⟨G4, e4, (sm.trans ex.g).trans s4, st4, rl4, po2.up s4⟩
      | ct e4 => rw [hb] at po2; exact fun σ4 G4 H4 s4 st4 rl4 => ⟨G4, e4, (sm.trans ex.g).trans s4, st4, rl4, po2.up s4⟩
      | bk e4 => rw [hb] at po2; exact po2
      | rt d e4 => rw [hb] at po2; exact po2
      | rf d e4 => rw [hb] at po2; exact po2
      | ex C fs e4 => rw [hb] at po2; exact po2
      | no => rw [hb] at po2; exact po2
theorem s_for (hp : PassesOwn (model X.prog X.w) X.A X.env X.xe) (hc : X.calm = true) (hi : QI S X E tg iter ei) (hg : PG X tg g) (sg : SndG X.K S gs eg g) (hb : QSs S X E body eb') (hs : ∀ x, foldedSetIterable iter X.env x = pure x := by intro _; rfl) :
    QS S X E (.For tg iter body [] pos) (xFor ei eg eb') := ps_of (ps_for hp hc hi hg hb hs) fun D σ H ⟨B, L, G, env, st, rl, po⟩ => ⟨B, L, G, env, st, rl, Post.st po fun G1 H1 ds e1 sm1 st1 rl1 p1 J hJ => for_core sg st1 rl1 hJ p1⟩
/-! ### while -/
def whileL (c : EvT) (b : EvS) : Nat → EvS
  | 0, _ => .no
  | f + 1, env => (c env).st fun x e => match x with
    | true => match b e with
      | .nx e2 => whileL c b f e2
      | .ct e2 => whileL c b f e2
      | .bk e2 => .nx e2
      | r => r
    | false => .nx e
variable {et : EvT}
theorem s_while {c : Expr} (f : Nat) (hp : PassesOwn (model X.prog X.w) X.A X.env X.xe) (hc : QT S X E c et) (hb : QSs S X E body eb') : QS S X E (.While c body [] pos) (whileL et eb' f) := ps_of (ps_while hp hc hb) fun D σ H ⟨B, L, G, env, st, rl, po⟩ => by
  refine ⟨fun m σ' H' => ∃ G' env', Ste B L G' H' ∧ Rel X.K S B L G' H' env' σ' ∧ PostS X.K S E B L G' D (whileL et eb' m env'), ⟨f, G, env, st, rl, po⟩, ?_⟩
  rintro m σ' H' ⟨G', env', st', rl', po'⟩
  cases m with
  | zero => exact po'.elim
  | succ m =>
    refine ⟨B, L, G', env', st', rl', Post.st po' fun G2 H2 x e2 sm2 st2 rl2 p2 v rv => ?_⟩
    cases rv
    cases x with
    | false => exact p2 σ' G2 H2 (.refl _) st2 rl2
    | true =>
      dsimp only at p2
      refine ⟨fun σ3 H3 => ∃ m', m' < m + 1 ∧ ∃ G' env', Ste B L G' H3 ∧ Rel X.K S B L G' H3 env' σ3 ∧ PostS X.K S E B L G' D (whileL et eb' m' env'), fun _ _ z => z, B, L, G2, e2, st2, rl2, ?_⟩
      cases hb : eb' e2 with
      | nx e4 => rw [hb] at p2; exact fun σ4 G4 H4 s4 st4 rl4 => ⟨m, Nat.lt_succ_self _, G4, e4, st4, rl4, p2.up s4⟩
      | ct e4 => rw [hb] at p2; exact fun σ4 G4 H4 s4 st4 rl4 => ⟨m, Nat.lt_succ_self _, G4, e4, st4, rl4, p2.up s4⟩
      | bk e4 => rw [hb] at p2; exact p2
      | rt d e4 => rw [hb] at p2; exact p2
      | rf d e4 => rw [hb] at p2; exact p2
      | ex C fs e4 => rw [hb] at p2; exact p2
      | no => rw [hb] at p2; exact p2
end
end
end Dv
namespace Dv
open PySem PySem.Spec PyProof.Rows L2
set_option autoImplicit false
noncomputable section
/-! ### list comprehensions -/
def wipeE (env : Env) : List Nat → Env
  | [] => env
  | v :: vs => (wipeE env vs).set v .no
theorem wipeE_len (env : Env) : ∀ vs, (wipeE env vs).length = env.length
  | [] => rfl
  | v :: vs => by unfold wipeE; rw [List.length_set, wipeE_len env vs]
theorem wipeE_at {env : Env} : ∀ (vs : List Nat) (j : Nat), (wipeE env vs)[j]? = if j ∈ vs then (if j < env.length then some .no else none) else env[j]?
  | [], j => by simp [wipeE]
  | v :: vs, j => by
    unfold wipeE
    by_cases h : v = j
    · subst h
      by_cases hl : v < env.length
      · rw [List.getElem?_set_self (by rw [wipeE_len]; exact hl)]
        simp [hl]
      · rw [List.getElem?_eq_none_iff.mpr (by rw [List.length_set, wipeE_len]; omega)]
        simp [hl]
    · rw [List.getElem?_set_ne h, wipeE_at vs j]
      have : j ≠ v := fun e => h e.symm
      simp [this]
section
variable {K : PySem.W.Frag} {S : Nat → Addr} {B : Base} {L : Lk} {G H : Hp} {env : Env} {σ τ : L2.St} {vs : List Nat}
theorem rel_wipes (rl : Rel K S B L G H env σ) : Rel K S B L G H (wipeE env vs) σ := by
  induction vs with
  | nil => exact rl
  | cons v vs ih => exact rel_no ih
/-- slots that agree off vs -/
theorem rel_off (rl : Rel K S B L G H (wipeE env vs) σ) (h : wipe τ vs = wipe σ vs) (hl : τ.length = σ.length) : Rel K S B L G H (wipeE env vs) τ := by
  have key : ∀ j, j ∉ vs → τ[j]? = σ[j]? := fun j hj => by
    have := congrArg (fun l : L2.St => l[j]?) h
    simp only [wipe_at, if_neg hj] at this
    exact this
  have hno : ∀ (j : Nat) (s : Sl), (wipeE env vs)[j]? = some s → isOwn s = true → j ∉ vs := fun j s h1 h2 hj => by
    rw [wipeE_at, if_pos hj] at h1
    split at h1 <;> cases h1
    cases h2
  refine ⟨paired_of (by rw [paired_len rl.at_, hl]) fun j s x h1 h2 => ?_, fun j k s t a hjk h1 h2 o1 o2 h3 h4 => ?_, fun j s a h1 o1 h3 => ?_⟩
  · by_cases hj : j ∈ vs
    · rw [wipeE_at, if_pos hj] at h1
      split at h1 <;> cases h1
      trivial
    · rw [key j hj] at h2
      obtain ⟨y, hy, q⟩ := rel_at rl h1
      rw [h2] at hy
      cases hy
      exact q
  · rw [key j (hno j s h1 o1)] at h3
    rw [key k (hno k t h2 o2)] at h4
    exact rl.nd j k s t a hjk h1 h2 o1 o2 h3 h4
  · rw [key j (hno j s h1 o1)] at h3
    exact rl.nl j s a h1 o1 h3
theorem wipe_wipe : wipe (wipe σ vs) vs = wipe σ vs := by
  refine List.ext_getElem? fun j => ?_
  rw [wipe_at, wipe_at, wipe_length]
  by_cases hj : j ∈ vs
  · rw [if_pos hj, if_pos hj]
  · simp [hj]
/-! a list that grows, apart -/
theorem ste_pin (st : Ste B L G H) {p : Addr} {o : HO} (hp : H p = none) : Ste B ((p, o) :: L) G (upd H p o) := by
  have x := Ex.skip (o := o) st.inn hp
  have s := st.ex x
  refine ⟨s.g0, s.inn, s.new, fun a u e r l => s.keep a u e r fun q hq => l q (List.mem_cons_of_mem _ hq), fun q hq => ?_, fun a e => ?_, fun q hq hf => ?_⟩
  · rcases List.mem_cons.mp hq with rfl | hq
    · exact upd_same
    · exact s.lock q hq
  · obtain ⟨h1, h2, h3, h4⟩ := s.par a e
    refine ⟨h1, h2, h3, fun q hq => ?_⟩
    rcases List.mem_cons.mp hq with rfl | hq
    · intro e'
      have e' : p = a := e'
      subst e'
      exact (st.par p e).2.1 hp
    · exact h4 q hq
  · rcases List.mem_cons.mp hq with rfl | hq
    · exact st.inn.some hp
    · exact s.out q hq hf
theorem ste_unpin {p : Addr} {o : HO} (st : Ste B ((p, o) :: L) G H) (hb : B.H p = none) : Ste B L G H :=
  ⟨st.g0, st.inn, st.new, fun a u e r l => st.keep a u e r fun q hq => by
    rcases List.mem_cons.mp hq with rfl | hq
    · intro e'
      have e' : p = a := e'
      subst e'
      rw [hb] at e
      cases e
    · exact l q hq, fun q hq => st.lock q (List.mem_cons_of_mem _ hq), fun a e => let ⟨h1, h2, h3, h4⟩ := st.par a e; ⟨h1, h2, h3, fun q hq => h4 q (List.mem_cons_of_mem _ hq)⟩, fun q hq hf => st.out q (List.mem_cons_of_mem _ hq) hf⟩
theorem ste_repin {p : Addr} {o u : HO} (st : Ste B ((p, o) :: L) G H) (hb : B.H p = none) (hl : ∀ q ∈ L, q.1 ≠ p) (ho : ∀ o' u', o ≠ .frz o' u') : Ste B ((p, u) :: L) G (upd H p u) := by
  have gp : G p = none := st.out (p, o) (List.mem_cons_self ..) ho
  refine ⟨st.g0, fun a w e => ?_, st.new, fun a w e r l => ?_, fun q hq => ?_, fun a e => ?_, fun q hq hf => ?_⟩
  · have : a ≠ p := fun q => by subst q; rw [gp] at e; cases e
    rw [upd_ne this]
    exact st.inn a w e
  · have hne : a ≠ p := fun q => by subst q; rw [hb] at e; cases e
    rw [upd_ne hne]
    refine st.keep a w e r fun q hq => ?_
    rcases List.mem_cons.mp hq with rfl | hq
    · exact fun q => hne q.symm
    · exact l q (List.mem_cons_of_mem _ hq)
  · rcases List.mem_cons.mp hq with rfl | hq
    · exact upd_same
    · rw [upd_ne (hl q hq)]
      exact st.lock q (List.mem_cons_of_mem _ hq)
  · obtain ⟨h1, h2, h3, h4⟩ := st.par a e
    refine ⟨h1, ?_, h3, fun q hq => ?_⟩
    · have : a ≠ p := fun q => by subst q; exact h3 hb
      rw [upd_ne this]
      exact h2
    · rcases List.mem_cons.mp hq with rfl | hq
      · exact h4 (p, o) (List.mem_cons_self ..)
      · exact h4 q (List.mem_cons_of_mem _ hq)
  · rcases List.mem_cons.mp hq with rfl | hq
    · exact gp
    · exact st.out q (List.mem_cons_of_mem _ hq) hf
theorem rel_pin (rl : Rel K S B L G H env σ) {p : Addr} {o : HO} (i : Inn G H) (hp : H p = none) : Rel K S B ((p, o) :: L) G (upd H p o) env σ := by
  have r := rl.ex (Ex.skip (o := o) i hp)
  refine ⟨r.at_, r.nd, fun j s a h1 o1 h3 q hq => ?_⟩
  rcases List.mem_cons.mp hq with rfl | hq
  · intro e
    have e : p = a := e
    subst e
    exact rl.fresh hp j s h1 o1 h3
  · exact r.nl j s a h1 o1 h3 q hq
theorem rel_unpin {p : Addr} {o : HO} (rl : Rel K S B ((p, o) :: L) G H env σ) : Rel K S B L G H env σ := ⟨rl.at_, rl.nd, fun j s a h1 o1 h3 q hq => rl.nl j s a h1 o1 h3 q (List.mem_cons_of_mem _ hq)⟩
theorem rel_repin {p : Addr} {o u : HO} (rl : Rel K S B ((p, o) :: L) G H env σ) : Rel K S B ((p, u) :: L) G (upd H p u) env σ := by
  have hne : ∀ (j : Nat) (s : Sl) (a : Addr), env[j]? = some s → isOwn s = true → σ[j]? = some (some (V.ref a)) → a ≠ p := fun j s a h1 o1 h3 e => rl.nl j s a h1 o1 h3 (p, o) (List.mem_cons_self ..) e.symm
  refine ⟨paired_of (paired_len rl.at_) fun j s x h1 h2 => ?_, rl.nd, fun j s a h1 o1 h3 q hq => ?_⟩
  · obtain ⟨y, hy, q⟩ := rel_at rl h1
    rw [h2] at hy
    cases hy
    cases s with
    | no => trivial
    | val d => exact q
    | box d =>
      obtain ⟨a, w, rfl, g, b, ha, r⟩ := q
      exact ⟨a, w, rfl, g, b, by rw [upd_ne (hne j _ a h1 rfl h2)]; exact ha, r⟩
    | par d =>
      obtain ⟨a, w, rfl, b, ha, r⟩ := q
      exact ⟨a, w, rfl, b, by rw [upd_ne (hne j _ a h1 rfl h2)]; exact ha, r⟩
  · rcases List.mem_cons.mp hq with rfl | hq
    · exact rl.nl j s a h1 o1 h3 (p, o) (List.mem_cons_self ..)
    · exact rl.nl j s a h1 o1 h3 q (List.mem_cons_of_mem _ hq)
end
def cmpL (eg : Eg) (et : EvT) (ee : Ev) (vs : List Nat) : List D → List D → Env → Res (List D)
  | [], acc, env => .ok acc env
  | x :: xs, acc, env => match eg x (wipeE env vs) with
    | none => .no
    | some e1 => match et e1 with
      | .ok true e2 => match ee e2 with
        | .ok y e3 => if acc.length < 1000000 then cmpL eg et ee vs xs (acc ++ [y]) e3 else .no
        | _ => .no
      | .ok false e2 => cmpL eg et ee vs xs acc e2
      | _ => .no
def xLc (ei : EvI) (eg : Eg) (et : EvT) (ee : Ev) (vs : List Nat) : Ev := fun env => (ei env).bind fun ds e => (cmpL eg et ee vs ds [] e).bind fun acc e' => .ok (.lst acc) (wipeE e' vs)
section
variable {K : PySem.W.Frag} {S : Nat → Addr} {X : Cx} {E : XK} {e iter tg elt : Expr} {ee : Ev} {ei : EvI} {eg : Eg} {g : TG} {gs vs : List Nat} {et : EvT} {pos : Pos}
theorem post_ok {α : Type} {B : Base} {L : Lk} {σ : L2.St} {G : Hp} {P : Hp → Hp → α → Env → Prop} {r : Res α} (h : Post K S E B L σ G P r) {a : α} {e : Env} (he : r = .ok a e) : ∀ G' H', Same G G' → Ste B L G' H' → Rel K S B L G' H' e σ → P G' H' a e := by
  subst he
  exact h
theorem len9 {n : Nat} (h : n < 1000000) : n < sizeLine := by
  have : sizeLine = 16777216 := sizeLine_eq
  omega
def PLc (K : PySem.W.Frag) (S : Nat → Addr) (B : Base) (L : Lk) (σ : L2.St) (Q : VK) : Hp → Hp → D → Env → Prop := fun G' H' d e => ∀ a o, G' a = none → B.H a = none → H' a = some o → (∀ (i : Nat) (s : Sl), e[i]? = some s → isOwn s = true → σ[i]? ≠ some (some (V.ref a))) → (∀ p ∈ L, p.1 ≠ a) → RepO K S G' d o → Q (.ref a) H'
theorem lc_core {tt : TT} {σ : L2.St} {Q : VK} {B : Base} {L : Lk} {G1 H1 : Hp} {e1 : Env} {J : It} {ds : List D} (sg : SndG K S gs eg g) (hv : ∀ i ∈ gs, i ∈ vs) (htt : ∀ σ H Q, TB K S E0 et σ H Q → tt σ H Q) (st1 : Ste B L G1 H1) (rl1 : Rel K S B L G1 H1 e1 σ) (hJ : ItOk K S B L G1 J ds)
    (p1 : Post K S E B L σ G1 (PLc K S B L σ Q) ((cmpL eg et ee vs ds [] e1).bind fun acc e' => .ok (.lst acc) (wipeE e' vs))) :
    ∀ P, H1 P = none → ∃ W : Nat → Nat → Hp → Prop, (∃ m, W 0 m (upd H1 P (.lst []))) ∧ ∀ i m H, W i m H →
      (J.stop i H ∧ Q (.ref P) H) ∨ (J.go i H ∧ ∃ Nx : Hp → Prop, (∀ H', Nx H' → ∃ m', m' < m ∧ W (i + 1) m' H') ∧ ∀ x H', J.yld i H x H' → g x (wipe σ vs) H' fun σ2 H2 => wipe σ2 vs = wipe σ vs ∧ tt σ2 H2 fun b H3 =>
        if b = true then TD K S E0 ee σ2 H3 fun y H4 => ∃ acc, H4 P = some (.lst acc) ∧ acc.length < sizeLine ∧ Nx (upd H4 P (.lst (acc ++ [y]))) else Nx H3) := by
  intro P hP
  have hbP := st1.free hP
  have hlP := st1.nolock hP
  refine ⟨fun i m H' => ∃ G' env' acc ws, Same G1 G' ∧ Ste B ((P, .lst ws) :: L) G' H' ∧ Rel K S B ((P, .lst ws) :: L) G' H' (wipeE env' vs) (wipe σ vs) ∧ RepL K S G' acc ws ∧ m = (ds.drop i).length ∧
    Post K S E B L σ G' (fun G' H' d e => ∀ a o, G' a = none → B.H a = none → H' a = some o → (∀ (i : Nat) (s : Sl), e[i]? = some s → isOwn s = true → σ[i]? ≠ some (some (V.ref a))) → (∀ p ∈ L, p.1 ≠ a) → RepO K S G' d o → Q (.ref a) H') ((cmpL eg et ee vs (ds.drop i) acc env').bind fun acc e' => .ok (.lst acc) (wipeE e' vs)),
    ⟨_, G1, e1, [], [], .refl _, ste_pin st1 hP, ?_, rfl, rfl, p1⟩, ?_⟩
  · exact rel_off (rel_wipes (rel_pin rl1 st1.inn hP)) wipe_wipe (wipe_length _ _)
  rintro i m H' ⟨G', env', acc, ws, sm, st', rl', ra, rfl, po'⟩
  have stU := ste_unpin st' hbP
  obtain ⟨t1, t2⟩ := hJ i G' H' sm stU
  have hlen : acc.length = ws.length := ra.length
  cases hd : ds[i]? with
  | none =>
    have e : ds.drop i = [] := List.drop_eq_nil_iff.mpr (List.getElem?_eq_none_iff.mp hd)
    rw [e] at po'
    have rlE : Rel K S B L G' H' (wipeE env' vs) σ := rel_off (rel_unpin rl') wipe_wipe.symm (wipe_length _ _).symm
    refine .inl ⟨t1 hd, po' G' H' (.refl _) stU rlE P (.lst ws) (st'.out _ (List.mem_cons_self ..) (fun _ _ h => by cases h)) hbP (st'.lock _ (List.mem_cons_self ..)) (fun j s h1 o1 h3 => ?_) hlP ⟨ws, rfl, ra⟩⟩
    have hj : j ∉ vs := fun hj => by
      rw [wipeE_at, if_pos hj] at h1
      split at h1 <;> cases h1
      cases o1
    refine rl'.nl j s P h1 o1 ?_ (P, .lst ws) (List.mem_cons_self ..) rfl
    rw [wipe_at, if_neg hj]
    exact h3
  | some d =>
    obtain ⟨g1, g2⟩ := t2 d hd
    have e := drop_at hd
    rw [e] at po'
    refine .inr ⟨g1, fun H2 => ∃ G2 env2 acc2 ws2, Same G1 G2 ∧ Ste B ((P, .lst ws2) :: L) G2 H2 ∧ Rel K S B ((P, .lst ws2) :: L) G2 H2 (wipeE env2 vs) (wipe σ vs) ∧ RepL K S G2 acc2 ws2 ∧
      Post K S E B L σ G2 (fun G' H' d e => ∀ a o, G' a = none → B.H a = none → H' a = some o → (∀ (i : Nat) (s : Sl), e[i]? = some s → isOwn s = true → σ[i]? ≠ some (some (V.ref a))) → (∀ p ∈ L, p.1 ≠ a) → RepO K S G' d o → Q (.ref a) H') ((cmpL eg et ee vs (ds.drop (i + 1)) acc2 env2).bind fun acc e' => .ok (.lst acc) (wipeE e' vs)),
      fun H2 ⟨G2, env2, acc2, ws2, a1, a2, a3, a4, a5⟩ => ⟨(ds.drop (i + 1)).length, by rw [e, List.length_cons]; omega, G2, env2, acc2, ws2, a1, a2, a3, a4, rfl, a5⟩, fun x H2 hy => ?_⟩
    obtain ⟨G2, ex, rx⟩ := g2 x H2 hy
    have st2 := st'.ex ex
    have rl2 := rl'.ex ex
    have cm : cmpL eg et ee vs (d :: ds.drop (i + 1)) acc env' = match eg d (wipeE env' vs) with
      | none => .no
      | some e1 => match et e1 with
        | .ok true e2 => match ee e2 with
          | .ok y e3 => if acc.length < 1000000 then cmpL eg et ee vs (ds.drop (i + 1)) (acc ++ [y]) e3 else .no
          | _ => .no
        | .ok false e2 => cmpL eg et ee vs (ds.drop (i + 1)) acc e2
        | _ => .no := rfl
    rw [cm] at po'
    cases hg : eg d (wipeE env' vs) with
    | none => rw [hg] at po'; exact po'.elim
    | some e3 =>
      rw [hg] at po'
      dsimp only at po'
      refine sg B _ G2 H2 (wipeE env' vs) e3 (wipe σ vs) d x _ st2 rl2 rx hg fun σ3 rl3 w3 => ⟨(w3 vs hv).trans wipe_wipe, ?_⟩
      have hσ : wipe σ3 vs = wipe σ vs := (w3 vs hv).trans wipe_wipe
      have lσ : σ3.length = σ.length := by
        have := congrArg List.length hσ
        rw [wipe_length, wipe_length] at this
        exact this
      refine htt _ _ _ ⟨B, _, G2, e3, st2, rl3, ?_⟩
      cases ht : et e3 with
      | no => rw [ht] at po'; exact po'.elim
      | ex C fs e4 => rw [ht] at po'; exact po'.elim
      | ok b e4 =>
        rw [ht] at po'
        intro G4 H4 sm4 st4 rl4 c hc
        cases hc
        cases b with
        | false =>
          rw [if_neg (by decide)]
          exact ⟨G4, e4, acc, ws, (sm.trans ex.g).trans sm4, st4, rel_off (rel_wipes rl4) (by rw [wipe_wipe]; exact hσ.symm) (by rw [wipe_length, lσ]), (ra.mono ex.g).mono sm4, po'.up (ex.g.trans sm4)⟩
        | true =>
          rw [if_pos rfl]
          dsimp only at po'
          refine ⟨B, _, G4, e4, st4, rl4, ?_⟩
          cases he : ee e4 with
          | no => rw [he] at po'; exact po'.elim
          | ex C fs e5 => rw [he] at po'; exact po'.elim
          | ok y e5 =>
            rw [he] at po'
            dsimp only at po'
            intro G5 H5 sm5 st5 rl5 v rv
            by_cases hz : acc.length < 1000000
            · rw [if_pos hz] at po'
              have sm15 := ((sm.trans ex.g).trans sm4).trans sm5
              refine ⟨ws, st5.lock _ (List.mem_cons_self ..), len9 (by rw [← hlen]; exact hz), G5, e5, acc ++ [y], ws ++ [v], sm15, ste_repin st5 hbP hlP (fun _ _ h => by cases h), ?_, (((ra.mono ex.g).mono sm4).mono sm5).app (.cons rv .nil), po'.up ((ex.g.trans sm4).trans sm5)⟩
              exact rel_off (rel_wipes (rel_repin rl5)) (by rw [wipe_wipe]; exact hσ.symm) (by rw [wipe_length, lσ])
            · rw [if_neg hz] at po'
              exact po'.elim
theorem sndf_lc {wi : TI} {tt : TT} {σ : L2.St} {H : Hp} {Q : VK} (hwi : ∀ σ H R, TIt K S E ei σ H R → wi σ H R) (sg : SndG K S gs eg g) (hv : ∀ i ∈ gs, i ∈ vs) (htt : ∀ σ H Q, TB K S E0 et σ H Q → tt σ H Q) (q : TF K S E (xLc ei eg et ee vs) σ H Q) : tLc wi g tt (TD K S E0 ee) vs σ H Q := by
  obtain ⟨B, L, G, env, st, rl, po⟩ := q
  refine hwi _ _ _ ⟨B, L, G, env, st, rl, po.then fun G1 H1 ds e1 sm1 st1 rl1 p1 J hJ => lc_core sg hv htt st1 rl1 hJ p1⟩
def xYes : EvT := fun env => .ok true env
theorem yes_ok {σ : L2.St} {H : Hp} {Q : Bool → Hp → Prop} (q : TB K S E xYes σ H Q) : tYes σ H Q := by
  obtain ⟨B, L, G, env, st, rl, po⟩ := q
  exact po G H (.refl _) st rl true rfl
theorem qf_lc {ifs : List Expr} {scope : Scope} {own : List (Str × Nat)} {tt : TT} (hc : X.calm = true) (hN : X.N.Nodup) (hi : QI S X E tg iter ei) (ok : BlkOk X.N X.env.scope scope own) (hvs : own.map (·.2) = vs)
    (hg : ∀ (s : Shared) (H : Hp) (C : Addr) (cl : List (Str × Addr)) (fp : List Addr), PG (X.blk s H scope (compEnvC scope cl C X.env) fp) tg g) (sg : SndG X.K S gs eg g) (hv : ∀ i ∈ gs, i ∈ vs)
    (ht : ∀ (s : Shared) (H : Hp) (C : Addr) (cl : List (Str × Addr)) (fp : List Addr), PTs (X.blk s H scope (compEnvC scope cl C X.env) fp) ifs tt) (htt : ∀ σ H Q, TB X.K S E0 et σ H Q → tt σ H Q)
    (he : ∀ (s : Shared) (H : Hp) (C : Addr) (cl : List (Str × Addr)) (fp : List Addr), QE S (X.blk s H scope (compEnvC scope cl C X.env) fp) E0 elt ee) (hs : ∀ x, foldedSetIterable iter X.env x = pure x := by intro _; rfl) :
    QF S X E (.ListComp elt [⟨tg, iter, ifs, 0⟩] scope pos) (xLc ei eg et ee vs) := by
  subst hvs
  exact pe_of (pe_lc hc hN hi ok hg ht he hs) fun _ _ _ q => sndf_lc (fun _ _ _ h => h) sg hv htt q
/-! x = [..] -/
theorem s_setLc {ifs : List Expr} {scope : Scope} {own : List (Str × Nat)} {tt : TT} {i : Nat} {y : Str} {py spos : Pos} (hc : X.calm = true) (hN : X.N.Nodup) (hy : X.N[i]? = some y) (hyl : X.env.scope.names.lookup y = some .local)
    (hsw : swapsWith (.ListComp elt [⟨tg, iter, ifs, 0⟩] scope pos) (some (.Name y py)) spos.line X.env = pure true) (hi : QI S X E tg iter ei) (ok : BlkOk X.N X.env.scope scope own) (hvs : own.map (·.2) = vs)
    (hg : ∀ (s : Shared) (H : Hp) (C : Addr) (cl : List (Str × Addr)) (fp : List Addr), PG (X.blk s H scope (compEnvC scope cl C X.env) fp) tg g) (sg : SndG X.K S gs eg g) (hv : ∀ i ∈ gs, i ∈ vs)
    (ht : ∀ (s : Shared) (H : Hp) (C : Addr) (cl : List (Str × Addr)) (fp : List Addr), PTs (X.blk s H scope (compEnvC scope cl C X.env) fp) ifs tt) (htt : ∀ σ H Q, TB X.K S E0 et σ H Q → tt σ H Q)
    (he : ∀ (s : Shared) (H : Hp) (C : Addr) (cl : List (Str × Addr)) (fp : List Addr), QE S (X.blk s H scope (compEnvC scope cl C X.env) fp) E0 elt ee) (hs : ∀ x, foldedSetIterable iter X.env x = pure x := by intro _; rfl) :
    QS S X E (.Assign [.Name y py] (.ListComp elt [⟨tg, iter, ifs, 0⟩] scope pos) spos) (xBox i (xLc ei eg et ee vs)) := by
  subst hvs
  refine ps_of (ps_setLc (te := TD X.K S E0 ee) hc hN hy hyl hsw hi ok hg ht he hs) fun D σ H q => ?_
  obtain ⟨B, L, G, env, st, rl, po⟩ := q
  refine sndf_lc (fun _ _ _ h => h) sg hv htt ⟨B, L, G, env, st, rl, Post.st po fun G' H' d e s st' rl' p a o h1 h2 h3 h4 h5 h6 => ?_⟩
  split at p
  · exact p.elim
  · exact p _ G' H' (.refl _) st' (rel_box rl' h1 h2 h3 h4 h5 h6)
  · exact p.elim
end
/-! ### a def's run -/
def parOf : Env → Option D
  | [] => none
  | .par d :: _ => some d
  | _ :: r => parOf r
def start (n : Nat) (as : List Ar) : Env := as.map Ar.sl ++ List.replicate (n - as.length) .no
def runF (fr : Bool) (n : Nat) (b : EvS) : Fn := fun as => match b (start n as) with
  | .nx e => if fr = true then .no else .ok .non (parOf e)
  | .rt d e => if fr = true then .no else .ok d (parOf e)
  | .rf d e => if fr = true then .ok d (parOf e) else .no
  | .ex C fs e => .ex C fs (parOf e)
  | _ => .no
section
variable {K : PySem.W.Frag} {S : Nat → Addr} {X : Cx} {E : XK}
theorem par_ok {B : Base} {G H : Hp} : ∀ {env : Env} {σ : L2.St}, Paired (SlOk K S B G H) env σ → ParOk K S B.r (parOf env) G H
  | [], _, .nil => fun d e => by cases e
  | s :: r, _, .cons q t => by
    cases s with
    | par d =>
      intro d' e
      cases e
      obtain ⟨a, o, _, b, h, r⟩ := q
      exact ⟨a, o, b, h, r⟩
    | no => exact par_ok (env := r) t
    | val d => exact par_ok (env := r) t
    | box d => exact par_ok (env := r) t
theorem start_rel {G H : Hp} {r : Option Addr} {N : List Str} {as : List Ar} {vs : List V} (ok : ArgsOk K S G H r as vs) (hl : as.length ≤ N.length) : Rel K S ⟨G, H, r⟩ [] G H (start N.length as) (L2.start N vs) := by
  have hvs := paired_len ok.at_
  have e1 : L2.start N vs = vs.map some ++ List.replicate (N.length - vs.length) none := rfl
  have own1 : ∀ (l : List Ar) (j k : Nat) (s t : Sl), ownN l ≤ 1 → (l.map Ar.sl)[j]? = some s → (l.map Ar.sl)[k]? = some t → isOwn s = true → isOwn t = true → j = k := by
    intro l
    induction l with
    | nil => intro j k s t _ h; simp at h
    | cons a l ih =>
      intro j k s t h1 h2 h3 o1 o2
      have z : ∀ (l : List Ar) (k : Nat) (t : Sl), ownN l = 0 → (l.map Ar.sl)[k]? = some t → isOwn t = true → False := by
        intro l
        induction l with
        | nil => intro k t _ h; simp at h
        | cons a l ih =>
          intro k t h0 h o
          cases a with
          | par d =>
            have : (List.filter Ar.own (Ar.par d :: l)).length = 0 := h0
            rw [List.filter_cons_of_pos rfl, List.length_cons] at this
            omega
          | val d =>
            cases k with
            | zero => simp at h; subst h; cases o
            | succ k => exact ih k t h0 (by simpa using h) o
      cases a with
      | val d =>
        cases j with
        | zero => simp at h2; subst h2; cases o1
        | succ j =>
          cases k with
          | zero => simp at h3; subst h3; cases o2
          | succ k => rw [ih j k s t h1 (by simpa using h2) (by simpa using h3) o1 o2]
      | par d =>
        have h1' : (List.filter Ar.own (Ar.par d :: l)).length ≤ 1 := h1
        rw [List.filter_cons_of_pos rfl, List.length_cons] at h1'
        have h0 : ownN l = 0 := by unfold ownN; omega
        cases j with
        | zero =>
          cases k with
          | zero => rfl
          | succ k => exact (z l k t h0 (by simpa using h3) o2).elim
        | succ j => exact (z l j s h0 (by simpa using h2) o1).elim
  have at0 : ∀ (j : Nat) (s : Sl), (start N.length as)[j]? = some s → isOwn s = true → (as.map Ar.sl)[j]? = some s := fun j s h o => by
    unfold start at h
    by_cases hj : j < (as.map Ar.sl).length
    · rw [List.getElem?_append_left hj] at h
      exact h
    · rw [List.getElem?_append_right (by omega)] at h
      have := List.mem_of_getElem? h
      rw [(List.mem_replicate.mp this).2] at o
      cases o
  refine ⟨?_, fun j k s t a hjk h1 h2 o1 o2 _ _ => hjk (own1 as j k s t ok.one (at0 j s h1 o1) (at0 k t h2 o2) o1 o2), fun j s a _ _ _ p hp => by cases hp⟩
  refine paired_of (by simp [start, e1]; omega) fun j s x h1 h2 => ?_
  by_cases hj : j < as.length
  · have h1' : (as.map Ar.sl)[j]? = some s := by
      unfold start at h1
      rw [List.getElem?_append_left (by rw [List.length_map]; exact hj)] at h1
      exact h1
    rw [List.getElem?_map] at h1'
    cases ha : as[j]? with
    | none => rw [ha] at h1'; cases h1'
    | some a =>
      rw [ha] at h1'
      cases h1'
      obtain ⟨v, hv, q⟩ := paired_get ok.at_ ha
      rw [e1, List.getElem?_append_left (by rw [List.length_map]; omega), List.getElem?_map, hv] at h2
      cases h2
      cases a with
      | val d => exact ⟨v, rfl, q⟩
      | par d =>
        obtain ⟨p, o, rfl, hr, hp, ro⟩ := q
        exact ⟨p, o, rfl, hr, hp, ro⟩
  · unfold start at h1
    rw [List.getElem?_append_right (by rw [List.length_map]; omega)] at h1
    have := List.mem_of_getElem? h1
    rw [(List.mem_replicate.mp this).2]
    trivial
theorem ste_start {G H : Hp} {r : Option Addr} {as : List Ar} {vs : List V} (i : Inn G H) (ok : ArgsOk K S G H r as vs) : Ste ⟨G, H, r⟩ [] G H :=
  ⟨.refl _, i, fun a h e => (h e).elim, fun a o e _ _ => e, (fun p hp => by cases hp), fun a e => let ⟨h1, h2, _⟩ := ok.par a e; ⟨h1, h2, h2, fun p hp => by cases hp⟩, fun p hp => by cases hp⟩
theorem ste_end {G H G' H' : Hp} {r : Option Addr} (st : Ste ⟨G, H, r⟩ [] G' H') : Fin G H r G' H' := ⟨st.g0, st.inn, st.new, fun a o e hr => st.keep a o e hr fun p hp => by cases hp⟩
theorem bodyD {sts : List Stmt} {f : EvS} {N : List Str} {n : Nat} {fr : Bool} {vs : List V} {H : Hp} {Q : VK} {g : Fn} (b : QSs S X E sts f) (hg : g = runF fr N.length f) (hn : n ≤ N.length) (h : spD X.K S fr n g vs H Q E) :
    ∃ t, PSs X sts t ∧ t { nx := fun x H' => Q V.non H', rt := Q } (L2.start N vs) H := by
  subst hg
  obtain ⟨G, as, r, i, ok, hl, po⟩ := h
  refine ⟨_, b, ⟨G, H, r⟩, [], G, start N.length as, ste_start i ok, start_rel ok (by omega), ?_⟩
  unfold runF at po
  cases hb : f (start N.length as) with
  | nx e =>
    rw [hb] at po
    cases fr with
    | true => exact po.elim
    | false => exact fun σ' G' H' sm st rl => po G' H' (ste_end st) (par_ok rl.at_) .non rfl
  | rt d e =>
    rw [hb] at po
    cases fr with
    | true => exact po.elim
    | false => exact fun σ' G' H' sm st rl v rv => po G' H' (ste_end st) (par_ok rl.at_) v rv
  | rf d e =>
    rw [hb] at po
    cases fr with
    | false => exact po.elim
    | true => exact fun σ' G' H' sm st rl a o h1 h2 h3 h4 => po G' H' (ste_end st) (par_ok rl.at_) a o h2 h1 h3 h4
  | ex C fs e => rw [hb] at po; exact fun σ' od G' H' sm st rl xd => po od G' H' (ste_end st) (par_ok rl.at_) xd
  | bk e => rw [hb] at po; exact po.elim
  | ct e => rw [hb] at po; exact po.elim
  | no => rw [hb] at po; exact po.elim
end
end
end Dv
namespace Dv
open PySem PySem.Spec PyProof.Rows L2
set_option autoImplicit false
noncomputable section
section
variable {K : PySem.W.Frag} {S : Nat → Addr} {X : Cx} {E : XK} {a b e : Expr} {es : List Expr} {ea eb ee : Ev} {er : EvA} {pos p p2 : Pos}
theorem u1 {k : Nat} {A : Around} (h : Room k A) : A.units + 1 < cLine := by
  have := h.un
  omega
theorem u64 {k : Nat} {A : Around} (h : Room k A) : A.units + 64 < cLine := by
  have := h.un
  omega
theorem u65 {k : Nat} {A : Around} (h : Room k A) : A.units + 65 < cLine := by
  have := h.un
  omega
/-! ### ints -/
def oI (f : Int → Int → D) : FO := fun x y => match x, y with
  | .int i, .int j => some (f i j)
  | _, _ => none
theorem so_I {f : Int → Int → D} {f' : Int → Int → V} (h : ∀ i j G, Rep K S G (f i j) (f' i j)) : SOp K S (oI f) (rI0 f') := fun G H x y d v w Q i rx ry e k => by
  cases x <;> first
    | (cases y <;> first
      | (cases e; done)
      | (cases e; cases rx; cases ry; exact ⟨_, _, rfl, rfl, k G H _ (.refl i) (h _ _ G)⟩))
    | (cases y <;> cases e)
def oSub : FO := oI fun i j => .int (i - j)
theorem so_sub : SOp K S oSub (rI0 fun i j => .int (i - j)) := so_I fun _ _ _ => rfl
def oIc (c : Int → Int → Bool) (f : Int → Int → D) : FO := fun x y => match x, y with
  | .int i, .int j => if c i j = true then some (f i j) else none
  | _, _ => none
theorem so_Ic {c : Int → Int → Bool} {C : Int → Int → Prop} {f : Int → Int → D} {f' : Int → Int → V} (hc : ∀ i j, c i j = true → C i j) (h : ∀ i j G, Rep K S G (f i j) (f' i j)) : SOp K S (oIc c f) (rI C f') := fun G H x y d v w Q i rx ry e k => by
  cases x <;> first
    | (cases y <;> first
      | (cases e; done)
      | (rename_i m n
         have e : (if c m n = true then some (f m n) else none) = some d := e
         by_cases q : c m n = true
         · rw [if_pos q] at e
           cases e; cases rx; cases ry
           exact ⟨_, _, rfl, rfl, hc _ _ q, k G H _ (.refl i) (h _ _ G)⟩
         · rw [if_neg q] at e; cases e))
    | (cases y <;> cases e)
def cMul (i j : Int) : Bool := decide (-(2 ^ 64) < i ∧ i < 2 ^ 64) || decide (-(2 ^ 64) < j ∧ j < 2 ^ 64)
def oMul : FO := oIc cMul fun i j => .int (i * j)
theorem so_mul : SOp K S oMul (rI CMul fun i j => .int (i * j)) := so_Ic (fun i j h => by
  rcases Bool.or_eq_true_iff.mp h with h | h
  · exact .inl (of_decide_eq_true h)
  · exact .inr (of_decide_eq_true h)) fun _ _ _ => rfl
def cDivN (i j : Int) : Bool := decide (j ≠ 0 ∧ j.natAbs < 1073741824)
def oFdv : FO := oIc cDivN fun i j => .int (i.fdiv j)
theorem so_fdv : SOp K S oFdv (rI CDivN fun i j => .int (i.fdiv j)) := so_Ic (fun i j h => (of_decide_eq_true h : j ≠ 0 ∧ j.natAbs < 1073741824)) fun _ _ _ => rfl
def oMod : FO := oIc (fun _ j => decide (j ≠ 0)) fun i j => .int (i.fmod j)
theorem so_mod : SOp K S oMod (rI (fun _ j => j ≠ 0) fun i j => .int (i.fmod j)) := so_Ic (fun i j h => of_decide_eq_true h) fun _ _ _ => rfl
def uNeg : FU := fun x => match x with
  | .int i => some (.int (-i))
  | _ => none
theorem su_neg : SUn K S uNeg (rU fun i => .int (-i)) := fun G H x d v Q i rx e k => by
  cases x with
  | int m => cases e; cases rx; exact ⟨_, rfl, k G H _ (.refl i) rfl⟩
  | _ => cases e
/-! + of ints, texts, lists -/
def rAddS : R2 := fun x y H Q => ∃ i j, x = .str i ∧ y = .str j ∧ i.length + j.length ≤ sizeLine ∧ Q (.str (i ++ j)) H
def oAdd : FO := fun x y => match x, y with
  | .int i, .int j => some (.int (i + j))
  | .str a, .str b => if a.length + b.length ≤ 1000000 then some (.str (a ++ b)) else none
  | .lst xs, .lst ys => if xs.length + ys.length ≤ 1000000 then some (.lst (xs ++ ys)) else none
  | _, _ => none
theorem so_add : SOp K S oAdd (r2or (rI0 fun i j => .int (i + j)) (r2or rAddS rCat)) := fun G H x y d v w Q i rx ry e k => by
  cases x with
  | int m =>
    cases y with
    | int n => cases e; cases rx; cases ry; exact .inl ⟨_, _, rfl, rfl, k G H _ (.refl i) rfl⟩
    | _ => cases e
  | str m =>
    cases y with
    | str n =>
      have e : (if m.length + n.length ≤ 1000000 then some (D.str (m ++ n)) else none) = some d := e
      split at e
      · rename_i h
        cases e; cases rx; cases ry
        exact .inr (.inl ⟨_, _, rfl, rfl, line10 h, k G H _ (.refl i) rfl⟩)
      · cases e
    | _ => cases e
  | lst xs =>
    cases y with
    | lst ys =>
      have e : (if xs.length + ys.length ≤ 1000000 then some (D.lst (xs ++ ys)) else none) = some d := e
      split at e
      · rename_i h
        cases e
        obtain ⟨a, vs, rfl, ga, ra⟩ := rx
        obtain ⟨b, ws, rfl, gb, rb⟩ := ry
        refine .inr (.inr ⟨a, b, vs, ws, rfl, rfl, i.lst ga, i.lst gb, line10 (by rw [← ra.length, ← rb.length]; exact h), fun q hq => ?_⟩)
        have x := Ex.new1 (o := .lst (vs ++ ws)) i hq
        exact k _ _ _ x ⟨q, _, rfl, upd_same, (ra.app rb).mono x.g⟩
      · cases e
    | _ => cases e
  | _ => cases e
/-! order -/
def oCmp (f : Int → Int → Bool) (g : Str → Str → Bool) : FO := fun x y => match x, y with
  | .int i, .int j => some (.bl (f i j))
  | .str i, .str j => some (.bl (g i j))
  | _, _ => none
def rS0 (g : Str → Str → Bool) : R2 := fun x y H Q => ∃ i j, x = .str i ∧ y = .str j ∧ Q (.bl (g i j)) H
theorem so_cmp {f : Int → Int → Bool} {g : Str → Str → Bool} : SOp K S (oCmp f g) (r2or (rI0 fun i j => .bl (f i j)) (rS0 g)) := fun G H x y d v w Q i rx ry e k => by
  cases x with
  | int m =>
    cases y with
    | int n => cases e; cases rx; cases ry; exact .inl ⟨_, _, rfl, rfl, k G H _ (.refl i) rfl⟩
    | _ => cases e
  | str m =>
    cases y with
    | str n => cases e; cases rx; cases ry; exact .inr ⟨_, _, rfl, rfl, k G H _ (.refl i) rfl⟩
    | _ => cases e
  | _ => cases e
def ltS (i j : Str) : Bool := decide (i.cps.toList < j.cps.toList)
def oLt : FO := oCmp (fun i j => decide (i < j)) ltS
def oLe : FO := oCmp (fun i j => decide (i ≤ j)) fun i j => !ltS j i
def oGt : FO := oCmp (fun i j => decide (j < i)) fun i j => ltS j i
def oGe : FO := oCmp (fun i j => decide (j ≤ i)) fun i j => !ltS i j
/-! == -/
mutual
def dat : D → Option PyData
  | .non => some .none
  | .bl b => some (.bool b)
  | .int i => some (.int i)
  | .str s => some (.str s)
  | .lst xs => (datL xs).map PyData.list
  | .scr xs => (datL xs).map PyData.list
  | .tup xs => (datL xs).map PyData.tuple
  | _ => none
def datL : List D → Option (List PyData)
  | [] => some []
  | x :: xs => match dat x, datL xs with
    | some a, some r => some (a :: r)
    | _, _ => none
end
mutual
theorem dat_ok {G H : Hp} (i : Inn G H) : ∀ {d : D} {v : V} {a : PyData}, Rep K S G d v → dat d = some a → Dp K H v a
  | .non, _, _, r, e => by cases e; cases r; exact .non
  | .bl _, _, _, r, e => by cases e; cases r; exact .bl _
  | .int _, _, _, r, e => by cases e; cases r; exact .int _
  | .str _, _, _, r, e => by cases e; cases r; exact .str _
  | .lst xs, _, a, ⟨q, vs, e1, g, r⟩, e => by
    have e : (datL xs).map PyData.list = some a := e
    cases h : datL xs with
    | none => rw [h] at e; cases e
    | some ds => rw [h] at e; cases e; subst e1; exact .lst (.inl (.inl (i.lst g))) (datL_ok i r h)
  | .scr xs, _, a, ⟨q, vs, e1, g, r⟩, e => by
    have e : (datL xs).map PyData.list = some a := e
    cases h : datL xs with
    | none => rw [h] at e; cases e
    | some ds => rw [h] at e; cases e; subst e1; exact .lst (i.seq g) (datL_ok i r h)
  | .tup xs, _, a, ⟨q, vs, e1, g, r⟩, e => by
    have e : (datL xs).map PyData.tuple = some a := e
    cases h : datL xs with
    | none => rw [h] at e; cases e
    | some ds => rw [h] at e; cases e; subst e1; exact .tup (i.tup g) (datL_ok i r h)
  | .st _, _, _, _, e => by cases e
  | .ty _, _, _, _, e => by cases e
  | .dct _, _, _, _, e => by cases e
  | .ins _ _, _, _, _, e => by cases e
theorem datL_ok {G H : Hp} (i : Inn G H) : ∀ {ds : List D} {vs : List V} {as : List PyData}, RepL K S G ds vs → datL ds = some as → DpAll K H vs as
  | [], _, _, r, e => by cases e; cases r; exact .nil
  | x :: xs, _, as, ⟨v, ws, e1, q, r⟩, e => by
    have e : (match dat x, datL xs with
      | some a, some r => some (a :: r)
      | _, _ => none) = some as := e
    cases h1 : dat x with
    | none => rw [h1] at e; cases e
    | some a =>
      cases h2 : datL xs with
      | none => rw [h1, h2] at e; cases e
      | some r' => rw [h1, h2] at e; cases e; subst e1; exact .cons (dat_ok i q h1) (datL_ok i r h2)
end
/-- plain values -/
def scalD (x y : D) : Option Bool := match x, y with
  | .non, .non => some true
  | .non, .int _ => some false
  | .int _, .non => some false
  | .non, .str _ => some false
  | .str _, .non => some false
  | .non, .bl _ => some false
  | .bl _, .non => some false
  | .int i, .int j => some (decide (i = j))
  | .bl i, .bl j => some (i == j)
  | .str i, .str j => some (decide (i = j))
  | .str _, .int _ => some false
  | .int _, .str _ => some false
  | .str _, .bl _ => some false
  | .bl _, .str _ => some false
  | _, _ => none
theorem scalD_ok {G : Hp} {x y : D} {v w : V} {c : Bool} (r : Rep K S G x v) (q : Rep K S G y w) (e : scalD x y = some c) : scal v w = true ∧ decide (v = w) = c := by
  cases x <;> cases y <;> first
    | (cases e; done)
    | (cases r; cases q; cases e; exact ⟨rfl, rfl⟩)
    | (cases r; cases q; cases e; refine ⟨rfl, ?_⟩; first | (rw [dec_int, Bool.beq_eq_decide_eq]; done) | (rw [dec_str, Bool.beq_eq_decide_eq]; done) | rw [dec_bl])
def eqD (x y : D) : Option Bool := match scalD x y with
  | some b => some b
  | none => match dat x, dat y with
    | some a, some b => if SeqAt.shaped a = true ∧ SeqAt.shaped b = true then some (PyData.eqv a b) else none
    | _, _ => none
def oEq : FO := fun x y => (eqD x y).map D.bl
def oNe : FO := fun x y => (eqD x y).map fun b => D.bl (!b)
theorem so_eq : SOp K S oEq (r2or rEq (rEqD K)) := fun G H x y d v w Q i rx ry e k => by
  unfold oEq eqD at e
  cases h : scalD x y with
  | some b =>
    rw [h] at e
    cases e
    obtain ⟨h1, h2⟩ := scalD_ok rx ry h
    exact .inl ⟨h1, by rw [h2]; exact k G H _ (.refl i) rfl⟩
  | none =>
    rw [h] at e
    dsimp only at e
    cases h1 : dat x with
    | none => rw [h1] at e; cases e
    | some a =>
      cases h2 : dat y with
      | none => rw [h1, h2] at e; cases e
      | some b =>
        rw [h1, h2] at e
        dsimp only at e
        split at e
        · rename_i hs
          cases e
          exact .inr ⟨a, b, dat_ok i rx h1, dat_ok i ry h2, hs.1, hs.2, k G H _ (.refl i) rfl⟩
        · cases e
theorem so_ne : SOp K S oNe (r2or rNe (rNeD K)) := fun G H x y d v w Q i rx ry e k => by
  unfold oNe eqD at e
  cases h : scalD x y with
  | some b =>
    rw [h] at e
    cases e
    obtain ⟨h1, h2⟩ := scalD_ok rx ry h
    exact .inl ⟨h1, by rw [h2]; exact k G H _ (.refl i) rfl⟩
  | none =>
    rw [h] at e
    dsimp only at e
    cases h1 : dat x with
    | none => rw [h1] at e; cases e
    | some a =>
      cases h2 : dat y with
      | none => rw [h1, h2] at e; cases e
      | some b =>
        rw [h1, h2] at e
        dsimp only at e
        split at e
        · rename_i hs
          cases e
          exact .inr ⟨a, b, dat_ok i rx h1, dat_ok i ry h2, hs.1, hs.2, k G H _ (.refl i) rfl⟩
        · cases e
/-! is None -/
def rIsN0 : R2 := fun x y H Q => y = .non ∧ Q (.bl (decide (x = .non))) H
def rNotN0 : R2 := fun x y H Q => y = .non ∧ Q (.bl (!decide (x = .non))) H
def isNon : D → Bool
  | .non => true
  | _ => false
theorem isNon_ok {G : Hp} {x : D} {v : V} (r : Rep K S G x v) : decide (v = .non) = isNon x := by
  cases x with
  | non => cases r; rfl
  | bl _ => cases r; rfl
  | int _ => cases r; rfl
  | str _ => cases r; rfl
  | st _ => cases r; rfl
  | ty _ => cases r; rfl
  | lst _ => obtain ⟨a, vs, rfl, _⟩ := r; rfl
  | scr _ => obtain ⟨a, vs, rfl, _⟩ := r; rfl
  | tup _ => obtain ⟨a, vs, rfl, _⟩ := r; rfl
  | dct _ => obtain ⟨a, vs, rfl, _⟩ := r; rfl
  | ins _ _ => obtain ⟨a, dx, vs, rfl, _⟩ := r; rfl
def oIs : FO := fun x y => match y with
  | .non => some (.bl (isNon x))
  | _ => none
def oIsnt : FO := fun x y => match y with
  | .non => some (.bl (!isNon x))
  | _ => none
theorem so_is : SOp K S oIs rIsN0 := fun G H x y d v w Q i rx ry e k => by
  cases y with
  | non => cases e; cases ry; exact ⟨rfl, by rw [isNon_ok rx]; exact k G H _ (.refl i) rfl⟩
  | _ => cases e
theorem so_isnt : SOp K S oIsnt rNotN0 := fun G H x y d v w Q i rx ry e k => by
  cases y with
  | non => cases e; cases ry; exact ⟨rfl, by rw [isNon_ok rx]; exact k G H _ (.refl i) rfl⟩
  | _ => cases e
/-! in: lists of plain data; lists and tuples of plain values -/
def flatD : D → Bool
  | .non => true
  | .bl _ => true
  | .int _ => true
  | .str _ => true
  | _ => false
def anyEq (x : D) : List D → Option Bool
  | [] => some false
  | y :: l => match flatD y, scalD y x, anyEq x l with
    | true, some b, some r => some (b || r)
    | _, _, _ => none
theorem flatD_ok {G : Hp} {x : D} {v : V} (r : Rep K S G x v) (h : flatD x = true) : flatV v = true := by
  cases x <;> first
    | (cases h; done)
    | (cases r; rfl)
theorem scal_eqV {G : Hp} {x y : D} {v w : V} {c : Bool} (r : Rep K S G x v) (q : Rep K S G y w) (e : scalD x y = some c) : eqV v w = c := by
  cases x <;> cases y <;> first
    | (cases e; done)
    | (cases r; cases q; cases e; rfl)
    | (cases r; cases q; cases e; show (_ == _) = _; first | rw [Bool.beq_eq_decide_eq] | rfl)
theorem anyEq_ok {G : Hp} {x : D} {v : V} (r : Rep K S G x v) : ∀ {l : List D} {vs : List V} {c : Bool}, RepL K S G l vs → anyEq x l = some c → vs.all flatV = true ∧ inV v vs = c
  | [], _, _, t, e => by cases t; cases e; exact ⟨rfl, rfl⟩
  | y :: l, _, c, ⟨w, ws, e1, q, t⟩, e => by
    subst e1
    have e : (match flatD y, scalD y x, anyEq x l with
      | true, some b, some r => some (b || r)
      | _, _, _ => none) = some c := e
    split at e
    · rename_i b r' h1 h2 h3
      cases e
      obtain ⟨i1, i2⟩ := anyEq_ok r t h3
      refine ⟨by rw [List.all_cons, flatD_ok q h1, i1]; rfl, ?_⟩
      show (eqV w v || inV v ws) = (b || r')
      rw [scal_eqV q r h2, i2]
    · cases e
def oIn (neg : Bool) : FO := fun x y => match seqD y with
  | some l => match flatD x, anyEq x l with
    | true, some b => some (.bl (if neg then !b else b))
    | _, _ => none
  | none => none
theorem so_in (neg : Bool) : SOp K S (oIn neg) (rIn K neg) := fun G H x y d v w Q i rx ry e k => by
  unfold oIn at e
  split at e
  · rename_i l hl
    split at e
    · rename_i b h1 h2
      cases e
      obtain ⟨q, vs, rfl, hq, t⟩ := seq_sq ry hl
      obtain ⟨i1, i2⟩ := anyEq_ok rx t h2
      refine ⟨q, vs, rfl, hq.elim (fun h => .inl (i.seq h)) fun h => .inr (i.tup h), flatD_ok rx h1, i1, ?_⟩
      rw [i2]
      exact k G H _ (.refl i) rfl
    · cases e
  · cases e
def oInD (neg : Bool) : FO := fun x y => match dat x, y with
  | some a, .lst l => match datL l with
    | some ds => if SeqAt.shaped a = true ∧ SeqAt.shaped (.list ds) = true then some (.bl (if neg then !ds.any (fun z => PyData.eqv z a) else ds.any (fun z => PyData.eqv z a))) else none
    | none => none
  | _, _ => none
theorem so_inD : SOp K S (oInD false) (rInD K) := fun G H x y d v w Q i rx ry e k => by
  unfold oInD at e
  split at e
  · rename_i a l h1
    split at e
    · rename_i ds h2
      split at e
      · rename_i hs
        cases e
        have q : Dp K H w (.list ds) := dat_ok i ry (by show (datL l).map PyData.list = _; rw [h2]; rfl)
        exact ⟨a, ds, dat_ok i rx h1, q, hs.1, hs.2, k G H _ (.refl i) rfl⟩
      · cases e
    · cases e
  · cases e
theorem so_notInD : SOp K S (oInD true) (rNotInD K) := fun G H x y d v w Q i rx ry e k => by
  unfold oInD at e
  split at e
  · rename_i a l h1
    split at e
    · rename_i ds h2
      split at e
      · rename_i hs
        cases e
        have q : Dp K H w (.list ds) := dat_ok i ry (by show (datL l).map PyData.list = _; rw [h2]; rfl)
        exact ⟨a, ds, dat_ok i rx h1, q, hs.1, hs.2, k G H _ (.refl i) rfl⟩
      · cases e
    · cases e
  · cases e
/-- try the first -/
def oOr (f g : FO) : FO := fun x y => match f x y with
  | some d => some d
  | none => g x y
theorem so_or {f g : FO} {r r' : R2} (h1 : SOp K S f r) (h2 : SOp K S g r') : SOp K S (oOr f g) (r2or r r') := fun G H x y d v w Q i rx ry e k => by
  unfold oOr at e
  split at e
  · rename_i d' h
    cases e
    exact .inl (h1 G H x y _ v w Q i rx ry h k)
  · exact .inr (h2 G H x y d v w Q i rx ry e k)
/-! subscripts -/
def oIx : FO := fun x y => match y with
  | .int i => match x with
    | .str s => if s.length ≤ 1000000 then (atI s.cps.toList i).map fun c => D.str ⟨#[c]⟩ else none
    | c => match seqD c with
      | some l => atI l i
      | none => none
  | _ => none
theorem atI_rep {G : Hp} {l : List D} {vs : List V} {i : Int} {d : D} (t : RepL K S G l vs) (h : atI l i = some d) : ∃ v, atI vs i = some v ∧ Rep K S G d v := by
  unfold atI at h ⊢
  rw [t.length] at h
  cases hi : ixN vs.length i with
  | none => rw [hi] at h; cases h
  | some j =>
    rw [hi] at h
    exact t.get h
theorem so_ix : SOp K S oIx (rIx K) := fun G H x y d v w Q i rx ry e k => by
  cases y with
  | int j =>
    cases ry
    have key : (match seqD x with
      | some l => atI l j
      | none => none) = some d → rIx K v (.int j) H Q := fun e => by
      split at e
      · rename_i l hl
        obtain ⟨q, vs, rfl, hq, t⟩ := seq_sq rx hl
        obtain ⟨u, hu, ru⟩ := atI_rep t e
        rcases hq with hq | hq
        · exact .inl ⟨q, vs, j, u, rfl, rfl, i.seq hq, hu, k G H u (.refl i) ru⟩
        · exact .inr (.inl ⟨q, vs, j, u, rfl, rfl, i.tup hq, hu, k G H u (.refl i) ru⟩)
      · cases e
    cases x with
    | str s =>
      have e : (if s.length ≤ 1000000 then (atI s.cps.toList j).map fun c => D.str ⟨#[c]⟩ else none) = some d := e
      split at e
      · rename_i h
        cases hc : atI s.cps.toList j with
        | none => rw [hc] at e; cases e
        | some c =>
          rw [hc] at e
          cases e
          cases rx
          exact .inr (.inr ⟨s, j, c, rfl, rfl, line10 h, hc, k G H _ (.refl i) rfl⟩)
      · cases e
    | _ => exact key e
  | _ => cases e
/-! slices -/
abbrev EvO := Env → Res (Option Int)
abbrev TOp (K : PySem.W.Frag) (S : Nat → Addr) (E : XK) (f : EvO) : TO := Tx K S E (fun _ _ d v => d = v) f
abbrev QO (S : Nat → Addr) (X : Cx) (E : XK) (e : Option Expr) (f : EvO) : Prop := PO X e (TOp X.K S E f)
def pNone : EvO := fun env => .ok none env
def pSome (a : Ev) : EvO := fun env => (a env).bind fun d e => match d with
  | .int i => .ok (some i) e
  | _ => .no
theorem po_of {e : Option Expr} {t u : TO} (p : PO X e t) (h : ∀ σ H Q, u σ H Q → t σ H Q) : PO X e u := ⟨fun pins s σ H Q I q => p.run pins s σ H Q I (h σ H Q q)⟩
theorem o_none : QO S X E none pNone := po_of po_none fun σ H Q ⟨B, L, G, env, st, rl, po⟩ => po G H (.refl _) st rl none rfl
theorem o_some (h : QE S X E e ee) : QO S X E (some e) (pSome ee) := po_of (po_some h) fun σ H Q ⟨B, L, G, env, st, rl, po⟩ => ⟨B, L, G, env, st, rl, po.then fun G1 H1 d e1 sm1 st1 rl1 p1 v rv => by
  cases d with
  | int i => exact ⟨i, rv, p1 G1 H1 (.refl _) st1 rl1 _ rfl⟩
  | _ => exact p1.elim⟩
def cutD (xs : List D) (lo hi : Option Int) : List D := (xs.drop (HT.sIx xs.length 0 lo)).take (HT.sIx xs.length xs.length hi - HT.sIx xs.length 0 lo)
theorem cut_rep {G : Hp} {xs : List D} {vs : List V} (t : RepL K S G xs vs) (lo hi : Option Int) : RepL K S G (cutD xs lo hi) (cutV vs lo hi) := by
  unfold cutD cutV
  rw [t.length]
  exact (t.drop _).take _
variable {lo hi : Option Expr} {el eh : EvO}
def xSl (a : Ev) (l h : EvO) : Ev := fun env => (a env).bind fun x e1 => (l e1).bind fun i e2 => (h e2).bind fun j e3 => match x with
  | .str s => if s.length ≤ 1000000 then .ok (.str (cutS s i j)) e3 else .no
  | _ => .no
theorem q_slS (he : QE S X E e ee) (hl : QO S X E lo el) (hh : QO S X E hi eh) : QE S X E (.Subscript e (.Slice lo hi none p2) pos) (xSl ee el eh) := pe_of (pe_slice sl_str he hl hh) fun σ H Q ⟨B, L, G, env, st, rl, po⟩ => ⟨B, L, G, env, st, rl, po.then fun G1 H1 x e1 sm1 st1 rl1 p1 v rv => ⟨B, L, G1, e1, st1, rl1, p1.then fun G2 H2 i e2 sm2 st2 rl2 p2 i' hi => ⟨B, L, G2, e2, st2, rl2, p2.then fun G3 H3 j e3 sm3 st3 rl3 p3 j' hj => by
  cases hi
  cases hj
  cases x with
  | str s =>
    have p3 : Post X.K S E B L σ G3 (fun G' H' d _ => ∀ v, Rep X.K S G' d v → Q v H') (if s.length ≤ 1000000 then Res.ok (D.str (cutS s i j)) e3 else Res.no) := p3
    split at p3
    · rename_i h
      exact ⟨s, rv, line10 h, p3 G3 H3 (.refl _) st3 rl3 _ rfl⟩
    · exact p3.elim
  | _ => exact p3.elim⟩⟩⟩
def xSlL (a : Ev) (l h : EvO) : Ev := fun env => (a env).bind fun x e1 => (l e1).bind fun i e2 => (h e2).bind fun j e3 => match lstD x with
  | some xs => .ok (.lst (cutD xs i j)) e3
  | none => .no
theorem qf_slL (he : QE S X E e ee) (hl : QO S X E lo el) (hh : QO S X E hi eh) : QF S X E (.Subscript e (.Slice lo hi none p2) pos) (xSlL ee el eh) := pe_of (pe_slice sl_list he hl hh) fun σ H Q ⟨B, L, G, env, st, rl, po⟩ => ⟨B, L, G, env, st, rl, po.then fun G1 H1 x e1 sm1 st1 rl1 p1 v rv => ⟨B, L, G1, e1, st1, rl1, p1.then fun G2 H2 i e2 sm2 st2 rl2 p2 i' hi => ⟨B, L, G2, e2, st2, rl2, p2.then fun G3 H3 j e3 sm3 st3 rl3 p3 j' hj => by
  cases hi
  cases hj
  split at p3
  · rename_i xs h
    obtain ⟨q, vs, rfl, hq, t⟩ := lst_sq rv h
    exact ⟨q, vs, rfl, st3.inn.seq (sm3.seq (sm2.seq hq)), fresh_ok st3 rl3 p3 ⟨_, rfl, cut_rep ((t.mono sm2).mono sm3) i j⟩⟩
  · exact p3.elim⟩⟩⟩
/-! ### built-ins -/
def fLen : FC := fun xs => match xs with
  | [.str s] => if s.length ≤ 1000000 then some (.int s.length) else none
  | [x] => match seqD x with
    | some l => some (.int l.length)
    | none => none
  | _ => none
def rLen (K : PySem.W.Frag) : List V → Hp → VK → Prop := fun xs H Q => ∃ x n, xs = [x] ∧ LenV K x H n ∧ Q (.int n) H
theorem sc_len : SCl K S fLen (rLen K) := fun G H xs d vs Q i r e k => by
  have key : ∀ x, xs = [x] → (match seqD x with
      | some l => some (D.int l.length)
      | none => none) = some d → rLen K vs H Q := fun x hx e' => by
    subst hx
    obtain ⟨v, rfl, rx⟩ := r.one
    split at e'
    · rename_i l hl
      cases e'
      obtain ⟨q, us, rfl, hq, t⟩ := seq_sq rx hl
      refine ⟨_, us.length, rfl, hq.elim (fun h => .inl ⟨us, i.seq h, rfl⟩) fun h => .inr ⟨us, i.tup h, rfl⟩, ?_⟩
      exact k G H _ (.refl i) (by rw [← t.length]; rfl)
    · cases e'
  unfold fLen at e
  split at e
  · rename_i s
    split at e
    · rename_i h
      cases e
      obtain ⟨v, rfl, rx⟩ := r.one
      cases rx
      exact ⟨.str s, s.length, rfl, ⟨line10 h, rfl⟩, k G H _ (.refl i) rfl⟩
    · cases e
  · rename_i x _
    exact key x rfl e
  · cases e
def intL : List D → Option (List Int)
  | [] => some []
  | .int i :: r => (intL r).map (i :: ·)
  | _ => none
theorem intL_ok {G : Hp} : ∀ {l : List D} {vs : List V} {ns : List Int}, RepL K S G l vs → intL l = some ns → vs = ns.map V.int
  | [], _, _, t, e => by cases t; cases e; rfl
  | x :: r, _, ns, ⟨v, ws, e1, q, t⟩, e => by
    subst e1
    cases x with
    | int i =>
      have e : (intL r).map (i :: ·) = some ns := e
      cases h : intL r with
      | none => rw [h] at e; cases e
      | some ms =>
        rw [h] at e
        cases e
        cases q
        rw [intL_ok t h]
        rfl
    | _ => cases e
def fSum : FC := fun xs => match xs with
  | [x] => match lstD x with
    | some l => (intL l).map fun ns => .int ns.sum
    | none => none
  | _ => none
theorem sc_sum : SCl K S fSum (rSum K) := fun G H xs d vs Q i r e k => by
  unfold fSum at e
  split at e
  · rename_i x
    obtain ⟨v, rfl, rx⟩ := r.one
    split at e
    · rename_i l hl
      cases h : intL l with
      | none => rw [h] at e; cases e
      | some ns =>
        rw [h] at e
        cases e
        obtain ⟨q, us, rfl, hq, t⟩ := lst_sq rx hl
        rw [intL_ok t h] at hq
        exact ⟨q, ns, rfl, i.seq hq, k G H _ (.refl i) rfl⟩
    · cases e
  · cases e
def blL : List D → Option (List Bool)
  | [] => some []
  | .bl i :: r => (blL r).map (i :: ·)
  | _ => none
theorem blL_ok {G : Hp} : ∀ {l : List D} {vs : List V} {ns : List Bool}, RepL K S G l vs → blL l = some ns → vs = ns.map V.bl
  | [], _, _, t, e => by cases t; cases e; rfl
  | x :: r, _, ns, ⟨v, ws, e1, q, t⟩, e => by
    subst e1
    cases x with
    | bl i =>
      have e : (blL r).map (i :: ·) = some ns := e
      cases h : blL r with
      | none => rw [h] at e; cases e
      | some ms =>
        rw [h] at e
        cases e
        cases q
        rw [blL_ok t h]
        rfl
    | _ => cases e
def fBls (f : List Bool → Bool) : FC := fun xs => match xs with
  | [x] => match lstD x with
    | some l => (blL l).map fun bs => .bl (f bs)
    | none => none
  | _ => none
def fAny : FC := fBls fun l => l.any id
def fAll : FC := fBls fun l => l.all id
theorem sc_bls {f : List Bool → Bool} : SCl K S (fBls f) (fun vs H Q => ∃ (a : Addr) (bs : List Bool), vs = [V.ref a] ∧ SqL K H a (bs.map V.bl) ∧ Q (.bl (f bs)) H) := fun G H xs d vs Q i r e k => by
  unfold fBls at e
  split at e
  · rename_i x
    obtain ⟨v, rfl, rx⟩ := r.one
    split at e
    · rename_i l hl
      cases h : blL l with
      | none => rw [h] at e; cases e
      | some ns =>
        rw [h] at e
        cases e
        obtain ⟨q, us, rfl, hq, t⟩ := lst_sq rx hl
        rw [blL_ok t h] at hq
        exact ⟨q, ns, rfl, i.seq hq, k G H _ (.refl i) rfl⟩
    · cases e
  · cases e
theorem sc_any : SCl K S fAny (rAny K) := sc_bls
theorem sc_all : SCl K S fAll (rAll K) := sc_bls
def fInt : FC := fun xs => match xs with
  | [.int i] => some (.int i)
  | [.bl b] => some (.int (if b = true then 1 else 0))
  | _ => none
def rInt1 : List V → Hp → VK → Prop := fun xs H Q => (∃ i, xs = [.int i] ∧ Q (.int i) H) ∨ ∃ k, xs = [.bl k] ∧ Q (.int (if k then 1 else 0)) H
theorem sc_int : SCl K S fInt rInt1 := fun G H xs d vs Q i r e k => by
  unfold fInt at e
  split at e
  · cases e
    obtain ⟨v, rfl, rx⟩ := r.one
    cases rx
    exact .inl ⟨_, rfl, k G H _ (.refl i) rfl⟩
  · cases e
    obtain ⟨v, rfl, rx⟩ := r.one
    cases rx
    exact .inr ⟨_, rfl, k G H _ (.refl i) rfl⟩
  · cases e
def fAbs : FC := fun xs => match xs with
  | [.int i] => some (.int (if i < 0 then -i else i))
  | _ => none
theorem sc_abs : SCl K S fAbs (fun xs H Q => ∃ i, xs = [.int i] ∧ Q (.int (if i < 0 then -i else i)) H) := fun G H xs d vs Q i r e k => by
  unfold fAbs at e
  split at e
  · cases e
    obtain ⟨v, rfl, rx⟩ := r.one
    cases rx
    exact ⟨_, rfl, k G H _ (.refl i) rfl⟩
  · cases e
def fI2 (f : Int → Int → Int) : FC := fun xs => match xs with
  | [.int i, .int j] => some (.int (f i j))
  | _ => none
def fMax2 : FC := fI2 fun i j => if j > i then j else i
def fMin2 : FC := fI2 fun i j => if j < i then j else i
theorem sc_I2 {f : Int → Int → Int} : SCl K S (fI2 f) (fun xs H Q => ∃ i j, xs = [.int i, .int j] ∧ Q (.int (f i j)) H) := fun G H xs d vs Q i r e k => by
  unfold fI2 at e
  split at e
  · cases e
    obtain ⟨v, w, rfl, rx, ry⟩ := r.two
    cases rx
    cases ry
    exact ⟨_, _, rfl, k G H _ (.refl i) rfl⟩
  · cases e
theorem call_divmodN : CallR X (.builtin "divmod") (fun xs H Q => ∃ i j, xs = [.int i, .int j] ∧ CDivN i j ∧ ∀ p, H p = none → Q (.ref p) (upd H p (.tup [.int (i.fdiv j), .int (i.fmod j)]))) := by
  intro pins s σ H xs us Q I r h
  obtain ⟨i, j, rfl, ⟨h1, h2⟩, q⟩ := h
  obtain ⟨u, w', rfl, ⟨t, rfl⟩, ⟨t', rfl⟩⟩ := vals2 r
  refine divmod_int h1 ?_ (.inl (PyProof.noPylong_small h2))
  have hn : H s.heap.objs.size = none := I.hok.fresh (Nat.le_refl _)
  refine ⟨.ref s.heap.objs.size, _, ?_, rfl, q _ hn⟩
  refine I.laid (fun b o e => Heap.get?_push_of_some _ e) (Nat.le_refl _) ⟨by simp only [List.length_cons, List.length_nil]; rw [sizeLine_eq]; decide, [.int (i.fdiv j) s.toks, .int (i.fmod j) (s.toks + 1)], .cons ⟨_, rfl⟩ (.cons ⟨_, rfl⟩ .nil), ?_⟩
  exact ⟨_, Heap.get?_push_size s.heap rfl, rfl, 0, rfl⟩
def fDivmod : FC := fun xs => match xs with
  | [.int i, .int j] => if cDivN i j = true then some (.tup [.int (i.fdiv j), .int (i.fmod j)]) else none
  | _ => none
theorem sc_divmod : SCl K S fDivmod (fun xs H Q => ∃ i j, xs = [.int i, .int j] ∧ CDivN i j ∧ ∀ p, H p = none → Q (.ref p) (upd H p (.tup [.int (i.fdiv j), .int (i.fmod j)]))) := fun G H xs d vs Q i r e k => by
  unfold fDivmod at e
  split at e
  · rename_i m n
    split at e
    · rename_i hc
      cases e
      obtain ⟨v, w, rfl, rx, ry⟩ := r.two
      cases rx
      cases ry
      refine ⟨_, _, rfl, (of_decide_eq_true hc : _ ≠ _ ∧ _), fun q hq => ?_⟩
      have x := Ex.new1 (o := .tup [.int (Int.fdiv m n), .int (Int.fmod m n)]) i hq
      exact k _ _ _ x ⟨q, _, rfl, .inl (.inl upd_same), .cons rfl (.cons rfl .nil)⟩
    · cases e
  · cases e
/-! new objects of one's own -/
def SClF (K : PySem.W.Frag) (S : Nat → Addr) (f : FC) (r : List V → Hp → VK → Prop) : Prop := ∀ (G H : Hp) (xs : List D) (d : D) (vs : List V) (Q : VK), Inn G H → RepL K S G xs vs → f xs = some d → (∀ p o, H p = none → RepO K S G d o → Q (.ref p) (upd H p o)) → r vs H Q
theorem sndf_cb {f : FC} {r : List V → Hp → VK → Prop} {σ : L2.St} {H : Hp} {Q : VK} (so : SClF K S f r) (q : TF K S E (xCB f er) σ H Q) : tCB r (TAe K S E er) σ H Q := by
  obtain ⟨B, L, G, env, st, rl, po⟩ := q
  refine ⟨B, L, G, env, st, rl, po.then fun G1 H1 xs e1 sm1 st1 rl1 p1 vs rv => ?_⟩
  cases hf : f xs with
  | none => rw [hf] at p1; exact p1.elim
  | some d =>
    rw [hf] at p1
    exact so G1 H1 xs d vs Q st1.inn rv hf fun p o hp ro => fresh_ok st1 rl1 p1 ro p hp
theorem qf_callB {id : String} {x : Str} {p : Pos} {f : FC} {r : List V → Hp → VK → Prop} (hc : CallR X (.builtin id) r) (so : SClF X.K S f r) (hg : Gl X x) (hm : X.mg x = none) (hv : bootBuiltins x = some (.builtin id)) (ha : QA S X E (a :: es) er) (hn : x ≠ "__name__" := by decide) (hdb : (x == ("__debug__" : Str)) = false := by decide)
    (he : starEach (a :: es) X.env = (false, eval a X.env) :: starEach es X.env := by rfl) (hpl : (backTo pos (starEach es X.env)).any (·.1) = false := by rfl) : QF S X E (.Call (.Name x p) (a :: es) [] pos) (xCB f er) := pe_of (pe_callB hc hg hm hv ha hn hdb he hpl) fun _ _ _ q => sndf_cb so q
theorem qf_callTy {T : String} {x : Str} {p : Pos} {f : FC} {r : List V → Hp → VK → Prop} (hc : CallR X (.type T) r) (so : SClF X.K S f r) (hg : Gl X x) (hm : X.mg x = none) (hv : bootBuiltins x = some (.type T)) (ha : QA S X E (a :: es) er) (hn : x ≠ "__name__" := by decide) (hdb : (x == ("__debug__" : Str)) = false := by decide)
    (he : starEach (a :: es) X.env = (false, eval a X.env) :: starEach es X.env := by rfl) (hpl : (backTo pos (starEach es X.env)).any (·.1) = false := by rfl) : QF S X E (.Call (.Name x p) (a :: es) [] pos) (xCB f er) := pe_of (pe_callTy hc hg hm hv ha hn hdb he hpl) fun _ _ _ q => sndf_cb so q
def fList : FC := fun xs => match xs with
  | [x] => (seqD x).map D.lst
  | _ => none
def rListOf (K : PySem.W.Frag) : List V → Hp → VK → Prop := fun xs H Q => ∃ p ys, xs = [.ref p] ∧ (SqL K H p ys ∨ SqT K H p ys) ∧ ∀ l, H l = none → Q (.ref l) (upd H l (.lst ys))
theorem sc_list : SClF K S fList (rListOf K) := fun G H xs d vs Q i r e k => by
  unfold fList at e
  split at e
  · rename_i x
    obtain ⟨v, rfl, rx⟩ := r.one
    cases h : seqD x with
    | none => rw [h] at e; cases e
    | some l =>
      rw [h] at e
      cases e
      obtain ⟨q, us, rfl, hq, t⟩ := seq_sq rx h
      exact ⟨q, us, rfl, hq.elim (fun h => .inl (i.seq h)) (fun h => .inr (i.tup h)), fun p hp => k p _ hp ⟨us, rfl, t⟩⟩
  · cases e
/-- list(x) of a list of one's own at a slot -/
def xListV (i : Nat) : Ev := fun env => match env[i]? with
  | some (.box (.lst xs)) => .ok (.lst xs) env
  | some (.par (.lst xs)) => .ok (.lst xs) env
  | _ => .no
/-! stars in displays -/
def xStar (a : Ev) (r : EvA) : EvA := fun env => (a env).bind fun x e1 => match seqD x with
  | some l => (r e1).bind fun xs e2 => .ok (l ++ xs) e2
  | none => .no
theorem q_star {p : Pos} (he : QE S X E e ee) (hr : QA S X E es er) (hs : starEach (.Starred e p :: es) X.env = (true, eval e X.env) :: starEach es X.env := by rfl) : QA S X E (.Starred e p :: es) (xStar ee er) := pa_of (StX.pa_star he hr hs) fun σ H Q ⟨B, L, G, env, st, rl, po⟩ => ⟨B, L, G, env, st, rl, po.then fun G1 H1 x e1 sm1 st1 rl1 p1 v rv => by
  split at p1
  · rename_i l hl
    obtain ⟨q, us, rfl, hq, t⟩ := seq_sq rv hl
    exact ⟨q, us, rfl, hq.elim (fun h => .inr (st1.inn.seq h)) (fun h => .inl (st1.inn.tup h)), B, L, G1, e1, st1, rl1, p1.then fun G2 H2 xs e2 sm2 st2 rl2 p2 ys rvs => p2 G2 H2 (.refl _) st2 rl2 _ ((t.mono sm2).app rvs)⟩
  · exact p1.elim⟩
end
end
end Dv
namespace Dv
open PySem PySem.Spec PyProof.Rows L2
set_option autoImplicit false
noncomputable section
/-! ### what is one's own, read for a moment -/
def borE (env : Env) : Env := env.map fun s => match s with
  | .box d => .val d
  | .par d => .val d
  | s => s
def scalR : D → Bool
  | .non => true
  | .bl _ => true
  | .int _ => true
  | .str _ => true
  | .st _ => true
  | .ty _ => true
  | _ => false
def xBor (f : Ev) : Ev := fun env => match f (borE env) with
  | .ok d _ => if scalR d = true then .ok d env else .no
  | _ => .no
def xBorT (f : EvT) : EvT := fun env => match f (borE env) with
  | .ok b _ => .ok b env
  | _ => .no
section
variable {K : PySem.W.Frag} {S : Nat → Addr} {X : Cx} {E : XK}
theorem scalR_any {G G' : Hp} {d : D} {v : V} (h : scalR d = true) (r : Rep K S G d v) : Rep K S G' d v := by
  cases d <;> first
    | (cases h; done)
    | exact r
def OwnAt (env : Env) (σ : L2.St) (a : Addr) : Prop := ∃ (i : Nat) (s : Sl), env[i]? = some s ∧ isOwn s = true ∧ σ[i]? = some (some (V.ref a))
open Classical in
def borG (env : Env) (σ : L2.St) (G H : Hp) : Hp := fun a => if OwnAt env σ a then H a else G a
theorem bor_ok {B : Base} {L : Lk} {G H : Hp} {env : Env} {σ : L2.St} (st : Ste B L G H) (rl : Rel K S B L G H env σ) :
    Ste ⟨borG env σ G H, H, none⟩ [] (borG env σ G H) H ∧ Rel K S ⟨borG env σ G H, H, none⟩ [] (borG env σ G H) H (borE env) σ := by
  have sm : Same G (borG env σ G H) := fun a o e => by
    unfold borG
    by_cases h : OwnAt env σ a
    · obtain ⟨i, s, h1, h2, h3⟩ := h
      have := (own_free st rl h1 h2 h3).1
      rw [e] at this
      cases this
    · rw [if_neg h]; exact e
  have own : ∀ (i : Nat) (s : Sl) (a : Addr), env[i]? = some s → isOwn s = true → σ[i]? = some (some (V.ref a)) → borG env σ G H a = H a := fun i s a h1 h2 h3 => by
    unfold borG
    rw [if_pos ⟨i, s, h1, h2, h3⟩]
  refine ⟨⟨.refl _, fun a u e => ?_, fun a h e => (h e).elim, fun a o e _ _ => e, (fun p hp => by cases hp), (fun a e => by cases e), fun p hp => by cases hp⟩, ?_, fun i j s t a _ h1 _ o1 => ?_, fun i s a h1 o1 _ p hp => by cases hp⟩
  · unfold borG at e
    by_cases h : OwnAt env σ a
    · rw [if_pos h] at e; exact .inl e
    · rw [if_neg h] at e; exact st.inn a u e
  · refine paired_of (by unfold borE; rw [List.length_map]; exact paired_len rl.at_) fun i s x h1 h2 => ?_
    unfold borE at h1
    rw [List.getElem?_map] at h1
    cases he : env[i]? with
    | none => rw [he] at h1; cases h1
    | some s' =>
      rw [he] at h1
      cases h1
      obtain ⟨y, hy, q⟩ := rel_at rl he
      rw [h2] at hy
      cases hy
      cases s' with
      | no => trivial
      | val d => obtain ⟨v, e, r⟩ := q; exact ⟨v, e, r.mono sm⟩
      | box d =>
        obtain ⟨a, o, rfl, _, _, ha, r⟩ := q
        have hg := own i _ a he rfl h2
        rw [ha] at hg
        refine ⟨_, rfl, ?_⟩
        cases d with
        | lst xs => obtain ⟨vs, rfl, q⟩ := r; exact ⟨a, vs, rfl, hg, q.mono sm⟩
        | dct xs => obtain ⟨vs, rfl, q⟩ := r; exact ⟨a, vs, rfl, hg, q.mono sm⟩
        | ins C fs => obtain ⟨dx, vs, rfl, q⟩ := r; exact ⟨a, dx, vs, rfl, hg, q.mono sm⟩
        | _ => exact r.elim
      | par d =>
        obtain ⟨a, o, rfl, _, ha, r⟩ := q
        have hg := own i _ a he rfl h2
        rw [ha] at hg
        refine ⟨_, rfl, ?_⟩
        cases d with
        | lst xs => obtain ⟨vs, rfl, q⟩ := r; exact ⟨a, vs, rfl, hg, q.mono sm⟩
        | dct xs => obtain ⟨vs, rfl, q⟩ := r; exact ⟨a, vs, rfl, hg, q.mono sm⟩
        | ins C fs => obtain ⟨dx, vs, rfl, q⟩ := r; exact ⟨a, dx, vs, rfl, hg, q.mono sm⟩
        | _ => exact r.elim
  · unfold borE at h1
    rw [List.getElem?_map] at h1
    cases he : env[i]? with
    | none => rw [he] at h1; cases h1
    | some s' =>
      rw [he] at h1
      cases h1
      cases s' <;> cases o1
theorem bor_end {G0 H H' G' : Hp} (st : Ste ⟨G0, H, none⟩ [] G' H') : Same H H' := fun a o e => st.keep a o e (by intro q; cases q) fun p hp => by cases hp
theorem q_bor {e : Expr} {f : Ev} (h : QE S X E e f) : QE S X E e (xBor f) := pe_of h fun σ H Q ⟨B, L, G, env, st, rl, po⟩ => by
  obtain ⟨s1, r1⟩ := bor_ok st rl
  refine ⟨_, [], _, _, s1, r1, ?_⟩
  unfold xBor at po
  cases hf : f (borE env) with
  | no => rw [hf] at po; exact po.elim
  | ex C fs e' => rw [hf] at po; exact po.elim
  | ok d e' =>
    rw [hf] at po
    dsimp only at po
    split at po
    · rename_i hs
      intro G' H' sm st' rl' v rv
      have x := Ex.same st.inn (bor_end st')
      exact po G H' (.refl _) (st.ex x) (rl.ex x) v (scalR_any hs rv)
    · exact po.elim
theorem q_borT {e : Expr} {f : EvT} (h : QT S X E e f) : QT S X E e (xBorT f) := pt_of h fun σ H Q ⟨B, L, G, env, st, rl, po⟩ => by
  obtain ⟨s1, r1⟩ := bor_ok st rl
  refine ⟨_, [], _, _, s1, r1, ?_⟩
  unfold xBorT at po
  cases hf : f (borE env) with
  | no => rw [hf] at po; exact po.elim
  | ex C fs e' => rw [hf] at po; exact po.elim
  | ok d e' =>
    rw [hf] at po
    intro G' H' sm st' rl' v rv
    have x := Ex.same st.inn (bor_end st')
    exact po G H' (.refl _) (st.ex x) (rl.ex x) v rv
/-! ### methods of what is one's own -/
def cont : Sl → Option D
  | .box d => some d
  | .par d => some d
  | _ => none
def isLst : D → Bool
  | .lst _ => true
  | _ => false
abbrev FM := D → List D → Option (D × D)
def xOwnM (f : FM) (i : Nat) (r : EvA) : Ev := fun env => match env[i]? with
  | some s => match cont s with
    | some (.lst _) => (r env).bind fun xs e => match e[i]? with
      | some t => match cont t with
        | some c => match f c xs with
          | some (d, c') => .ok d (e.set i (putSl t c'))
          | none => .no
        | none => .no
      | none => .no
    | _ => .no
  | none => .no
def SMo (K : PySem.W.Frag) (S : Nat → Addr) (f : FM) (r : V → List V → Hp → VK → Prop) : Prop := ∀ (G H : Hp) (p : Addr) (o : HO) (c : D) (xs : List D) (vs : List V) (d c' : D) (Q : VK), Inn G H → G p = none → H p = some o → RepO K S G c o → RepL K S G xs vs → f c xs = some (d, c') → (∀ o' u, RepO K S G c' o' → Rep K S G d u → Q u (upd H p o')) → r (.ref p) vs H Q
theorem own_cont {B : Base} {L : Lk} {G H : Hp} {env : Env} {σ : L2.St} {i : Nat} {s : Sl} {c : D} (rl : Rel K S B L G H env σ) (h : env[i]? = some s) (hc : cont s = some c) : isOwn s = true ∧ ∃ p o, σ[i]? = some (some (V.ref p)) ∧ H p = some o ∧ RepO K S G c o := by
  obtain ⟨x, hx, q⟩ := rel_at rl h
  cases s with
  | box d => cases hc; obtain ⟨p, o, rfl, _, _, hp, r⟩ := q; exact ⟨rfl, p, o, hx, hp, r⟩
  | par d => cases hc; obtain ⟨p, o, rfl, _, hp, r⟩ := q; exact ⟨rfl, p, o, hx, hp, r⟩
  | _ => cases hc
variable {o e : Expr} {es : List Expr} {name : Str} {apos cpos : Pos} {id : String} {r : V → List V → Hp → VK → Prop} {f : FM} {er : EvA} {i : Nat}
theorem snd_own {σ : L2.St} {H : Hp} {Q : VK} (so : SMo K S f r) (q : TD K S E (xOwnM f i er) σ H Q) : tBM K "list" r (tVar i) (TAe K S E er) σ H Q := by
  obtain ⟨B, L, G, env, st, rl, po⟩ := q
  unfold xOwnM at po
  split at po
  · rename_i s hs
    split at po
    · rename_i ys hc
      obtain ⟨ho, p, ob, hx, hp, vs, rfl, ro⟩ := own_cont rl hs hc
      refine ⟨.ref p, hx, .inl ⟨rfl, _, SqL.of hp⟩, B, L, G, env, st, rl, po.then fun G1 H1 xs e1 sm1 st1 rl1 p1 us rv => ?_⟩
      split at p1
      · rename_i t ht
        split at p1
        · rename_i c hc1
          split at p1
          · rename_i d c' hf
            obtain ⟨ho1, p', o1, hx1, hp1, ro1⟩ := own_cont rl1 ht hc1
            rw [hx] at hx1
            cases hx1
            refine so G1 H1 p o1 c xs us d c' Q st1.inn (own_free st1 rl1 ht ho1 hx).1 hp1 ro1 rv hf fun o' u h1 h2 => ?_
            obtain ⟨s1, s2⟩ := own_set st1 rl1 ht ho1 hx h1
            exact p1 G1 _ (.refl _) s1 s2 u h2
          · exact p1.elim
        · exact p1.elim
      · exact p1.elim
    · exact po.elim
  · exact po.elim
theorem q_own (pa : PlainAttrs "list") (slot : Slot "list" name id) (hty : typeOf (.builtin id) = pure (.type "method_descriptor")) (hm : MtR X id r) (so : SMo X.K S f r) (ho : PE X o (tVar i)) (ha : QA S X E (e :: es) er)
    (hbase : attributeBase o name X.env (eval o X.env) = eval o X.env := by rfl)
    (hfew : ((backTo cpos (starEach (e :: es) X.env)).all (fun x => !x.1) && (backToKw cpos (keywordEach [] X.env)).all (fun x => x.1.isSome)
      && decide ((e :: es).length + ([] : List Keyword).length + (if ([] : List Keyword).isEmpty then 0 else 1) < 30)) = true := by rfl)
    (hline : (apos.endLine == cpos.line) = true := by rfl) (hs : starEach (e :: es) X.env = (false, eval e X.env) :: starEach es X.env := by rfl) (hplain : (backTo cpos (starEach es X.env)).any (·.1) = false := by rfl) :
    QE S X E (.Call (.Attribute o name apos) (e :: es) [] cpos) (xOwnM f i er) := pe_of (pe_bm pa slot hty hm ho ha hbase hfew hline hs hplain) fun _ _ _ q => snd_own so q
def mApp : FM := fun c xs => match c, xs with
  | .lst l, [x] => if l.length < 1000000 then some (.non, .lst (l ++ [x])) else none
  | _, _ => none
theorem sm_app : SMo K S mApp rAppend := fun G H p o c xs vs d c' Q i gp hp ro rx hf k => by
  unfold mApp at hf
  split at hf
  · rename_i l x
    split at hf
    · rename_i hl
      cases hf
      obtain ⟨ws, rfl, t⟩ := ro
      obtain ⟨v, rfl, rv⟩ := rx.one
      exact ⟨p, ws, v, rfl, rfl, hp, len9 (by rw [← t.length]; exact hl), k _ _ ⟨_, rfl, t.app (.cons rv .nil)⟩ rfl⟩
    · cases hf
  · cases hf
def mExt : FM := fun c xs => match c, xs with
  | .lst l, [.lst z] => if l.length + z.length ≤ 1000000 then some (.non, .lst (l ++ z)) else none
  | _, _ => none
theorem sm_ext : SMo K S mExt rExtend := fun G H p o c xs vs d c' Q i gp hp ro rx hf k => by
  unfold mExt at hf
  split at hf
  · rename_i l z
    split at hf
    · rename_i hl
      cases hf
      obtain ⟨ws, rfl, t⟩ := ro
      obtain ⟨v, rfl, b, zs, rfl, gb, tz⟩ := rx.one
      exact ⟨p, b, ws, zs, rfl, rfl, hp, i.lst gb, line10 (by rw [← t.length, ← tz.length]; exact hl), k _ _ ⟨_, rfl, t.app tz⟩ rfl⟩
    · cases hf
  · cases hf
theorem RepL.erase {G : Hp} : ∀ {xs : List D} {vs : List V} (n : Nat), RepL K S G xs vs → RepL K S G (xs.eraseIdx n) (vs.eraseIdx n)
  | [], _, _, r => by cases r; rfl
  | x :: xs, _, 0, ⟨v, ws, e, q, r⟩ => by subst e; exact r
  | x :: xs, _, n + 1, ⟨v, ws, e, q, r⟩ => by subst e; exact ⟨v, _, rfl, q, r.erase n⟩
/-- x.pop(k), k from the beginning -/
def mPopAt : FM := fun c xs => match c, xs with
  | .lst l, [.int (.ofNat j)] => if j < 1000000 then match l[j]? with
    | some x => some (x, .lst (l.eraseIdx j))
    | none => none else none
  | _, _ => none
theorem sm_popAt : SMo K S mPopAt rPopAt := fun G H p o c xs vs d c' Q i gp hp ro rx hf k => by
  unfold mPopAt at hf
  split at hf
  · rename_i l j
    split at hf
    · rename_i hj
      split at hf
      · rename_i x hx
        cases hf
        obtain ⟨ws, rfl, t⟩ := ro
        obtain ⟨v, rfl, rv⟩ := rx.one
        cases rv
        obtain ⟨y, hy, ry⟩ := t.get hx
        have hl := (List.getElem?_eq_some_iff.mp hy).1
        refine ⟨p, ws, (j : Int), j, y, rfl, rfl, hp, by omega, by omega, ?_, hy, k _ _ ⟨_, rfl, t.erase j⟩ ry⟩
        exact (ixN_seq (show ixN ws.length (j : Int) = some j by unfold ixN; rw [if_pos (Int.natCast_nonneg j), if_pos (by omega)]; rfl)).1
      · cases hf
    · cases hf
  · cases hf
/-! x[k] = v, x a list of one's own -/
def xSetIx (i : Nat) (ek ev : Ev) : EvS := fun env => (ev env).st fun v e1 => match e1[i]? with
  | some t0 => if isOwn t0 = true then (ek e1).st fun y e2 => match e2[i]?, y with
    | some t, .int j => match cont t with
      | some (.lst l) => match ixN l.length j with
        | some n => .nx (e2.set i (putSl t (.lst (l.set n v))))
        | none => .no
      | _ => .no
    | _, _ => .no else .no
  | none => .no
theorem RepL.set {G : Hp} {d : D} {v : V} (q : Rep K S G d v) : ∀ {xs : List D} {vs : List V} (n : Nat), RepL K S G xs vs → RepL K S G (xs.set n d) (vs.set n v)
  | [], _, _, r => by cases r; rfl
  | x :: xs, _, 0, ⟨w, ws, e, _, r⟩ => by subst e; exact ⟨v, ws, rfl, q, r⟩
  | x :: xs, _, n + 1, ⟨w, ws, e, q', r⟩ => by subst e; exact ⟨w, _, rfl, q', r.set q n⟩
theorem s_setIx {ix value : Expr} {ek ev : Ev} {pos pos' : Pos} (ho : PE X o (tVar i)) (hi : QE S X E ix ek) (hv : QE S X E value ev) (hc : PG X (.Subscript o ix pos') (gSub (tVar i) (TD X.K S E ek) rSetL)) (hs : swapsWithSole [.Subscript o ix pos'] value pos.line X.env = pure false := by rfl) (hw : swappedStores [.Subscript o ix pos'] value X.env = pure none := by rfl)
    (h1 : (assignEach [.Subscript o ix pos'] X.env).map (·.2) = [assign (.Subscript o ix pos') X.env] := by rfl) : QS S X E (.Assign [.Subscript o ix pos'] value pos) (xSetIx i ek ev) := ps_of (ps_asg hv hc hs hw h1) fun D σ H ⟨B, L, G, env, st, rl, po⟩ => ⟨B, L, G, env, st, rl, Post.st po fun G1 H1 d e1 sm1 st1 rl1 p1 v rv => by
  split at p1
  · rename_i t0 ht0
    split at p1
    · rename_i ho0
      obtain ⟨p, hx⟩ := own_at rl1 ht0 ho0
      exact ⟨.ref p, hx, B, L, G1, e1, st1, rl1, Post.st p1 fun G2 H2 y e2 sm2 st2 rl2 p2 k rk => by
        split at p2
        · rename_i t j ht
          split at p2
          · rename_i l hc
            split at p2
            · rename_i n hn
              obtain ⟨ho, p', o', hx', hp, ws, rfl, t'⟩ := own_cont rl2 ht hc
              rw [hx] at hx'
              cases hx'
              cases rk
              obtain ⟨s1, s2⟩ := own_set (d := .lst (l.set n d)) st2 rl2 ht ho hx ⟨_, rfl, t'.set (rv.mono sm2) n⟩
              exact ⟨p, ws, j, n, rfl, rfl, hp, by rw [← t'.length]; exact hn, p2 σ G2 _ (.refl _) s1 s2⟩
            · exact p2.elim
          · exact p2.elim
        · exact p2.elim⟩
    · exact p1.elim
  · exact p1.elim⟩
end
end
end Dv
namespace Dv
open PySem PySem.Spec PyProof.Rows L2
set_option autoImplicit false
noncomputable section
/-! ### isinstance -/
def tyName : D → Option String
  | .non => some "NoneType"
  | .bl _ => some "bool"
  | .int _ => some "int"
  | .str _ => some "str"
  | .lst _ => some "list"
  | .dct _ => some "dict"
  | _ => none
/-- of built-in types -/
def tyIs (t n : String) : Option Bool := match t, n with
  | "NoneType", "list" => some false
  | "bool", "list" => some false
  | "int", "list" => some false
  | "str", "list" => some false
  | "list", "list" => some true
  | "dict", "list" => some false
  | "NoneType", "int" => some false
  | "bool", "int" => some true
  | "int", "int" => some true
  | "str", "int" => some false
  | "list", "int" => some false
  | "dict", "int" => some false
  | "NoneType", "str" => some false
  | "bool", "str" => some false
  | "int", "str" => some false
  | "str", "str" => some true
  | "list", "str" => some false
  | "dict", "str" => some false
  | "NoneType", "bool" => some false
  | "bool", "bool" => some true
  | "int", "bool" => some false
  | "str", "bool" => some false
  | "list", "bool" => some false
  | "dict", "bool" => some false
  | _, _ => none
theorem tyIs_ok {t n : String} {b : Bool} (h : tyIs t n = some b) : kitB t n = some b := by
  unfold tyIs at h
  split at h <;> first
    | (cases h; decide +kernel)
    | cases h
section
variable {K : PySem.W.Frag} {S : Nat → Addr}
theorem tyX_of {G H : Hp} (i : Inn G H) {x : D} {v : V} {t : String} (r : Rep K S G x v) (h : tyName x = some t) : TyX K H v (.type t) := by
  cases x with
  | non => cases h; cases r; exact .base .non
  | bl _ => cases h; cases r; exact .base (.bl _)
  | int _ => cases h; cases r; exact .base (.int _)
  | str _ => cases h; cases r; exact .base (.str _)
  | lst _ => cases h; obtain ⟨a, vs, rfl, g, _⟩ := r; exact .base (.lst (i.lst g))
  | dct _ =>
    cases h
    obtain ⟨a, vs, rfl, g, _⟩ := r
    rcases i.dct (.inl g) with q | ⟨o, q⟩
    · exact .base (.dK q)
    · exact .fDict q
  | _ => cases h
/-- oo: own class, own class; ob: own class, built-in type; bo: built-in type, own class -/
structure IsOk (K : PySem.W.Frag) (S : Nat → Addr) (oo : Nat → Nat → Option Bool) (ob : Nat → String → Option Bool) (bo : String → Nat → Option Bool) : Prop where
  ti : ∀ C k b, oo C k = some b → (∀ (H : Hp) (a dx : Addr) (fs : List (Str × V)), H a = some (.ins (S C) dx fs) → TyX K H (.ref a) (.ref (S C))) ∧ PySem.W.kitOne K (.ref (S C)) (.ref (S k)) = some b
  tb : ∀ C n b, ob C n = some b → (∀ (H : Hp) (a dx : Addr) (fs : List (Str × V)), H a = some (.ins (S C) dx fs) → TyX K H (.ref a) (.ref (S C))) ∧ PySem.W.kitOne K (.ref (S C)) (.type n) = some b
  bt : ∀ t k b, bo t k = some b → PySem.W.kitOne K (.type t) (.ref (S k)) = some b
def fIs (oo : Nat → Nat → Option Bool) (ob : Nat → String → Option Bool) (bo : String → Nat → Option Bool) : FC := fun xs => match xs with
  | [.ins C _, .st k] => (oo C k).map D.bl
  | [.ins C _, .ty n] => (ob C n).map D.bl
  | [x, .ty n] => match tyName x with
    | some t => (tyIs t n).map D.bl
    | none => none
  | [x, .st k] => match tyName x with
    | some t => (bo t k).map D.bl
    | none => none
  | _ => none
theorem sc_is {oo : Nat → Nat → Option Bool} {ob : Nat → String → Option Bool} {bo : String → Nat → Option Bool} (T : IsOk K S oo ob bo) : SCl K S (fIs oo ob bo) (rIsi K) := fun G H xs d vs Q i r e k => by
  unfold fIs at e
  split at e
  · rename_i C fs m
    obtain ⟨v, w, rfl, rx, ry⟩ := r.two
    cases h : oo C m with
    | none => rw [h] at e; cases e
    | some b =>
      rw [h] at e
      cases e
      cases ry
      obtain ⟨a, dx, ws, rfl, g, _⟩ := rx
      obtain ⟨t1, t2⟩ := T.ti C m b h
      exact ⟨_, _, _, _, b, rfl, .own _, t1 H a dx ws (i.ins g), t2, k G H _ (.refl i) rfl⟩
  · rename_i C fs n
    obtain ⟨v, w, rfl, rx, ry⟩ := r.two
    cases h : ob C n with
    | none => rw [h] at e; cases e
    | some b =>
      rw [h] at e
      cases e
      cases ry
      obtain ⟨a, dx, ws, rfl, g, _⟩ := rx
      obtain ⟨t1, t2⟩ := T.tb C n b h
      exact ⟨_, _, _, _, b, rfl, .ty _, t1 H a dx ws (i.ins g), t2, k G H _ (.refl i) rfl⟩
  · rename_i x n _
    obtain ⟨v, w, rfl, rx, ry⟩ := r.two
    split at e
    · rename_i t ht
      cases h : tyIs t n with
      | none => rw [h] at e; cases e
      | some b =>
        rw [h] at e
        cases e
        cases ry
        exact ⟨_, _, _, _, b, rfl, .ty _, tyX_of i rx ht, L2.kit_ty (tyIs_ok h), k G H _ (.refl i) rfl⟩
    · cases e
  · rename_i x m _
    obtain ⟨v, w, rfl, rx, ry⟩ := r.two
    split at e
    · rename_i t ht
      cases h : bo t m with
      | none => rw [h] at e; cases e
      | some b =>
        rw [h] at e
        cases e
        cases ry
        exact ⟨_, _, _, _, b, rfl, .own _, tyX_of i rx ht, T.bt t m b h, k G H _ (.refl i) rfl⟩
    · cases e
  · cases e
theorem is_none : IsOk K S (fun _ _ => none) (fun _ _ => none) (fun _ _ => none) := ⟨fun _ _ _ e => (by cases e), fun _ _ _ e => (by cases e), fun _ _ _ e => (by cases e)⟩
/-! x, y = a, b -/
def xPar (i j : Nat) (r : EvA) : EvS := fun env => (r env).st fun ds e => match ds with
  | [d1, d2] => match setE e i d1 with
    | some e1 => match setE e1 j d2 with
      | some e2 => .nx e2
      | none => .no
    | none => .no
  | _ => .no
theorem s_par {X : Cx} {E : XK} {i j : Nat} {x y : Str} {a b : Expr} {er : EvA} {px py pt pos : Pos} {kt k2 pt2} (hp : PS X (.Assign [.Tuple [.Name x px, .Name y py] kt pt] (.Tuple [a, b] k2 pt2) pos) (tPar i j (TAe X.K S E er))) :
    QS S X E (.Assign [.Tuple [.Name x px, .Name y py] kt pt] (.Tuple [a, b] k2 pt2) pos) (xPar i j er) := ps_of hp fun D σ H ⟨B, L, G, env, st, rl, po⟩ => ⟨B, L, G, env, st, rl, Post.st po fun G1 H1 ds e1 sm1 st1 rl1 p1 vs rv => by
  split at p1
  · rename_i d1 d2
    obtain ⟨v, w, rfl, rx, ry⟩ := rv.two
    split at p1
    · rename_i e2 h1
      split at p1
      · rename_i e3 h2
        exact ⟨v, w, rfl, p1 _ G1 H1 (.refl _) st1 (rel_set (rel_set rl1 h1 rx) h2 ry)⟩
      · exact p1.elim
    · exact p1.elim
  · exact p1.elim⟩
theorem kit_ty {K : PySem.W.Frag} {C : Addr} {T : String} {r : Bool} (h1 : PySem.W.isClsIn K C = true) (h2 : PySem.W.typeIn K (.ref C) = some (.type "type")) (h3 : PySem.W.subIn K (.type T) (.ref C) = some r) :
    PySem.W.kitOne K (.type T) (.ref C) = some r := by
  have a1 : ((PySem.W.clsIn K C).isSome && PySem.W.typeIn K (.ref C) == some (.type "type")) = true := by
    rw [h2, show (PySem.W.clsIn K C).isSome = true from h1] <;> rfl
  have a2 : PySem.W.kitCls K (.type T) (.ref C) = some r := Eq.trans (if_pos a1) h3
  exact Eq.trans (if_neg (by simp)) a2
theorem kit_typ {K : PySem.W.Frag} {C : Addr} {n : String} {r : Bool} (hn : PySem.W.kitMeta n = true) (h : PySem.W.subIn K (.ref C) (.type n) = some r) : PySem.W.kitOne K (.ref C) (.type n) = some r := by
  have a : PySem.W.kitCls K (.ref C) (.type n) = some r := by
    show (if PySem.W.kitMeta n = true then PySem.W.subIn K (.ref C) (.type n) else none) = some r
    rw [if_pos hn]
    exact h
  exact Eq.trans (if_neg (by simp)) a
/-! l.index(x) -/
theorem q_cons1 {X : Cx} {E : XK} {a : Expr} {ea : Ev} (ha : QE S X E a ea) (hs : starEach [a] X.env = (false, eval a X.env) :: starEach [] X.env := by rfl) : QA S X E [a] (fun env => (ea env).bind fun x e => .ok [x] e) := pa_of (pa_cons ha pa_nil hs) fun σ H Q ⟨B, L, G, env, st, rl, po⟩ => ⟨B, L, G, env, st, rl, po.then fun G1 H1 x e1 sm1 st1 rl1 p1 v rv => p1 G1 H1 (.refl _) st1 rl1 _ (RepL.cons rv rfl)⟩
def idxD (a : PyData) : List PyData → Option Nat
  | [] => none
  | d :: r => if PyData.eqv d a = true then some 0 else (idxD a r).map (· + 1)
theorem idxD_ok {a : PyData} : ∀ {ds : List PyData} {j : Nat}, idxD a ds = some j → ∃ z, ds[j]? = some z ∧ PyData.eqv z a = true ∧ ∀ (m : Nat) (z' : PyData), m < j → ds[m]? = some z' → PyData.eqv z' a = false
  | [], _, e => by cases e
  | d :: r, j, e => by
    have e : (if PyData.eqv d a = true then some 0 else (idxD a r).map (· + 1)) = some j := e
    by_cases h : PyData.eqv d a = true
    · rw [if_pos h] at e; cases e
      exact ⟨d, rfl, h, fun m z' hm => absurd hm (Nat.not_lt_zero _)⟩
    · rw [if_neg h] at e
      cases hr : idxD a r with
      | none => rw [hr] at e; cases e
      | some k =>
        rw [hr] at e
        cases e
        obtain ⟨z, h1, h2, h3⟩ := idxD_ok hr
        refine ⟨z, by simpa using h1, h2, fun m z' hm hz => ?_⟩
        cases m with
        | zero => simp at hz; subst hz; exact Bool.eq_false_iff.mpr h
        | succ m => exact h3 m z' (Nat.lt_of_succ_lt_succ (show m + 1 < k + 1 from hm)) (by simpa using hz)
def xIndex (o a : Ev) : Ev := fun env => (o env).bind fun x e1 => match x with
  | .lst l => (a e1).bind fun y e2 => match datL l, dat y with
    | some ds, some d => if SeqAt.shaped (.list ds) = true ∧ SeqAt.shaped d = true then match idxD d ds with
      | some j => .ok (.int (j : Int)) e2
      | none => .no else .no
    | _, _ => .no
  | _ => .no
theorem q_index {X : Cx} {E : XK} {o e : Expr} {eo ee : Ev} {apos cpos : Pos} (hu : X.A.units + 65 < cLine) (ho : QE S X E o eo) (he : QE S X E e ee)
    (hbase : attributeBase o "index" X.env (eval o X.env) = eval o X.env := by rfl)
    (hfew : ((backTo cpos (starEach [e] X.env)).all (fun x => !x.1) && (backToKw cpos (keywordEach [] X.env)).all (fun x => x.1.isSome)
      && decide ([e].length + ([] : List Keyword).length + (if ([] : List Keyword).isEmpty then 0 else 1) < 30)) = true := by rfl)
    (hline : (apos.endLine == cpos.line) = true := by rfl) (hs : starEach [e] X.env = (false, eval e X.env) :: starEach [] X.env := by rfl) (hplain : (backTo cpos (starEach [] X.env)).any (·.1) = false := by rfl) :
    QE S X E (.Call (.Attribute o "index" apos) [e] [] cpos) (xIndex eo ee) := pe_of (pe_bm PySem.F.plainAttrs_list PySem.F.slot_list_index PySem.F.type_list_index (mt_indexD hu) ho (q_cons1 he hs) hbase hfew hline hs hplain) fun σ H Q ⟨B, L, G, env, st, rl, po⟩ => ⟨B, L, G, env, st, rl, po.then fun G1 H1 x e1 sm1 st1 rl1 p1 v rv => by
  cases x with
  | lst l =>
    obtain ⟨q, vs, rfl, gq, t⟩ := rv
    refine ⟨.inl ⟨rfl, vs, .inl (.inl (st1.inn.lst gq))⟩, B, L, G1, e1, st1, rl1, ?_⟩
    cases hy : ee e1 with
    | no => rw [hy] at p1; exact p1.elim
    | ex C fs e2 => rw [hy] at p1; show Post X.K S E B L σ G1 _ ((ee e1).bind _); rw [hy]; exact p1
    | ok y e2 =>
      rw [hy] at p1
      show Post X.K S E B L σ G1 _ ((ee e1).bind _)
      rw [hy]
      intro G2 H2 sm2 st2 rl2 us rus
      obtain ⟨u, rfl, ru⟩ := rus.one
      dsimp only [Res.bind] at p1
      split at p1
      · rename_i ds d h1 h2
        split at p1
        · rename_i hs
          split at p1
          · rename_i j hj
            obtain ⟨z, k1, k2, k3⟩ := idxD_ok hj
            have hl : Dp X.K H2 (.ref q) (.list ds) := dat_ok st2.inn (d := .lst l) ⟨q, vs, rfl, sm2 _ _ gq, t.mono sm2⟩ (by show (datL l).map PyData.list = _; rw [h1]; rfl)
            exact ⟨q, u, d, ds, j, z, rfl, rfl, hl, dat_ok st2.inn ru h2, hs.1, hs.2, k1, k2, k3, p1 G2 H2 sm2 st2 rl2 _ rfl⟩
          · exact p1.elim
        · exact p1.elim
      · exact p1.elim
  | _ => exact p1.elim⟩
/-! ### tables -/
theorem fo_nil {f : Str} : FldOk K S f [] := fun C h => by cases h
theorem fo_cons {f : Str} {C : Nat} {cs : List Nat} (h : Cls K (S C) ∧ NoAttr K (S C) f) (t : FldOk K S f cs) : FldOk K S f (C :: cs) := fun D hD => by
  rcases List.mem_cons.mp hD with rfl | hD
  · exact h
  · exact t D hD
theorem mt_nil {P : Nat → Nat → Fn → Prop} : MT.All [] P := trivial
theorem mt_cons {P : Nat → Nat → Fn → Prop} {c j : Nat} {g : Fn} {t : MT} (h : P c j g) (r : MT.All t P) : MT.All ((c, j, g) :: t) P := ⟨h, r⟩
end
end
end Dv
namespace Dv
open PySem PySem.Spec PyProof.Rows L2
set_option autoImplicit false
noncomputable section
/-! ### dicts -/
def keyD : D → Option Key
  | .int i => some (.inl i)
  | .str s => some (.inr s)
  | _ => none
def kD : Key → D
  | .inl i => .int i
  | .inr s => .str s
def valD (kvs : List (Key × D)) (k : Key) : Option D := match kvs with
  | [] => none
  | a :: r => if a.1 = k then some a.2 else valD r k
/-- in its place, or at the end -/
def putKD (kvs : List (Key × D)) (k : Key) (v : D) : List (Key × D) :=
  if (kvs.any fun kv => decide (kv.1 = k)) = true then kvs.map (fun kv => if kv.1 = k then (kv.1, v) else kv) else kvs ++ [(k, v)]
def dropKD (kvs : List (Key × D)) (k : Key) : List (Key × D) := kvs.filter fun kv => decide (kv.1 ≠ k)
section
variable {K : PySem.W.Frag} {S : Nat → Addr} {X : Cx} {E : XK} {G H : Hp}
theorem key_rep {y : D} {v : V} {k : Key} (r : Rep K S G y v) (h : keyD y = some k) : v = kV k := by
  cases y with
  | int i => cases h; cases r; rfl
  | str s => cases h; cases r; rfl
  | _ => cases h
theorem kD_rep {k : Key} : Rep K S G (kD k) (kV k) := by cases k <;> rfl
theorem valV_cons' {k k' : Key} {v : V} {r : List (Key × V)} : valV ((k', v) :: r) k = if k' = k then some v else valV r k := by
  by_cases h : k' = k
  · rw [if_pos h]
    simp [valV, h]
  · rw [if_neg h]
    simp [valV, h]
theorem valD_ok {k : Key} : ∀ {kvs : List (Key × D)} {ws : List (Key × V)}, RepK K S G kvs ws → (valD kvs k = none → valV ws k = none) ∧ ∀ d, valD kvs k = some d → ∃ v, valV ws k = some v ∧ Rep K S G d v
  | [], _, r => by cases r; exact ⟨fun _ => rfl, fun d e => by cases e⟩
  | a :: r, _, ⟨v, ws, e, q, t⟩ => by
    subst e
    obtain ⟨h1, h2⟩ := valD_ok (k := k) t
    have e1 : valD (a :: r) k = if a.1 = k then some a.2 else valD r k := rfl
    rw [e1, valV_cons']
    by_cases h : a.1 = k
    · rw [if_pos h, if_pos h]
      exact ⟨fun e => (by cases e), fun d e => (by cases e; exact ⟨v, rfl, q⟩)⟩
    · rw [if_neg h, if_neg h]
      exact ⟨h1, h2⟩
theorem repK_len : ∀ {kvs : List (Key × D)} {ws : List (Key × V)}, RepK K S G kvs ws → kvs.length = ws.length
  | [], _, r => by cases r; rfl
  | a :: r, _, ⟨v, ws, e, q, t⟩ => by subst e; rw [List.length_cons, List.length_cons, repK_len t]
theorem repK_keys : ∀ {kvs : List (Key × D)} {ws : List (Key × V)}, RepK K S G kvs ws → kvs.map (·.1) = ws.map (·.1)
  | [], _, r => by cases r; rfl
  | a :: r, _, ⟨v, ws, e, q, t⟩ => by subst e; rw [List.map_cons, List.map_cons, repK_keys t]
theorem repK_any {k : Key} : ∀ {kvs : List (Key × D)} {ws : List (Key × V)}, RepK K S G kvs ws → (kvs.any fun kv => decide (kv.1 = k)) = (ws.any fun kv => decide (kv.1 = k))
  | [], _, r => by cases r; rfl
  | a :: r, _, ⟨v, ws, e, q, t⟩ => by subst e; rw [List.any_cons, List.any_cons, repK_any t]
theorem repK_map {k : Key} {d : D} {v : V} (rd : Rep K S G d v) : ∀ {kvs : List (Key × D)} {ws : List (Key × V)}, RepK K S G kvs ws → RepK K S G (kvs.map fun kv => if kv.1 = k then (kv.1, d) else kv) (ws.map fun kv => if kv.1 = k then (kv.1, v) else kv)
  | [], _, r => by cases r; rfl
  | a :: r, _, ⟨w, ws, e, q, t⟩ => by
    subst e
    rw [List.map_cons, List.map_cons]
    by_cases h : a.1 = k
    · rw [if_pos h, if_pos h]; exact ⟨v, _, rfl, rd, repK_map rd t⟩
    · rw [if_neg h, if_neg h]; exact ⟨w, _, rfl, q, repK_map rd t⟩
theorem repK_app {k : Key} {d : D} {v : V} (rd : Rep K S G d v) : ∀ {kvs : List (Key × D)} {ws : List (Key × V)}, RepK K S G kvs ws → RepK K S G (kvs ++ [(k, d)]) (ws ++ [(k, v)])
  | [], _, r => by cases r; exact ⟨v, [], rfl, rd, rfl⟩
  | a :: r, _, ⟨w, ws, e, q, t⟩ => by subst e; exact ⟨w, _, rfl, q, repK_app rd t⟩
theorem repK_put {k : Key} {d : D} {v : V} (rd : Rep K S G d v) {kvs : List (Key × D)} {ws : List (Key × V)} (r : RepK K S G kvs ws) : RepK K S G (putKD kvs k d) (putK ws k v) := by
  unfold putKD putK
  rw [repK_any r]
  by_cases h : (ws.any fun kv => decide (kv.1 = k)) = true
  · rw [if_pos h, if_pos h]; exact repK_map rd r
  · rw [if_neg h, if_neg h]; exact repK_app rd r
theorem repK_drop {k : Key} : ∀ {kvs : List (Key × D)} {ws : List (Key × V)}, RepK K S G kvs ws → RepK K S G (dropKD kvs k) (dropK ws k)
  | [], _, r => by cases r; rfl
  | a :: r, _, ⟨w, ws, e, q, t⟩ => by
    subst e
    unfold dropKD dropK
    by_cases h : a.1 = k
    · rw [List.filter_cons_of_neg (by simp [h]), List.filter_cons_of_neg (by simp [h])]; exact repK_drop t
    · rw [List.filter_cons_of_pos (by simp [h]), List.filter_cons_of_pos (by simp [h])]; exact ⟨w, _, rfl, q, repK_drop t⟩
theorem repK_at : ∀ {kvs : List (Key × D)} {ws : List (Key × V)} {i : Nat} {k : Key} {d : D}, RepK K S G kvs ws → kvs[i]? = some (k, d) → ∃ v, ws[i]? = some (k, v) ∧ Rep K S G d v
  | [], _, i, k, d, _, h => by simp at h
  | a :: r, _, 0, k, d, ⟨w, ws, e, q, t⟩, h => by
    subst e
    have h : a = (k, d) := by simpa using h
    subst h
    exact ⟨w, rfl, q⟩
  | a :: r, _, i + 1, k, d, ⟨w, ws, e, q, t⟩, h => by
    subst e
    exact repK_at (i := i) t (by simpa using h)
theorem repK_end {kvs : List (Key × D)} {ws : List (Key × V)} {i : Nat} (r : RepK K S G kvs ws) (h : kvs[i]? = none) : ws.length ≤ i := by
  have := List.getElem?_eq_none_iff.mp h
  rw [← repK_len r]
  exact this
/-! d[k], k in d, d.get(k) -/
def dctD : D → Option (List (Key × D))
  | .dct kvs => some kvs
  | _ => none
theorem dct_rep {y : D} {v : V} {kvs : List (Key × D)} (i : Inn G H) (r : Rep K S G y v) (h : dctD y = some kvs) : ∃ a ws, v = .ref a ∧ G a = some (.dK ws) ∧ Rd H a (.dK ws) ∧ RepK K S G kvs ws := by
  cases y with
  | dct l =>
    cases h
    obtain ⟨a, ws, rfl, g, t⟩ := r
    exact ⟨a, ws, rfl, g, i.dct (.inl g), t⟩
  | _ => cases h
def oDGet : FO := fun d y => (dctD d).bind fun kvs => (keyD y).bind fun k => valD kvs k
def xDGet1 (a b : Ev) : Ev := fun env => (a env).bind fun d e1 => match dctD d with
  | some kvs => (b e1).bind fun y e2 => .of ((keyD y).map fun k => (valD kvs k).getD .non) e2
  | none => .no
def oDIn (neg : Bool) : FO := fun y d => (dctD d).bind fun kvs => (keyD y).bind fun k => some (.bl ((valD kvs k).isSome != neg))
theorem valD_some {k : Key} {kvs : List (Key × D)} {ws : List (Key × V)} (r : RepK K S G kvs ws) : (valV ws k).isSome = (valD kvs k).isSome := by
  obtain ⟨h1, h2⟩ := valD_ok (k := k) r
  cases e : valD kvs k with
  | none => rw [h1 e]; rfl
  | some d => obtain ⟨v, hv, _⟩ := h2 d e; rw [hv]; rfl
theorem valD_getD {k : Key} {kvs : List (Key × D)} {ws : List (Key × V)} (r : RepK K S G kvs ws) : Rep K S G ((valD kvs k).getD .non) ((valV ws k).getD .non) := by
  obtain ⟨h1, h2⟩ := valD_ok (k := k) r
  cases e : valD kvs k with
  | none => rw [h1 e]; rfl
  | some d => obtain ⟨v, hv, q⟩ := h2 d e; rw [hv]; exact q
theorem pc_of {op : CmpOp} {a b : Expr} {t u : TE} (p : PC X op a b t) (h : ∀ σ H Q, u σ H Q → t σ H Q) : PC X op a b u := ⟨fun pins s σ H Q I q => p.run pins s σ H Q I (h σ H Q q)⟩
variable {a b d e i : Expr} {ea eb ed ei : Ev} {pos apos cpos : Pos}
theorem q_dget (hu : X.A.units + 1 < cLine) (ho : QE S X E d ed) (hi : QE S X E i ei) (hs : NoSl i) : QE S X E (.Subscript d i pos) (xOp oDGet ed ei) := pe_of (pe_dget hu ho hi hs) fun σ H Q ⟨B, L, G, env, st, rl, po⟩ => ⟨B, L, G, env, st, rl, po.then fun G1 H1 x e1 sm1 st1 rl1 p1 v rv => ⟨B, L, G1, e1, st1, rl1, p1.then fun G2 H2 y e2 sm2 st2 rl2 p2 w rw => by
  obtain ⟨c, hc, k⟩ := p2.of st2 rl2
  unfold oDGet at hc
  obtain ⟨kvs, h1, hc⟩ := Option.bind_eq_some_iff.mp hc
  obtain ⟨key, h2, hc⟩ := Option.bind_eq_some_iff.mp hc
  obtain ⟨p, ws, rfl, _, rd, t⟩ := dct_rep st2.inn (rv.mono sm2) h1
  obtain ⟨u, hu, ru⟩ := (valD_ok (k := key) t).2 c hc
  rw [key_rep rw h2]
  exact ⟨p, u, rfl, .inl ⟨ws, key, rd, rfl, hu.symm⟩, k G2 H2 (.refl st2.inn) u ru⟩⟩⟩
theorem q_dget1 (hu : X.A.units + 1 < cLine) (ho : QE S X E d ed) (hi : QE S X E i ei) (m : M1 X d "get" apos i cpos) : QE S X E (.Call (.Attribute d "get" apos) [i] [] cpos) (xDGet1 ed ei) := pe_of (pe_dget1 hu ho hi m) fun σ H Q ⟨B, L, G, env, st, rl, po⟩ => ⟨B, L, G, env, st, rl, po.then fun G1 H1 x e1 sm1 st1 rl1 p1 v rv => by
  split at p1
  · rename_i kvs hx
    obtain ⟨p, ws, rfl, gp, rd, t⟩ := dct_rep st1.inn rv hx
    refine ⟨p, rfl, .inl ⟨ws, rd⟩, B, L, G1, e1, st1, rl1, p1.then fun G2 H2 y e2 sm2 st2 rl2 p2 w rw => ?_⟩
    obtain ⟨c, hc, k⟩ := p2.of st2 rl2
    obtain ⟨key, h2, hc⟩ := Option.map_eq_some_iff.mp hc
    subst hc
    rw [key_rep rw h2]
    exact ⟨valV ws key, .inl ⟨ws, key, st2.inn.dct (.inl (sm2 _ _ gp)), rfl, rfl⟩, k G2 H2 (.refl st2.inn) _ (valD_getD (t.mono sm2))⟩
  · exact p1.elim⟩
theorem snd_din {neg : Bool} {σ : L2.St} {H : Hp} {Q : VK} (q : TD K S E (xOp (oDIn neg) ea ed) σ H Q) : (fun σ H Q => TD K S E ea σ H fun y H1 => TD K S E ed σ H1 fun x H2 => ∃ p o, x = .ref p ∧ DGet H2 p y o ∧ Q (.bl (o.isSome != neg)) H2) σ H Q := by
  obtain ⟨B, L, G, env, st, rl, po⟩ := q
  exact ⟨B, L, G, env, st, rl, po.then fun G1 H1 y e1 sm1 st1 rl1 p1 v rv => ⟨B, L, G1, e1, st1, rl1, p1.then fun G2 H2 x e2 sm2 st2 rl2 p2 w rw => by
    obtain ⟨c, hc, k⟩ := p2.of st2 rl2
    unfold oDIn at hc
    obtain ⟨kvs, h1, hc⟩ := Option.bind_eq_some_iff.mp hc
    obtain ⟨key, h2, hc⟩ := Option.bind_eq_some_iff.mp hc
    cases hc
    obtain ⟨p, ws, rfl, _, rd, t⟩ := dct_rep st2.inn rw h1
    rw [key_rep rv h2]
    refine ⟨p, _, rfl, .inl ⟨ws, key, rd, rfl, rfl⟩, ?_⟩
    rw [valD_some t]
    exact k G2 H2 (.refl st2.inn) _ rfl⟩⟩
theorem td_congr {t u : VK} {f : Ev} {σ : L2.St} {H : Hp} (h : ∀ v H, t v H → u v H) (q : TD K S E f σ H t) : TD K S E f σ H u := by
  obtain ⟨B, L, G, env, st, rl, po⟩ := q
  exact ⟨B, L, G, env, st, rl, po.imp fun G' H' a e _ _ _ k v rv => h _ _ (k v rv)⟩
theorem c_din (hu : X.A.units + 1 < cLine) (ha : QE S X E a ea) (hd : QE S X E d ed) : PC X .In a d (TD X.K S E (xOp (oDIn false) ea ed)) := pc_of (pc_din hu ha hd) fun σ H Q q => td_congr (fun y H1 q => td_congr (fun x H2 ⟨p, o, h1, h2, h3⟩ => ⟨p, o, h1, h2, by simpa using h3⟩) q) (snd_din q)
theorem c_dnotin (hu : X.A.units + 1 < cLine) (ha : QE S X E a ea) (hd : QE S X E d ed) : PC X .NotIn a d (TD X.K S E (xOp (oDIn true) ea ed)) := pc_of (pc_dnotin hu ha hd) fun σ H Q q => td_congr (fun y H1 q => td_congr (fun x H2 ⟨p, o, h1, h2, h3⟩ => ⟨p, o, h1, h2, by simpa using h3⟩) q) (snd_din q)
end
end
end Dv
namespace Dv
open PySem PySem.Spec PyProof.Rows L2
set_option autoImplicit false
noncomputable section
/-! ### dicts, second part: new ones, one's own, locks -/
section
variable {K : PySem.W.Frag} {S : Nat → Addr} {X : Cx} {E : XK} {a d e i o value : Expr} {ea ed ee ei ev : Ev} {pos pos' tpos apos cpos : Pos}
theorem q_din (hu : X.A.units + 1 < cLine) (ha : QE S X E a ea) (hd : QE S X E d ed) (h1 : behindInMarks .In d = false := by first | exact nobehind _ (by decide) (by decide) | rfl) : QE S X E (.Compare a [.In] [d] pos) (xOp (oDIn false) ea ed) := pe_cmp (c_din hu ha hd) h1
theorem q_dnotin (hu : X.A.units + 1 < cLine) (ha : QE S X E a ea) (hd : QE S X E d ed) (h1 : behindInMarks .NotIn d = false := by first | exact nobehind _ (by decide) (by decide) | rfl) : QE S X E (.Compare a [.NotIn] [d] pos) (xOp (oDIn true) ea ed) := pe_cmp (c_dnotin hu ha hd) h1
theorem q_dinT (hu : X.A.units + 1 < cLine) (ha : QE S X E a ea) (hd : QE S X E d ed) (h1 : behindInMarks .In d = false := by first | exact nobehind _ (by decide) (by decide) | rfl) : QT S X E (.Compare a [.In] [d] pos) (xTest (xOp (oDIn false) ea ed)) := pt_of (pt_cmp (c_din hu ha hd) h1) fun _ _ _ q => snd_test (fun _ h => h) q
theorem q_dnotinT (hu : X.A.units + 1 < cLine) (ha : QE S X E a ea) (hd : QE S X E d ed) (h1 : behindInMarks .NotIn d = false := by first | exact nobehind _ (by decide) (by decide) | rfl) : QT S X E (.Compare a [.NotIn] [d] pos) (xTest (xOp (oDIn true) ea ed)) := pt_of (pt_cmp (c_dnotin hu ha hd) h1) fun _ _ _ q => snd_test (fun _ h => h) q
/-! {} -/
def xDNew : Ev := fun env => .ok (.dct []) env
theorem qf_dnew : QF S X E (.Dict [] [] pos) xDNew := pe_of pe_dnewK fun σ H Q ⟨B, L, G, env, st, rl, po⟩ => fresh_ok st rl po ⟨[], rfl, rfl⟩
/-! d[k] = v, d one's own -/
def isDct : D → Bool
  | .dct _ => true
  | _ => false
def xDPut (i : Nat) (ek ev : Ev) : EvS := fun env => (ev env).st fun v e1 => match e1[i]? with
  | some t0 => if isOwn t0 = true then (ek e1).st fun y e2 => match e2[i]?, keyD y with
    | some t, some k => match cont t with
      | some (.dct l) => if l.length < 1000000 then .nx (e2.set i (putSl t (.dct (putKD l k v)))) else .no
      | _ => .no
    | _, _ => .no else .no
  | none => .no
theorem s_dput {i : Nat} {ix : Expr} {ek : Ev} (hu : X.A.units + 1 < cLine) (ho : PE X o (tVar i)) (hi : QE S X E ix ek) (hv : QE S X E value ev) (hs : swapsWith value (some (.Subscript o ix pos')) pos.line X.env = pure false) : QS S X E (.Assign [.Subscript o ix pos'] value pos) (xDPut i ek ev) := ps_of (ps_dput hu ho hi hv hs) fun D σ H ⟨B, L, G, env, st, rl, po⟩ => ⟨B, L, G, env, st, rl, Post.st po fun G1 H1 d e1 sm1 st1 rl1 p1 v rv => by
  split at p1
  · rename_i t0 ht0
    split at p1
    · rename_i ho0
      obtain ⟨p, hx⟩ := own_at rl1 ht0 ho0
      exact ⟨.ref p, hx, B, L, G1, e1, st1, rl1, Post.st p1 fun G2 H2 y e2 sm2 st2 rl2 p2 k rk => by
        split at p2
        · rename_i t key ht hk
          split at p2
          · rename_i l hc
            split at p2
            · rename_i hl
              obtain ⟨ho, p', o', hx', hp, ws, rfl, t'⟩ := own_cont rl2 ht hc
              rw [hx] at hx'
              cases hx'
              rw [key_rep rk hk]
              obtain ⟨s1, s2⟩ := own_set (d := .dct (putKD l key d)) (o := .dK (putK ws key v)) st2 rl2 ht ho hx ⟨_, rfl, repK_put (rv.mono sm2) t'⟩
              exact ⟨p, _, rfl, .inl ⟨ws, key, hp, rfl, len9 (by rw [← repK_len t']; exact hl), rfl⟩, p2 σ G2 _ (.refl _) s1 s2⟩
            · exact p2.elim
          · exact p2.elim
        · exact p2.elim⟩
    · exact p1.elim
  · exact p1.elim⟩
/-! list(d) -/
def fListD : FC := fun xs => match xs with
  | [x] => (dctD x).map fun kvs => .lst (kvs.map fun kv => kD kv.1)
  | _ => none
def rListD : List V → Hp → VK → Prop := fun xs H Q => ∃ (a : Addr) (kvs : List (Key × V)), xs = [.ref a] ∧ Rd H a (.dK kvs) ∧ ∀ p, H p = none → Q (.ref p) (upd H p (.lst (kvs.map fun kv => kV kv.1)))
theorem repK_keyL {G : Hp} : ∀ {kvs : List (Key × D)} {ws : List (Key × V)}, RepK K S G kvs ws → RepL K S G (kvs.map fun kv => kD kv.1) (ws.map fun kv => kV kv.1)
  | [], _, r => by cases r; rfl
  | a :: r, _, ⟨v, ws, e, q, t⟩ => by subst e; exact ⟨_, _, rfl, kD_rep, repK_keyL t⟩
theorem sc_listD : SClF K S fListD rListD := fun G H xs d vs Q i r e k => by
  unfold fListD at e
  split at e
  · rename_i x
    obtain ⟨v, rfl, rx⟩ := r.one
    obtain ⟨kvs, h, e⟩ := Option.map_eq_some_iff.mp e
    subst e
    obtain ⟨q, ws, rfl, gq, hq, t⟩ := dct_rep i rx h
    exact ⟨q, ws, rfl, hq, fun p hp => k p _ hp ⟨_, rfl, repK_keyL t⟩⟩
  · cases e
/-! sorted, ints -/
def insI (x : Int) : List Int → List Int
  | [] => [x]
  | y :: r => if x ≤ y then x :: y :: r else y :: insI x r
def sortI : List Int → List Int
  | [] => []
  | x :: r => insI x (sortI r)
theorem insI_perm (x : Int) : ∀ l : List Int, (insI x l).Perm (x :: l)
  | [] => .refl _
  | y :: r => by
    unfold insI
    split
    · exact .refl _
    · exact ((insI_perm x r).cons y).trans (.swap x y r)
theorem sortI_perm : ∀ ns : List Int, (sortI ns).Perm ns
  | [] => .refl _
  | x :: r => (insI_perm x (sortI r)).trans ((sortI_perm r).cons x)
theorem insI_le (x : Int) : ∀ l : List Int, l.Pairwise (· ≤ ·) → (insI x l).Pairwise (· ≤ ·)
  | [], _ => by simp [insI]
  | y :: r, h => by
    unfold insI
    split
    · rename_i hx
      refine List.pairwise_cons.mpr ⟨fun z hz => ?_, h⟩
      rcases List.mem_cons.mp hz with rfl | hz
      · exact hx
      · exact Int.le_trans hx ((List.pairwise_cons.mp h).1 z hz)
    · rename_i hx
      refine List.pairwise_cons.mpr ⟨fun z hz => ?_, insI_le x r (List.pairwise_cons.mp h).2⟩
      rcases List.mem_cons.mp ((insI_perm x r).mem_iff.mp hz) with rfl | hz
      · omega
      · exact (List.pairwise_cons.mp h).1 z hz
theorem sortI_le : ∀ ns : List Int, (sortI ns).Pairwise (· ≤ ·)
  | [] => .nil
  | x :: r => insI_le x _ (sortI_le r)
theorem sortI_eq {ns ms : List Int} (h : ms.Perm ns) (hl : ms.Pairwise (· ≤ ·)) : ms = sortI ns := List.Perm.eq_of_pairwise (le := (· ≤ ·)) (fun a b _ _ h1 h2 => Int.le_antisymm h1 h2) hl (sortI_le ns) (h.trans (sortI_perm ns).symm)
theorem ints_rep {G : Hp} : ∀ (ns : List Int), RepL K S G (ns.map D.int) (ns.map V.int)
  | [] => rfl
  | n :: r => ⟨_, _, rfl, rfl, ints_rep r⟩
def fSorted : FC := fun xs => match xs with
  | [x] => (lstD x).bind fun l => (intL l).map fun ns => .lst ((sortI ns).map D.int)
  | _ => none
theorem sc_sorted : SClF K S fSorted (rSortedI K) := fun G H xs d vs Q i r e k => by
  unfold fSorted at e
  split at e
  · rename_i x
    obtain ⟨v, rfl, rx⟩ := r.one
    obtain ⟨l, h, e⟩ := Option.bind_eq_some_iff.mp e
    obtain ⟨ns, h2, e⟩ := Option.map_eq_some_iff.mp e
    subst e
    obtain ⟨q, us, rfl, hq, t⟩ := lst_sq rx h
    have := intL_ok t h2
    subst this
    exact ⟨q, ns, rfl, i.seq hq, fun ns' p h1 h2 hp => k p _ hp ⟨_, rfl, by rw [sortI_eq h1 h2]; exact ints_rep _⟩⟩
  · cases e
/-! ### locks -/
variable {B : Base} {L : Lk} {G H : Hp} {env : Env} {σ : L2.St}
theorem ste_lk {p : Addr} (st : Ste B L G H) {o : HO} {H1 : Hp} (hn : ∀ b, b ≠ p → H1 b = H b) (h1 : H1 p = some o) {od : Obj} {ws : List (Key × V)} (ho : o = .frz od (.dK ws)) (gp : G p = some (.dK ws)) (hl : ∀ q ∈ L, q.1 = p → q.2 = o) : Ste B ((p, o) :: L) G H1 := by
  refine ⟨st.g0, fun b w e => ?_, st.new, fun b w e r l => ?_, fun q hq => ?_, fun b e => ?_, fun q hq hf => ?_⟩
  · by_cases hb : b = p
    · subst hb
      rw [gp] at e
      cases e
      exact .inr ⟨od, ws, rfl, by rw [h1, ho]⟩
    · rw [hn b hb]; exact st.inn b w e
  · have hb : b ≠ p := fun q => l _ (List.mem_cons_self ..) q.symm
    rw [hn b hb]
    exact st.keep b w e r fun q hq => l q (List.mem_cons_of_mem _ hq)
  · rcases List.mem_cons.mp hq with rfl | hq
    · exact h1
    · by_cases hb : q.1 = p
      · rw [hl q hq hb, hb]; exact h1
      · rw [hn _ hb]; exact st.lock q hq
  · obtain ⟨g1, h2, h3, h4⟩ := st.par b e
    have hb : b ≠ p := fun q => by rw [q, gp] at g1; cases g1
    refine ⟨g1, by rw [hn b hb]; exact h2, h3, fun q hq => ?_⟩
    rcases List.mem_cons.mp hq with rfl | hq
    · exact fun q => hb q.symm
    · exact h4 q hq
  · rcases List.mem_cons.mp hq with rfl | hq
    · exact (hf _ _ ho).elim
    · exact st.out q hq hf
theorem rel_lk {p : Addr} (st : Ste B L G H) (rl : Rel K S B L G H env σ) {o : HO} {L' : Lk} {H1 : Hp} (hn : ∀ b, b ≠ p → H1 b = H b) (hL : ∀ q ∈ L', q.1 = p ∨ q ∈ L) (gp : G p ≠ none) : Rel K S B L' G H1 env σ := by
  have hne : ∀ (j : Nat) (s : Sl) (a : Addr), env[j]? = some s → isOwn s = true → σ[j]? = some (some (V.ref a)) → a ≠ p := fun j s a h1 o1 h3 e => by
    subst e
    exact gp (own_free st rl h1 o1 h3).1
  refine ⟨paired_of (paired_len rl.at_) fun j s x h1 h2 => ?_, rl.nd, fun j s a h1 o1 h3 q hq => ?_⟩
  · obtain ⟨y, hy, q⟩ := rel_at rl h1
    rw [h2] at hy
    cases hy
    cases s with
    | no => trivial
    | val d => exact q
    | box d =>
      obtain ⟨a, w, rfl, g, b, ha, r⟩ := q
      exact ⟨a, w, rfl, g, b, by rw [hn a (hne j _ a h1 rfl h2)]; exact ha, r⟩
    | par d =>
      obtain ⟨a, w, rfl, b, ha, r⟩ := q
      exact ⟨a, w, rfl, b, by rw [hn a (hne j _ a h1 rfl h2)]; exact ha, r⟩
  · rcases hL q hq with e | hq
    · rw [e]; exact fun e => hne j s a h1 o1 h3 e.symm
    · exact rl.nl j s a h1 o1 h3 q hq
/-- what a lock gives: the state under it, and the state behind it -/
structure Lkd (K : PySem.W.Frag) (S : Nat → Addr) (B : Base) (L L1 : Lk) (G H H1 : Hp) (env : Env) (σ : L2.St) (p : Addr) (o : HO) (fin : Hp → Hp) : Prop where
  st : Ste B L1 G H1
  rl : Rel K S B L1 G H1 env σ
  ne : ∀ b u, H b = some u → (∀ kvs, u ≠ .dK kvs) → H1 b = some u
  at_ : ∀ G' H', Ste B L1 G' H' → H' p = some o
  st' : ∀ G' H', Same G G' → Ste B L1 G' H' → Ste B L G' (fin H')
  rl' : ∀ G' H' env σ, Same G G' → Ste B L1 G' H' → Rel K S B L1 G' H' env σ → Rel K S B L G' (fin H') env σ
  fin : ∀ H' b, b ≠ p → fin H' b = H' b
  sub : ∀ q ∈ L, q ∈ L1
  gp : G p ≠ none
theorem lk_ok {p : Addr} (st : Ste B L G H) (rl : Rel K S B L G H env σ) {ws : List (Key × V)} (gp : G p = some (.dK ws)) :
    (H p = some (.dK ws) ∧ ∀ od, ∃ L1, Lkd K S B L L1 G H (upd H p (.frz od (.dK ws))) env σ p (.frz od (.dK ws)) fun H' => upd H' p (.dK ws)) ∨ ∃ od L1, H p = some (.frz od (.dK ws)) ∧ Lkd K S B L L1 G H H env σ p (.frz od (.dK ws)) fun H' => H' := by
  have gn : G p ≠ none := by rw [gp]; exact fun e => nomatch e
  rcases st.inn p _ gp with hp | ⟨od, kvs, e, hp⟩
  · refine .inl ⟨hp, fun od => ⟨(p, .frz od (.dK ws)) :: L, ?_⟩⟩
    have nl : ∀ q ∈ L, q.1 ≠ p := fun q hq hb => by
      have h1 := st.lock q hq
      rw [hb, hp] at h1
      have h2 := st.out q hq fun o u e => by rw [e] at h1; cases h1
      rw [hb, gp] at h2
      cases h2
    have s1 : Ste B ((p, .frz od (.dK ws)) :: L) G (upd H p (.frz od (.dK ws))) := ste_lk (H1 := upd H p (.frz od (.dK ws))) st (fun b hb => upd_ne hb) upd_same rfl gp fun q hq hb => (nl q hq hb).elim
    have back : ∀ G' H', Same G G' → Ste B ((p, .frz od (.dK ws)) :: L) G' H' → Ste B L G' (upd H' p (.dK ws)) := fun G' H' sm s2 => by
      refine ⟨s2.g0, fun b w e => ?_, s2.new, fun b w e r l => ?_, fun q hq => ?_, fun b e => ?_, fun q hq hf => s2.out q (List.mem_cons_of_mem _ hq) hf⟩
      · by_cases hb : b = p
        · subst hb
          rw [sm _ _ gp] at e
          cases e
          exact .inl upd_same
        · rw [upd_ne hb]; exact s2.inn b w e
      · by_cases hb : b = p
        · subst hb
          have := st.keep b w e r l
          rw [hp] at this
          cases this
          exact upd_same
        · rw [upd_ne hb]
          refine s2.keep b w e r fun q hq => ?_
          rcases List.mem_cons.mp hq with rfl | hq
          · exact fun e => hb e.symm
          · exact l q hq
      · rw [upd_ne (nl q hq)]
        exact s2.lock q (List.mem_cons_of_mem _ hq)
      · obtain ⟨h1, h2, h3, h4⟩ := s2.par b e
        have hb : b ≠ p := fun q => by subst q; rw [sm _ _ gp] at h1; cases h1
        exact ⟨h1, by rw [upd_ne hb]; exact h2, h3, fun q hq => h4 q (List.mem_cons_of_mem _ hq)⟩
    refine ⟨s1, rel_lk (o := .dK ws) st rl (fun b hb => upd_ne hb) (fun q hq => (List.mem_cons.mp hq).elim (fun e => .inl (by rw [e])) .inr) gn, fun b u e hk => ?_, fun G' H' s2 => s2.lock _ (List.mem_cons_self ..), back, fun G' H' env σ sm s2 r2 => ?_, fun H' b hb => upd_ne hb, fun q hq => List.mem_cons_of_mem _ hq, gn⟩
    · have hb : b ≠ p := fun q => by subst q; rw [hp] at e; cases e; exact hk _ rfl
      rw [upd_ne hb]; exact e
    · exact rel_lk (o := .dK ws) s2 r2 (fun b hb => upd_ne hb) (fun q hq => .inr (List.mem_cons_of_mem _ hq)) (by rw [sm _ _ gp]; exact fun e => nomatch e)
  · cases e
    refine .inr ⟨od, (p, .frz od (.dK ws)) :: L, hp, ?_⟩
    have hl : ∀ q ∈ L, q.1 = p → q.2 = .frz od (.dK ws) := fun q hq hb => by
      have h1 := st.lock q hq
      rw [hb, hp] at h1
      exact (Option.some.inj h1).symm
    refine ⟨ste_lk st (fun b hb => rfl) hp rfl gp hl, rel_lk (o := .dK ws) st rl (fun b hb => rfl) (fun q hq => (List.mem_cons.mp hq).elim (fun e => .inl (by rw [e])) .inr) gn, fun b u e hk => e, fun G' H' s2 => s2.lock _ (List.mem_cons_self ..), fun G' H' sm s2 => ?_, fun G' H' env σ sm s2 r2 => ?_, fun H' b hb => rfl, fun q hq => List.mem_cons_of_mem _ hq, gn⟩
    · refine ⟨s2.g0, s2.inn, s2.new, fun b w e r l => ?_, fun q hq => s2.lock q (List.mem_cons_of_mem _ hq), fun b e => ?_, fun q hq hf => s2.out q (List.mem_cons_of_mem _ hq) hf⟩
      · by_cases hb : b = p
        · subst hb
          have := st.keep b w e r l
          rw [hp] at this
          cases this
          exact s2.lock _ (List.mem_cons_self ..)
        · refine s2.keep b w e r fun q hq => ?_
          rcases List.mem_cons.mp hq with rfl | hq
          · exact fun e => hb e.symm
          · exact l q hq
      · obtain ⟨h1, h2, h3, h4⟩ := s2.par b e
        exact ⟨h1, h2, h3, fun q hq => h4 q (List.mem_cons_of_mem _ hq)⟩
    · exact ⟨r2.at_, r2.nd, fun j s a h1 o1 h3 q hq => r2.nl j s a h1 o1 h3 q (List.mem_cons_of_mem _ hq)⟩
/-! paths: slots and their fields -/
abbrev Pth := Env → Option (D × Env)
def PthOk (K : PySem.W.Frag) (S : Nat → Addr) (p : Pth) (td : TE) : Prop := ∀ (B : Base) (L : Lk) (G H : Hp) (env env' : Env) (σ : L2.St) (d : D), Ste B L G H → Rel K S B L G H env σ → p env = some (d, env') →
  ∃ G' v, Same G G' ∧ Ste B L G' H ∧ Rel K S B L G' H env' σ ∧ Rep K S G' d v ∧ ∀ (H' : Hp) (R : VK), (∀ b u, H b = some u → (∀ kvs, u ≠ .dK kvs) → H' b = some u) → R v H' → td σ H' R
def pSlot (i : Nat) : Pth := fun env => match env[i]? with
  | some (.val d) => some (d, env)
  | some (.box d) => some (d, env.set i (.val d))
  | _ => none
def pFld (cs : List Nat) (f : Str) (p : Pth) : Pth := fun env => match p env with
  | some (.ins C fs, e) => if C ∈ cs then (fs.lookup f).map fun d => (d, e) else none
  | _ => none
theorem p_slot {i : Nat} : PthOk K S (pSlot i) (tVar i) := fun B L G H env env' σ d st rl h => by
  unfold pSlot at h
  split at h
  · rename_i d' h'
    cases h
    obtain ⟨x, hx, v, rfl, r⟩ := rel_at rl h'
    exact ⟨G, v, .refl _, st, rl, r, fun H' R _ q => ⟨v, hx, q⟩⟩
  · rename_i d' h'
    cases h
    obtain ⟨v, G', hx, s1, s2, s3, s4⟩ := thaw st rl h'
    exact ⟨G', v, s1, s2, s3, s4, fun H' R _ q => ⟨v, hx, q⟩⟩
  · cases h
theorem p_fld {cs : List Nat} {f : Str} {p : Pth} {td : TE} (hc : FldOk K S f cs) (hp : PthOk K S p td) : PthOk K S (pFld cs f p) (tFld K td f) := fun B L G H env env' σ d st rl h => by
  unfold pFld at h
  split at h
  · rename_i C fs e he
    split at h
    · rename_i hC
      obtain ⟨d', h1, h2⟩ := Option.map_eq_some_iff.mp h
      cases h2
      obtain ⟨G', v, s1, s2, s3, ⟨a, dx, ws, rfl, ga, rf⟩, s5⟩ := hp B L G H env _ σ _ st rl he
      obtain ⟨u, hu, ru⟩ := (lookF rf).2 d h1
      have ha := s2.inn.ins ga
      exact ⟨G', u, s1, s2, s3, ru, fun H' R hn q => s5 H' _ hn ⟨a, S C, dx, ws, u, rfl, hn a _ ha (fun kvs e => nomatch e), (hc C hC).1, (hc C hC).2, hu, q⟩⟩
    · cases h
  · cases h
/-! what is walked in a locked dict -/
inductive Wk where
  | keys | vals | items
def Wk.ds (w : Wk) (kvs : List (Key × D)) : List D := match w with
  | .keys => kvs.map fun kv => kD kv.1
  | .vals => kvs.map fun kv => kv.2
  | .items => kvs.map fun kv => .tup [kD kv.1, kv.2]
def Wk.it (w : Wk) (p : Addr) (od : Obj) (ws : List (Key × V)) : It := match w with
  | .keys => Itk p od ws
  | .vals => Itd p od ws
  | .items => Iti p od ws
def Wk.ti (w : Wk) (td : TE) : TI := fun σ H R => td σ H fun x H1 => ∃ d o kvs, x = .ref d ∧ H1 d = some (.frz o (.dK kvs)) ∧ R (w.it d o kvs) H1
theorem wk_ok {w : Wk} {L1 : Lk} {p : Addr} {od : Obj} {ws : List (Key × V)} {kvs : List (Key × D)} (r : RepK K S G kvs ws) (hl : ∀ G' H', Ste B L1 G' H' → H' p = some (.frz od (.dK ws))) : ItOk K S B L1 G (w.it p od ws) (w.ds kvs) := fun i G1 H1 sm st => by
  have hp := hl _ _ st
  have hlen : (w.ds kvs).length = ws.length := by cases w <;> simp [Wk.ds, repK_len r]
  refine ⟨fun h => ?_, fun d h => ?_⟩
  · have := List.getElem?_eq_none_iff.mp h
    cases w <;> exact ⟨hp, by omega⟩
  · have hi : i < ws.length := by
      have := (List.getElem?_eq_some_iff.mp h).1
      omega
    have hk : i < kvs.length := by rw [repK_len r]; exact hi
    have hg : kvs[i]? = some kvs[i] := by simp [hk]
    obtain ⟨v, hv, rv⟩ := repK_at (k := kvs[i].1) (d := kvs[i].2) r hg
    cases w with
    | keys =>
      refine ⟨⟨hp, hi⟩, fun x H2 ⟨e1, k, u, e2, e3⟩ => ?_⟩
      have : (kvs.map fun kv => kD kv.1)[i]? = some d := h
      rw [List.getElem?_map, hg] at this
      cases this
      rw [hv] at e2
      cases e2
      subst e1
      subst e3
      exact ⟨G1, .refl st.inn, kD_rep⟩
    | vals =>
      refine ⟨⟨hp, hi⟩, fun x H2 ⟨e1, k, e2⟩ => ?_⟩
      have : (kvs.map fun kv => kv.2)[i]? = some d := h
      rw [List.getElem?_map, hg] at this
      cases this
      rw [hv] at e2
      cases e2
      subst e1
      exact ⟨G1, .refl st.inn, rv.mono sm⟩
    | items =>
      refine ⟨⟨hp, hi⟩, fun x H2 ⟨T, k, u, e2, e3, hT, e4⟩ => ?_⟩
      have : (kvs.map fun kv => D.tup [kD kv.1, kv.2])[i]? = some d := h
      rw [List.getElem?_map, hg] at this
      cases this
      rw [hv] at e2
      cases e2
      subst e3
      subst e4
      have ex := Ex.new1 (o := .tup [kV kvs[i].1, v]) st.inn hT
      exact ⟨_, ex, T, _, rfl, .inl (.inl upd_same), .cons kD_rep (.cons ((rv.mono sm).mono ex.g) .nil)⟩
end
end
end Dv
namespace Dv
open PySem PySem.Spec PyProof.Rows L2
set_option autoImplicit false
noncomputable section
/-! ### walks over dicts, comprehensions of dicts -/
def noEx : Sr → Sr
  | .ex _ _ _ => .no
  | r => r
def noR {α : Type} : Res α → Res α
  | .ex _ _ _ => .no
  | r => r
def xForD (p : Pth) (w : Wk) (eg : Eg) (b : EvS) : EvS := fun env => match p env with
  | some (d, e) => match dctD d with
    | some kvs => noEx (forL eg b (w.ds kvs) e)
    | none => .no
  | none => .no
def xLcD (p : Pth) (w : Wk) (eg : Eg) (et : EvT) (ee : Ev) (vs : List Nat) : Ev := fun env => match p env with
  | some (d, e) => match dctD d with
    | some kvs => noR ((cmpL eg et ee vs (w.ds kvs) [] e).bind fun acc e' => .ok (.lst acc) (wipeE e' vs))
    | none => .no
  | none => .no
section
variable {K : PySem.W.Frag} {S : Nat → Addr} {X : Cx} {E : XK} {B : Base} {L L1 : Lk} {G H H1 : Hp} {env : Env} {σ : L2.St} {p : Addr} {o : HO} {fin : Hp → Hp}
theorem s_lk {st : Stmt} {t : TS} (h : PS X st t) : PS X st fun D σ H => t D σ H ∨ tLock t D σ H := ⟨fun pins s σ H D I q => q.elim (h.run pins s σ H D I) ((ps_lock h).run pins s σ H D I)⟩
theorem e_lk {e : Expr} {t : TE} (h : PE X e t) : PE X e fun σ H Q => t σ H Q ∨ tLockE t σ H Q := ⟨fun pins s σ H Q I q => q.elim (h.run pins s σ H Q I) ((pe_lock h).run pins s σ H Q I)⟩
/-- wi walks, as w says, the dict that td tells -/
def WkR (w : Wk) (td : TE) (wi : TI) : Prop := ∃ F : (It → Hp → Prop) → VK, (∀ σ H R, td σ H (F R) → wi σ H R) ∧ ∀ R a o kvs H1, H1 a = some (.frz o (.dK kvs)) → R (w.it a o kvs) H1 → F R (.ref a) H1
theorem wk_keys {td : TE} : WkR .keys td (iKeys td) := ⟨_, fun _ _ _ q => q, fun R a o kvs H1 h q => ⟨a, o, rfl, .inl ⟨kvs, h, q⟩⟩⟩
theorem wk_keysM {td : TE} : WkR .keys td (iKeysM td) := ⟨_, fun _ _ _ q => q, fun R a o kvs H1 h q => ⟨a, o, kvs, rfl, h, q⟩⟩
theorem wk_vals {td : TE} : WkR .vals td (iVals td) := ⟨_, fun _ _ _ q => q, fun R a o kvs H1 h q => ⟨a, o, kvs, rfl, h, q⟩⟩
theorem wk_items {td : TE} : WkR .items td (iItems td) := ⟨_, fun _ _ _ q => q, fun R a o kvs H1 h q => ⟨a, o, kvs, rfl, h, q⟩⟩
structure LkE (D D1 : Ends) (p : Addr) (o : HO) (fin : Hp → Hp) : Prop where
  nx : ∀ σ' H', H' p = some o → D.nx σ' (fin H') → D1.nx σ' H'
  rt : ∀ v H', H' p = some o → D.rt v (fin H') → D1.rt v H'
  bk : ∀ σ' H', H' p = some o → D.bk σ' (fin H') → D1.bk σ' H'
  ct : ∀ σ' H', H' p = some o → D.ct σ' (fin H') → D1.ct σ' H'
theorem PostS.lk {D D1 : Ends} {r : Sr} (lk : Lkd K S B L L1 G H H1 env σ p o fin) (hD : LkE D D1 p o fin) (h : PostS K S E B L G D (noEx r)) : PostS K S E B L1 G D1 r := by
  cases r with
  | no => exact h
  | nx e => exact fun σ' G' H' s st rl => hD.nx _ _ (lk.at_ _ _ st) (h σ' G' _ s (lk.st' _ _ s st) (lk.rl' _ _ _ _ s st rl))
  | rt d e => exact fun σ' G' H' s st rl v rv => hD.rt _ _ (lk.at_ _ _ st) (h σ' G' _ s (lk.st' _ _ s st) (lk.rl' _ _ _ _ s st rl) v rv)
  | rf d e => exact fun σ' G' H' s st rl a o ga ba ha r => hD.rt _ _ (lk.at_ _ _ st) (h σ' G' _ s (lk.st' _ _ s st) (lk.rl' _ _ _ _ s st rl) a o ga ba (by
      rw [lk.fin H' a (fun e => by
        subst e
        cases q : G a with
        | none => exact lk.gp q
        | some u => rw [s _ _ q] at ga; cases ga)]
      exact ha) r)
  | bk e => exact fun σ' G' H' s st rl => hD.bk _ _ (lk.at_ _ _ st) (h σ' G' _ s (lk.st' _ _ s st) (lk.rl' _ _ _ _ s st rl))
  | ct e => exact fun σ' G' H' s st rl => hD.ct _ _ (lk.at_ _ _ st) (h σ' G' _ s (lk.st' _ _ s st) (lk.rl' _ _ _ _ s st rl))
  | ex C fs e => exact h.elim
theorem s_forD {st : Stmt} {w : Wk} {pt : Pth} {td : TE} {wi : TI} {g : TG} {gs : List Nat} {eg : Eg} {eb : EvS} (hw : WkR w td wi) (hs : PS X st (tFor wi g (TS' X.K S E eb))) (hp : PthOk X.K S pt td) (sg : SndG X.K S gs eg g) : QS S X E st (xForD pt w eg eb) := ps_of (s_lk hs) fun D σ H ⟨B, L, G, env, st, rl, po⟩ => by
  obtain ⟨F, w1, w2⟩ := hw
  unfold xForD at po
  split at po
  · rename_i d e he
    split at po
    · rename_i kvs hd
      obtain ⟨G', v, sm, st', rl', rv, hr⟩ := hp B L G H env e σ d st rl he
      obtain ⟨a, ws, rfl, ga, _, t⟩ := dct_rep st'.inn rv hd
      have po' := po.up sm
      rcases lk_ok st' rl' ga with ⟨hpk, k⟩ | ⟨od, L1, hpk, lk⟩
      · refine .inr ⟨a, .dK ws, hpk, trivial, fun od => ?_⟩
        obtain ⟨L1, lk⟩ := k od
        exact w1 _ _ _ (hr _ _ lk.ne (w2 _ a od ws _ (lk.at_ _ _ lk.st) (for_core sg lk.st lk.rl (wk_ok t lk.at_) (PostS.lk lk ⟨fun _ _ h q => ⟨h, q⟩, fun _ _ h q => ⟨h, q⟩, fun _ _ h q => ⟨h, q⟩, fun _ _ h q => ⟨h, q⟩⟩ po'))))
      · exact .inl (w1 _ _ _ (hr _ _ lk.ne (w2 _ a od ws _ (lk.at_ _ _ lk.st) (for_core sg lk.st lk.rl (wk_ok t lk.at_) (PostS.lk lk ⟨fun _ _ h q => q, fun _ _ h q => q, fun _ _ h q => q, fun _ _ h q => q⟩ po')))))
    · exact po.elim
  · exact po.elim
theorem Post.lk {α : Type} {r : Res α} {P P1 : Hp → Hp → α → Env → Prop} (lk : Lkd K S B L L1 G H H1 env σ p o fin) (h : Post K S E B L σ G P (noR r)) (f : ∀ G' H' a e, Same G G' → Ste B L1 G' H' → P G' (fin H') a e → P1 G' H' a e) : Post K S E B L1 σ G P1 r := by
  cases r with
  | no => exact h
  | ex C fs e => exact h.elim
  | ok a e => exact fun G' H' s st rl => f _ _ _ _ s st (h G' _ s (lk.st' _ _ s st) (lk.rl' _ _ _ _ s st rl))
theorem plc_lk {Q Q1 : VK} {G' H' : Hp} {d : D} {e : Env} (lk : Lkd K S B L L1 G H H1 env σ p o fin) (hQ : ∀ v H', H' p = some o → Q v (fin H') → Q1 v H') (s : Same G G') (st : Ste B L1 G' H') (h : PLc K S B L σ Q G' (fin H') d e) : PLc K S B L1 σ Q1 G' H' d e := fun a u ga ba ha ho hl r => hQ _ _ (lk.at_ _ _ st) (h a u ga ba (by
  rw [lk.fin H' a (fun e => by
    subst e
    cases q : G a with
    | none => exact lk.gp q
    | some u => rw [s _ _ q] at ga; cases ga)]
  exact ha) ho (fun q hq => hl q (lk.sub q hq)) r)
/-- a comprehension over a locked dict -/
theorem lcD {w : Wk} {pt : Pth} {td : TE} {wi : TI} {g : TG} {gs vs : List Nat} {eg : Eg} {et : EvT} {ee : Ev} {tt : TT} {Q : VK} (hw : WkR w td wi) (hp : PthOk K S pt td) (sg : SndG K S gs eg g) (hv : ∀ i ∈ gs, i ∈ vs) (htt : ∀ σ H Q, TB K S E0 et σ H Q → tt σ H Q) (q : TF K S E (xLcD pt w eg et ee vs) σ H Q) :
    tLc wi g tt (TD K S E0 ee) vs σ H Q ∨ ∃ a u, H a = some u ∧ Mut (some u) ∧ ∀ od, tLc wi g tt (TD K S E0 ee) vs σ (upd H a (.frz od u)) fun v H' => H' a = some (.frz od u) ∧ Q v (upd H' a u) := by
  obtain ⟨F, w1, w2⟩ := hw
  obtain ⟨B, L, G, env, st, rl, po⟩ := q
  unfold xLcD at po
  split at po
  · rename_i d e he
    split at po
    · rename_i kvs hd
      obtain ⟨G', v, sm, st', rl', rv, hr⟩ := hp B L G H env e σ d st rl he
      obtain ⟨a, ws, rfl, ga, _, t⟩ := dct_rep st'.inn rv hd
      have po' := po.up sm
      rcases lk_ok st' rl' ga with ⟨hpk, k⟩ | ⟨od, L1, hpk, lk⟩
      · refine .inr ⟨a, .dK ws, hpk, trivial, fun od => ?_⟩
        obtain ⟨L1, lk⟩ := k od
        exact w1 _ _ _ (hr _ _ lk.ne (w2 _ a od ws _ (lk.at_ _ _ lk.st) (lc_core sg hv htt lk.st lk.rl (wk_ok t lk.at_) (Post.lk lk po' fun G' H' a' e s st h => plc_lk (Q1 := fun v H' => H' a = some (.frz od (.dK ws)) ∧ Q v (upd H' a (.dK ws))) lk (fun _ _ h q => ⟨h, q⟩) s st h))))
      · exact .inl (w1 _ _ _ (hr _ _ lk.ne (w2 _ a od ws _ (lk.at_ _ _ lk.st) (lc_core sg hv htt lk.st lk.rl (wk_ok t lk.at_) (Post.lk lk po' fun G' H' a' e s st h => plc_lk lk (fun _ _ h q => q) s st h)))))
    · exact po.elim
  · exact po.elim
variable {iter tg elt kx vx : Expr} {ee ek ev : Ev} {eg : Eg} {g : TG} {gs vs : List Nat} {et : EvT} {pos : Pos} {ei : EvI}
theorem qf_lcD {ifs : List Expr} {scope : Scope} {own : List (Str × Nat)} {tt : TT} {w : Wk} {pt : Pth} {td : TE} {wi : TI} (hc : X.calm = true) (hN : X.N.Nodup) (hi : PI X tg iter wi) (hw : WkR w td wi) (hp : PthOk X.K S pt td) (ok : BlkOk X.N X.env.scope scope own) (hvs : own.map (·.2) = vs)
    (hg : ∀ (s : Shared) (H : Hp) (C : Addr) (cl : List (Str × Addr)) (fp : List Addr), PG (X.blk s H scope (compEnvC scope cl C X.env) fp) tg g) (sg : SndG X.K S gs eg g) (hv : ∀ i ∈ gs, i ∈ vs)
    (ht : ∀ (s : Shared) (H : Hp) (C : Addr) (cl : List (Str × Addr)) (fp : List Addr), PTs (X.blk s H scope (compEnvC scope cl C X.env) fp) ifs tt) (htt : ∀ σ H Q, TB X.K S E0 et σ H Q → tt σ H Q)
    (he : ∀ (s : Shared) (H : Hp) (C : Addr) (cl : List (Str × Addr)) (fp : List Addr), QE S (X.blk s H scope (compEnvC scope cl C X.env) fp) E0 elt ee) (hs : ∀ x, foldedSetIterable iter X.env x = pure x := by intro _; rfl) :
    QF S X E (.ListComp elt [⟨tg, iter, ifs, 0⟩] scope pos) (xLcD pt w eg et ee vs) := by
  subst hvs
  exact pe_of (e_lk (pe_lc hc hN hi ok hg ht he hs)) fun _ _ _ q => lcD hw hp sg hv htt q
theorem s_setLcD {ifs : List Expr} {scope : Scope} {own : List (Str × Nat)} {tt : TT} {w : Wk} {pt : Pth} {td : TE} {wi : TI} {i : Nat} {y : Str} {py spos : Pos} (hc : X.calm = true) (hN : X.N.Nodup) (hy : X.N[i]? = some y) (hyl : X.env.scope.names.lookup y = some .local)
    (hsw : swapsWith (.ListComp elt [⟨tg, iter, ifs, 0⟩] scope pos) (some (.Name y py)) spos.line X.env = pure true) (hi : PI X tg iter wi) (hw : WkR w td wi) (hp : PthOk X.K S pt td) (ok : BlkOk X.N X.env.scope scope own) (hvs : own.map (·.2) = vs)
    (hg : ∀ (s : Shared) (H : Hp) (C : Addr) (cl : List (Str × Addr)) (fp : List Addr), PG (X.blk s H scope (compEnvC scope cl C X.env) fp) tg g) (sg : SndG X.K S gs eg g) (hv : ∀ i ∈ gs, i ∈ vs)
    (ht : ∀ (s : Shared) (H : Hp) (C : Addr) (cl : List (Str × Addr)) (fp : List Addr), PTs (X.blk s H scope (compEnvC scope cl C X.env) fp) ifs tt) (htt : ∀ σ H Q, TB X.K S E0 et σ H Q → tt σ H Q)
    (he : ∀ (s : Shared) (H : Hp) (C : Addr) (cl : List (Str × Addr)) (fp : List Addr), QE S (X.blk s H scope (compEnvC scope cl C X.env) fp) E0 elt ee) (hs : ∀ x, foldedSetIterable iter X.env x = pure x := by intro _; rfl) :
    QS S X E (.Assign [.Name y py] (.ListComp elt [⟨tg, iter, ifs, 0⟩] scope pos) spos) (xBox i (xLcD pt w eg et ee vs)) := by
  subst hvs
  refine ps_of (s_lk (ps_setLc (te := TD X.K S E0 ee) hc hN hy hyl hsw hi ok hg ht he hs)) fun D σ H q => ?_
  obtain ⟨B, L, G, env, st, rl, po⟩ := q
  refine lcD (Q := fun v H' => D.nx (σ.set i (some v)) H') hw hp sg hv htt ⟨B, L, G, env, st, rl, Post.st po fun G' H' d e s st' rl' p a o h1 h2 h3 h4 h5 h6 => ?_⟩
  split at p
  · exact p.elim
  · exact p _ G' H' (.refl _) st' (rel_box rl' h1 h2 h3 h4 h5 h6)
  · exact p.elim
/-! comprehensions of dicts -/
def dcmpL (eg : Eg) (et : EvT) (ek ev : Ev) (vs : List Nat) : List D → List (Key × D) → Env → Res (List (Key × D))
  | [], acc, env => .ok acc env
  | x :: xs, acc, env => match eg x (wipeE env vs) with
    | none => .no
    | some e1 => match et e1 with
      | .ok true e2 => match ek e2 with
        | .ok y e3 => match ev e3 with
          | .ok z e4 => match keyD y with
            | some k => if acc.length < 1000000 then dcmpL eg et ek ev vs xs (putKD acc k z) e4 else .no
            | none => .no
          | _ => .no
        | _ => .no
      | .ok false e2 => dcmpL eg et ek ev vs xs acc e2
      | _ => .no
theorem dc_core' {tt : TT} {Q : VK} {G1 : Hp} {e1 : Env} {J : It} {ds : List D} (sg : SndG K S gs eg g) (hv : ∀ i ∈ gs, i ∈ vs) (htt : ∀ σ H Q, TB K S E0 et σ H Q → tt σ H Q) (st1 : Ste B L G1 H1) (rl1 : Rel K S B L G1 H1 e1 σ) (hJ : ItOk K S B L G1 J ds)
    (p1 : Post K S E B L σ G1 (PLc K S B L σ Q) ((dcmpL eg et ek ev vs ds [] e1).bind fun acc e' => .ok (.dct acc) (wipeE e' vs))) :
    ∀ P, H1 P = none → ∃ W : Nat → Nat → Hp → Prop, (∃ m, W 0 m (upd H1 P (.dK []))) ∧ ∀ i m H, W i m H →
      (J.stop i H ∧ Q (.ref P) H) ∨ (J.go i H ∧ ∃ Nx : Hp → Prop, (∀ H', Nx H' → ∃ m', m' < m ∧ W (i + 1) m' H') ∧ ∀ x H', J.yld i H x H' → g x (wipe σ vs) H' fun σ2 H2 => wipe σ2 vs = wipe σ vs ∧ tt σ2 H2 fun b H3 =>
        if b = true then TD K S E0 ek σ2 H3 fun y H4 => TD K S E0 ev σ2 H4 fun z H5 => ∃ kvs k, y = kV k ∧ H5 P = some (.dK kvs) ∧ kvs.length < sizeLine ∧ Nx (upd H5 P (.dK (putK kvs k z))) else Nx H3) := by
  intro P hP
  have hbP := st1.free hP
  have hlP := st1.nolock hP
  refine ⟨fun i m H' => ∃ G' env' acc ws, Same G1 G' ∧ Ste B ((P, .dK ws) :: L) G' H' ∧ Rel K S B ((P, .dK ws) :: L) G' H' (wipeE env' vs) (wipe σ vs) ∧ RepK K S G' acc ws ∧ m = (ds.drop i).length ∧
    Post K S E B L σ G' (PLc K S B L σ Q) ((dcmpL eg et ek ev vs (ds.drop i) acc env').bind fun acc e' => .ok (.dct acc) (wipeE e' vs)),
    ⟨_, G1, e1, [], [], .refl _, ste_pin st1 hP, ?_, rfl, rfl, p1⟩, ?_⟩
  · exact rel_off (rel_wipes (rel_pin rl1 st1.inn hP)) wipe_wipe (wipe_length _ _)
  rintro i m H' ⟨G', env', acc, ws, sm, st', rl', ra, rfl, po'⟩
  have stU := ste_unpin st' hbP
  obtain ⟨t1, t2⟩ := hJ i G' H' sm stU
  have hlen : acc.length = ws.length := repK_len ra
  cases hd : ds[i]? with
  | none =>
    have e : ds.drop i = [] := List.drop_eq_nil_iff.mpr (List.getElem?_eq_none_iff.mp hd)
    rw [e] at po'
    have rlE : Rel K S B L G' H' (wipeE env' vs) σ := rel_off (rel_unpin rl') wipe_wipe.symm (wipe_length _ _).symm
    refine .inl ⟨t1 hd, po' G' H' (.refl _) stU rlE P (.dK ws) (st'.out _ (List.mem_cons_self ..) (fun _ _ h => by cases h)) hbP (st'.lock _ (List.mem_cons_self ..)) (fun j s h1 o1 h3 => ?_) hlP ⟨ws, rfl, ra⟩⟩
    have hj : j ∉ vs := fun hj => by
      rw [wipeE_at, if_pos hj] at h1
      split at h1 <;> cases h1
      cases o1
    refine rl'.nl j s P h1 o1 ?_ (P, .dK ws) (List.mem_cons_self ..) rfl
    rw [wipe_at, if_neg hj]
    exact h3
  | some d =>
    obtain ⟨g1, g2⟩ := t2 d hd
    have e := drop_at hd
    rw [e] at po'
    refine .inr ⟨g1, fun H2 => ∃ G2 env2 acc2 ws2, Same G1 G2 ∧ Ste B ((P, .dK ws2) :: L) G2 H2 ∧ Rel K S B ((P, .dK ws2) :: L) G2 H2 (wipeE env2 vs) (wipe σ vs) ∧ RepK K S G2 acc2 ws2 ∧
      Post K S E B L σ G2 (PLc K S B L σ Q) ((dcmpL eg et ek ev vs (ds.drop (i + 1)) acc2 env2).bind fun acc e' => .ok (.dct acc) (wipeE e' vs)),
      fun H2 ⟨G2, env2, acc2, ws2, a1, a2, a3, a4, a5⟩ => ⟨(ds.drop (i + 1)).length, by rw [e, List.length_cons]; omega, G2, env2, acc2, ws2, a1, a2, a3, a4, rfl, a5⟩, fun x H2 hy => ?_⟩
    obtain ⟨G2, ex, rx⟩ := g2 x H2 hy
    have st2 := st'.ex ex
    have rl2 := rl'.ex ex
    have cm : dcmpL eg et ek ev vs (d :: ds.drop (i + 1)) acc env' = match eg d (wipeE env' vs) with
      | none => .no
      | some e1 => match et e1 with
        | .ok true e2 => match ek e2 with
          | .ok y e3 => match ev e3 with
            | .ok z e4 => match keyD y with
              | some k => if acc.length < 1000000 then dcmpL eg et ek ev vs (ds.drop (i + 1)) (putKD acc k z) e4 else .no
              | none => .no
            | _ => .no
          | _ => .no
        | .ok false e2 => dcmpL eg et ek ev vs (ds.drop (i + 1)) acc e2
        | _ => .no := rfl
    rw [cm] at po'
    cases hg : eg d (wipeE env' vs) with
    | none => rw [hg] at po'; exact po'.elim
    | some e3 =>
      rw [hg] at po'
      dsimp only at po'
      refine sg B _ G2 H2 (wipeE env' vs) e3 (wipe σ vs) d x _ st2 rl2 rx hg fun σ3 rl3 w3 => ⟨(w3 vs hv).trans wipe_wipe, ?_⟩
      have hσ : wipe σ3 vs = wipe σ vs := (w3 vs hv).trans wipe_wipe
      have lσ : σ3.length = σ.length := by
        have := congrArg List.length hσ
        rw [wipe_length, wipe_length] at this
        exact this
      refine htt _ _ _ ⟨B, _, G2, e3, st2, rl3, ?_⟩
      cases ht : et e3 with
      | no => rw [ht] at po'; exact po'.elim
      | ex C fs e4 => rw [ht] at po'; exact po'.elim
      | ok b e4 =>
        rw [ht] at po'
        intro G4 H4 sm4 st4 rl4 c hc
        cases hc
        cases b with
        | false =>
          rw [if_neg (by decide)]
          exact ⟨G4, e4, acc, ws, (sm.trans ex.g).trans sm4, st4, rel_off (rel_wipes rl4) (by rw [wipe_wipe]; exact hσ.symm) (by rw [wipe_length, lσ]), (ra.mono ex.g).mono sm4, po'.up (ex.g.trans sm4)⟩
        | true =>
          rw [if_pos rfl]
          dsimp only at po'
          refine ⟨B, _, G4, e4, st4, rl4, ?_⟩
          cases he : ek e4 with
          | no => rw [he] at po'; exact po'.elim
          | ex C fs e5 => rw [he] at po'; exact po'.elim
          | ok y e5 =>
            rw [he] at po'
            dsimp only at po'
            intro G5 H5 sm5 st5 rl5 v rv
            refine ⟨B, _, G5, e5, st5, rl5, ?_⟩
            cases he2 : ev e5 with
            | no => rw [he2] at po'; exact po'.elim
            | ex C fs e6 => rw [he2] at po'; exact po'.elim
            | ok z e6 =>
              rw [he2] at po'
              dsimp only at po'
              intro G6 H6 sm6 st6 rl6 u ru
              cases hk : keyD y with
              | none => rw [hk] at po'; exact po'.elim
              | some k =>
                rw [hk] at po'
                dsimp only at po'
                by_cases hz : acc.length < 1000000
                · rw [if_pos hz] at po'
                  refine ⟨ws, k, key_rep rv hk, st6.lock _ (List.mem_cons_self ..), len9 (by rw [← hlen]; exact hz), G6, e6, putKD acc k z, putK ws k u, (((sm.trans ex.g).trans sm4).trans sm5).trans sm6, ste_repin st6 hbP hlP (fun _ _ h => by cases h), ?_, repK_put ru ((((ra.mono ex.g).mono sm4).mono sm5).mono sm6), po'.up (((ex.g.trans sm4).trans sm5).trans sm6)⟩
                  exact rel_off (rel_wipes (rel_repin rl6)) (by rw [wipe_wipe]; exact hσ.symm) (by rw [wipe_length, lσ])
                · rw [if_neg hz] at po'
                  exact po'.elim
def xDc (ei : EvI) (eg : Eg) (et : EvT) (ek ev : Ev) (vs : List Nat) : Ev := fun env => (ei env).bind fun ds e => (dcmpL eg et ek ev vs ds [] e).bind fun acc e' => .ok (.dct acc) (wipeE e' vs)
def xDcD (p : Pth) (w : Wk) (eg : Eg) (et : EvT) (ek ev : Ev) (vs : List Nat) : Ev := fun env => match p env with
  | some (d, e) => match dctD d with
    | some kvs => noR ((dcmpL eg et ek ev vs (w.ds kvs) [] e).bind fun acc e' => .ok (.dct acc) (wipeE e' vs))
    | none => .no
  | none => .no
theorem dcD {w : Wk} {pt : Pth} {td : TE} {wi : TI} {tt : TT} {Q : VK} (hw : WkR w td wi) (hp : PthOk K S pt td) (sg : SndG K S gs eg g) (hv : ∀ i ∈ gs, i ∈ vs) (htt : ∀ σ H Q, TB K S E0 et σ H Q → tt σ H Q) (q : TF K S E (xDcD pt w eg et ek ev vs) σ H Q) :
    tDc wi g tt (TD K S E0 ek) (TD K S E0 ev) vs σ H Q ∨ ∃ a u, H a = some u ∧ Mut (some u) ∧ ∀ od, tDc wi g tt (TD K S E0 ek) (TD K S E0 ev) vs σ (upd H a (.frz od u)) fun v H' => H' a = some (.frz od u) ∧ Q v (upd H' a u) := by
  obtain ⟨F, w1, w2⟩ := hw
  obtain ⟨B, L, G, env, st, rl, po⟩ := q
  unfold xDcD at po
  split at po
  · rename_i d e he
    split at po
    · rename_i kvs hd
      obtain ⟨G', v, sm, st', rl', rv, hr⟩ := hp B L G H env e σ d st rl he
      obtain ⟨a, ws, rfl, ga, _, t⟩ := dct_rep st'.inn rv hd
      have po' := po.up sm
      rcases lk_ok st' rl' ga with ⟨hpk, k⟩ | ⟨od, L1, hpk, lk⟩
      · refine .inr ⟨a, .dK ws, hpk, trivial, fun od => ?_⟩
        obtain ⟨L1, lk⟩ := k od
        exact w1 _ _ _ (hr _ _ lk.ne (w2 _ a od ws _ (lk.at_ _ _ lk.st) (dc_core' sg hv htt lk.st lk.rl (wk_ok t lk.at_) (Post.lk lk po' fun G' H' a' e s st h => plc_lk (Q1 := fun v H' => H' a = some (.frz od (.dK ws)) ∧ Q v (upd H' a (.dK ws))) lk (fun _ _ h q => ⟨h, q⟩) s st h))))
      · exact .inl (w1 _ _ _ (hr _ _ lk.ne (w2 _ a od ws _ (lk.at_ _ _ lk.st) (dc_core' sg hv htt lk.st lk.rl (wk_ok t lk.at_) (Post.lk lk po' fun G' H' a' e s st h => plc_lk lk (fun _ _ h q => q) s st h)))))
    · exact po.elim
  · exact po.elim
theorem qf_dcD {ifs : List Expr} {scope : Scope} {own : List (Str × Nat)} {tt : TT} {w : Wk} {pt : Pth} {td : TE} {wi : TI} (hc : X.calm = true) (hN : X.N.Nodup) (hi : PI X tg iter wi) (hw : WkR w td wi) (hp : PthOk X.K S pt td) (ok : BlkOk X.N X.env.scope scope own) (hvs : own.map (·.2) = vs)
    (hg : ∀ (s : Shared) (H : Hp) (C : Addr) (cl : List (Str × Addr)) (fp : List Addr), PG (X.blk s H scope (compEnvC scope cl C X.env) fp) tg g) (sg : SndG X.K S gs eg g) (hv : ∀ i ∈ gs, i ∈ vs)
    (ht : ∀ (s : Shared) (H : Hp) (C : Addr) (cl : List (Str × Addr)) (fp : List Addr), PTs (X.blk s H scope (compEnvC scope cl C X.env) fp) ifs tt) (htt : ∀ σ H Q, TB X.K S E0 et σ H Q → tt σ H Q)
    (hk : ∀ (s : Shared) (H : Hp) (C : Addr) (cl : List (Str × Addr)) (fp : List Addr), QE S (X.blk s H scope (compEnvC scope cl C X.env) fp) E0 kx ek) (he : ∀ (s : Shared) (H : Hp) (C : Addr) (cl : List (Str × Addr)) (fp : List Addr), QE S (X.blk s H scope (compEnvC scope cl C X.env) fp) E0 vx ev) (hs : ∀ x, foldedSetIterable iter X.env x = pure x := by intro _; rfl) :
    QF S X E (.DictComp kx vx [⟨tg, iter, ifs, 0⟩] scope pos) (xDcD pt w eg et ek ev vs) := by
  subst hvs
  exact pe_of (e_lk (pe_dc hc hN hi ok hg ht hk he hs)) fun _ _ _ q => dcD hw hp sg hv htt q
theorem qf_dc {ifs : List Expr} {scope : Scope} {own : List (Str × Nat)} {tt : TT} (hc : X.calm = true) (hN : X.N.Nodup) (hi : QI S X E tg iter ei) (ok : BlkOk X.N X.env.scope scope own) (hvs : own.map (·.2) = vs)
    (hg : ∀ (s : Shared) (H : Hp) (C : Addr) (cl : List (Str × Addr)) (fp : List Addr), PG (X.blk s H scope (compEnvC scope cl C X.env) fp) tg g) (sg : SndG X.K S gs eg g) (hv : ∀ i ∈ gs, i ∈ vs)
    (ht : ∀ (s : Shared) (H : Hp) (C : Addr) (cl : List (Str × Addr)) (fp : List Addr), PTs (X.blk s H scope (compEnvC scope cl C X.env) fp) ifs tt) (htt : ∀ σ H Q, TB X.K S E0 et σ H Q → tt σ H Q)
    (hk : ∀ (s : Shared) (H : Hp) (C : Addr) (cl : List (Str × Addr)) (fp : List Addr), QE S (X.blk s H scope (compEnvC scope cl C X.env) fp) E0 kx ek) (he : ∀ (s : Shared) (H : Hp) (C : Addr) (cl : List (Str × Addr)) (fp : List Addr), QE S (X.blk s H scope (compEnvC scope cl C X.env) fp) E0 vx ev) (hs : ∀ x, foldedSetIterable iter X.env x = pure x := by intro _; rfl) :
    QF S X E (.DictComp kx vx [⟨tg, iter, ifs, 0⟩] scope pos) (xDc ei eg et ek ev vs) := by
  subst hvs
  exact pe_of (pe_dc hc hN hi ok hg ht hk he hs) fun σ H Q ⟨B, L, G, env, st, rl, po⟩ => ⟨B, L, G, env, st, rl, po.then fun G1 H1 ds e1 sm1 st1 rl1 p1 J hJ => dc_core' sg hv htt st1 rl1 hJ p1⟩
end
end
end Dv
namespace Dv
open PySem PySem.Spec PyProof.Rows L2
set_option autoImplicit false
noncomputable section
/-! ### texts: f-strings, join -/
def xFmt (a : Ev) : Ev := fun env => (a env).bind fun x e => match x with
  | .str s => if s.length ≤ 1000000 then .ok (.str s) e else .no
  | .int i => if i.natAbs.log2 < 1920 then .ok (.str (toString i)) e else .no
  | _ => .no
abbrev EvJ := Str → Env → Res Str
def jNil : EvJ := fun acc env => .ok acc env
def jCons (a : Ev) (r : EvJ) : EvJ := fun acc env => (a env).bind fun x e => match x with
  | .str y => if (acc ++ y).length ≤ 1000000 then r (acc ++ y) e else .no
  | _ => .no
def xJoined (f : EvJ) : Ev := fun env => (f Str.empty env).bind fun s e => .ok (.str s) e
def strL : List D → Option (List Str)
  | [] => some []
  | .str s :: r => (strL r).map (s :: ·)
  | _ => none
def xJoin (a l : Ev) : Ev := fun env => (a env).bind fun x e1 => match x with
  | .str s => (l e1).bind fun y e2 => match seqD y with
    | some ds => match strL ds with
      | some ys => if (ys.map (·.length)).sum + ys.length * s.length ≤ 1000000 then .ok (.str (Txt.join s ys)) e2 else .no
      | none => .no
    | none => .no
  | _ => .no
section
variable {K : PySem.W.Frag} {S : Nat → Addr} {X : Cx} {E : XK} {a e l : Expr} {es : List Expr} {ea ee el : Ev} {f : EvJ} {pos apos : Pos}
theorem line10' {n : Nat} (h : n ≤ 1000000) : n ≤ sizeLine := by
  have : sizeLine = 16777216 := sizeLine_eq
  omega
theorem q_fmt (h : QE S X E e ee) : QE S X E (.FormattedValue e (-1) none pos) (xFmt ee) := pe_of (pe_fmt h) fun σ H Q ⟨B, L, G, env, st, rl, po⟩ => ⟨B, L, G, env, st, rl, po.then fun G1 H1 x e1 sm1 st1 rl1 p1 v rv => by
  split at p1
  · rename_i s
    split at p1
    · rename_i hs
      exact .inl ⟨s, rv, line10' hs, p1 G1 H1 (.refl _) st1 rl1 _ rfl⟩
    · exact p1.elim
  · rename_i i
    split at p1
    · rename_i hs
      exact .inr ⟨i, rv, hs, p1 G1 H1 (.refl _) st1 rl1 _ rfl⟩
    · exact p1.elim
  · exact p1.elim⟩
def QJ (S : Nat → Addr) (X : Cx) (E : XK) (es : List Expr) (f : EvJ) : Prop := ∃ ts, PJ X es ts ∧ ∀ (acc : Str) (σ : L2.St) (H : Hp) (Q : Str → Hp → Prop), Tx X.K S E (fun _ _ b c => b = c) (f acc) σ H Q → tJs ts acc σ H Q
theorem j_nil : QJ S X E [] jNil := ⟨[], .nil, fun acc σ H Q ⟨B, L, G, env, st, rl, po⟩ => po G H (.refl _) st rl acc rfl⟩
theorem j_cons (h : QE S X E e ee) (hr : QJ S X E es f) : QJ S X E (e :: es) (jCons ee f) := by
  obtain ⟨ts, p, k⟩ := hr
  refine ⟨_, .cons h p, fun acc σ H Q ⟨B, L, G, env, st, rl, po⟩ => ⟨B, L, G, env, st, rl, po.then fun G1 H1 x e1 sm1 st1 rl1 p1 v rv => ?_⟩⟩
  split at p1
  · rename_i y
    split at p1
    · rename_i hs
      exact ⟨y, rv, line10' hs, k _ _ _ _ ⟨B, L, G1, e1, st1, rl1, p1⟩⟩
    · exact p1.elim
  · exact p1.elim
theorem q_joined {v1 v2 : Expr} {rest : List Expr} (h : QJ S X E (v1 :: v2 :: rest) f) : QE S X E (.JoinedStr (v1 :: v2 :: rest) pos) (xJoined f) := by
  obtain ⟨ts, p, k⟩ := h
  exact pe_of (pe_joined p) fun σ H Q ⟨B, L, G, env, st, rl, po⟩ => k _ _ _ _ ⟨B, L, G, env, st, rl, po.then fun G1 H1 x e1 sm1 st1 rl1 p1 v rv => by
    subst rv
    exact p1 G1 H1 (.refl _) st1 rl1 _ rfl⟩
theorem q_joined1 (h : QE S X E e ee) : QE S X E (.JoinedStr [e] pos) ee := pe_joined1 h
theorem strL_ok {G : Hp} : ∀ {ds : List D} {vs : List V} {ys : List Str}, RepL K S G ds vs → strL ds = some ys → vs = ys.map V.str
  | [], _, ys, t, e => by cases t; cases e; rfl
  | x :: r, _, ys, ⟨v, ws, e1, q, t⟩, e => by
    subst e1
    cases x with
    | str s =>
      obtain ⟨zs, h1, h2⟩ := Option.map_eq_some_iff.mp (show (strL r).map (s :: ·) = some ys from e)
      subst h2
      cases q
      rw [strL_ok t h1]
      rfl
    | _ => cases e
theorem q_join (ho : QE S X E a ea) (hl : QE S X E l el) (hs : starEach [l] X.env = [(false, eval l X.env)] := by rfl) (hbase : attributeBase a "join" X.env (eval a X.env) = eval a X.env := by rfl) (hline : (apos.endLine == pos.line) = true := by rfl) : QE S X E (.Call (.Attribute a "join" apos) [l] [] pos) (xJoin ea el) := pe_of (pe_join ho hl hs hbase hline) fun σ H Q ⟨B, L, G, env, st, rl, po⟩ => ⟨B, L, G, env, st, rl, po.then fun G1 H1 x e1 sm1 st1 rl1 p1 v rv => by
  split at p1
  · rename_i s
    refine ⟨⟨s, rv⟩, B, L, G1, e1, st1, rl1, p1.then fun G2 H2 y e2 sm2 st2 rl2 p2 w rw' => ?_⟩
    split at p2
    · rename_i ds hd
      split at p2
      · rename_i ys hy
        split at p2
        · rename_i hz
          obtain ⟨q, vs, rfl, hq, t⟩ := seq_sq rw' hd
          have := strL_ok t hy
          subst this
          exact ⟨s, q, ys, rv, rfl, hq.elim (fun h => .inl (st2.inn.seq h)) (fun h => .inr (st2.inn.tup h)), by omega, p2 G2 H2 (.refl _) st2 rl2 _ rfl⟩
        · exact p2.elim
      · exact p2.elim
    · exact p2.elim
  · exact p1.elim⟩
end
end
end Dv
namespace Rn
open PySem PySem.Spec PyProof.Rows L2
set_option autoImplicit false
noncomputable section
/-! ### the head: facts of a fragment, as Bools -/
def eqF (o : Option (Option Value)) (s : String) : Bool := match o with
  | some (some (.builtin t)) => decide (t = s)
  | _ => false
def eqR (o : Option (Option Value)) (a : Nat) : Bool := match o with
  | some (some (.ref b)) => Nat.beq b a
  | _ => false
def eqN (o : Option (Option Value)) : Bool := match o with
  | some none => true
  | _ => false
def eqB (o : Option Bool) (b : Bool) : Bool := match o, b with
  | some true, true => true
  | some false, false => true
  | _, _ => false
def eqC1 (o : Option PySem.W.CFound) (a : Nat) : Bool := match o with
  | some (.val (.ref b)) => Nat.beq b a
  | _ => false
def eqT (o : Option Value) (s : String) : Bool := match o with
  | some (.type t) => decide (t = s)
  | _ => false
theorem eqF_ok {o : Option (Option Value)} {s : String} (h : eqF o s = true) : o = some (some (.builtin s)) := by
  unfold eqF at h
  split at h
  · rw [of_decide_eq_true h]
  · cases h
theorem eqR_ok {o : Option (Option Value)} {a : Nat} (h : eqR o a = true) : o = some (some (.ref a)) := by
  unfold eqR at h
  split at h
  · rw [Nat.eq_of_beq_eq_true h]
  · cases h
theorem eqN_ok {o : Option (Option Value)} (h : eqN o = true) : o = some none := by
  unfold eqN at h
  split at h
  · rfl
  · cases h
theorem eqB_ok {o : Option Bool} {b : Bool} (h : eqB o b = true) : o = some b := by
  unfold eqB at h
  split at h
  · rfl
  · rfl
  · cases h
theorem eqC1_ok {o : Option PySem.W.CFound} {a : Nat} (h : eqC1 o a = true) : o = some (.val (.ref a)) := by
  unfold eqC1 at h
  split at h
  · rw [Nat.eq_of_beq_eq_true h]
  · cases h
theorem eqT_ok {o : Option Value} {s : String} (h : eqT o s = true) : o = some (.type s) := by
  unfold eqT at h
  split at h
  · rw [of_decide_eq_true h]
  · cases h
def strAt (o : Option (Option Value)) (z : PySem.Str) : Bool := match o with
  | some (some (.str y _)) => decide (y = z)
  | _ => false
def intAt (o : Option (Option Value)) (i : Int) : Bool := match o with
  | some (some (.int j _)) => decide (j = i)
  | _ => false
theorem strAt_ok {o : Option (Option Value)} {z : PySem.Str} (h : strAt o z = true) : ∃ t, o = some (some (.str z t)) := by
  unfold strAt at h
  split at h
  · rw [of_decide_eq_true h]
    exact ⟨_, rfl⟩
  · cases h
theorem intAt_ok {o : Option (Option Value)} {i : Int} (h : intAt o i = true) : ∃ t, o = some (some (.int i t)) := by
  unfold intAt at h
  split at h
  · rw [of_decide_eq_true h]
    exact ⟨_, rfl⟩
  · cases h
def fdOf (K : PySem.W.Frag) (f : Addr) : FuncData := match K.lookup f with
  | some ⟨_, _, .func fd, _⟩ => fd
  | _ => default
abbrev FnX : Type := Option (PySem.Str × PySem.Str × Arguments × FuncBody × Scope × Addr × List (PySem.Str × Addr) × Addr)
def fnX (K : PySem.W.Frag) (f : Addr) : FnX := match K.lookup f with
  | some ⟨_, _, .func fd, _⟩ => some (fd.name, fd.qualname, fd.params, fd.body, fd.scope, fd.globals, fd.closure, fd.builtins)
  | _ => none
def fnV (x qual : PySem.Str) (st : Stmt) : FnX := some (x, qual, defArgs st, .stmts (defBody st), defScope st, mainGlobals, [], builtinsNs)
def fnB (K : PySem.W.Frag) (f : Addr) (qual : PySem.Str) : Bool := match K.lookup f with
  | some ⟨_, _, .func fd, _⟩ => PySem.W.codeIn K fd.code qual && (match fd.defaults with
    | .none => true
    | _ => false)
  | _ => false
theorem fun_of {K : PySem.W.Frag} {f : Addr} {x qual : PySem.Str} {st : Stmt} (h1 : fnX K f = fnV x qual st) (h2 : fnB K f qual = true) (h3 : PySem.W.keepIn K (.ref f) = true) : Fun K x qual st f (fdOf K f) := by
  unfold fnX at h1
  unfold fnB at h2
  unfold fdOf
  split at h1
  · rename_i oc od fd sl hl
    rw [hl] at h2
    obtain ⟨a1, a2, a3, a4, a5, a6, a7, a8, a9, b1, b2, b3, b4, b5, b6⟩ := fd
    unfold fnV at h1
    simp only [Option.some.injEq, Prod.mk.injEq] at h1
    obtain ⟨rfl, rfl, rfl, rfl, rfl, rfl, rfl, rfl⟩ := h1
    rw [Bool.and_eq_true] at h2
    obtain ⟨h4, h5⟩ := h2
    dsimp only at h4 h5
    cases a8 with
    | none => exact ⟨⟨oc, od, _, _, _, _, _, _, _, rfl, hl, h4⟩, h3⟩
    | _ => cases h5
  · cases h1
def valB (v : V) (u : Value) : Bool := match v, u with
  | .str z, .str y _ => decide (y = z)
  | .int i, .int j _ => decide (j = i)
  | .ref a, .ref b => Nat.beq a b
  | .non, .none => true
  | .bl true, .bool true => true
  | .bl false, .bool false => true
  | _, _ => false
theorem valB_ok {v : V} {u : Value} (h : valB v u = true) : RelV v u := by
  unfold valB at h
  split at h
  · rw [of_decide_eq_true h]; exact ⟨_, rfl⟩
  · rw [of_decide_eq_true h]; exact ⟨_, rfl⟩
  · rw [Nat.eq_of_beq_eq_true h]; rfl
  · rfl
  · rfl
  · rfl
  · cases h
def valsB : List V → List Value → Bool
  | [], [] => true
  | v :: vs, u :: us => valB v u && valsB vs us
  | _, _ => false
theorem valsB_ok : ∀ {vs : List V} {us : List Value}, valsB vs us = true → Vals vs us
  | [], [], _ => .nil
  | v :: vs, u :: us, h => by
    unfold valsB at h
    rw [Bool.and_eq_true] at h
    exact .cons (valB_ok h.1) (valsB_ok h.2)
  | [], _ :: _, h => by cases h
  | _ :: _, [], h => by cases h
def tupB (K : PySem.W.Frag) (a : Addr) (vs : List V) : Bool := match K.lookup a with
  | some ⟨.type t, _, .seq its _, _⟩ => decide (t = "tuple") && valsB vs its.toList
  | _ => false
theorem tupB_ok {K : PySem.W.Frag} {a : Addr} {vs : List V} (h : tupB K a vs = true) (hl : vs.length ≤ 1000) : ∀ H, SqT K H a vs := fun H => by
  unfold tupB at h
  split at h
  · rename_i hk
    rw [Bool.and_eq_true] at h
    have v := valsB_ok h.2
    refine .inr ⟨_, _, _, hk, ?_, rfl, ?_, v⟩
    · rw [of_decide_eq_true h.1]
    · have e := Paired.length v
      simp only [Array.length_toList] at e
      have : sizeLine = 16777216 := sizeLine_eq
      omega
  · cases h
def fnBD (K : PySem.W.Frag) (f : Addr) (qual : PySem.Str) (dvs : List V) : Bool := match K.lookup f with
  | some ⟨_, _, .func fd, _⟩ => PySem.W.codeIn K fd.code qual && (match fd.defaults with
    | .ref t => (match K.lookup t with
      | some ⟨_, _, .seq its _, _⟩ => valsB dvs its.toList
      | _ => false)
    | _ => false) && (match fd.kwdefaults with
    | .none => true
    | _ => false)
  | _ => false
theorem funD_of {K : PySem.W.Frag} {f : Addr} {x qual : PySem.Str} {st : Stmt} {dvs : List V} (h0 : dvs ≠ []) (h1 : fnX K f = fnV x qual st) (h2 : fnBD K f qual dvs = true) (h3 : PySem.W.keepIn K (.ref f) = true) : FunD K x qual (defArgs st) (defBody st) (defScope st) dvs [] f (fdOf K f) := by
  unfold fnX at h1
  unfold fnBD at h2
  unfold fdOf
  split at h1
  · rename_i oc od fd sl hl
    rw [hl] at h2
    obtain ⟨a1, a2, a3, a4, a5, a6, a7, a8, a9, b1, b2, b3, b4, b5, b6⟩ := fd
    unfold fnV at h1
    simp only [Option.some.injEq, Prod.mk.injEq] at h1
    obtain ⟨rfl, rfl, rfl, rfl, rfl, rfl, rfl, rfl⟩ := h1
    rw [Bool.and_eq_true, Bool.and_eq_true] at h2
    obtain ⟨⟨h4, h5⟩, h6⟩ := h2
    dsimp only at h4 h5 h6
    cases a9 with
    | none =>
      cases a8 with
      | ref t =>
        dsimp only at h5
        split at h5
        · rename_i hk
          exact ⟨⟨oc, od, _, _, _, _, _, _, _, _, rfl, hl, h4, .inr ⟨h0, _, _, _, _, rfl, hk, rfl, by simpa using valsB_ok h5⟩, .inl rfl⟩, h3⟩
        · cases h5
      | _ => cases h5
    | _ => cases h6
  · cases h1
def fkB (K : PySem.W.Frag) (f : Addr) (qual : PySem.Str) : Bool := match K.lookup f with
  | some ⟨.type t, _, .func fd, _⟩ => decide (t = "function") && (PySem.W.codeIn K fd.code qual && (match fd.defaults with
    | .none => true
    | _ => false))
  | _ => false
theorem fk_ok {K : PySem.W.Frag} {f : Addr} {qual : PySem.Str} (h : fkB K f qual = true) : fnB K f qual = true ∧ PySem.W.keepIn K (.ref f) = true ∧ PySem.W.isFn K (.ref f) = true := by
  unfold fkB at h
  split at h
  · rename_i hl
    rw [Bool.and_eq_true] at h
    have e := of_decide_eq_true h.1
    subst e
    refine ⟨?_, ?_, ?_⟩
    · unfold fnB
      rw [hl]
      exact h.2
    · unfold PySem.W.keepIn
      simp only [hl]
    · unfold PySem.W.isFn PySem.W.typeIn
      simp only [hl]
      rfl
  · cases h
def oexB (K : PySem.W.Frag) (C : Addr) : Bool := match K.lookup C with
  | some ⟨.type t, _, .cls cd, sl⟩ => decide (t = "type") && (match cd.mro with
    | .ref C' :: bm => Nat.beq C' C && HandSPX.refsVE bm
    | _ => false) && (cd.hasDict && !cd.hasDel) && (match sl.toList with
    | [_, _, _, _, some (.builtin n), _] => decide (n = "ValueError.__new__")
    | _ => false)
  | _ => false
theorem oexB_ok {K : PySem.W.Frag} {C : Addr} (h : oexB K C = true) : ∃ nm q N bs bm sn sub ab col dd k0 k1 k2 k3 k5, K.lookup C = some (excClassObj nm q C N bs bm true sn sub ab col dd k0 k1 k2 k3 k5 "ValueError.__new__") ∧ HandSPX.refsVE bm = true := by
  unfold oexB at h
  split at h
  · rename_i t dd cd sl hk
    obtain ⟨c1, c2, c3, c4, c5, c6, c7, c8, c9, d1, d2⟩ := cd
    rw [Bool.and_eq_true, Bool.and_eq_true, Bool.and_eq_true] at h
    obtain ⟨⟨⟨h1, h2⟩, h3⟩, h4⟩ := h
    have h1 := of_decide_eq_true h1
    subst h1
    dsimp only at h2 h3 h4
    rw [Bool.and_eq_true] at h3
    obtain ⟨h5, h6⟩ := h3
    cases h5
    cases d2 with
    | true => cases h6
    | false =>
      split at h2
      · rename_i C' bm
        rw [Bool.and_eq_true] at h2
        have e := Nat.eq_of_beq_eq_true h2.1
        subst e
        split at h4
        · rename_i k0 k1 k2 k3 n k5 hs
          have e := of_decide_eq_true h4
          subst e
          have e2 : sl = #[k0, k1, k2, k3, some (.builtin "ValueError.__new__"), k5] := Array.toList_inj.mp hs
          subst e2
          exact ⟨_, _, _, _, bm, _, _, _, _, _, _, _, _, _, _, hk, h2.2⟩
        · cases h4
      · cases h2
  · cases h
/-! lists of Bools -/
def allB (l : List Bool) : Bool := List.rec (motive := fun _ => Bool) true (fun b _ go => match b with
  | true => go
  | false => false) l
theorem allB_at : ∀ {l : List Bool}, allB l = true → ∀ (i : Nat) {b : Bool}, l[i]? = some b → b = true
  | [], _, i, b, e => by simp at e
  | true :: r, h, 0, b, e => by simp at e; exact e
  | true :: r, h, i + 1, b, e => allB_at (l := r) h i (by simpa using e)
  | false :: r, h, i, b, e => by cases h
/-! the hook -/
structure HdD where
  as : List Addr
  ex : PySem.W.Frag → Bool
  fs : List Addr
  fv : List FnX
  ds : List Addr
  dk : List (List PySem.Str)
abbrev AlH : Type := Bool × List FnX × List (Option (List (Option (PySem.Str × Int))))
def frH (g : Addr → Option Obj) (as : List Addr) : PySem.W.Frag := He.frG g as
def obsH (D : HdD) (g : Addr → Option Obj) : AlH := (D.ex (He.frG g D.as), D.fs.map (fnX (He.frG g D.as)), D.ds.map (He.dicW (He.frG g D.as)))
def valH (D : HdD) (w : World) : AlH := (true, D.fv, D.dk.map fun ks => some (He.keysIn w.params ks))
structure SaysH (D : HdD) (w : World) (K : PySem.W.Frag) : Prop where
  ex : D.ex K = true
  fn : D.fs.map (fnX K) = D.fv
  dc : D.ds.map (He.dicW K) = D.dk.map fun ks => some (He.keysIn w.params ks)
def hookH (D : HdD) : PySem.W.Hook where
  α := AlH
  obs := fun s => obsH D s.heap.get?
  val := valH D
  says := fun w h => ∃ K, K.In h ∧ SaysH D w K
  of := fun w s e => by
    unfold obsH valH at e
    rw [Prod.mk.injEq, Prod.mk.injEq] at e
    exact ⟨He.frG s.heap.get? D.as, He.frG_in, e.1, e.2.1, e.2.2⟩
  keeps := fun w h h' ⟨K, k, s⟩ m => ⟨K, fun a o e => m a o (k a o e), s⟩
def obH (D : HdD) (s : PySem.W.SharedT) : AlH := obsH D (HandSHeadRun.getT s)
theorem obH_eq (D : HdD) (s : PySem.W.SharedT) : obH D s = (hookH D).obs s.abs := by
  show obsH D (HandSHeadRun.getT s) = obsH D s.abs.heap.get?
  rw [show HandSHeadRun.getT s = s.abs.heap.get? from funext (HandSHeadRun.getT_eq s)]
theorem joinH {r : PySem.W.OpenRow} {q : Program} {D : HdD} {M : Nat} {loose : List PySem.Str} {w : World} {os : OsState} (o : Option PySem.W.SharedT) (ho : HandSHeadRun.endF (HandSHeadRun.stepQ (HandSHeadRun.denQ HandSHeadRun.tabQ) r.prog w) M r.prog w os = o)
    (h1 : o.map (fun s => HandSHeadRun.looksF r.prog (PySem.W.boot_heap w.params) s.abs) = some true)
    (h2 : o.map (fun s => HandSHeadRun.seenQ q loose (importedModules r.prog.main.body) (fun s => PySem.W.xlAt q [] s && PySem.W.recOk r.records s) s.abs) = some (PySem.W.openGood q loose))
    (h3 : o.map (fun s => D.ex (He.frG (HandSHeadRun.getT s) D.as)) = some true) (h4 : o.map (fun s => D.fs.map (fnX (He.frG (HandSHeadRun.getT s) D.as))) = some D.fv)
    (h5 : o.map (fun s => D.ds.map (He.dicW (He.frG (HandSHeadRun.getT s) D.as))) = some (D.dk.map fun ks => some (He.keysIn w.params ks))) :
    Option.map (fun s => (HandSHeadRun.looksF r.prog (PySem.W.boot_heap w.params) s.abs, HandSHeadRun.seenQ q loose (importedModules r.prog.main.body) (fun s => PySem.W.xlAt q [] s && PySem.W.recOk r.records s) s.abs, obH D s)) (HandSHeadRun.endF (HandSHeadRun.stepQ (HandSHeadRun.denQ HandSHeadRun.tabQ) r.prog w) M r.prog w os) = some (true, PySem.W.openGood q loose, (hookH D).val w) := by
  rw [ho]
  cases o with
  | none => cases h1
  | some s =>
    have e1 := Option.some.inj h1
    have e2 := Option.some.inj h2
    have e3 := Option.some.inj h3
    have e4 := Option.some.inj h4
    have e5 := Option.some.inj h5
    show some (_, _, (D.ex (He.frG (HandSHeadRun.getT s) D.as), D.fs.map (fnX (He.frG (HandSHeadRun.getT s) D.as)), D.ds.map (He.dicW (He.frG (HandSHeadRun.getT s) D.as)))) = some (true, _, (true, D.fv, D.dk.map fun ks => some (He.keysIn w.params ks)))
    dsimp only at e1 e2 e3 e4 e5
    rw [e1, e2, e3, e4, e5]
theorem fn_at {D : HdD} {w : World} {K : PySem.W.Frag} (s : SaysH D w K) (i : Nat) {f : Addr} {v : FnX} (h1 : D.fs[i]? = some f) (h2 : D.fv[i]? = some v) : fnX K f = v := by
  have e := s.fn
  have e2 : (D.fs.map (fnX K))[i]? = D.fv[i]? := by rw [e]
  rw [List.getElem?_map, h1, h2] at e2
  exact Option.some.inj e2
theorem dc_at {D : HdD} {w : World} {K : PySem.W.Frag} (s : SaysH D w K) (i : Nat) {a : Addr} {ks : List PySem.Str} (h1 : D.ds[i]? = some a) (h2 : D.dk[i]? = some ks) : ∃ es n, KDict K w a es n := by
  have e2 : (D.ds.map (He.dicW K))[i]? = (D.dk.map fun ks => some (He.keysIn w.params ks))[i]? := by rw [s.dc]
  rw [List.getElem?_map, List.getElem?_map, h1, h2] at e2
  exact He.dicW_ok (Option.some.inj e2)
theorem kd_of {w : World} {K : PySem.W.Frag} {a : Addr} {x : PySem.Str} {b : Addr} (h : ∃ es n, KDict K w a es n) (h2 : eqR (PySem.W.nsIn K a x) b = true) : KDct K w a x (.ref b) := by
  obtain ⟨es, n, k⟩ := h
  exact ⟨es, n, .ref b, k.at_, k.lit, eqR_ok h2, rfl⟩
end
end Rn
namespace Ct
open PySem PySem.W PySem.Calls PyProof.Rows HandSHeadRun
set_option autoImplicit false
noncomputable section
/-! ### the top in pieces, each from a written state to a written state -/
section
variable (st : SharedT → Thread → Option (SharedT × Thread)) (n0 : Nat) (ann : Option Value) (b : Nat)
def segF : Nat → SharedT → Thread → Option (Flow × SharedT × Code × Pos)
  | 0, _, _ => none
  | m + 1, s, t => match endAt b t with
    | some f => some (f, s, t.code, t.pos)
    | none => match stepOk n0 ann t with
      | false => none
      | true => match st s t with
        | some (s', t') => frS s' fun s' => segF m s' t'
        | none => none
def preF : Nat → SharedT → Thread → Option (SharedT × Thread)
  | 0, s, t => some (s, t)
  | m + 1, s, t => match through t with
    | true => none
    | false => match stepOk n0 ann t with
      | false => none
      | true => match st s t with
        | some (s', t') => frS s' fun s' => preF m s' t'
        | none => none
end
section
variable {tb : String → Option Builtin} {p : Program} {w : World} {n0 : Nat} {ann : Option Value} {b : Nat}
theorem segF_ok : ∀ {m : Nat} {s s' : SharedT} {t : Thread} {f : Flow} {c : Code} {q : Pos}, segF (stepT (denote tb) p w) n0 ann b m s t = some (f, s', c, q) → segRun tb p w n0 ann b m s.abs t = some (f, s'.abs, c, q)
  | 0, _, _, _, _, _, _, h => by cases h
  | m + 1, s, s', t, f, c, q, h => by
    have h1 : (match endAt b t with
      | some f => some (f, s, t.code, t.pos)
      | none => match stepOk n0 ann t with
        | false => none
        | true => match stepT (denote tb) p w s t with
          | some (s', t') => frS s' fun s' => segF (stepT (denote tb) p w) n0 ann b m s' t'
          | none => none) = some (f, s', c, q) := h
    show (match endAt b t with
      | some f => some (f, s.abs, t.code, t.pos)
      | none => match stepOk n0 ann t with
        | false => none
        | true => match step (denote tb) p w s.abs t with
          | .go s' t' => segRun tb p w n0 ann b m s' t'
          | .halt _ _ => none) = some (f, s'.abs, c, q)
    cases he : endAt b t with
    | some g =>
      rw [he] at h1
      cases h1
      rfl
    | none =>
      rw [he] at h1
      cases hk : stepOk n0 ann t with
      | false =>
        rw [hk] at h1
        cases h1
      | true =>
        rw [hk] at h1
        have h2 : (match stepT (denote tb) p w s t with
          | some (s', t') => frS s' fun s' => segF (stepT (denote tb) p w) n0 ann b m s' t'
          | none => none) = some (f, s', c, q) := h1
        cases hs : stepT (denote tb) p w s t with
        | none =>
          rw [hs] at h2
          cases h2
        | some r =>
          obtain ⟨s2, t2⟩ := r
          rw [hs] at h2
          have h3 : (frS s2 fun s' => segF (stepT (denote tb) p w) n0 ann b m s' t2) = some (f, s', c, q) := h2
          rw [frS_eq] at h3
          have r := segF_ok h3
          show (match step (denote tb) p w s.abs t with
            | .go s' t' => segRun tb p w n0 ann b m s' t'
            | .halt _ _ => none) = _
          rw [stepT_spec hs]
          exact r
theorem preF_ok : ∀ {m : Nat} {s s' : SharedT} {t t' : Thread}, preF (stepT (denote tb) p w) n0 ann m s t = some (s', t') → topGo tb p w n0 ann m s.abs t = some (s'.abs, t')
  | 0, _, _, _, _, h => by cases h; rfl
  | m + 1, s, s', t, t', h => by
    have h1 : (match through t with
      | true => none
      | false => match stepOk n0 ann t with
        | false => none
        | true => match stepT (denote tb) p w s t with
          | some (s', t') => frS s' fun s' => preF (stepT (denote tb) p w) n0 ann m s' t'
          | none => none) = some (s', t') := h
    show (match through t with
      | true => none
      | false => match stepOk n0 ann t with
        | false => none
        | true => match step (denote tb) p w s.abs t with
          | .go s' t' => topGo tb p w n0 ann m s' t'
          | .halt _ _ => none) = some (s'.abs, t')
    cases ht : through t with
    | true =>
      rw [ht] at h1
      cases h1
    | false =>
      rw [ht] at h1
      cases hk : stepOk n0 ann t with
      | false =>
        rw [hk] at h1
        cases h1
      | true =>
        rw [hk] at h1
        have h2 : (match stepT (denote tb) p w s t with
          | some (s', t') => frS s' fun s' => preF (stepT (denote tb) p w) n0 ann m s' t'
          | none => none) = some (s', t') := h1
        cases hs : stepT (denote tb) p w s t with
        | none =>
          rw [hs] at h2
          cases h2
        | some r =>
          obtain ⟨s2, t2⟩ := r
          rw [hs] at h2
          have h3 : (frS s2 fun s' => preF (stepT (denote tb) p w) n0 ann m s' t2) = some (s', t') := h2
          rw [frS_eq] at h3
          have r := preF_ok h3
          show (match step (denote tb) p w s.abs t with
            | .go s' t' => topGo tb p w n0 ann m s' t'
            | .halt _ _ => none) = _
          rw [stepT_spec hs]
          exact r
end
/-! the twins of exec -/
def execsQ : List Stmt → Env → Sem Flow := PySem.W.Fast.tw12563942051412417395
theorem execsQ_eq : @PySem.execs = execsQ := PySem.W.Fast.te12563942051412417395
def blockStartQ : List Stmt → Env → Sem Unit := PySem.W.Fast.tw1066825118222455980
theorem blockStartQ_eq : @PySem.blockStart = blockStartQ := PySem.W.Fast.te1066825118222455980
abbrev piecesQ (l : List Stmt) (env : Env) (c : Code) (p : Pos) (B : List Frame) : Thread := ⟨(execsQ l env).wrap doneF deadEnd id id, c, p, B⟩
abbrev blockQ (b : List Stmt) (env : Env) (c : Code) (p : Pos) (B : List Frame) : Thread := ⟨(blockStartQ b env).wrap (fun _ => doneF .next) deadEnd id id, c, p, B⟩
abbrev stQ (p : Program) (w : World) : SharedT → Thread → Option (SharedT × Thread) := stepQ (denQ tabQ) p w
section
variable {p : Program} {w : World} {n0 : Nat} {ann : Option Value} {env : Env} {q : Pos}
theorem pieceQ {m N : Nat} {s s' : SharedT} {r : Shared} {l rest : List Stmt} {c : Code} {pos p' : Pos} (h : segF (stQ p w) n0 ann 1 m s (piecesQ l env c pos [topFrame q]) = some (.next, s', c, p'))
    (k : topRun treeTable p w n0 ann N s'.abs (restOf rest env c p' [topFrame q]) = some r) : topRun treeTable p w n0 ann (m + N) s.abs (restOf (l ++ rest) env c pos [topFrame q]) = some r := by
  unfold stQ piecesQ at h
  rw [← stepQ_eq, ← denQ_eq, ← tabQ_eq, ← execsQ_eq] at h
  exact piece_app (segF_ok h) k
theorem blockQ_ok {m N : Nat} {s s' : SharedT} {r : Shared} {b : List Stmt} {c : Code} {pos p' : Pos} (h : segF (stQ p w) n0 ann 1 m s (blockQ b env c pos [topFrame q]) = some (.next, s', c, p'))
    (k : topRun treeTable p w n0 ann N s'.abs (restOf b env c p' [topFrame q]) = some r) : topRun treeTable p w n0 ann (m + N) s.abs ⟨denote treeTable (.body b env), c, pos, [topFrame q]⟩ = some r := by
  unfold stQ blockQ at h
  rw [← stepQ_eq, ← denQ_eq, ← tabQ_eq, ← blockStartQ_eq] at h
  exact piece_block (segF_ok h) k
theorem preQ {m N : Nat} {s s' : SharedT} {r : Shared} {b : List Stmt} {c : Code} {pos : Pos} {t : Thread} {B : List Frame} (h : preF (stQ p w) n0 ann m s t = some (s', ⟨denQ tabQ (.body b env), c, pos, B⟩))
    (k : topRun treeTable p w n0 ann N s'.abs ⟨denote treeTable (.body b env), c, pos, B⟩ = some r) : topRun treeTable p w n0 ann (m + N) s.abs t = some r := by
  unfold stQ at h
  rw [← stepQ_eq, ← denQ_eq, ← tabQ_eq] at h
  exact go_top (preF_ok h) k
theorem finQ {m : Nat} {s s' : SharedT} {c : Code} {pos : Pos} (h : goF (stQ p w) n0 ann m s ⟨doneF .next, c, pos, [topFrame q]⟩ = some s') : topRun treeTable p w n0 ann m s.abs (restOf [] env c pos [topFrame q]) = some s'.abs := by
  unfold stQ at h
  rw [← stepQ_eq, ← denQ_eq, ← tabQ_eq] at h
  exact piece_nil (goF_ok h)
end
theorem left_cut {p q : Program} {loose : List PySem.Str} {Xt : Shared → Bool} {α : Type} {Yf : Shared → α} {Ya : World → α} {N M : Nat} {SF : World → OsState → SharedT}
    (e : opening p = plainProg p.main.scope.names) (hN : Nat.ble 600 N = true) (f : ∀ s, fenceModules? p s = some s) (le : Nat.ble M N = true)
    (top : ∀ (w : World) (os : OsState), topRun treeTable p w (boot_heap w.params).objs.size (bootAnn w) M ⟨boot_heap w.params, #[], boot_drawn, boot_toks, os⟩ (topStub p) = some (SF w os).abs)
    (run : ∀ (w : World) (os : OsState), (some (SF w os)).map (fun s => (looksF p (boot_heap w.params) s.abs, openSeen q loose (importedModules p.main.body) Xt true s.abs, Yf s.abs)) = some (true, openGood q loose, Ya w)) :
    LeftO p q loose Xt Yf Ya N true := fun w => by
  obtain ⟨⟨h, gs, d, k, os⟩, a, a'⟩ := Option.map_eq_some_iff.mp (boot_open e hN f w)
  obtain ⟨rfl, rfl, rfl, rfl⟩ : h = boot_heap w.params ∧ gs = Array.mk [] ∧ d = boot_drawn ∧ k = boot_toks := by simpa using a'
  have hv := Option.some.inj (run w os)
  obtain ⟨l1, l2, l3⟩ : _ ∧ _ ∧ _ := by simpa only [Prod.mk.injEq] using hv
  have r := topRun_mono (N - M) _ _ _ _ (top w os)
  rw [show M + (N - M) = N by have := Nat.le_of_ble_eq_true le; omega] at r
  have l1' : (staticsOk (importedModules p.main.body) (boot_heap w.params) (SF w os).abs.heap && namesBound p (SF w os).abs.heap && gensDone (SF w os).abs && laidKept (boot_heap w.params) (SF w os).abs.heap) = true := l1
  have t : topFrom treeTable p w N ⟨boot_heap w.params, Array.mk [], boot_drawn, boot_toks, os⟩ = some (SF w os).abs := by
    unfold topFrom
    dsimp only
    rw [boot_ns]
    show (topRun treeTable p w (boot_heap w.params).objs.size (bootAnn w) N ⟨boot_heap w.params, #[], boot_drawn, boot_toks, os⟩ (topStub p)).bind _ = _
    rw [r]
    show (match staticsOk (importedModules p.main.body) (boot_heap w.params) (SF w os).abs.heap && namesBound p (SF w os).abs.heap && gensDone (SF w os).abs && laidKept (boot_heap w.params) (SF w os).abs.heap with | true => some (SF w os).abs | false => none) = _
    rw [l1']
  unfold openEnds
  rw [a]
  show (topFrom treeTable p w N _).map _ = _
  rw [t]
  exact congrArg some (Prod.ext l2 l3)
def RunEq (r : OpenRow) (q : Program) (H : Hook) (ob : SharedT → H.α) (SF : World → OsState → SharedT) (loose : List PySem.Str) (w : World) : Prop :=
  ∀ os : OsState, (some (SF w os)).map (fun s => (looksF r.prog (boot_heap w.params) s.abs, seenQ q loose (importedModules r.prog.main.body) (fun s => xlAt q [] s && recOk r.toRowW.records s) s.abs, ob s)) = some (true, openGood q loose, H.val w)
theorem head_cut {r : OpenRow} {q : Program} {H : Hook} {ob : SharedT → H.α} {M : Nat} {SF : World → OsState → SharedT} {loose : List PySem.Str} {d : DefRec} {kwd : List (PySem.Str × PySem.Expr)} (ho : ∀ s : SharedT, ob s = H.obs s.abs)
    (e : opening r.prog = plainProg r.prog.main.scope.names) (f : ∀ s, fenceModules? r.prog s = some s)
    (top : ∀ (w : World) (os : OsState), topRun treeTable r.prog w (boot_heap w.params).objs.size (bootAnn w) M ⟨boot_heap w.params, #[], boot_drawn, boot_toks, os⟩ (topStub r.prog) = some (SF w os).abs)
    (run : ∀ w, RunEq r q H ob SF loose w)
    (hdef : defOf q r.name = some (d, kwd)) (hp : r.prog.theDef r.name = some (d.params, d.body, d.scope)) (hk : kwWritten? d.params.kwonlyargs d.params.kw_defaults = some kwd)
    (hwr : (!r.writes || r.records.isEmpty) = true) (k1 : r.wellSaid = true) (ok : (chainsOk q && opensWell r.prog && (frees r.toRowW && r.within.isEmpty)) = true) (hb : r.prog.bare) (hw : r.toRowW.promised)
    (call : WalkO q loose (XL q []) H.says r.toRowW d kwd fun f vs => PySem.call f vs) : r.Holds := by
  have left : LeftO r.prog q loose (fun s => xlAt q [] s && recOk r.toRowW.records s) H.obs H.val (M + 600) true :=
    left_cut (M := M) e (Nat.ble_eq_true_of_le (by omega)) f (Nat.ble_eq_true_of_le (by omega)) top fun w os => by
      have z := run w os
      have eo : ob = fun s => H.obs s.abs := funext ho
      rw [eo] at z
      simp only [seenQ_eq]
      exact z
  exact holds_open (r := r) (q := q) (loose := loose) (XP := XL q []) (YP := H.says) (d := d) (kwd := kwd) left H.of H.keeps (fun s z => xl_of s (Bool.and_eq_true_iff.mp z).1) XL.keeps hdef hp hk (fun s z => recFacts_of (Bool.and_eq_true_iff.mp z).2) hwr k1 ok hb hw call
theorem joinC {r : PySem.W.OpenRow} {q : Program} {D : Rn.HdD} {loose : List PySem.Str} {w : World} {x : PySem.W.SharedT} (o : Option PySem.W.SharedT) (ho : some x = o)
    (h1 : o.map (fun s => HandSHeadRun.looksF r.prog (PySem.W.boot_heap w.params) s.abs) = some true)
    (h2 : o.map (fun s => HandSHeadRun.seenQ q loose (importedModules r.prog.main.body) (fun s => PySem.W.xlAt q [] s && PySem.W.recOk r.records s) s.abs) = some (PySem.W.openGood q loose))
    (h3 : o.map (fun s => D.ex (He.frG (HandSHeadRun.getT s) D.as)) = some true) (h4 : o.map (fun s => D.fs.map (Rn.fnX (He.frG (HandSHeadRun.getT s) D.as))) = some D.fv)
    (h5 : o.map (fun s => D.ds.map (He.dicW (He.frG (HandSHeadRun.getT s) D.as))) = some (D.dk.map fun ks => some (He.keysIn w.params ks))) :
    Option.map (fun s => (HandSHeadRun.looksF r.prog (PySem.W.boot_heap w.params) s.abs, HandSHeadRun.seenQ q loose (importedModules r.prog.main.body) (fun s => PySem.W.xlAt q [] s && PySem.W.recOk r.records s) s.abs, Rn.obH D s)) (some x) = some (true, PySem.W.openGood q loose, (Rn.hookH D).val w) := by
  rw [ho]
  cases o with
  | none => cases h1
  | some s =>
    have e1 := Option.some.inj h1
    have e2 := Option.some.inj h2
    have e3 := Option.some.inj h3
    have e4 := Option.some.inj h4
    have e5 := Option.some.inj h5
    show some (_, _, (D.ex (He.frG (HandSHeadRun.getT s) D.as), D.fs.map (Rn.fnX (He.frG (HandSHeadRun.getT s) D.as)), D.ds.map (He.dicW (He.frG (HandSHeadRun.getT s) D.as)))) = some (true, _, (true, D.fv, D.dk.map fun ks => some (He.keysIn w.params ks)))
    dsimp only at e1 e2 e3 e4 e5
    rw [e1, e2, e3, e4, e5]
end
end Ct
namespace K46
open PySem PySem.Spec PyProof.Rows L2 Dv
set_option autoImplicit false
noncomputable section
theorem kit_self {K : PySem.W.Frag} {C : Addr} : PySem.W.kitOne K (.ref C) (.ref C) = some true := if_pos (beq_self_eq_true _)
theorem kit_own {K : PySem.W.Frag} {C D : Addr} {r : Bool} (h1 : PySem.W.isClsIn K D = true) (h2 : PySem.W.typeIn K (.ref D) = some (.type "type")) (h3 : PySem.W.subIn K (.ref C) (.ref D) = some r) (h4 : (Value.ref C == Value.ref D) = false) :
    PySem.W.kitOne K (.ref C) (.ref D) = some r := by
  have a1 : ((PySem.W.clsIn K D).isSome && PySem.W.typeIn K (.ref D) == some (.type "type")) = true := by
    rw [h2, show (PySem.W.clsIn K D).isSome = true from h1] <;> rfl
  have a2 : PySem.W.kitCls K (.ref C) (.ref D) = some r := Eq.trans (if_pos a1) h3
  exact Eq.trans (if_neg (by rw [h4] <;> decide)) a2
def topS (i : Nat) : Stmt := PySem.Challenge.pw_oneheap_k46_constraints_and_sizes.main.body.getD i (.Pass ⟨0, 0, 0, 0⟩)
structure Ad where
  C_IntSort : Addr
  C_TextSort : Addr
  C_RefSort : Addr
  C_ListSort : Addr
  C_Thing : Addr
  C_PictureSource : Addr
  C_Field : Addr
  C_Kind : Addr
  C_Schema : Addr
  C_Touch : Addr
  f_IntSort___init__ : Addr
  fd_IntSort___init__ : FuncData
  f_TextSort___init__ : Addr
  fd_TextSort___init__ : FuncData
  f_RefSort___init__ : Addr
  fd_RefSort___init__ : FuncData
  f_ListSort___init__ : Addr
  fd_ListSort___init__ : FuncData
  f_Thing___init__ : Addr
  fd_Thing___init__ : FuncData
  f_PictureSource___init__ : Addr
  fd_PictureSource___init__ : FuncData
  f_PictureSource_thing : Addr
  fd_PictureSource_thing : FuncData
  f_PictureSource_numbers : Addr
  fd_PictureSource_numbers : FuncData
  f_PictureSource_alike : Addr
  fd_PictureSource_alike : FuncData
  f_Field___init__ : Addr
  fd_Field___init__ : FuncData
  f_Kind___init__ : Addr
  fd_Kind___init__ : FuncData
  f_Kind_field_of : Addr
  fd_Kind_field_of : FuncData
  f_Kind_names : Addr
  fd_Kind_names : FuncData
  f_Schema___init__ : Addr
  fd_Schema___init__ : FuncData
  f_Schema_kind_of : Addr
  fd_Schema_kind_of : FuncData
  f_Schema_names : Addr
  fd_Schema_names : FuncData
  f_Touch___init__ : Addr
  fd_Touch___init__ : FuncData
  f_is_reference : Addr
  fd_is_reference : FuncData
  f_is_list : Addr
  fd_is_list : FuncData
  f_content_copy : Addr
  fd_content_copy : FuncData
  f_told_content : Addr
  fd_told_content : FuncData
  f_is_one_of : Addr
  fd_is_one_of : FuncData
  f_has_amounts : Addr
  fd_has_amounts : FuncData
  f_needed_constraint : Addr
  fd_needed_constraint : FuncData
  f_key_constraint : Addr
  fd_key_constraint : FuncData
  f_constraints_against : Addr
  fd_constraints_against : FuncData
  f_against_fields : Addr
  fd_against_fields : FuncData
  f_told_of : Addr
  fd_told_of : FuncData
  f_has_double : Addr
  fd_has_double : FuncData
  f_first_against : Addr
  fd_first_against : FuncData
  f_picture_size : Addr
  fd_picture_size : FuncData
  f_thing_size : Addr
  fd_thing_size : FuncData
  f_content_size : Addr
  fd_content_size : FuncData
  f__law_cells : Addr
  fd__law_cells : FuncData
  f__law_draw : Addr
  fd__law_draw : FuncData
  f__law_pick : Addr
  fd__law_pick : FuncData
  f__law_links : Addr
  fd__law_links : FuncData
  f__law_names : Addr
  fd__law_names : FuncData
  f__law_rules : Addr
  fd__law_rules : FuncData
  f__law_schema : Addr
  fd__law_schema : FuncData
  f__law_number : Addr
  fd__law_number : FuncData
  f__law_list : Addr
  fd__law_list : FuncData
  f__law_contents : Addr
  fd__law_contents : FuncData
  f__law_picture : Addr
  fd__law_picture : FuncData
  f__law_there : Addr
  fd__law_there : FuncData
  f__law_told : Addr
  fd__law_told : FuncData
  f__law_against : Addr
  fd__law_against : FuncData
  f__law_size : Addr
  fd__law_size : FuncData
  f__law_first : Addr
  fd__law_first : FuncData
  f_law : Addr
  fd_law : FuncData
/-- what the top leaves, as the proofs of the defs ask it -/
structure Txt (K : PySem.W.Frag) (mg : Str → Option Value) (A : Ad) : Prop where
  b_all : mg "all" = none
  b_any : mg "any" = none
  b_int : mg "int" = none
  b_isinstance : mg "isinstance" = none
  b_len : mg "len" = none
  b_list : mg "list" = none
  b_range : mg "range" = none
  b_sorted : mg "sorted" = none
  b_str : mg "str" = none
  b_sum : mg "sum" = none
  b_zip : mg "zip" = none
  g_IntSort : mg "IntSort" = some (.ref A.C_IntSort)
  cl_IntSort : Cls K A.C_IntSort
  mk_IntSort : Mk K A.C_IntSort A.f_IntSort___init__
  na_IntSort_low : NoAttr K A.C_IntSort "low"
  na_IntSort_high : NoAttr K A.C_IntSort "high"
  ii_IntSort : ∀ (H : Hp) (a dx : Addr) (fs : List (Str × V)), H a = some (.ins A.C_IntSort dx fs) → TyX K H (.ref a) (.ref A.C_IntSort)
  g_TextSort : mg "TextSort" = some (.ref A.C_TextSort)
  cl_TextSort : Cls K A.C_TextSort
  mk_TextSort : Mk K A.C_TextSort A.f_TextSort___init__
  na_TextSort_longest : NoAttr K A.C_TextSort "longest"
  na_TextSort_without : NoAttr K A.C_TextSort "without"
  ii_TextSort : ∀ (H : Hp) (a dx : Addr) (fs : List (Str × V)), H a = some (.ins A.C_TextSort dx fs) → TyX K H (.ref a) (.ref A.C_TextSort)
  g_RefSort : mg "RefSort" = some (.ref A.C_RefSort)
  cl_RefSort : Cls K A.C_RefSort
  mk_RefSort : Mk K A.C_RefSort A.f_RefSort___init__
  na_RefSort_kinds : NoAttr K A.C_RefSort "kinds"
  na_RefSort_rule : NoAttr K A.C_RefSort "rule"
  ii_RefSort : ∀ (H : Hp) (a dx : Addr) (fs : List (Str × V)), H a = some (.ins A.C_RefSort dx fs) → TyX K H (.ref a) (.ref A.C_RefSort)
  g_ListSort : mg "ListSort" = some (.ref A.C_ListSort)
  cl_ListSort : Cls K A.C_ListSort
  mk_ListSort : Mk K A.C_ListSort A.f_ListSort___init__
  na_ListSort_kinds : NoAttr K A.C_ListSort "kinds"
  ii_ListSort : ∀ (H : Hp) (a dx : Addr) (fs : List (Str × V)), H a = some (.ins A.C_ListSort dx fs) → TyX K H (.ref a) (.ref A.C_ListSort)
  g_Thing : mg "Thing" = some (.ref A.C_Thing)
  cl_Thing : Cls K A.C_Thing
  mk_Thing : Mk K A.C_Thing A.f_Thing___init__
  na_Thing_kind : NoAttr K A.C_Thing "kind"
  na_Thing_contents : NoAttr K A.C_Thing "contents"
  g_PictureSource : mg "PictureSource" = some (.ref A.C_PictureSource)
  cl_PictureSource : Cls K A.C_PictureSource
  mk_PictureSource : Mk K A.C_PictureSource A.f_PictureSource___init__
  na_PictureSource_things : NoAttr K A.C_PictureSource "things"
  me_PictureSource_thing : Meth K A.C_PictureSource "thing" A.f_PictureSource_thing
  me_PictureSource_numbers : Meth K A.C_PictureSource "numbers" A.f_PictureSource_numbers
  me_PictureSource_alike : Meth K A.C_PictureSource "alike" A.f_PictureSource_alike
  g_Field : mg "Field" = some (.ref A.C_Field)
  cl_Field : Cls K A.C_Field
  mk_Field : Mk K A.C_Field A.f_Field___init__
  na_Field_name : NoAttr K A.C_Field "name"
  na_Field_shape : NoAttr K A.C_Field "shape"
  na_Field_needed : NoAttr K A.C_Field "needed"
  g_Kind : mg "Kind" = some (.ref A.C_Kind)
  cl_Kind : Cls K A.C_Kind
  mk_Kind : Mk K A.C_Kind A.f_Kind___init__
  na_Kind_name : NoAttr K A.C_Kind "name"
  na_Kind_fields : NoAttr K A.C_Kind "fields"
  na_Kind_key_rows : NoAttr K A.C_Kind "key_rows"
  me_Kind_field_of : Meth K A.C_Kind "field_of" A.f_Kind_field_of
  me_Kind_names : Meth K A.C_Kind "names" A.f_Kind_names
  g_Schema : mg "Schema" = some (.ref A.C_Schema)
  cl_Schema : Cls K A.C_Schema
  mk_Schema : Mk K A.C_Schema A.f_Schema___init__
  na_Schema_kinds : NoAttr K A.C_Schema "kinds"
  me_Schema_kind_of : Meth K A.C_Schema "kind_of" A.f_Schema_kind_of
  me_Schema_names : Meth K A.C_Schema "names" A.f_Schema_names
  g_Touch : mg "Touch" = some (.ref A.C_Touch)
  cl_Touch : Cls K A.C_Touch
  mk_Touch : Mk K A.C_Touch A.f_Touch___init__
  na_Touch_number : NoAttr K A.C_Touch "number"
  na_Touch_made : NoAttr K A.C_Touch "made"
  na_Touch_gone : NoAttr K A.C_Touch "gone"
  na_Touch_names : NoAttr K A.C_Touch "names"
  is_IntSort_RefSort : PySem.W.kitOne K (.ref A.C_IntSort) (.ref A.C_RefSort) = some false
  is_TextSort_RefSort : PySem.W.kitOne K (.ref A.C_TextSort) (.ref A.C_RefSort) = some false
  is_RefSort_RefSort : PySem.W.kitOne K (.ref A.C_RefSort) (.ref A.C_RefSort) = some true
  is_ListSort_RefSort : PySem.W.kitOne K (.ref A.C_ListSort) (.ref A.C_RefSort) = some false
  is_IntSort_ListSort : PySem.W.kitOne K (.ref A.C_IntSort) (.ref A.C_ListSort) = some false
  is_TextSort_ListSort : PySem.W.kitOne K (.ref A.C_TextSort) (.ref A.C_ListSort) = some false
  is_RefSort_ListSort : PySem.W.kitOne K (.ref A.C_RefSort) (.ref A.C_ListSort) = some false
  is_ListSort_ListSort : PySem.W.kitOne K (.ref A.C_ListSort) (.ref A.C_ListSort) = some true
  F_IntSort___init__ : Fun K "__init__" "IntSort.__init__" (inClass (topS 2) 0) A.f_IntSort___init__ A.fd_IntSort___init__
  b_IntSort___init__ : Binds K A.fd_IntSort___init__ ["self", "low", "high"] []
  F_TextSort___init__ : FunD K "__init__" "TextSort.__init__" (defArgs (inClass (topS 3) 0)) (defBody (inClass (topS 3) 0)) (defScope (inClass (topS 3) 0)) [.non] [] A.f_TextSort___init__ A.fd_TextSort___init__
  b_TextSort___init__ : Binds K A.fd_TextSort___init__ ["self", "longest", "without"] []
  F_RefSort___init__ : Fun K "__init__" "RefSort.__init__" (inClass (topS 4) 0) A.f_RefSort___init__ A.fd_RefSort___init__
  b_RefSort___init__ : Binds K A.fd_RefSort___init__ ["self", "kinds", "rule"] []
  F_ListSort___init__ : Fun K "__init__" "ListSort.__init__" (inClass (topS 5) 0) A.f_ListSort___init__ A.fd_ListSort___init__
  b_ListSort___init__ : Binds K A.fd_ListSort___init__ ["self", "kinds"] []
  F_Thing___init__ : Fun K "__init__" "Thing.__init__" (inClass (topS 9) 0) A.f_Thing___init__ A.fd_Thing___init__
  b_Thing___init__ : Binds K A.fd_Thing___init__ ["self", "kind", "contents"] []
  F_PictureSource___init__ : Fun K "__init__" "PictureSource.__init__" (inClass (topS 14) 0) A.f_PictureSource___init__ A.fd_PictureSource___init__
  b_PictureSource___init__ : Binds K A.fd_PictureSource___init__ ["self", "picture"] []
  F_PictureSource_thing : Fun K "thing" "PictureSource.thing" (inClass (topS 14) 1) A.f_PictureSource_thing A.fd_PictureSource_thing
  b_PictureSource_thing : Binds K A.fd_PictureSource_thing ["self", "number"] []
  F_PictureSource_numbers : Fun K "numbers" "PictureSource.numbers" (inClass (topS 14) 2) A.f_PictureSource_numbers A.fd_PictureSource_numbers
  b_PictureSource_numbers : Binds K A.fd_PictureSource_numbers ["self", "kind"] []
  F_PictureSource_alike : Fun K "alike" "PictureSource.alike" (inClass (topS 14) 4) A.f_PictureSource_alike A.fd_PictureSource_alike
  b_PictureSource_alike : Binds K A.fd_PictureSource_alike ["self", "kind", "names", "amounts"] []
  F_Field___init__ : FunD K "__init__" "Field.__init__" (defArgs (inClass (topS 17) 0)) (defBody (inClass (topS 17) 0)) (defScope (inClass (topS 17) 0)) [.bl false] [] A.f_Field___init__ A.fd_Field___init__
  b_Field___init__ : Binds K A.fd_Field___init__ ["self", "name", "shape", "needed"] []
  F_Kind___init__ : Fun K "__init__" "Kind.__init__" (inClass (topS 18) 0) A.f_Kind___init__ A.fd_Kind___init__
  b_Kind___init__ : Binds K A.fd_Kind___init__ ["self", "name", "fields", "key_rows"] []
  F_Kind_field_of : Fun K "field_of" "Kind.field_of" (inClass (topS 18) 1) A.f_Kind_field_of A.fd_Kind_field_of
  b_Kind_field_of : Binds K A.fd_Kind_field_of ["self", "name"] []
  F_Kind_names : Fun K "names" "Kind.names" (inClass (topS 18) 2) A.f_Kind_names A.fd_Kind_names
  b_Kind_names : Binds K A.fd_Kind_names ["self"] []
  F_Schema___init__ : Fun K "__init__" "Schema.__init__" (inClass (topS 19) 0) A.f_Schema___init__ A.fd_Schema___init__
  b_Schema___init__ : Binds K A.fd_Schema___init__ ["self", "kinds"] []
  F_Schema_kind_of : Fun K "kind_of" "Schema.kind_of" (inClass (topS 19) 1) A.f_Schema_kind_of A.fd_Schema_kind_of
  b_Schema_kind_of : Binds K A.fd_Schema_kind_of ["self", "name"] []
  F_Schema_names : Fun K "names" "Schema.names" (inClass (topS 19) 3) A.f_Schema_names A.fd_Schema_names
  b_Schema_names : Binds K A.fd_Schema_names ["self"] []
  F_Touch___init__ : Fun K "__init__" "Touch.__init__" (inClass (topS 32) 0) A.f_Touch___init__ A.fd_Touch___init__
  b_Touch___init__ : Binds K A.fd_Touch___init__ ["self", "number", "made", "gone", "names"] []
  F_is_reference : Fun K "is_reference" "is_reference" (topS 6) A.f_is_reference A.fd_is_reference
  b_is_reference : Binds K A.fd_is_reference ["shape"] []
  g_is_reference : mg "is_reference" = some (.ref A.f_is_reference)
  F_is_list : Fun K "is_list" "is_list" (topS 7) A.f_is_list A.fd_is_list
  b_is_list : Binds K A.fd_is_list ["shape"] []
  g_is_list : mg "is_list" = some (.ref A.f_is_list)
  F_content_copy : Fun K "content_copy" "content_copy" (topS 10) A.f_content_copy A.fd_content_copy
  b_content_copy : Binds K A.fd_content_copy ["content"] []
  g_content_copy : mg "content_copy" = some (.ref A.f_content_copy)
  F_told_content : Fun K "told_content" "told_content" (topS 11) A.f_told_content A.fd_told_content
  b_told_content : Binds K A.fd_told_content ["source", "field", "content"] []
  g_told_content : mg "told_content" = some (.ref A.f_told_content)
  F_is_one_of : Fun K "is_one_of" "is_one_of" (topS 12) A.f_is_one_of A.fd_is_one_of
  b_is_one_of : Binds K A.fd_is_one_of ["source", "number", "kinds"] []
  g_is_one_of : mg "is_one_of" = some (.ref A.f_is_one_of)
  F_has_amounts : Fun K "has_amounts" "has_amounts" (topS 15) A.f_has_amounts A.fd_has_amounts
  b_has_amounts : Binds K A.fd_has_amounts ["thing", "names", "amounts"] []
  g_has_amounts : mg "has_amounts" = some (.ref A.f_has_amounts)
  F_needed_constraint : Fun K "needed_constraint" "needed_constraint" (topS 20) A.f_needed_constraint A.fd_needed_constraint
  b_needed_constraint : Binds K A.fd_needed_constraint ["kind", "field"] []
  g_needed_constraint : mg "needed_constraint" = some (.ref A.f_needed_constraint)
  F_key_constraint : Fun K "key_constraint" "key_constraint" (topS 21) A.f_key_constraint A.fd_key_constraint
  b_key_constraint : Binds K A.fd_key_constraint ["kind", "row"] []
  g_key_constraint : mg "key_constraint" = some (.ref A.f_key_constraint)
  F_constraints_against : Fun K "constraints_against" "constraints_against" (topS 23) A.f_constraints_against A.fd_constraints_against
  b_constraints_against : Binds K A.fd_constraints_against ["schema", "picture", "number"] []
  g_constraints_against : mg "constraints_against" = some (.ref A.f_constraints_against)
  F_against_fields : Fun K "against_fields" "against_fields" (topS 24) A.f_against_fields A.fd_against_fields
  b_against_fields : Binds K A.fd_against_fields ["schema", "picture", "number", "names"] []
  g_against_fields : mg "against_fields" = some (.ref A.f_against_fields)
  F_told_of : Fun K "told_of" "told_of" (topS 25) A.f_told_of A.fd_told_of
  b_told_of : Binds K A.fd_told_of ["source", "kind", "number", "name"] []
  g_told_of : mg "told_of" = some (.ref A.f_told_of)
  F_has_double : Fun K "has_double" "has_double" (topS 26) A.f_has_double A.fd_has_double
  b_has_double : Binds K A.fd_has_double ["source", "kind", "number", "row"] []
  g_has_double : mg "has_double" = some (.ref A.f_has_double)
  F_first_against : Fun K "first_against" "first_against" (topS 27) A.f_first_against A.fd_first_against
  b_first_against : Binds K A.fd_first_against ["schema", "picture", "touches"] []
  g_first_against : mg "first_against" = some (.ref A.f_first_against)
  F_picture_size : Fun K "picture_size" "picture_size" (topS 28) A.f_picture_size A.fd_picture_size
  b_picture_size : Binds K A.fd_picture_size ["schema", "picture"] []
  g_picture_size : mg "picture_size" = some (.ref A.f_picture_size)
  F_thing_size : Fun K "thing_size" "thing_size" (topS 29) A.f_thing_size A.fd_thing_size
  b_thing_size : Binds K A.fd_thing_size ["schema", "source", "thing"] []
  g_thing_size : mg "thing_size" = some (.ref A.f_thing_size)
  F_content_size : Fun K "content_size" "content_size" (topS 30) A.f_content_size A.fd_content_size
  b_content_size : Binds K A.fd_content_size ["source", "field", "content"] []
  g_content_size : mg "content_size" = some (.ref A.f_content_size)
  F__law_cells : Fun K "_law_cells" "_law_cells" (topS 34) A.f__law_cells A.fd__law_cells
  b__law_cells : Binds K A.fd__law_cells ["script", "count"] []
  g__law_cells : mg "_law_cells" = some (.ref A.f__law_cells)
  F__law_draw : Fun K "_law_draw" "_law_draw" (topS 35) A.f__law_draw A.fd__law_draw
  b__law_draw : Binds K A.fd__law_draw ["draws", "bound"] []
  g__law_draw : mg "_law_draw" = some (.ref A.f__law_draw)
  F__law_pick : Fun K "_law_pick" "_law_pick" (topS 36) A.f__law_pick A.fd__law_pick
  b__law_pick : Binds K A.fd__law_pick ["draws", "row"] []
  g__law_pick : mg "_law_pick" = some (.ref A.f__law_pick)
  F__law_links : Fun K "_law_links" "_law_links" (topS 37) A.f__law_links A.fd__law_links
  b__law_links : Binds K A.fd__law_links ["kind", "rules"] []
  g__law_links : mg "_law_links" = some (.ref A.f__law_links)
  F__law_names : Fun K "_law_names" "_law_names" (topS 38) A.f__law_names A.fd__law_names
  b__law_names : Binds K A.fd__law_names ["kind"] []
  g__law_names : mg "_law_names" = some (.ref A.f__law_names)
  F__law_rules : Fun K "_law_rules" "_law_rules" (topS 39) A.f__law_rules A.fd__law_rules
  b__law_rules : Binds K A.fd__law_rules ["draws"] []
  g__law_rules : mg "_law_rules" = some (.ref A.f__law_rules)
  F__law_schema : Fun K "_law_schema" "_law_schema" (topS 40) A.f__law_schema A.fd__law_schema
  b__law_schema : Binds K A.fd__law_schema ["rules", "needed"] []
  g__law_schema : mg "_law_schema" = some (.ref A.f__law_schema)
  F__law_number : Fun K "_law_number" "_law_number" (topS 41) A.f__law_number A.fd__law_number
  b__law_number : Binds K A.fd__law_number ["draws"] []
  g__law_number : mg "_law_number" = some (.ref A.f__law_number)
  F__law_list : Fun K "_law_list" "_law_list" (topS 42) A.f__law_list A.fd__law_list
  b__law_list : Binds K A.fd__law_list ["draws"] []
  g__law_list : mg "_law_list" = some (.ref A.f__law_list)
  F__law_contents : Fun K "_law_contents" "_law_contents" (topS 43) A.f__law_contents A.fd__law_contents
  b__law_contents : Binds K A.fd__law_contents ["draws", "kind"] []
  g__law_contents : mg "_law_contents" = some (.ref A.f__law_contents)
  F__law_picture : Fun K "_law_picture" "_law_picture" (topS 44) A.f__law_picture A.fd__law_picture
  b__law_picture : Binds K A.fd__law_picture ["draws"] []
  g__law_picture : mg "_law_picture" = some (.ref A.f__law_picture)
  F__law_there : Fun K "_law_there" "_law_there" (topS 45) A.f__law_there A.fd__law_there
  b__law_there : Binds K A.fd__law_there ["picture", "kinds", "number"] []
  g__law_there : mg "_law_there" = some (.ref A.f__law_there)
  F__law_told : Fun K "_law_told" "_law_told" (topS 46) A.f__law_told A.fd__law_told
  b__law_told : Binds K A.fd__law_told ["picture", "rules", "thing", "name"] []
  g__law_told : mg "_law_told" = some (.ref A.f__law_told)
  F__law_against : Fun K "_law_against" "_law_against" (topS 47) A.f__law_against A.fd__law_against
  b__law_against : Binds K A.fd__law_against ["picture", "rules", "needed", "number"] []
  g__law_against : mg "_law_against" = some (.ref A.f__law_against)
  F__law_size : Fun K "_law_size" "_law_size" (topS 48) A.f__law_size A.fd__law_size
  b__law_size : Binds K A.fd__law_size ["picture", "rules"] []
  g__law_size : mg "_law_size" = some (.ref A.f__law_size)
  F__law_first : Fun K "_law_first" "_law_first" (topS 49) A.f__law_first A.fd__law_first
  b__law_first : Binds K A.fd__law_first ["picture", "rules", "needed", "touches"] []
  g__law_first : mg "_law_first" = some (.ref A.f__law_first)
  F_law : Fun K "law" "law" (topS 50) A.f_law A.fd_law
  b_law : Binds K A.fd_law ["script"] []
  b1_TextSort___init__ : ∃ ds, Vals [V.non] ds ∧ Binds K A.fd_TextSort___init__ ["self", "longest", "without"] ds
  b1_Field___init__ : ∃ ds, Vals [V.bl false] ds ∧ Binds K A.fd_Field___init__ ["self", "name", "shape", "needed"] ds
def SL (A : Ad) : List Addr := [A.C_IntSort, A.C_TextSort, A.C_RefSort, A.C_ListSort, A.C_Thing, A.C_PictureSource, A.C_Field, A.C_Kind, A.C_Schema, A.C_Touch, A.f_IntSort___init__, A.f_TextSort___init__, A.f_RefSort___init__, A.f_ListSort___init__, A.f_is_reference, A.f_is_list, A.f_Thing___init__, A.f_content_copy, A.f_told_content, A.f_is_one_of, A.f_PictureSource___init__, A.f_PictureSource_thing, A.f_PictureSource_numbers, A.f_PictureSource_alike, A.f_has_amounts, A.f_Field___init__, A.f_Kind___init__, A.f_Kind_field_of, A.f_Kind_names, A.f_Schema___init__, A.f_Schema_kind_of, A.f_Schema_names, A.f_needed_constraint, A.f_key_constraint, A.f_constraints_against, A.f_against_fields, A.f_told_of, A.f_has_double, A.f_first_against, A.f_picture_size, A.f_thing_size, A.f_content_size, A.f_Touch___init__, A.f__law_cells, A.f__law_draw, A.f__law_pick, A.f__law_links, A.f__law_names, A.f__law_rules, A.f__law_schema, A.f__law_number, A.f__law_list, A.f__law_contents, A.f__law_picture, A.f__law_there, A.f__law_told, A.f__law_against, A.f__law_size, A.f__law_first, A.f_law]
def S (A : Ad) (n : Nat) : Addr := match (SL A)[n]? with
  | some a => a
  | none => A.C_IntSort
def fc_low : List Nat := [0]
def fc_high : List Nat := [0]
def fc_longest : List Nat := [1]
def fc_without : List Nat := [1]
def fc_kinds : List Nat := [2, 3, 8]
def fc_rule : List Nat := [2]
def fc_kind : List Nat := [4]
def fc_contents : List Nat := [4]
def fc_things : List Nat := [5]
def fc_name : List Nat := [6, 7]
def fc_shape : List Nat := [6]
def fc_needed : List Nat := [6]
def fc_fields : List Nat := [7]
def fc_key_rows : List Nat := [7]
def fc_number : List Nat := [9]
def fc_made : List Nat := [9]
def fc_gone : List Nat := [9]
def fc_names : List Nat := [9]
def isOO (c d : Nat) : Option Bool := match c, d with
  | 0, 2 => some false
  | 1, 2 => some false
  | 2, 2 => some true
  | 3, 2 => some false
  | 0, 3 => some false
  | 1, 3 => some false
  | 2, 3 => some false
  | 3, 3 => some true
  | _, _ => none
def isOB (c : Nat) (d : String) : Option Bool := none
def isBT (c : String) (d : Nat) : Option Bool := none
def b_IntSort___init__ : EvS := (xSeq (xFldS fc_low "low" 0 (xVal 1))
 (xFldS fc_high "high" 0 (xVal 2)))
@[irreducible] def d_IntSort___init__ : Fn := runF false 3 b_IntSort___init__
theorem e_IntSort___init__ : d_IntSort___init__ = runF false 3 b_IntSort___init__ := by unfold d_IntSort___init__; rfl
def b_TextSort___init__ : EvS := (xSeq (xFldS fc_longest "longest" 0 (xVal 1))
 (xFldS fc_without "without" 0 (xVal 2)))
@[irreducible] def d_TextSort___init__ : Fn := runF false 3 b_TextSort___init__
theorem e_TextSort___init__ : d_TextSort___init__ = runF false 3 b_TextSort___init__ := by unfold d_TextSort___init__; rfl
def b_RefSort___init__ : EvS := (xSeq (xFldS fc_kinds "kinds" 0 (xCB fList (xCons (xVal 1) xNil)))
 (xFldS fc_rule "rule" 0 (xVal 2)))
@[irreducible] def d_RefSort___init__ : Fn := runF false 3 b_RefSort___init__
theorem e_RefSort___init__ : d_RefSort___init__ = runF false 3 b_RefSort___init__ := by unfold d_RefSort___init__; rfl
def b_ListSort___init__ : EvS := (xFldS fc_kinds "kinds" 0 (xCB fList (xCons (xVal 1) xNil)))
@[irreducible] def d_ListSort___init__ : Fn := runF false 2 b_ListSort___init__
theorem e_ListSort___init__ : d_ListSort___init__ = runF false 2 b_ListSort___init__ := by unfold d_ListSort___init__; rfl
def b_is_reference : EvS := (xRet (xCB (fIs isOO isOB isBT) (xCons (xVal 0) (xCons (xC (.st 2)) xNil))))
@[irreducible] def d_is_reference : Fn := runF false 1 b_is_reference
theorem e_is_reference : d_is_reference = runF false 1 b_is_reference := by unfold d_is_reference; rfl
def b_is_list : EvS := (xRet (xCB (fIs isOO isOB isBT) (xCons (xVal 0) (xCons (xC (.st 3)) xNil))))
@[irreducible] def d_is_list : Fn := runF false 1 b_is_list
theorem e_is_list : d_is_list = runF false 1 b_is_list := by unfold d_is_list; rfl
def b_content_copy : EvS := (xRet (xIf (xTest (xCB (fIs isOO isOB isBT) (xCons (xVal 0) (xCons (xC (.ty "list")) xNil)))) (xCB fList (xCons (xVal 0) xNil)) (xVal 0)))
@[irreducible] def d_content_copy : Fn := runF false 1 b_content_copy
theorem e_content_copy : d_content_copy = runF false 1 b_content_copy := by unfold d_content_copy; rfl
def b_PictureSource___init__ : EvS := (xFldS fc_things "things" 0 (xVal 1))
@[irreducible] def d_PictureSource___init__ : Fn := runF false 2 b_PictureSource___init__
theorem e_PictureSource___init__ : d_PictureSource___init__ = runF false 2 b_PictureSource___init__ := by unfold d_PictureSource___init__; rfl
def b_PictureSource_thing : EvS := (xRet (xDGet1 (xFld fc_things "things" (xVal 0)) (xVal 1)))
@[irreducible] def d_PictureSource_thing : Fn := runF false 2 b_PictureSource_thing
theorem e_PictureSource_thing : d_PictureSource_thing = runF false 2 b_PictureSource_thing := by unfold d_PictureSource_thing; rfl
def b_PictureSource_numbers : EvS := (xRet (xCB fSorted (xCons (xLcD (pFld fc_things "things" (pSlot 0)) .items (yTup 2 (yCons (yName 2) (yCons (yName 3) yNil))) (xTest (xOp oEq (xFld fc_kind "kind" (xVal 3)) (xVal 1))) (xVal 2) [2, 3]) xNil)))
@[irreducible] def d_PictureSource_numbers : Fn := runF false 4 b_PictureSource_numbers
theorem e_PictureSource_numbers : d_PictureSource_numbers = runF false 4 b_PictureSource_numbers := by unfold d_PictureSource_numbers; rfl
def b_has_amounts : EvS := (xRet (xCB fAll (xCons (xLc (iZp (xCons (xVal 1) (xCons (xVal 2) xNil))) (yTup 2 (yCons (yName 3) (yCons (yName 4) yNil))) xYes (xAndV (xOp (oDIn false) (xVal 3) (xFld fc_contents "contents" (xVal 0))) (xOp oEq (xOp oDGet (xFld fc_contents "contents" (xVal 0)) (xVal 3)) (xVal 4))) [3, 4]) xNil)))
@[irreducible] def d_has_amounts : Fn := runF false 5 b_has_amounts
theorem e_has_amounts : d_has_amounts = runF false 5 b_has_amounts := by unfold d_has_amounts; rfl
def b_Field___init__ : EvS := (xSeq (xFldS fc_name "name" 0 (xVal 1))
 (xSeq (xFldS fc_shape "shape" 0 (xVal 2))
 (xFldS fc_needed "needed" 0 (xVal 3))))
@[irreducible] def d_Field___init__ : Fn := runF false 4 b_Field___init__
theorem e_Field___init__ : d_Field___init__ = runF false 4 b_Field___init__ := by unfold d_Field___init__; rfl
def b_Kind___init__ : EvS := (xSeq (xFldS fc_name "name" 0 (xVal 1))
 (xSeq (xFldS fc_fields "fields" 0 (xCB fList (xCons (xVal 2) xNil)))
 (xFldS fc_key_rows "key_rows" 0 (xLc (iSq (xVal 3)) (yName 4) xYes (xCB fList (xCons (xVal 4) xNil)) [4]))))
@[irreducible] def d_Kind___init__ : Fn := runF false 5 b_Kind___init__
theorem e_Kind___init__ : d_Kind___init__ = runF false 5 b_Kind___init__ := by unfold d_Kind___init__; rfl
def b_Kind_field_of : EvS := (xSeq (xFor (iSq (xFld fc_fields "fields" (xVal 0))) (yName 2)
 (xIfS (xTest (xOp oEq (xFld fc_name "name" (xVal 2)) (xVal 1)))
 (xRet (xVal 2))
 xNx))
 (xRet (xC .non)))
@[irreducible] def d_Kind_field_of : Fn := runF false 3 b_Kind_field_of
theorem e_Kind_field_of : d_Kind_field_of = runF false 3 b_Kind_field_of := by unfold d_Kind_field_of; rfl
def b_Kind_names : EvS := (xRet (xLc (iSq (xFld fc_fields "fields" (xVal 0))) (yName 1) xYes (xFld fc_name "name" (xVal 1)) [1]))
@[irreducible] def d_Kind_names : Fn := runF false 2 b_Kind_names
theorem e_Kind_names : d_Kind_names = runF false 2 b_Kind_names := by unfold d_Kind_names; rfl
def b_Schema___init__ : EvS := (xFldS fc_kinds "kinds" 0 (xCB fList (xCons (xVal 1) xNil)))
@[irreducible] def d_Schema___init__ : Fn := runF false 2 b_Schema___init__
theorem e_Schema___init__ : d_Schema___init__ = runF false 2 b_Schema___init__ := by unfold d_Schema___init__; rfl
def b_Schema_kind_of : EvS := (xSeq (xFor (iSq (xFld fc_kinds "kinds" (xVal 0))) (yName 2)
 (xIfS (xTest (xOp oEq (xFld fc_name "name" (xVal 2)) (xVal 1)))
 (xRet (xVal 2))
 xNx))
 (xRet (xC .non)))
@[irreducible] def d_Schema_kind_of : Fn := runF false 3 b_Schema_kind_of
theorem e_Schema_kind_of : d_Schema_kind_of = runF false 3 b_Schema_kind_of := by unfold d_Schema_kind_of; rfl
def b_Schema_names : EvS := (xRet (xLc (iSq (xFld fc_kinds "kinds" (xVal 0))) (yName 1) xYes (xFld fc_name "name" (xVal 1)) [1]))
@[irreducible] def d_Schema_names : Fn := runF false 2 b_Schema_names
theorem e_Schema_names : d_Schema_names = runF false 2 b_Schema_names := by unfold d_Schema_names; rfl
def b_needed_constraint : EvS := (xRet (xJoined (jCons (xFmt (xVal 0)) (jCons (xC (.str ".")) (jCons (xFmt (xVal 1)) (jCons (xC (.str " needed")) jNil))))))
@[irreducible] def d_needed_constraint : Fn := runF false 2 b_needed_constraint
theorem e_needed_constraint : d_needed_constraint = runF false 2 b_needed_constraint := by unfold d_needed_constraint; rfl
def b_key_constraint : EvS := (xRet (xOp oAdd (xJoined (jCons (xFmt (xVal 0)) (jCons (xC (.str " key ")) jNil))) (xJoin (xC (.str ", ")) (xVal 1))))
@[irreducible] def d_key_constraint : Fn := runF false 2 b_key_constraint
theorem e_key_constraint : d_key_constraint = runF false 2 b_key_constraint := by unfold d_key_constraint; rfl
def b_Touch___init__ : EvS := (xSeq (xFldS fc_number "number" 0 (xVal 1))
 (xSeq (xFldS fc_made "made" 0 (xVal 2))
 (xSeq (xFldS fc_gone "gone" 0 (xVal 3))
 (xFldS fc_names "names" 0 (xCB fList (xCons (xVal 4) xNil))))))
@[irreducible] def d_Touch___init__ : Fn := runF false 5 b_Touch___init__
theorem e_Touch___init__ : d_Touch___init__ = runF false 5 b_Touch___init__ := by unfold d_Touch___init__; rfl
def b__law_cells : EvS := (xSeq (xBox 2 (xLst xNil))
 (xSeq (xFor (iRg1 (xCons (xVal 1) xNil)) (yName 3)
 (xSeq (xSet 4 (xOp oAdd (xOp oMul (xC (.int 11)) (xVal 3)) (xC (.int 5))))
 (xSeq (xIfS (xTest (xOp oLt (xVal 3) (xCB fLen (xCons (xVal 0) xNil))))
 (xSeq (xSet 4 (xCB fInt (xCons (xOp oIx (xVal 0) (xVal 3)) xNil)))
 (xIfS (xTest (xOp oLt (xVal 4) (xC (.int 0))))
 (xSet 4 (xOp oSub (xC (.int 1)) (xOp oMul (xC (.int 2)) (xVal 4))))
 xNx))
 xNx)
 (xSeq (xIfS (xTest (xOp oLt (xVal 4) (xC (.int 1000000000))))
 (xSeq (xSet 4 (xOp oMod (xCB fInt (xCons (xOp oAdd (xOp oAdd (xOp oMul (xCB fInt (xCons (xVal 4) xNil)) (xC (.int 48271))) (xOp oMul (xC (.int 17)) (xVal 3))) (xC (.int 3))) xNil)) (xC (.int 2147483647))))
 (xSet 4 (xOp oMod (xCB fInt (xCons (xOp oAdd (xOp oMul (xCB fInt (xCons (xVal 4) xNil)) (xC (.int 2862933555777941757))) (xC (.int 3037000493))) xNil)) (xC (.int 18446744073709551557)))))
 xNx)
 (xDrop (xOwnM mApp 2 (xCons (xVal 4) xNil)))))))
 (xRetV 2)))
@[irreducible] def d__law_cells : Fn := runF true 5 b__law_cells
theorem e__law_cells : d__law_cells = runF true 5 b__law_cells := by unfold d__law_cells; rfl
def b__law_draw : EvS := (xSeq (xIfS (xAndT (xBorT (xTest (xOp oEq (xOp oIx (xVal 0) (xC (.int 0))) (xC (.int 0))))) (xBorT (xTest (xOp oGt (xCB fLen (xCons (xVal 0) xNil)) (xC (.int 1))))))
 (xDrop (xOwnM mPopAt 0 (xCons (xC (.int 0)) xNil)))
 xNx)
 (xSeq (xSet 2 (xBor (xOp oMod (xCB fInt (xCons (xOp oIx (xVal 0) (xC (.int 0))) xNil)) (xVal 1))))
 (xSeq (xSetIx 0 (xC (.int 0)) (xBor (xOp oFdv (xOp oIx (xVal 0) (xC (.int 0))) (xVal 1))))
 (xRet (xVal 2)))))
@[irreducible] def d__law_draw : Fn := runF false 3 b__law_draw
theorem e__law_draw : d__law_draw = runF false 3 b__law_draw := by unfold d__law_draw; rfl
def b__law_links : EvS := (xSeq (xIfS (xTest (xOp oEq (xVal 0) (xC (.str "A"))))
 (xRet (xLst (xCons (xTup (xCons (xC (.str "r")) (xCons (xLst (xCons (xC (.str "A")) (xCons (xC (.str "B")) xNil))) (xCons (xOp oIx (xVal 1) (xC (.int 0))) xNil)))) (xCons (xTup (xCons (xC (.str "l")) (xCons (xLst (xCons (xC (.str "A")) xNil)) (xCons (xC (.str "list")) xNil)))) xNil))))
 xNx)
 (xRet (xLst (xCons (xTup (xCons (xC (.str "p")) (xCons (xLst (xCons (xC (.str "A")) xNil)) (xCons (xOp oIx (xVal 1) (xC (.int 1))) xNil)))) (xCons (xTup (xCons (xC (.str "q")) (xCons (xLst (xCons (xC (.str "B")) xNil)) (xCons (xOp oIx (xVal 1) (xC (.int 2))) xNil)))) (xCons (xTup (xCons (xC (.str "m")) (xCons (xLst (xCons (xC (.str "A")) (xCons (xC (.str "B")) xNil))) (xCons (xC (.str "list")) xNil)))) xNil))))))
@[irreducible] def d__law_links : Fn := runF false 2 b__law_links
theorem e__law_links : d__law_links = runF false 2 b__law_links := by unfold d__law_links; rfl
def b__law_names : EvS := (xSeq (xIfS (xTest (xOp oEq (xVal 0) (xC (.str "A"))))
 (xRet (xLst (xCons (xC (.str "a")) (xCons (xC (.str "t")) (xCons (xC (.str "r")) (xCons (xC (.str "l")) xNil))))))
 xNx)
 (xRet (xLst (xCons (xC (.str "p")) (xCons (xC (.str "q")) (xCons (xC (.str "m")) xNil))))))
@[irreducible] def d__law_names : Fn := runF false 1 b__law_names
theorem e__law_names : d__law_names = runF false 1 b__law_names := by unfold d__law_names; rfl
def b__law_there : EvS := (xRet (xAndV (xOp oIsnt (xVal 2) (xC .non)) (xAndV (xOp (oDIn false) (xVal 2) (xVal 0)) (xOp (oOr (oIn false) (oInD false)) (xFld fc_kind "kind" (xOp oDGet (xVal 0) (xVal 2))) (xVal 1)))))
@[irreducible] def d__law_there : Fn := runF false 3 b__law_there
theorem e__law_there : d__law_there = runF false 3 b__law_there := by unfold d__law_there; rfl
def b_Thing___init__ : EvS := (xSeq (xFldS fc_kind "kind" 0 (xVal 1))
 (xFldS fc_contents "contents" 0 (xDcD (pSlot 2) .items (yTup 2 (yCons (yName 3) (yCons (yName 4) yNil))) xYes (xVal 3) (xCall 1 d_content_copy (gVal (xVal 4) gNil)) [3, 4])))
@[irreducible] def d_Thing___init__ : Fn := runF false 5 b_Thing___init__
theorem e_Thing___init__ : d_Thing___init__ = runF false 5 b_Thing___init__ := by unfold d_Thing___init__; rfl
def b_is_one_of : EvS := (xSeq (xSet 3 (xMeth "thing" 2 [(5, 21, d_PictureSource_thing)] (xVal 0) (gVal (xVal 1) gNil)))
 (xRet (xAndV (xOp oIsnt (xVal 3) (xC .non)) (xOp (oOr (oIn false) (oInD false)) (xFld fc_kind "kind" (xVal 3)) (xVal 2)))))
@[irreducible] def d_is_one_of : Fn := runF false 4 b_is_one_of
theorem e_is_one_of : d_is_one_of = runF false 4 b_is_one_of := by unfold d_is_one_of; rfl
def b_PictureSource_alike : EvS := (xRet (xLc (iSq (xMeth "numbers" 2 [(5, 22, d_PictureSource_numbers)] (xVal 0) (gVal (xVal 1) gNil))) (yName 4) (xTest (xCall 3 d_has_amounts (gVal (xOp oDGet (xFld fc_things "things" (xVal 0)) (xVal 4)) (gVal (xVal 2) (gVal (xVal 3) gNil))))) (xVal 4) [4]))
@[irreducible] def d_PictureSource_alike : Fn := runF false 5 b_PictureSource_alike
theorem e_PictureSource_alike : d_PictureSource_alike = runF false 5 b_PictureSource_alike := by unfold d_PictureSource_alike; rfl
def b__law_pick : EvS := (xRet (xOp oIx (xVal 1) (xCall 2 d__law_draw (gSlot 0 (gVal (xCB fLen (xCons (xVal 1) xNil)) gNil)))))
@[irreducible] def d__law_pick : Fn := runF false 2 b__law_pick
theorem e__law_pick : d__law_pick = runF false 2 b__law_pick := by unfold d__law_pick; rfl
def b__law_number : EvS := (xSeq (xSet 1 (xCall 2 d__law_draw (gSlot 0 (gVal (xC (.int 10)) gNil))))
 (xSeq (xIfS (xTest (xOp oEq (xVal 1) (xC (.int 0))))
 (xRet (xC .non))
 xNx)
 (xRet (xVal 1))))
@[irreducible] def d__law_number : Fn := runF false 2 b__law_number
theorem e__law_number : d__law_number = runF false 2 b__law_number := by unfold d__law_number; rfl
def b__law_list : EvS := (xSeq (xBox 1 (xLst xNil))
 (xSeq (xFor (iRg1 (xCons (xCall 2 d__law_draw (gSlot 0 (gVal (xC (.int 5)) gNil))) xNil)) (yName 2)
 (xSeq (xSet 3 (xOp oAdd (xC (.int 1)) (xCall 2 d__law_draw (gSlot 0 (gVal (xC (.int 9)) gNil)))))
 (xIfS (xBorT (xTest (xOp (oOr (oIn true) (oInD true)) (xVal 3) (xVal 1))))
 (xDrop (xOwnM mApp 1 (xCons (xVal 3) xNil)))
 xNx)))
 (xRet (xVar 1))))
@[irreducible] def d__law_list : Fn := runF false 4 b__law_list
theorem e__law_list : d__law_list = runF false 4 b__law_list := by unfold d__law_list; rfl
def b__law_told : EvS := (xSeq (xFor (iSq (xCall 2 d__law_links (gVal (xFld fc_kind "kind" (xVal 2)) (gVal (xVal 1) gNil)))) (yName 4)
 (xIfS (xTest (xOp oEq (xOp oIx (xVal 4) (xC (.int 0))) (xVal 3)))
 (xSeq (xIfS (xTest (xOp oEq (xOp oIx (xVal 4) (xC (.int 2))) (xC (.str "list"))))
 (xRet (xLc (iSq (xOp oDGet (xFld fc_contents "contents" (xVal 2)) (xVal 3))) (yName 5) (xTest (xCall 3 d__law_there (gVal (xVal 0) (gVal (xOp oIx (xVal 4) (xC (.int 1))) (gVal (xVal 5) gNil))))) (xVal 5) [5]))
 xNx)
 (xSeq (xIfS (xTest (xCall 3 d__law_there (gVal (xVal 0) (gVal (xOp oIx (xVal 4) (xC (.int 1))) (gVal (xOp oDGet (xFld fc_contents "contents" (xVal 2)) (xVal 3)) gNil)))))
 (xRet (xOp oDGet (xFld fc_contents "contents" (xVal 2)) (xVal 3)))
 xNx)
 (xRet (xC .non))))
 xNx))
 (xRet (xOp oDGet (xFld fc_contents "contents" (xVal 2)) (xVal 3))))
@[irreducible] def d__law_told : Fn := runF false 6 b__law_told
theorem e__law_told : d__law_told = runF false 6 b__law_told := by unfold d__law_told; rfl
def b_told_content : EvS := (xSeq (xIfS (xTest (xCall 1 d_is_list (gVal (xFld fc_shape "shape" (xVal 1)) gNil)))
 (xRet (xLc (iSq (xVal 2)) (yName 3) (xTest (xCall 3 d_is_one_of (gVal (xVal 0) (gVal (xVal 3) (gVal (xFld fc_kinds "kinds" (xFld fc_shape "shape" (xVal 1))) gNil))))) (xVal 3) [3]))
 xNx)
 (xSeq (xIfS (xTest (xCall 1 d_is_reference (gVal (xFld fc_shape "shape" (xVal 1)) gNil)))
 (xRet (xIf (xAndT (xTest (xOp oIsnt (xVal 2) (xC .non))) (xTest (xCall 3 d_is_one_of (gVal (xVal 0) (gVal (xVal 2) (gVal (xFld fc_kinds "kinds" (xFld fc_shape "shape" (xVal 1))) gNil)))))) (xVal 2) (xC .non)))
 xNx)
 (xRet (xVal 2))))
@[irreducible] def d_told_content : Fn := runF false 4 b_told_content
theorem e_told_content : d_told_content = runF false 4 b_told_content := by unfold d_told_content; rfl
def b__law_rules : EvS := (xRet (xLc (iRg1 (xCons (xC (.int 3)) xNil)) (yName 1) xYes (xCall 2 d__law_pick (gSlot 0 (gVal (xLst (xCons (xC (.str "clears")) (xCons (xC (.str "refuses")) (xCons (xC (.str "takes")) xNil)))) gNil))) [1]))
@[irreducible] def d__law_rules : Fn := runF false 2 b__law_rules
theorem e__law_rules : d__law_rules = runF false 2 b__law_rules := by unfold d__law_rules; rfl
def b__law_schema : EvS := (xSeq (xSet 2 (xMake 7 4 [] d_Kind___init__ (xCons (xC (.str "A")) (xCons (xLst (xCons (xMake 6 4 [] d_Field___init__ (xCons (xC (.str "a")) (xCons (xMake 0 3 [] d_IntSort___init__ (xCons (xC (.int 0)) (xCons (xC (.int 9)) xNil))) (xCons (xVal 1) xNil)))) (xCons (xMake 6 4 [.bl false] d_Field___init__ (xCons (xC (.str "t")) (xCons (xMake 1 3 [.non] d_TextSort___init__ (xCons (xC (.int 4)) xNil)) xNil))) (xCons (xMake 6 4 [.bl false] d_Field___init__ (xCons (xC (.str "r")) (xCons (xMake 2 3 [] d_RefSort___init__ (xCons (xLst (xCons (xC (.str "A")) (xCons (xC (.str "B")) xNil))) (xCons (xOp oIx (xVal 0) (xC (.int 0))) xNil))) xNil))) (xCons (xMake 6 4 [.bl false] d_Field___init__ (xCons (xC (.str "l")) (xCons (xMake 3 2 [] d_ListSort___init__ (xCons (xLst (xCons (xC (.str "A")) xNil)) xNil)) xNil))) xNil))))) (xCons (xLst (xCons (xLst (xCons (xC (.str "a")) (xCons (xC (.str "t")) xNil))) xNil)) xNil)))))
 (xSeq (xSet 3 (xMake 7 4 [] d_Kind___init__ (xCons (xC (.str "B")) (xCons (xLst (xCons (xMake 6 4 [] d_Field___init__ (xCons (xC (.str "p")) (xCons (xMake 2 3 [] d_RefSort___init__ (xCons (xLst (xCons (xC (.str "A")) xNil)) (xCons (xOp oIx (xVal 0) (xC (.int 1))) xNil))) (xCons (xVal 1) xNil)))) (xCons (xMake 6 4 [.bl false] d_Field___init__ (xCons (xC (.str "q")) (xCons (xMake 2 3 [] d_RefSort___init__ (xCons (xLst (xCons (xC (.str "B")) xNil)) (xCons (xOp oIx (xVal 0) (xC (.int 2))) xNil))) xNil))) (xCons (xMake 6 4 [.bl false] d_Field___init__ (xCons (xC (.str "m")) (xCons (xMake 3 2 [] d_ListSort___init__ (xCons (xLst (xCons (xC (.str "A")) (xCons (xC (.str "B")) xNil))) xNil)) xNil))) xNil)))) (xCons (xLst (xCons (xLst (xCons (xC (.str "q")) xNil)) xNil)) xNil)))))
 (xRet (xMake 8 2 [] d_Schema___init__ (xCons (xLst (xCons (xVal 2) (xCons (xVal 3) xNil))) xNil)))))
@[irreducible] def d__law_schema : Fn := runF false 4 b__law_schema
theorem e__law_schema : d__law_schema = runF false 4 b__law_schema := by unfold d__law_schema; rfl
def b__law_contents : EvS := (xSeq (xBox 2 xDNew)
 (xSeq (xIfS (xTest (xOp oEq (xVal 1) (xC (.str "A"))))
 (xSeq (xDPut 2 (xC (.str "a")) (xCall 2 d__law_pick (gSlot 0 (gVal (xLst (xCons (xC .non) (xCons (xC (.int 0)) (xCons (xC (.int 1)) (xCons (xC (.int 2)) (xCons (xC (.int 9)) xNil)))))) gNil))))
 (xSeq (xDPut 2 (xC (.str "t")) (xCall 2 d__law_pick (gSlot 0 (gVal (xLst (xCons (xC .non) (xCons (xC (.str "")) (xCons (xC (.str "b")) (xCons (xC (.str "ab")) xNil))))) gNil))))
 (xSeq (xDPut 2 (xC (.str "r")) (xCall 1 d__law_number (gSlot 0 gNil)))
 (xSeq (xDPut 2 (xC (.str "l")) (xCall 1 d__law_list (gSlot 0 gNil)))
 (xRet (xVar 2))))))
 xNx)
 (xSeq (xDPut 2 (xC (.str "p")) (xCall 1 d__law_number (gSlot 0 gNil)))
 (xSeq (xDPut 2 (xC (.str "q")) (xCall 1 d__law_number (gSlot 0 gNil)))
 (xSeq (xDPut 2 (xC (.str "m")) (xCall 1 d__law_list (gSlot 0 gNil)))
 (xRet (xVar 2)))))))
@[irreducible] def d__law_contents : Fn := runF false 3 b__law_contents
theorem e__law_contents : d__law_contents = runF false 3 b__law_contents := by unfold d__law_contents; rfl
def b__law_against : EvS := (xSeq (xSet 4 (xOp oDGet (xVal 0) (xVal 3)))
 (xSeq (xBox 5 (xLst xNil))
 (xSeq (xSet 6 (xC (.str "p")))
 (xSeq (xSet 7 (xLst (xCons (xC (.str "q")) xNil)))
 (xSeq (xIfS (xTest (xOp oEq (xFld fc_kind "kind" (xVal 4)) (xC (.str "A"))))
 (xSeq (xSet 6 (xC (.str "a")))
 (xSet 7 (xLst (xCons (xC (.str "a")) (xCons (xC (.str "t")) xNil)))))
 xNx)
 (xSeq (xIfS (xAndT (xTest (xVal 2)) (xTest (xOp oIs (xCall 4 d__law_told (gVal (xVal 0) (gVal (xVal 1) (gVal (xVal 4) (gVal (xVal 6) gNil))))) (xC .non))))
 (xDrop (xOwnM mApp 5 (xCons (xTup (xCons (xOp oAdd (xOp oAdd (xOp oAdd (xFld fc_kind "kind" (xVal 4)) (xC (.str "."))) (xVal 6)) (xC (.str " needed"))) (xCons (xLst (xCons (xVal 6) xNil)) xNil))) xNil)))
 xNx)
 (xSeq (xBox 8 (xLc (iSq (xVal 7)) (yName 10) xYes (xCall 4 d__law_told (gVal (xVal 0) (gVal (xVal 1) (gVal (xVal 4) (gVal (xVal 10) gNil))))) [10]))
 (xSeq (xForD (pSlot 0) .keys (yName 9)
 (xIfS (xAndT (xTest (xOp oNe (xVal 9) (xVal 3))) (xAndT (xTest (xOp oEq (xFld fc_kind "kind" (xOp oDGet (xVal 0) (xVal 9))) (xFld fc_kind "kind" (xVal 4)))) (xTest (xOp (oOr (oIn true) (oInD true)) (xC .non) (xVar 8)))))
 (xIfS (xTest (xOp oEq (xLc (iSq (xVal 7)) (yName 10) xYes (xCall 4 d__law_told (gVal (xVal 0) (gVal (xVal 1) (gVal (xOp oDGet (xVal 0) (xVal 9)) (gVal (xVal 10) gNil))))) [10]) (xVar 8)))
 (xSeq (xDrop (xOwnM mApp 5 (xCons (xTup (xCons (xOp oAdd (xOp oAdd (xFld fc_kind "kind" (xVal 4)) (xC (.str " key "))) (xJoin (xC (.str ", ")) (xVal 7))) (xCons (xVal 7) xNil))) xNil)))
 xBreak)
 xNx)
 xNx))
 (xRet (xVar 5))))))))))
@[irreducible] def d__law_against : Fn := runF false 11 b__law_against
theorem e__law_against : d__law_against = runF false 11 b__law_against := by unfold d__law_against; rfl
def b__law_size : EvS := (xSeq (xSet 2 (xC (.int 0)))
 (xSeq (xForD (pSlot 0) .keys (yName 3)
 (xSeq (xSet 2 (xOp oAdd (xVal 2) (xC (.int 1))))
 (xFor (iSq (xCall 1 d__law_names (gVal (xFld fc_kind "kind" (xOp oDGet (xVal 0) (xVal 3))) gNil))) (yName 4)
 (xSeq (xSet 5 (xCall 4 d__law_told (gVal (xVal 0) (gVal (xVal 1) (gVal (xOp oDGet (xVal 0) (xVal 3)) (gVal (xVal 4) gNil))))))
 (xSeq (xSet 2 (xOp oAdd (xVal 2) (xC (.int 1))))
 (xIfS (xOrT (xTest (xCB (fIs isOO isOB isBT) (xCons (xVal 5) (xCons (xC (.ty "str")) xNil)))) (xTest (xCB (fIs isOO isOB isBT) (xCons (xVal 5) (xCons (xC (.ty "list")) xNil)))))
 (xSet 2 (xOp oAdd (xVal 2) (xCB fLen (xCons (xVal 5) xNil))))
 xNx))))))
 (xRet (xVal 2))))
@[irreducible] def d__law_size : Fn := runF false 6 b__law_size
theorem e__law_size : d__law_size = runF false 6 b__law_size := by unfold d__law_size; rfl
def b_told_of : EvS := (xRet (xCall 3 d_told_content (gVal (xVal 0) (gVal (xMeth "field_of" 2 [(7, 27, d_Kind_field_of)] (xVal 1) (gVal (xVal 3) gNil)) (gVal (xOp oDGet (xFld fc_contents "contents" (xMeth "thing" 2 [(5, 21, d_PictureSource_thing)] (xVal 0) (gVal (xVal 2) gNil))) (xVal 3)) gNil)))))
@[irreducible] def d_told_of : Fn := runF false 4 b_told_of
theorem e_told_of : d_told_of = runF false 4 b_told_of := by unfold d_told_of; rfl
def b_content_size : EvS := (xSeq (xIfS (xTest (xCall 1 d_is_list (gVal (xFld fc_shape "shape" (xVal 1)) gNil)))
 (xRet (xOp oAdd (xC (.int 1)) (xCB fLen (xCons (xCall 3 d_told_content (gVal (xVal 0) (gVal (xVal 1) (gVal (xVal 2) gNil)))) xNil))))
 xNx)
 (xRet (xIf (xTest (xCB (fIs isOO isOB isBT) (xCons (xVal 2) (xCons (xC (.ty "str")) xNil)))) (xOp oAdd (xC (.int 1)) (xCB fLen (xCons (xVal 2) xNil))) (xC (.int 1)))))
@[irreducible] def d_content_size : Fn := runF false 3 b_content_size
theorem e_content_size : d_content_size = runF false 3 b_content_size := by unfold d_content_size; rfl
def b__law_picture : EvS := (xSeq (xBox 1 xDNew)
 (xSeq (xFor (iRg1 (xCons (xCall 2 d__law_draw (gSlot 0 (gVal (xC (.int 8)) gNil))) xNil)) (yName 2)
 (xSeq (xSet 3 (xOp oAdd (xC (.int 1)) (xCall 2 d__law_draw (gSlot 0 (gVal (xC (.int 9)) gNil)))))
 (xSeq (xSet 4 (xCall 2 d__law_pick (gSlot 0 (gVal (xLst (xCons (xC (.str "A")) (xCons (xC (.str "B")) xNil))) gNil))))
 (xDPut 1 (xVal 3) (xMake 4 3 [] d_Thing___init__ (xCons (xVal 4) (xCons (xCall 2 d__law_contents (gSlot 0 (gVal (xVal 4) gNil))) xNil)))))))
 (xRet (xVar 1))))
@[irreducible] def d__law_picture : Fn := runF false 5 b__law_picture
theorem e__law_picture : d__law_picture = runF false 5 b__law_picture := by unfold d__law_picture; rfl
def b__law_first : EvS := (xSeq (xFor (iSq (xVal 3)) (yName 4)
 (xIfS (xTest (xOp (oDIn false) (xFld fc_number "number" (xVal 4)) (xVal 0)))
 (xFor (iSq (xCall 4 d__law_against (gVal (xVal 0) (gVal (xVal 1) (gVal (xVal 2) (gVal (xFld fc_number "number" (xVal 4)) gNil)))))) (yTup 2 (yCons (yName 5) (yCons (yName 6) yNil)))
 (xIfS (xOrT (xTest (xFld fc_made "made" (xVal 4))) (xTest (xOp oGt (xCB fLen (xCons (xLc (iSq (xVal 6)) (yName 7) (xTest (xOp (oOr (oIn false) (oInD false)) (xVal 7) (xFld fc_names "names" (xVal 4)))) (xVal 7) [7]) xNil)) (xC (.int 0)))))
 (xRet (xTup (xCons (xFld fc_number "number" (xVal 4)) (xCons (xVal 5) xNil))))
 xNx))
 xNx))
 (xRet (xC .non)))
@[irreducible] def d__law_first : Fn := runF false 8 b__law_first
theorem e__law_first : d__law_first = runF false 8 b__law_first := by unfold d__law_first; rfl
def b_has_double : EvS := (xSeq (xBox 4 (xLc (iSq (xVal 3)) (yName 5) xYes (xCall 4 d_told_of (gVal (xVal 0) (gVal (xVal 1) (gVal (xVal 2) (gVal (xVal 5) gNil))))) [5]))
 (xSeq (xIfS (xTest (xOp (oOr (oIn false) (oInD false)) (xC .non) (xVar 4)))
 (xRet (xC (.bl false)))
 xNx)
 (xRet (xCB fAny (xCons (xLc (iSq (xMeth "alike" 4 [(5, 23, d_PictureSource_alike)] (xVal 0) (gVal (xFld fc_name "name" (xVal 1)) (gVal (xVal 3) (gVal (xVar 4) gNil))))) (yName 6) xYes (xOp oNe (xVal 6) (xVal 2)) [6]) xNil)))))
@[irreducible] def d_has_double : Fn := runF false 7 b_has_double
theorem e_has_double : d_has_double = runF false 7 b_has_double := by unfold d_has_double; rfl
def b_thing_size : EvS := (xSeq (xSet 3 (xFld fc_fields "fields" (xMeth "kind_of" 2 [(8, 30, d_Schema_kind_of)] (xVal 0) (gVal (xFld fc_kind "kind" (xVal 2)) gNil))))
 (xRet (xOp oAdd (xC (.int 1)) (xCB fSum (xCons (xLc (iSq (xVal 3)) (yName 4) xYes (xCall 3 d_content_size (gVal (xVal 1) (gVal (xVal 4) (gVal (xOp oDGet (xFld fc_contents "contents" (xVal 2)) (xFld fc_name "name" (xVal 4))) gNil)))) [4]) xNil)))))
@[irreducible] def d_thing_size : Fn := runF false 5 b_thing_size
theorem e_thing_size : d_thing_size = runF false 5 b_thing_size := by unfold d_thing_size; rfl
def b_against_fields : EvS := (xSeq (xSet 4 (xMake 5 2 [] d_PictureSource___init__ (xCons (xVal 1) xNil)))
 (xSeq (xSet 5 (xMeth "kind_of" 2 [(8, 30, d_Schema_kind_of)] (xVal 0) (gVal (xFld fc_kind "kind" (xOp oDGet (xVal 1) (xVal 2))) gNil)))
 (xSeq (xBox 6 (xLst xNil))
 (xSeq (xFor (iSq (xFld fc_fields "fields" (xVal 5))) (yName 7)
 (xIfS (xAndT (xTest (xFld fc_needed "needed" (xVal 7))) (xAndT (xTest (xOp (oOr (oIn false) (oInD false)) (xFld fc_name "name" (xVal 7)) (xVal 3))) (xTest (xOp oIs (xCall 4 d_told_of (gVal (xVal 4) (gVal (xVal 5) (gVal (xVal 2) (gVal (xFld fc_name "name" (xVal 7)) gNil))))) (xC .non)))))
 (xDrop (xOwnM mApp 6 (xCons (xCall 2 d_needed_constraint (gVal (xFld fc_name "name" (xVal 5)) (gVal (xFld fc_name "name" (xVal 7)) gNil))) xNil)))
 xNx))
 (xSeq (xFor (iSq (xFld fc_key_rows "key_rows" (xVal 5))) (yName 8)
 (xIfS (xAndT (xTest (xCB fAny (xCons (xLc (iSq (xVal 8)) (yName 9) xYes (xOp (oOr (oIn false) (oInD false)) (xVal 9) (xVal 3)) [9]) xNil))) (xTest (xCall 4 d_has_double (gVal (xVal 4) (gVal (xVal 5) (gVal (xVal 2) (gVal (xVal 8) gNil)))))))
 (xDrop (xOwnM mApp 6 (xCons (xCall 2 d_key_constraint (gVal (xFld fc_name "name" (xVal 5)) (gVal (xVal 8) gNil))) xNil)))
 xNx))
 (xRet (xVar 6)))))))
@[irreducible] def d_against_fields : Fn := runF false 10 b_against_fields
theorem e_against_fields : d_against_fields = runF false 10 b_against_fields := by unfold d_against_fields; rfl
def b_picture_size : EvS := (xSeq (xSet 2 (xMake 5 2 [] d_PictureSource___init__ (xCons (xVal 1) xNil)))
 (xRet (xCB fSum (xCons (xLcD (pSlot 1) .vals (yName 3) xYes (xCall 3 d_thing_size (gVal (xVal 0) (gVal (xVal 2) (gVal (xVal 3) gNil)))) [3]) xNil))))
@[irreducible] def d_picture_size : Fn := runF false 4 b_picture_size
theorem e_picture_size : d_picture_size = runF false 4 b_picture_size := by unfold d_picture_size; rfl
def b_constraints_against : EvS := (xSeq (xSet 3 (xMeth "kind_of" 2 [(8, 30, d_Schema_kind_of)] (xVal 0) (gVal (xFld fc_kind "kind" (xOp oDGet (xVal 1) (xVal 2))) gNil)))
 (xRet (xCall 4 d_against_fields (gVal (xVal 0) (gVal (xVal 1) (gVal (xVal 2) (gVal (xMeth "names" 1 [(7, 28, d_Kind_names), (8, 31, d_Schema_names)] (xVal 3) gNil) gNil)))))))
@[irreducible] def d_constraints_against : Fn := runF false 4 b_constraints_against
theorem e_constraints_against : d_constraints_against = runF false 4 b_constraints_against := by unfold d_constraints_against; rfl
def b_first_against : EvS := (xSeq (xFor (iSq (xVal 2)) (yName 3)
 (xIfS (xTest (xOp (oDIn false) (xFld fc_number "number" (xVal 3)) (xVal 1)))
 (xSeq (xSet 4 (xIf (xTest (xFld fc_made "made" (xVal 3))) (xMeth "names" 1 [(7, 28, d_Kind_names), (8, 31, d_Schema_names)] (xMeth "kind_of" 2 [(8, 30, d_Schema_kind_of)] (xVal 0) (gVal (xFld fc_kind "kind" (xOp oDGet (xVal 1) (xFld fc_number "number" (xVal 3)))) gNil)) gNil) (xFld fc_names "names" (xVal 3))))
 (xSeq (xSet 5 (xCall 4 d_against_fields (gVal (xVal 0) (gVal (xVal 1) (gVal (xFld fc_number "number" (xVal 3)) (gVal (xVal 4) gNil))))))
 (xIfS (xTest (xOp oGt (xCB fLen (xCons (xVal 5) xNil)) (xC (.int 0))))
 (xRet (xTup (xCons (xFld fc_number "number" (xVal 3)) (xCons (xOp oIx (xVal 5) (xC (.int 0))) xNil))))
 xNx)))
 xNx))
 (xRet (xC .non)))
@[irreducible] def d_first_against : Fn := runF false 6 b_first_against
theorem e_first_against : d_first_against = runF false 6 b_first_against := by unfold d_first_against; rfl
def b_law : EvS := (xSeq (xBox 1 (xCall 2 d__law_cells (gVal (xVal 0) (gVal (xC (.int 40)) gNil))))
 (xSeq (xSet 2 (xCall 1 d__law_rules (gSlot 1 gNil)))
 (xSeq (xSet 3 (xOp oEq (xCall 2 d__law_draw (gSlot 1 (gVal (xC (.int 2)) gNil))) (xC (.int 0))))
 (xSeq (xSet 4 (xCall 2 d__law_schema (gVal (xVal 2) (gVal (xVal 3) gNil))))
 (xSeq (xSet 5 (xCall 1 d__law_picture (gSlot 1 gNil)))
 (xSeq (xFor (iSq (xCB fSorted (xCons (xCB fListD (xCons (xVal 5) xNil)) xNil))) (yName 6)
 (xSeq (xBox 7 (xLc (iSq (xCall 4 d__law_against (gVal (xVal 5) (gVal (xVal 2) (gVal (xVal 3) (gVal (xVal 6) gNil)))))) (yName 11) xYes (xOp oIx (xVal 11) (xC (.int 0))) [11]))
 (xIfS (xTest (xOp oNe (xCall 3 d_constraints_against (gVal (xVal 4) (gVal (xVal 5) (gVal (xVal 6) gNil)))) (xVar 7)))
 (xRet (xC (.bl false)))
 xNx)))
 (xSeq (xBox 8 (xLst xNil))
 (xSeq (xFor (iRg2 (xCons (xC (.int 1)) (xCons (xC (.int 10)) xNil))) (yName 6)
 (xIfS (xAndT (xTest (xOp oEq (xCall 2 d__law_draw (gSlot 1 (gVal (xC (.int 2)) gNil))) (xC (.int 0)))) (xBorT (xTest (xOp oLt (xCB fLen (xCons (xVal 8) xNil)) (xC (.int 4))))))
 (xSeq (xSet 9 (xLst xNil))
 (xSeq (xIfS (xTest (xOp (oDIn false) (xVal 6) (xVal 5)))
 (xBox 9 (xLc (iSq (xCall 1 d__law_names (gVal (xFld fc_kind "kind" (xOp oDGet (xVal 5) (xVal 6))) gNil))) (yName 12) (xTest (xOp oEq (xCall 2 d__law_draw (gSlot 1 (gVal (xC (.int 2)) gNil))) (xC (.int 0)))) (xVal 12) [12]))
 xNx)
 (xDrop (xOwnM mApp 8 (xCons (xMake 9 5 [] d_Touch___init__ (xCons (xVal 6) (xCons (xOp oEq (xCall 2 d__law_draw (gSlot 1 (gVal (xC (.int 4)) gNil))) (xC (.int 0))) (xCons (xC (.bl false)) (xCons (xVar 9) xNil))))) xNil)))))
 xNx))
 (xSeq (xIfS (xTest (xOp oNe (xCall 3 d_first_against (gVal (xVal 4) (gVal (xVal 5) (gVal (xVar 8) gNil)))) (xCall 4 d__law_first (gVal (xVal 5) (gVal (xVal 2) (gVal (xVal 3) (gVal (xVar 8) gNil)))))))
 (xRet (xC (.bl false)))
 xNx)
 (xSeq (xSet 10 (xCall 2 d_picture_size (gVal (xVal 4) (gVal (xVal 5) gNil))))
 (xRet (xAndV (xCB (fIs isOO isOB isBT) (xCons (xVal 10) (xCons (xC (.ty "int")) xNil))) (xOp oEq (xVal 10) (xCall 2 d__law_size (gVal (xVal 5) (gVal (xVal 2) gNil))))))))))))))))
@[irreducible] def d_law : Fn := runF false 13 b_law
theorem e_law : d_law = runF false 13 b_law := by unfold d_law; rfl
end
end K46
namespace K46
open PySem PySem.Spec PyProof.Rows L2
open Rn
set_option autoImplicit false
set_option maxHeartbeats 0
noncomputable section
abbrev RR : PySem.W.OpenRow := PySem.W.OpenLaw.row PySem.Challenge.rw_oneheap_k46_constraints_and_sizes
def o11_1 (P : Params) : Obj := Obj.mk (Value.type "tuple") .none (Data.seq #[]) #[]
def o12_1 (P : Params) : Obj := Obj.mk Value.none .none (Data.fields #[]) #[]
def o13_1 (P : Params) : Obj := Obj.mk (Value.type "code") .none (Data.fields #[Value.str (Str.ofString "<module>") 182, Value.str (Str.ofString "<module>") 183, Value.str (Str.ofString "/claim/cut.py") 184, Value.int 1 0, Value.int 0 0, Value.int 0 0, Value.int 0 0, Value.int 0 0, Value.ref 11, Value.bool false, Value.int 181 0, Value.ref 12, Value.none, Value.none, Value.none, Value.none, Value.int 185 0, Value.int 1 0, Value.str (Str.ofString "/claim/cut.py") 186]) #[]
def o14_1 (P : Params) : Obj := Obj.mk (Value.type "frame") .none Data.plain #[.some (Value.ref 13), .some (Value.ref 3), .some (Value.ref 3), .none, .some (Value.str (Str.ofString "__main__") 164), .none, .some (Value.ref 0)]
def tr1 (P : Params) : PySem.W.BT := (.node (PySem.W.boot_o_0 P) (.node (PySem.W.boot_o_1 P) (.node (PySem.W.boot_o_3 P) (.node (PySem.W.boot_o_7 P) .nil .nil) (.node (o11_1 P) .nil .nil)) (.node (PySem.W.boot_o_5 P) (.node (PySem.W.boot_o_9 P) .nil .nil) (.node (o13_1 P) .nil .nil))) (.node (PySem.W.boot_o_2 P) (.node (PySem.W.boot_o_4 P) (.node (PySem.W.boot_o_8 P) .nil .nil) (.node (o12_1 P) .nil .nil)) (.node (PySem.W.boot_o_6 P) (.node (PySem.W.boot_o_10 P) .nil .nil) (.node (o14_1 P) .nil .nil))))
def sT1 (w : World) (os : OsState) : PySem.W.SharedT := ⟨tr1 w.params, 15, (Life.mk [] [] [] 0 [] [] false #[] [] 0 false false false 0 [2000, 10, 10] false 0 true [] [] 0 false), #[], (Drawn.mk 0 0 0 0), 187, os⟩
def sT2 (w : World) (os : OsState) : PySem.W.SharedT := ⟨tr1 w.params, 15, (Life.mk [] [] [] 0 [] [] false #[] [] 0 false false false 0 [2000, 10, 10] false 0 true [] [] 0 false), #[], (Drawn.mk 0 0 0 0), 187, os⟩
def o3_3 (P : Params) : Obj := Obj.mk (Value.type "dict") .none (Data.dict #[DictEntry.mk (PyData.keyHash P (Str.ofString "__name__")) (Value.str (Str.ofString "__name__") 165) (Value.str (Str.ofString "oneheap.objects.source") 497), DictEntry.mk (PyData.keyHash P (Str.ofString "__doc__")) (Value.str (Str.ofString "__doc__") 166) Value.none, DictEntry.mk (PyData.keyHash P (Str.ofString "__package__")) (Value.str (Str.ofString "__package__") 167) Value.none, DictEntry.mk (PyData.keyHash P (Str.ofString "__loader__")) (Value.str (Str.ofString "__loader__") 168) (Value.builtin "__main__.__loader__#opaque"), DictEntry.mk (PyData.keyHash P (Str.ofString "__spec__")) (Value.str (Str.ofString "__spec__") 169) Value.none, DictEntry.mk (PyData.keyHash P (Str.ofString "__annotations__")) (Value.str (Str.ofString "__annotations__") 170) (Value.ref 6), DictEntry.mk (PyData.keyHash P (Str.ofString "__builtins__")) (Value.str (Str.ofString "__builtins__") 171) (Value.ref 4), DictEntry.mk (PyData.keyHash P (Str.ofString "__file__")) (Value.str (Str.ofString "__file__") 173) (Value.str (Str.ofString "/claim/cut.py") 172), DictEntry.mk (PyData.keyHash P (Str.ofString "__cached__")) (Value.str (Str.ofString "__cached__") 174) Value.none, DictEntry.mk (PyData.keyHash P (Str.ofString "_wall")) (Value.str (Str.ofString "_wall") 193) (Value.ref 21), DictEntry.mk (PyData.keyHash P (Str.ofString "IntSort")) (Value.str (Str.ofString "IntSort") 250) (Value.ref 59), DictEntry.mk (PyData.keyHash P (Str.ofString "TextSort")) (Value.str (Str.ofString "TextSort") 305) (Value.ref 102), DictEntry.mk (PyData.keyHash P (Str.ofString "RefSort")) (Value.str (Str.ofString "RefSort") 360) (Value.ref 144), DictEntry.mk (PyData.keyHash P (Str.ofString "ListSort")) (Value.str (Str.ofString "ListSort") 413) (Value.ref 186), DictEntry.mk (PyData.keyHash P (Str.ofString "is_reference")) (Value.str (Str.ofString "is_reference") 420) (Value.ref 197), DictEntry.mk (PyData.keyHash P (Str.ofString "is_list")) (Value.str (Str.ofString "is_list") 427) (Value.ref 204), DictEntry.mk (PyData.keyHash P (Str.ofString "Thing")) (Value.str (Str.ofString "Thing") 473) (Value.ref 233), DictEntry.mk (PyData.keyHash P (Str.ofString "content_copy")) (Value.str (Str.ofString "content_copy") 480) (Value.ref 244), DictEntry.mk (PyData.keyHash P (Str.ofString "told_content")) (Value.str (Str.ofString "told_content") 486) (Value.ref 249), DictEntry.mk (PyData.keyHash P (Str.ofString "is_one_of")) (Value.str (Str.ofString "is_one_of") 496) (Value.ref 256), DictEntry.mk (PyData.keyHash P (Str.ofString "PictureSource")) (Value.str (Str.ofString "PictureSource") 557) (Value.ref 297)] 21) #[]
def o12_3 (P : Params) : Obj := Obj.mk Value.none .none (Data.fields #[Value.int 1 0, Value.int 0 0, Value.ref 20, Value.int 5 0, Value.int 0 0, Value.ref 27, Value.int 19 0, Value.int 0 0, Value.ref 69, Value.int 33 0, Value.int 0 0, Value.ref 112, Value.int 47 0, Value.int 0 0, Value.ref 154, Value.int 60 0, Value.int 0 0, Value.ref 196, Value.int 62 0, Value.int 0 0, Value.ref 203, Value.int 65 0, Value.int 0 0, Value.ref 210, Value.int 76 0, Value.int 0 0, Value.ref 243, Value.int 78 0, Value.int 0 0, Value.ref 248, Value.int 84 0, Value.int 0 0, Value.ref 255, Value.int 88 0, Value.int 0 0, Value.ref 262]) #[]
def o15_3 (P : Params) : Obj := Obj.mk (Value.type "tuple") .none (Data.seq #[]) #[]
def o16_3 (P : Params) : Obj := Obj.mk Value.none .none (Data.fields #[]) #[]
def o17_3 (P : Params) : Obj := Obj.mk (Value.type "tuple") .none (Data.seq #[Value.str (Str.ofString "k") 190]) #[]
def o18_3 (P : Params) : Obj := Obj.mk (Value.type "tuple") .none (Data.seq #[]) #[]
def o19_3 (P : Params) : Obj := Obj.mk Value.none .none (Data.func (FuncData.mk (Str.ofString "_wall") (Str.ofString "_wall") (defArgs (topS 0)) (.stmts (defBody (topS 0))) (defScope (topS 0)) 0 [] Value.none Value.none Value.none Value.none .none Value.none Value.none 0)) #[]
def o20_3 (P : Params) : Obj := Obj.mk (Value.type "code") .none (Data.fields #[Value.str (Str.ofString "_wall") 187, Value.str (Str.ofString "_wall") 188, Value.str (Str.ofString "/claim/cut.py") 189, Value.int 1 0, Value.int 1 0, Value.int 0 0, Value.int 0 0, Value.int 3 0, Value.ref 15, Value.bool true, Value.int 181 0, Value.ref 16, Value.none, Value.ref 17, Value.ref 18, Value.ref 19, Value.int 191 0, Value.int 1 0, Value.str (Str.ofString "/claim/cut.py") 192]) #[]
def o21_3 (P : Params) : Obj := Obj.mk (Value.type "function") .none (Data.func (FuncData.mk (Str.ofString "_wall") (Str.ofString "_wall") (defArgs (topS 0)) (.stmts (defBody (topS 0))) (defScope (topS 0)) 3 [] Value.none Value.none Value.none (Value.str (Str.ofString "__main__") 164) .none (Value.ref 20) Value.none 0)) #[]
def o22_3 (P : Params) : Obj := Obj.mk (Value.type "tuple") .none (Data.seq #[]) #[]
def o23_3 (P : Params) : Obj := Obj.mk (Value.type "builtin_function_or_method") .none (Data.fields #[Value.builtin "type.__prepare__", Value.type "type"]) #[]
def o24_3 (P : Params) : Obj := Obj.mk (Value.type "dict") .none (Data.dict #[DictEntry.mk (PyData.keyHash P (Str.ofString "__module__")) (Value.str (Str.ofString "__module__") 203) (Value.str (Str.ofString "oneheap.schemas.sorts") 194), DictEntry.mk (PyData.keyHash P (Str.ofString "__qualname__")) (Value.str (Str.ofString "__qualname__") 205) (Value.str (Str.ofString "IntSort") 204), DictEntry.mk (PyData.keyHash P (Str.ofString "__firstlineno__")) (Value.str (Str.ofString "__firstlineno__") 207) (Value.int 5 206), DictEntry.mk (PyData.keyHash P (Str.ofString "__init__")) (Value.str (Str.ofString "__init__") 216) (Value.ref 35), DictEntry.mk (PyData.keyHash P (Str.ofString "holds")) (Value.str (Str.ofString "holds") 224) (Value.ref 42), DictEntry.mk (PyData.keyHash P (Str.ofString "written")) (Value.str (Str.ofString "written") 231) (Value.ref 49), DictEntry.mk (PyData.keyHash P (Str.ofString "__eq__")) (Value.str (Str.ofString "__eq__") 239) (Value.ref 56), DictEntry.mk (PyData.keyHash P (Str.ofString "__static_attributes__")) (Value.str (Str.ofString "__static_attributes__") 242) (Value.ref 57)] 8) #[]
def o25_3 (P : Params) : Obj := Obj.mk (Value.type "tuple") .none (Data.seq #[]) #[]
def o26_3 (P : Params) : Obj := Obj.mk Value.none .none (Data.fields #[Value.int 7 0, Value.int 4 0, Value.ref 34, Value.int 11 0, Value.int 4 0, Value.ref 41, Value.int 14 0, Value.int 4 0, Value.ref 48, Value.int 17 0, Value.int 4 0, Value.ref 55]) #[]
def o27_3 (P : Params) : Obj := Obj.mk (Value.type "code") .none (Data.fields #[Value.str (Str.ofString "IntSort") 198, Value.str (Str.ofString "IntSort") 199, Value.str (Str.ofString "/claim/cut.py") 200, Value.int 5 0, Value.int 0 0, Value.int 0 0, Value.int 0 0, Value.int 0 0, Value.ref 25, Value.bool false, Value.int 181 0, Value.ref 26, Value.none, Value.none, Value.none, Value.none, Value.int 201 0, Value.int 5 0, Value.str (Str.ofString "/claim/cut.py") 202]) #[]
def o28_3 (P : Params) : Obj := Obj.mk (Value.type "frame") .none Data.plain #[.some (Value.ref 27), .some (Value.ref 3), .some (Value.ref 24), .none, .some (Value.str (Str.ofString "oneheap.schemas.sorts") 194), .none, .some (Value.ref 0)]
def o29_3 (P : Params) : Obj := Obj.mk (Value.type "tuple") .none (Data.seq #[]) #[]
def o30_3 (P : Params) : Obj := Obj.mk Value.none .none (Data.fields #[]) #[]
def o31_3 (P : Params) : Obj := Obj.mk (Value.type "tuple") .none (Data.seq #[Value.str (Str.ofString "self") 211, Value.str (Str.ofString "low") 212, Value.str (Str.ofString "high") 213]) #[]
def o32_3 (P : Params) : Obj := Obj.mk (Value.type "tuple") .none (Data.seq #[]) #[]
def o33_3 (P : Params) : Obj := Obj.mk Value.none .none (Data.func (FuncData.mk (Str.ofString "__init__") (Str.ofString "IntSort.__init__") (defArgs (inClass (topS 2) 0)) (.stmts (defBody (inClass (topS 2) 0))) (defScope (inClass (topS 2) 0)) 0 [] Value.none Value.none Value.none Value.none .none Value.none Value.none 0)) #[]
def o34_3 (P : Params) : Obj := Obj.mk (Value.type "code") .none (Data.fields #[Value.str (Str.ofString "__init__") 208, Value.str (Str.ofString "IntSort.__init__") 209, Value.str (Str.ofString "/claim/cut.py") 210, Value.int 7 0, Value.int 3 0, Value.int 0 0, Value.int 0 0, Value.int 3 0, Value.ref 29, Value.bool true, Value.int 181 0, Value.ref 30, Value.none, Value.ref 31, Value.ref 32, Value.ref 33, Value.int 214 0, Value.int 7 0, Value.str (Str.ofString "/claim/cut.py") 215]) #[]
def o35_3 (P : Params) : Obj := Obj.mk (Value.type "function") .none (Data.func (FuncData.mk (Str.ofString "__init__") (Str.ofString "IntSort.__init__") (defArgs (inClass (topS 2) 0)) (.stmts (defBody (inClass (topS 2) 0))) (defScope (inClass (topS 2) 0)) 3 [] Value.none Value.none Value.none (Value.str (Str.ofString "oneheap.schemas.sorts") 194) .none (Value.ref 34) Value.none 0)) #[]
def o36_3 (P : Params) : Obj := Obj.mk (Value.type "tuple") .none (Data.seq #[]) #[]
def o37_3 (P : Params) : Obj := Obj.mk Value.none .none (Data.fields #[]) #[]
def o38_3 (P : Params) : Obj := Obj.mk (Value.type "tuple") .none (Data.seq #[Value.str (Str.ofString "self") 220, Value.str (Str.ofString "value") 221]) #[]
def o39_3 (P : Params) : Obj := Obj.mk (Value.type "tuple") .none (Data.seq #[]) #[]
def o40_3 (P : Params) : Obj := Obj.mk Value.none .none (Data.func (FuncData.mk (Str.ofString "holds") (Str.ofString "IntSort.holds") (defArgs (inClass (topS 2) 1)) (.stmts (defBody (inClass (topS 2) 1))) (defScope (inClass (topS 2) 1)) 0 [] Value.none Value.none Value.none Value.none .none Value.none Value.none 0)) #[]
def o41_3 (P : Params) : Obj := Obj.mk (Value.type "code") .none (Data.fields #[Value.str (Str.ofString "holds") 217, Value.str (Str.ofString "IntSort.holds") 218, Value.str (Str.ofString "/claim/cut.py") 219, Value.int 11 0, Value.int 2 0, Value.int 0 0, Value.int 0 0, Value.int 3 0, Value.ref 36, Value.bool true, Value.int 181 0, Value.ref 37, Value.none, Value.ref 38, Value.ref 39, Value.ref 40, Value.int 222 0, Value.int 11 0, Value.str (Str.ofString "/claim/cut.py") 223]) #[]
def o42_3 (P : Params) : Obj := Obj.mk (Value.type "function") .none (Data.func (FuncData.mk (Str.ofString "holds") (Str.ofString "IntSort.holds") (defArgs (inClass (topS 2) 1)) (.stmts (defBody (inClass (topS 2) 1))) (defScope (inClass (topS 2) 1)) 3 [] Value.none Value.none Value.none (Value.str (Str.ofString "oneheap.schemas.sorts") 194) .none (Value.ref 41) Value.none 0)) #[]
def o43_3 (P : Params) : Obj := Obj.mk (Value.type "tuple") .none (Data.seq #[]) #[]
def o44_3 (P : Params) : Obj := Obj.mk Value.none .none (Data.fields #[]) #[]
def o45_3 (P : Params) : Obj := Obj.mk (Value.type "tuple") .none (Data.seq #[Value.str (Str.ofString "self") 228]) #[]
def o46_3 (P : Params) : Obj := Obj.mk (Value.type "tuple") .none (Data.seq #[]) #[]
def o47_3 (P : Params) : Obj := Obj.mk Value.none .none (Data.func (FuncData.mk (Str.ofString "written") (Str.ofString "IntSort.written") (defArgs (inClass (topS 2) 2)) (.stmts (defBody (inClass (topS 2) 2))) (defScope (inClass (topS 2) 2)) 0 [] Value.none Value.none Value.none Value.none .none Value.none Value.none 0)) #[]
def o48_3 (P : Params) : Obj := Obj.mk (Value.type "code") .none (Data.fields #[Value.str (Str.ofString "written") 225, Value.str (Str.ofString "IntSort.written") 226, Value.str (Str.ofString "/claim/cut.py") 227, Value.int 14 0, Value.int 1 0, Value.int 0 0, Value.int 0 0, Value.int 3 0, Value.ref 43, Value.bool true, Value.int 181 0, Value.ref 44, Value.none, Value.ref 45, Value.ref 46, Value.ref 47, Value.int 229 0, Value.int 14 0, Value.str (Str.ofString "/claim/cut.py") 230]) #[]
def o49_3 (P : Params) : Obj := Obj.mk (Value.type "function") .none (Data.func (FuncData.mk (Str.ofString "written") (Str.ofString "IntSort.written") (defArgs (inClass (topS 2) 2)) (.stmts (defBody (inClass (topS 2) 2))) (defScope (inClass (topS 2) 2)) 3 [] Value.none Value.none Value.none (Value.str (Str.ofString "oneheap.schemas.sorts") 194) .none (Value.ref 48) Value.none 0)) #[]
def o50_3 (P : Params) : Obj := Obj.mk (Value.type "tuple") .none (Data.seq #[]) #[]
def o51_3 (P : Params) : Obj := Obj.mk Value.none .none (Data.fields #[]) #[]
def o52_3 (P : Params) : Obj := Obj.mk (Value.type "tuple") .none (Data.seq #[Value.str (Str.ofString "self") 235, Value.str (Str.ofString "other") 236]) #[]
def o53_3 (P : Params) : Obj := Obj.mk (Value.type "tuple") .none (Data.seq #[]) #[]
def o54_3 (P : Params) : Obj := Obj.mk Value.none .none (Data.func (FuncData.mk (Str.ofString "__eq__") (Str.ofString "IntSort.__eq__") (defArgs (inClass (topS 2) 3)) (.stmts (defBody (inClass (topS 2) 3))) (defScope (inClass (topS 2) 3)) 0 [] Value.none Value.none Value.none Value.none .none Value.none Value.none 0)) #[]
def o55_3 (P : Params) : Obj := Obj.mk (Value.type "code") .none (Data.fields #[Value.str (Str.ofString "__eq__") 232, Value.str (Str.ofString "IntSort.__eq__") 233, Value.str (Str.ofString "/claim/cut.py") 234, Value.int 17 0, Value.int 2 0, Value.int 0 0, Value.int 0 0, Value.int 3 0, Value.ref 50, Value.bool true, Value.int 181 0, Value.ref 51, Value.none, Value.ref 52, Value.ref 53, Value.ref 54, Value.int 237 0, Value.int 17 0, Value.str (Str.ofString "/claim/cut.py") 238]) #[]
def o56_3 (P : Params) : Obj := Obj.mk (Value.type "function") .none (Data.func (FuncData.mk (Str.ofString "__eq__") (Str.ofString "IntSort.__eq__") (defArgs (inClass (topS 2) 3)) (.stmts (defBody (inClass (topS 2) 3))) (defScope (inClass (topS 2) 3)) 3 [] Value.none Value.none Value.none (Value.str (Str.ofString "oneheap.schemas.sorts") 194) .none (Value.ref 55) Value.none 0)) #[]
def o57_3 (P : Params) : Obj := Obj.mk (Value.type "tuple") .none (Data.seq #[Value.str (Str.ofString "high") 240, Value.str (Str.ofString "low") 241]) #[]
def o58_3 (P : Params) : Obj := Obj.mk (Value.type "dict") .none (Data.dict #[DictEntry.mk (PyData.keyHash P (Str.ofString "__module__")) (Value.str (Str.ofString "__module__") 203) (Value.str (Str.ofString "oneheap.schemas.sorts") 194), DictEntry.mk (PyData.keyHash P (Str.ofString "__firstlineno__")) (Value.str (Str.ofString "__firstlineno__") 207) (Value.int 5 206), DictEntry.mk (PyData.keyHash P (Str.ofString "__init__")) (Value.str (Str.ofString "__init__") 216) (Value.ref 35), DictEntry.mk (PyData.keyHash P (Str.ofString "holds")) (Value.str (Str.ofString "holds") 224) (Value.ref 42), DictEntry.mk (PyData.keyHash P (Str.ofString "written")) (Value.str (Str.ofString "written") 231) (Value.ref 49), DictEntry.mk (PyData.keyHash P (Str.ofString "__eq__")) (Value.str (Str.ofString "__eq__") 239) (Value.ref 56), DictEntry.mk (PyData.keyHash P (Str.ofString "__static_attributes__")) (Value.str (Str.ofString "__static_attributes__") 242) (Value.ref 57), DictEntry.mk (PyData.keyHash P (Str.ofString "__dict__")) (Value.str (Str.ofString "__dict__") 244) (Value.ref 60), DictEntry.mk (PyData.keyHash P (Str.ofString "__weakref__")) (Value.str (Str.ofString "__weakref__") 246) (Value.ref 61), DictEntry.mk (PyData.keyHash P (Str.ofString "__doc__")) (Value.str (Str.ofString "__doc__") 247) Value.none, DictEntry.mk (PyData.keyHash P (Str.ofString "__hash__")) (Value.str (Str.ofString "__hash__") 248) Value.none] 5) #[]
def o59_3 (P : Params) : Obj := Obj.mk (Value.type "type") .none (Data.cls (ClassData.mk (Str.ofString "IntSort") [Value.type "object"] [Value.ref 59, Value.type "object"] 58 (Str.ofString "IntSort") true [] [] false .none false)) #[.none, .none, .some (Value.str (Str.ofString "IntSort") 196), .some (Value.str (Str.ofString "IntSort") 204), .some (Value.builtin "object.__new__"), .some (Value.bool true)]
def o60_3 (P : Params) : Obj := Obj.mk (Value.type "getset_descriptor") .none (Data.fields #[Value.str (Str.ofString "__dict__") 243, Value.ref 59, Value.builtin "function.__dict__", Value.builtin "function.__dict__#set"]) #[]
def o61_3 (P : Params) : Obj := Obj.mk (Value.type "getset_descriptor") .none (Data.fields #[Value.str (Str.ofString "__weakref__") 245, Value.ref 59, Value.builtin "ExceptionGroup.__weakref__", Value.none]) #[]
def o62_3 (P : Params) : Obj := Obj.mk (Value.type "super") .none (Data.fields #[Value.ref 59, Value.ref 59, Value.ref 59]) #[]
def o63_3 (P : Params) : Obj := Obj.mk (Value.type "builtin_function_or_method") .none (Data.fields #[Value.builtin "object.__init_subclass__", Value.ref 59]) #[]
def o64_3 (P : Params) : Obj := Obj.mk (Value.type "tuple") .none (Data.seq #[]) #[]
def o65_3 (P : Params) : Obj := Obj.mk (Value.type "builtin_function_or_method") .none (Data.fields #[Value.builtin "type.__prepare__", Value.type "type"]) #[]
def o66_3 (P : Params) : Obj := Obj.mk (Value.type "dict") .none (Data.dict #[DictEntry.mk (PyData.keyHash P (Str.ofString "__module__")) (Value.str (Str.ofString "__module__") 258) (Value.str (Str.ofString "oneheap.schemas.sorts") 194), DictEntry.mk (PyData.keyHash P (Str.ofString "__qualname__")) (Value.str (Str.ofString "__qualname__") 260) (Value.str (Str.ofString "TextSort") 259), DictEntry.mk (PyData.keyHash P (Str.ofString "__firstlineno__")) (Value.str (Str.ofString "__firstlineno__") 262) (Value.int 19 261), DictEntry.mk (PyData.keyHash P (Str.ofString "__init__")) (Value.str (Str.ofString "__init__") 271) (Value.ref 78), DictEntry.mk (PyData.keyHash P (Str.ofString "holds")) (Value.str (Str.ofString "holds") 279) (Value.ref 85), DictEntry.mk (PyData.keyHash P (Str.ofString "written")) (Value.str (Str.ofString "written") 286) (Value.ref 92), DictEntry.mk (PyData.keyHash P (Str.ofString "__eq__")) (Value.str (Str.ofString "__eq__") 294) (Value.ref 99), DictEntry.mk (PyData.keyHash P (Str.ofString "__static_attributes__")) (Value.str (Str.ofString "__static_attributes__") 297) (Value.ref 100)] 8) #[]
def o67_3 (P : Params) : Obj := Obj.mk (Value.type "tuple") .none (Data.seq #[]) #[]
def o68_3 (P : Params) : Obj := Obj.mk Value.none .none (Data.fields #[Value.int 21 0, Value.int 4 0, Value.ref 77, Value.int 25 0, Value.int 4 0, Value.ref 84, Value.int 28 0, Value.int 4 0, Value.ref 91, Value.int 31 0, Value.int 4 0, Value.ref 98]) #[]
def o69_3 (P : Params) : Obj := Obj.mk (Value.type "code") .none (Data.fields #[Value.str (Str.ofString "TextSort") 253, Value.str (Str.ofString "TextSort") 254, Value.str (Str.ofString "/claim/cut.py") 255, Value.int 19 0, Value.int 0 0, Value.int 0 0, Value.int 0 0, Value.int 0 0, Value.ref 67, Value.bool false, Value.int 181 0, Value.ref 68, Value.none, Value.none, Value.none, Value.none, Value.int 256 0, Value.int 19 0, Value.str (Str.ofString "/claim/cut.py") 257]) #[]
def o70_3 (P : Params) : Obj := Obj.mk (Value.type "frame") .none Data.plain #[.some (Value.ref 69), .some (Value.ref 3), .some (Value.ref 66), .none, .some (Value.str (Str.ofString "oneheap.schemas.sorts") 194), .none, .some (Value.ref 0)]
def o71_3 (P : Params) : Obj := Obj.mk (Value.type "tuple") .none (Data.seq #[Value.none]) #[]
def o72_3 (P : Params) : Obj := Obj.mk (Value.type "tuple") .none (Data.seq #[]) #[]
def o73_3 (P : Params) : Obj := Obj.mk Value.none .none (Data.fields #[]) #[]
def o74_3 (P : Params) : Obj := Obj.mk (Value.type "tuple") .none (Data.seq #[Value.str (Str.ofString "self") 266, Value.str (Str.ofString "longest") 267, Value.str (Str.ofString "without") 268]) #[]
def o75_3 (P : Params) : Obj := Obj.mk (Value.type "tuple") .none (Data.seq #[]) #[]
def o76_3 (P : Params) : Obj := Obj.mk Value.none .none (Data.func (FuncData.mk (Str.ofString "__init__") (Str.ofString "TextSort.__init__") (defArgs (inClass (topS 3) 0)) (.stmts (defBody (inClass (topS 3) 0))) (defScope (inClass (topS 3) 0)) 0 [] Value.none Value.none Value.none Value.none .none Value.none Value.none 0)) #[]
def o77_3 (P : Params) : Obj := Obj.mk (Value.type "code") .none (Data.fields #[Value.str (Str.ofString "__init__") 263, Value.str (Str.ofString "TextSort.__init__") 264, Value.str (Str.ofString "/claim/cut.py") 265, Value.int 21 0, Value.int 3 0, Value.int 0 0, Value.int 0 0, Value.int 3 0, Value.ref 72, Value.bool true, Value.int 181 0, Value.ref 73, Value.none, Value.ref 74, Value.ref 75, Value.ref 76, Value.int 269 0, Value.int 21 0, Value.str (Str.ofString "/claim/cut.py") 270]) #[]
def o78_3 (P : Params) : Obj := Obj.mk (Value.type "function") .none (Data.func (FuncData.mk (Str.ofString "__init__") (Str.ofString "TextSort.__init__") (defArgs (inClass (topS 3) 0)) (.stmts (defBody (inClass (topS 3) 0))) (defScope (inClass (topS 3) 0)) 3 [] (Value.ref 71) Value.none Value.none (Value.str (Str.ofString "oneheap.schemas.sorts") 194) .none (Value.ref 77) Value.none 0)) #[]
def o79_3 (P : Params) : Obj := Obj.mk (Value.type "tuple") .none (Data.seq #[]) #[]
def o80_3 (P : Params) : Obj := Obj.mk Value.none .none (Data.fields #[]) #[]
def o81_3 (P : Params) : Obj := Obj.mk (Value.type "tuple") .none (Data.seq #[Value.str (Str.ofString "self") 275, Value.str (Str.ofString "value") 276]) #[]
def o82_3 (P : Params) : Obj := Obj.mk (Value.type "tuple") .none (Data.seq #[]) #[]
def o83_3 (P : Params) : Obj := Obj.mk Value.none .none (Data.func (FuncData.mk (Str.ofString "holds") (Str.ofString "TextSort.holds") (defArgs (inClass (topS 3) 1)) (.stmts (defBody (inClass (topS 3) 1))) (defScope (inClass (topS 3) 1)) 0 [] Value.none Value.none Value.none Value.none .none Value.none Value.none 0)) #[]
def o84_3 (P : Params) : Obj := Obj.mk (Value.type "code") .none (Data.fields #[Value.str (Str.ofString "holds") 272, Value.str (Str.ofString "TextSort.holds") 273, Value.str (Str.ofString "/claim/cut.py") 274, Value.int 25 0, Value.int 2 0, Value.int 0 0, Value.int 0 0, Value.int 3 0, Value.ref 79, Value.bool true, Value.int 181 0, Value.ref 80, Value.none, Value.ref 81, Value.ref 82, Value.ref 83, Value.int 277 0, Value.int 25 0, Value.str (Str.ofString "/claim/cut.py") 278]) #[]
def o85_3 (P : Params) : Obj := Obj.mk (Value.type "function") .none (Data.func (FuncData.mk (Str.ofString "holds") (Str.ofString "TextSort.holds") (defArgs (inClass (topS 3) 1)) (.stmts (defBody (inClass (topS 3) 1))) (defScope (inClass (topS 3) 1)) 3 [] Value.none Value.none Value.none (Value.str (Str.ofString "oneheap.schemas.sorts") 194) .none (Value.ref 84) Value.none 0)) #[]
def o86_3 (P : Params) : Obj := Obj.mk (Value.type "tuple") .none (Data.seq #[]) #[]
def o87_3 (P : Params) : Obj := Obj.mk Value.none .none (Data.fields #[]) #[]
def o88_3 (P : Params) : Obj := Obj.mk (Value.type "tuple") .none (Data.seq #[Value.str (Str.ofString "self") 283]) #[]
def o89_3 (P : Params) : Obj := Obj.mk (Value.type "tuple") .none (Data.seq #[]) #[]
def o90_3 (P : Params) : Obj := Obj.mk Value.none .none (Data.func (FuncData.mk (Str.ofString "written") (Str.ofString "TextSort.written") (defArgs (inClass (topS 3) 2)) (.stmts (defBody (inClass (topS 3) 2))) (defScope (inClass (topS 3) 2)) 0 [] Value.none Value.none Value.none Value.none .none Value.none Value.none 0)) #[]
def o91_3 (P : Params) : Obj := Obj.mk (Value.type "code") .none (Data.fields #[Value.str (Str.ofString "written") 280, Value.str (Str.ofString "TextSort.written") 281, Value.str (Str.ofString "/claim/cut.py") 282, Value.int 28 0, Value.int 1 0, Value.int 0 0, Value.int 0 0, Value.int 3 0, Value.ref 86, Value.bool true, Value.int 181 0, Value.ref 87, Value.none, Value.ref 88, Value.ref 89, Value.ref 90, Value.int 284 0, Value.int 28 0, Value.str (Str.ofString "/claim/cut.py") 285]) #[]
def o92_3 (P : Params) : Obj := Obj.mk (Value.type "function") .none (Data.func (FuncData.mk (Str.ofString "written") (Str.ofString "TextSort.written") (defArgs (inClass (topS 3) 2)) (.stmts (defBody (inClass (topS 3) 2))) (defScope (inClass (topS 3) 2)) 3 [] Value.none Value.none Value.none (Value.str (Str.ofString "oneheap.schemas.sorts") 194) .none (Value.ref 91) Value.none 0)) #[]
def o93_3 (P : Params) : Obj := Obj.mk (Value.type "tuple") .none (Data.seq #[]) #[]
def o94_3 (P : Params) : Obj := Obj.mk Value.none .none (Data.fields #[]) #[]
def o95_3 (P : Params) : Obj := Obj.mk (Value.type "tuple") .none (Data.seq #[Value.str (Str.ofString "self") 290, Value.str (Str.ofString "other") 291]) #[]
def o96_3 (P : Params) : Obj := Obj.mk (Value.type "tuple") .none (Data.seq #[]) #[]
def o97_3 (P : Params) : Obj := Obj.mk Value.none .none (Data.func (FuncData.mk (Str.ofString "__eq__") (Str.ofString "TextSort.__eq__") (defArgs (inClass (topS 3) 3)) (.stmts (defBody (inClass (topS 3) 3))) (defScope (inClass (topS 3) 3)) 0 [] Value.none Value.none Value.none Value.none .none Value.none Value.none 0)) #[]
def o98_3 (P : Params) : Obj := Obj.mk (Value.type "code") .none (Data.fields #[Value.str (Str.ofString "__eq__") 287, Value.str (Str.ofString "TextSort.__eq__") 288, Value.str (Str.ofString "/claim/cut.py") 289, Value.int 31 0, Value.int 2 0, Value.int 0 0, Value.int 0 0, Value.int 3 0, Value.ref 93, Value.bool true, Value.int 181 0, Value.ref 94, Value.none, Value.ref 95, Value.ref 96, Value.ref 97, Value.int 292 0, Value.int 31 0, Value.str (Str.ofString "/claim/cut.py") 293]) #[]
def o99_3 (P : Params) : Obj := Obj.mk (Value.type "function") .none (Data.func (FuncData.mk (Str.ofString "__eq__") (Str.ofString "TextSort.__eq__") (defArgs (inClass (topS 3) 3)) (.stmts (defBody (inClass (topS 3) 3))) (defScope (inClass (topS 3) 3)) 3 [] Value.none Value.none Value.none (Value.str (Str.ofString "oneheap.schemas.sorts") 194) .none (Value.ref 98) Value.none 0)) #[]
def o100_3 (P : Params) : Obj := Obj.mk (Value.type "tuple") .none (Data.seq #[Value.str (Str.ofString "longest") 295, Value.str (Str.ofString "without") 296]) #[]
def o101_3 (P : Params) : Obj := Obj.mk (Value.type "dict") .none (Data.dict #[DictEntry.mk (PyData.keyHash P (Str.ofString "__module__")) (Value.str (Str.ofString "__module__") 258) (Value.str (Str.ofString "oneheap.schemas.sorts") 194), DictEntry.mk (PyData.keyHash P (Str.ofString "__firstlineno__")) (Value.str (Str.ofString "__firstlineno__") 262) (Value.int 19 261), DictEntry.mk (PyData.keyHash P (Str.ofString "__init__")) (Value.str (Str.ofString "__init__") 271) (Value.ref 78), DictEntry.mk (PyData.keyHash P (Str.ofString "holds")) (Value.str (Str.ofString "holds") 279) (Value.ref 85), DictEntry.mk (PyData.keyHash P (Str.ofString "written")) (Value.str (Str.ofString "written") 286) (Value.ref 92), DictEntry.mk (PyData.keyHash P (Str.ofString "__eq__")) (Value.str (Str.ofString "__eq__") 294) (Value.ref 99), DictEntry.mk (PyData.keyHash P (Str.ofString "__static_attributes__")) (Value.str (Str.ofString "__static_attributes__") 297) (Value.ref 100), DictEntry.mk (PyData.keyHash P (Str.ofString "__dict__")) (Value.str (Str.ofString "__dict__") 299) (Value.ref 103), DictEntry.mk (PyData.keyHash P (Str.ofString "__weakref__")) (Value.str (Str.ofString "__weakref__") 301) (Value.ref 104), DictEntry.mk (PyData.keyHash P (Str.ofString "__doc__")) (Value.str (Str.ofString "__doc__") 302) Value.none, DictEntry.mk (PyData.keyHash P (Str.ofString "__hash__")) (Value.str (Str.ofString "__hash__") 303) Value.none] 5) #[]
def o102_3 (P : Params) : Obj := Obj.mk (Value.type "type") .none (Data.cls (ClassData.mk (Str.ofString "TextSort") [Value.type "object"] [Value.ref 102, Value.type "object"] 101 (Str.ofString "TextSort") true [] [] false .none false)) #[.none, .none, .some (Value.str (Str.ofString "TextSort") 251), .some (Value.str (Str.ofString "TextSort") 259), .some (Value.builtin "object.__new__"), .some (Value.bool true)]
def o103_3 (P : Params) : Obj := Obj.mk (Value.type "getset_descriptor") .none (Data.fields #[Value.str (Str.ofString "__dict__") 298, Value.ref 102, Value.builtin "function.__dict__", Value.builtin "function.__dict__#set"]) #[]
def o104_3 (P : Params) : Obj := Obj.mk (Value.type "getset_descriptor") .none (Data.fields #[Value.str (Str.ofString "__weakref__") 300, Value.ref 102, Value.builtin "ExceptionGroup.__weakref__", Value.none]) #[]
def o105_3 (P : Params) : Obj := Obj.mk (Value.type "super") .none (Data.fields #[Value.ref 102, Value.ref 102, Value.ref 102]) #[]
def o106_3 (P : Params) : Obj := Obj.mk (Value.type "builtin_function_or_method") .none (Data.fields #[Value.builtin "object.__init_subclass__", Value.ref 102]) #[]
def o107_3 (P : Params) : Obj := Obj.mk (Value.type "tuple") .none (Data.seq #[]) #[]
def o108_3 (P : Params) : Obj := Obj.mk (Value.type "builtin_function_or_method") .none (Data.fields #[Value.builtin "type.__prepare__", Value.type "type"]) #[]
def o109_3 (P : Params) : Obj := Obj.mk (Value.type "dict") .none (Data.dict #[DictEntry.mk (PyData.keyHash P (Str.ofString "__module__")) (Value.str (Str.ofString "__module__") 313) (Value.str (Str.ofString "oneheap.schemas.sorts") 194), DictEntry.mk (PyData.keyHash P (Str.ofString "__qualname__")) (Value.str (Str.ofString "__qualname__") 315) (Value.str (Str.ofString "RefSort") 314), DictEntry.mk (PyData.keyHash P (Str.ofString "__firstlineno__")) (Value.str (Str.ofString "__firstlineno__") 317) (Value.int 33 316), DictEntry.mk (PyData.keyHash P (Str.ofString "__init__")) (Value.str (Str.ofString "__init__") 326) (Value.ref 120), DictEntry.mk (PyData.keyHash P (Str.ofString "holds")) (Value.str (Str.ofString "holds") 334) (Value.ref 127), DictEntry.mk (PyData.keyHash P (Str.ofString "written")) (Value.str (Str.ofString "written") 341) (Value.ref 134), DictEntry.mk (PyData.keyHash P (Str.ofString "__eq__")) (Value.str (Str.ofString "__eq__") 349) (Value.ref 141), DictEntry.mk (PyData.keyHash P (Str.ofString "__static_attributes__")) (Value.str (Str.ofString "__static_attributes__") 352) (Value.ref 142)] 8) #[]
def o110_3 (P : Params) : Obj := Obj.mk (Value.type "tuple") .none (Data.seq #[]) #[]
def o111_3 (P : Params) : Obj := Obj.mk Value.none .none (Data.fields #[Value.int 35 0, Value.int 4 0, Value.ref 119, Value.int 39 0, Value.int 4 0, Value.ref 126, Value.int 42 0, Value.int 4 0, Value.ref 133, Value.int 45 0, Value.int 4 0, Value.ref 140]) #[]
def o112_3 (P : Params) : Obj := Obj.mk (Value.type "code") .none (Data.fields #[Value.str (Str.ofString "RefSort") 308, Value.str (Str.ofString "RefSort") 309, Value.str (Str.ofString "/claim/cut.py") 310, Value.int 33 0, Value.int 0 0, Value.int 0 0, Value.int 0 0, Value.int 0 0, Value.ref 110, Value.bool false, Value.int 181 0, Value.ref 111, Value.none, Value.none, Value.none, Value.none, Value.int 311 0, Value.int 33 0, Value.str (Str.ofString "/claim/cut.py") 312]) #[]
def o113_3 (P : Params) : Obj := Obj.mk (Value.type "frame") .none Data.plain #[.some (Value.ref 112), .some (Value.ref 3), .some (Value.ref 109), .none, .some (Value.str (Str.ofString "oneheap.schemas.sorts") 194), .none, .some (Value.ref 0)]
def o114_3 (P : Params) : Obj := Obj.mk (Value.type "tuple") .none (Data.seq #[]) #[]
def o115_3 (P : Params) : Obj := Obj.mk Value.none .none (Data.fields #[]) #[]
def o116_3 (P : Params) : Obj := Obj.mk (Value.type "tuple") .none (Data.seq #[Value.str (Str.ofString "self") 321, Value.str (Str.ofString "kinds") 322, Value.str (Str.ofString "rule") 323]) #[]
def o117_3 (P : Params) : Obj := Obj.mk (Value.type "tuple") .none (Data.seq #[]) #[]
def o118_3 (P : Params) : Obj := Obj.mk Value.none .none (Data.func (FuncData.mk (Str.ofString "__init__") (Str.ofString "RefSort.__init__") (defArgs (inClass (topS 4) 0)) (.stmts (defBody (inClass (topS 4) 0))) (defScope (inClass (topS 4) 0)) 0 [] Value.none Value.none Value.none Value.none .none Value.none Value.none 0)) #[]
def o119_3 (P : Params) : Obj := Obj.mk (Value.type "code") .none (Data.fields #[Value.str (Str.ofString "__init__") 318, Value.str (Str.ofString "RefSort.__init__") 319, Value.str (Str.ofString "/claim/cut.py") 320, Value.int 35 0, Value.int 3 0, Value.int 0 0, Value.int 0 0, Value.int 3 0, Value.ref 114, Value.bool true, Value.int 181 0, Value.ref 115, Value.none, Value.ref 116, Value.ref 117, Value.ref 118, Value.int 324 0, Value.int 35 0, Value.str (Str.ofString "/claim/cut.py") 325]) #[]
def o120_3 (P : Params) : Obj := Obj.mk (Value.type "function") .none (Data.func (FuncData.mk (Str.ofString "__init__") (Str.ofString "RefSort.__init__") (defArgs (inClass (topS 4) 0)) (.stmts (defBody (inClass (topS 4) 0))) (defScope (inClass (topS 4) 0)) 3 [] Value.none Value.none Value.none (Value.str (Str.ofString "oneheap.schemas.sorts") 194) .none (Value.ref 119) Value.none 0)) #[]
def o121_3 (P : Params) : Obj := Obj.mk (Value.type "tuple") .none (Data.seq #[]) #[]
def o122_3 (P : Params) : Obj := Obj.mk Value.none .none (Data.fields #[]) #[]
def o123_3 (P : Params) : Obj := Obj.mk (Value.type "tuple") .none (Data.seq #[Value.str (Str.ofString "self") 330, Value.str (Str.ofString "value") 331]) #[]
def o124_3 (P : Params) : Obj := Obj.mk (Value.type "tuple") .none (Data.seq #[]) #[]
def o125_3 (P : Params) : Obj := Obj.mk Value.none .none (Data.func (FuncData.mk (Str.ofString "holds") (Str.ofString "RefSort.holds") (defArgs (inClass (topS 4) 1)) (.stmts (defBody (inClass (topS 4) 1))) (defScope (inClass (topS 4) 1)) 0 [] Value.none Value.none Value.none Value.none .none Value.none Value.none 0)) #[]
def o126_3 (P : Params) : Obj := Obj.mk (Value.type "code") .none (Data.fields #[Value.str (Str.ofString "holds") 327, Value.str (Str.ofString "RefSort.holds") 328, Value.str (Str.ofString "/claim/cut.py") 329, Value.int 39 0, Value.int 2 0, Value.int 0 0, Value.int 0 0, Value.int 3 0, Value.ref 121, Value.bool true, Value.int 181 0, Value.ref 122, Value.none, Value.ref 123, Value.ref 124, Value.ref 125, Value.int 332 0, Value.int 39 0, Value.str (Str.ofString "/claim/cut.py") 333]) #[]
def o127_3 (P : Params) : Obj := Obj.mk (Value.type "function") .none (Data.func (FuncData.mk (Str.ofString "holds") (Str.ofString "RefSort.holds") (defArgs (inClass (topS 4) 1)) (.stmts (defBody (inClass (topS 4) 1))) (defScope (inClass (topS 4) 1)) 3 [] Value.none Value.none Value.none (Value.str (Str.ofString "oneheap.schemas.sorts") 194) .none (Value.ref 126) Value.none 0)) #[]
def o128_3 (P : Params) : Obj := Obj.mk (Value.type "tuple") .none (Data.seq #[]) #[]
def o129_3 (P : Params) : Obj := Obj.mk Value.none .none (Data.fields #[]) #[]
def o130_3 (P : Params) : Obj := Obj.mk (Value.type "tuple") .none (Data.seq #[Value.str (Str.ofString "self") 338]) #[]
def o131_3 (P : Params) : Obj := Obj.mk (Value.type "tuple") .none (Data.seq #[]) #[]
def o132_3 (P : Params) : Obj := Obj.mk Value.none .none (Data.func (FuncData.mk (Str.ofString "written") (Str.ofString "RefSort.written") (defArgs (inClass (topS 4) 2)) (.stmts (defBody (inClass (topS 4) 2))) (defScope (inClass (topS 4) 2)) 0 [] Value.none Value.none Value.none Value.none .none Value.none Value.none 0)) #[]
def o133_3 (P : Params) : Obj := Obj.mk (Value.type "code") .none (Data.fields #[Value.str (Str.ofString "written") 335, Value.str (Str.ofString "RefSort.written") 336, Value.str (Str.ofString "/claim/cut.py") 337, Value.int 42 0, Value.int 1 0, Value.int 0 0, Value.int 0 0, Value.int 3 0, Value.ref 128, Value.bool true, Value.int 181 0, Value.ref 129, Value.none, Value.ref 130, Value.ref 131, Value.ref 132, Value.int 339 0, Value.int 42 0, Value.str (Str.ofString "/claim/cut.py") 340]) #[]
def o134_3 (P : Params) : Obj := Obj.mk (Value.type "function") .none (Data.func (FuncData.mk (Str.ofString "written") (Str.ofString "RefSort.written") (defArgs (inClass (topS 4) 2)) (.stmts (defBody (inClass (topS 4) 2))) (defScope (inClass (topS 4) 2)) 3 [] Value.none Value.none Value.none (Value.str (Str.ofString "oneheap.schemas.sorts") 194) .none (Value.ref 133) Value.none 0)) #[]
def o135_3 (P : Params) : Obj := Obj.mk (Value.type "tuple") .none (Data.seq #[]) #[]
def o136_3 (P : Params) : Obj := Obj.mk Value.none .none (Data.fields #[]) #[]
def o137_3 (P : Params) : Obj := Obj.mk (Value.type "tuple") .none (Data.seq #[Value.str (Str.ofString "self") 345, Value.str (Str.ofString "other") 346]) #[]
def o138_3 (P : Params) : Obj := Obj.mk (Value.type "tuple") .none (Data.seq #[]) #[]
def o139_3 (P : Params) : Obj := Obj.mk Value.none .none (Data.func (FuncData.mk (Str.ofString "__eq__") (Str.ofString "RefSort.__eq__") (defArgs (inClass (topS 4) 3)) (.stmts (defBody (inClass (topS 4) 3))) (defScope (inClass (topS 4) 3)) 0 [] Value.none Value.none Value.none Value.none .none Value.none Value.none 0)) #[]
def o140_3 (P : Params) : Obj := Obj.mk (Value.type "code") .none (Data.fields #[Value.str (Str.ofString "__eq__") 342, Value.str (Str.ofString "RefSort.__eq__") 343, Value.str (Str.ofString "/claim/cut.py") 344, Value.int 45 0, Value.int 2 0, Value.int 0 0, Value.int 0 0, Value.int 3 0, Value.ref 135, Value.bool true, Value.int 181 0, Value.ref 136, Value.none, Value.ref 137, Value.ref 138, Value.ref 139, Value.int 347 0, Value.int 45 0, Value.str (Str.ofString "/claim/cut.py") 348]) #[]
def o141_3 (P : Params) : Obj := Obj.mk (Value.type "function") .none (Data.func (FuncData.mk (Str.ofString "__eq__") (Str.ofString "RefSort.__eq__") (defArgs (inClass (topS 4) 3)) (.stmts (defBody (inClass (topS 4) 3))) (defScope (inClass (topS 4) 3)) 3 [] Value.none Value.none Value.none (Value.str (Str.ofString "oneheap.schemas.sorts") 194) .none (Value.ref 140) Value.none 0)) #[]
def o142_3 (P : Params) : Obj := Obj.mk (Value.type "tuple") .none (Data.seq #[Value.str (Str.ofString "kinds") 350, Value.str (Str.ofString "rule") 351]) #[]
def o143_3 (P : Params) : Obj := Obj.mk (Value.type "dict") .none (Data.dict #[DictEntry.mk (PyData.keyHash P (Str.ofString "__module__")) (Value.str (Str.ofString "__module__") 313) (Value.str (Str.ofString "oneheap.schemas.sorts") 194), DictEntry.mk (PyData.keyHash P (Str.ofString "__firstlineno__")) (Value.str (Str.ofString "__firstlineno__") 317) (Value.int 33 316), DictEntry.mk (PyData.keyHash P (Str.ofString "__init__")) (Value.str (Str.ofString "__init__") 326) (Value.ref 120), DictEntry.mk (PyData.keyHash P (Str.ofString "holds")) (Value.str (Str.ofString "holds") 334) (Value.ref 127), DictEntry.mk (PyData.keyHash P (Str.ofString "written")) (Value.str (Str.ofString "written") 341) (Value.ref 134), DictEntry.mk (PyData.keyHash P (Str.ofString "__eq__")) (Value.str (Str.ofString "__eq__") 349) (Value.ref 141), DictEntry.mk (PyData.keyHash P (Str.ofString "__static_attributes__")) (Value.str (Str.ofString "__static_attributes__") 352) (Value.ref 142), DictEntry.mk (PyData.keyHash P (Str.ofString "__dict__")) (Value.str (Str.ofString "__dict__") 354) (Value.ref 145), DictEntry.mk (PyData.keyHash P (Str.ofString "__weakref__")) (Value.str (Str.ofString "__weakref__") 356) (Value.ref 146), DictEntry.mk (PyData.keyHash P (Str.ofString "__doc__")) (Value.str (Str.ofString "__doc__") 357) Value.none, DictEntry.mk (PyData.keyHash P (Str.ofString "__hash__")) (Value.str (Str.ofString "__hash__") 358) Value.none] 5) #[]
def o144_3 (P : Params) : Obj := Obj.mk (Value.type "type") .none (Data.cls (ClassData.mk (Str.ofString "RefSort") [Value.type "object"] [Value.ref 144, Value.type "object"] 143 (Str.ofString "RefSort") true [] [] false .none false)) #[.none, .none, .some (Value.str (Str.ofString "RefSort") 306), .some (Value.str (Str.ofString "RefSort") 314), .some (Value.builtin "object.__new__"), .some (Value.bool true)]
def o145_3 (P : Params) : Obj := Obj.mk (Value.type "getset_descriptor") .none (Data.fields #[Value.str (Str.ofString "__dict__") 353, Value.ref 144, Value.builtin "function.__dict__", Value.builtin "function.__dict__#set"]) #[]
def o146_3 (P : Params) : Obj := Obj.mk (Value.type "getset_descriptor") .none (Data.fields #[Value.str (Str.ofString "__weakref__") 355, Value.ref 144, Value.builtin "ExceptionGroup.__weakref__", Value.none]) #[]
def o147_3 (P : Params) : Obj := Obj.mk (Value.type "super") .none (Data.fields #[Value.ref 144, Value.ref 144, Value.ref 144]) #[]
def o148_3 (P : Params) : Obj := Obj.mk (Value.type "builtin_function_or_method") .none (Data.fields #[Value.builtin "object.__init_subclass__", Value.ref 144]) #[]
def o149_3 (P : Params) : Obj := Obj.mk (Value.type "tuple") .none (Data.seq #[]) #[]
def o150_3 (P : Params) : Obj := Obj.mk (Value.type "builtin_function_or_method") .none (Data.fields #[Value.builtin "type.__prepare__", Value.type "type"]) #[]
def o151_3 (P : Params) : Obj := Obj.mk (Value.type "dict") .none (Data.dict #[DictEntry.mk (PyData.keyHash P (Str.ofString "__module__")) (Value.str (Str.ofString "__module__") 368) (Value.str (Str.ofString "oneheap.schemas.sorts") 194), DictEntry.mk (PyData.keyHash P (Str.ofString "__qualname__")) (Value.str (Str.ofString "__qualname__") 370) (Value.str (Str.ofString "ListSort") 369), DictEntry.mk (PyData.keyHash P (Str.ofString "__firstlineno__")) (Value.str (Str.ofString "__firstlineno__") 372) (Value.int 47 371), DictEntry.mk (PyData.keyHash P (Str.ofString "__init__")) (Value.str (Str.ofString "__init__") 380) (Value.ref 162), DictEntry.mk (PyData.keyHash P (Str.ofString "holds")) (Value.str (Str.ofString "holds") 388) (Value.ref 169), DictEntry.mk (PyData.keyHash P (Str.ofString "written")) (Value.str (Str.ofString "written") 395) (Value.ref 176), DictEntry.mk (PyData.keyHash P (Str.ofString "__eq__")) (Value.str (Str.ofString "__eq__") 403) (Value.ref 183), DictEntry.mk (PyData.keyHash P (Str.ofString "__static_attributes__")) (Value.str (Str.ofString "__static_attributes__") 405) (Value.ref 184)] 8) #[]
def o152_3 (P : Params) : Obj := Obj.mk (Value.type "tuple") .none (Data.seq #[]) #[]
def o153_3 (P : Params) : Obj := Obj.mk Value.none .none (Data.fields #[Value.int 49 0, Value.int 4 0, Value.ref 161, Value.int 52 0, Value.int 4 0, Value.ref 168, Value.int 55 0, Value.int 4 0, Value.ref 175, Value.int 58 0, Value.int 4 0, Value.ref 182]) #[]
def o154_3 (P : Params) : Obj := Obj.mk (Value.type "code") .none (Data.fields #[Value.str (Str.ofString "ListSort") 363, Value.str (Str.ofString "ListSort") 364, Value.str (Str.ofString "/claim/cut.py") 365, Value.int 47 0, Value.int 0 0, Value.int 0 0, Value.int 0 0, Value.int 0 0, Value.ref 152, Value.bool false, Value.int 181 0, Value.ref 153, Value.none, Value.none, Value.none, Value.none, Value.int 366 0, Value.int 47 0, Value.str (Str.ofString "/claim/cut.py") 367]) #[]
def o155_3 (P : Params) : Obj := Obj.mk (Value.type "frame") .none Data.plain #[.some (Value.ref 154), .some (Value.ref 3), .some (Value.ref 151), .none, .some (Value.str (Str.ofString "oneheap.schemas.sorts") 194), .none, .some (Value.ref 0)]
def o156_3 (P : Params) : Obj := Obj.mk (Value.type "tuple") .none (Data.seq #[]) #[]
def o157_3 (P : Params) : Obj := Obj.mk Value.none .none (Data.fields #[]) #[]
def o158_3 (P : Params) : Obj := Obj.mk (Value.type "tuple") .none (Data.seq #[Value.str (Str.ofString "self") 376, Value.str (Str.ofString "kinds") 377]) #[]
def o159_3 (P : Params) : Obj := Obj.mk (Value.type "tuple") .none (Data.seq #[]) #[]
def o160_3 (P : Params) : Obj := Obj.mk Value.none .none (Data.func (FuncData.mk (Str.ofString "__init__") (Str.ofString "ListSort.__init__") (defArgs (inClass (topS 5) 0)) (.stmts (defBody (inClass (topS 5) 0))) (defScope (inClass (topS 5) 0)) 0 [] Value.none Value.none Value.none Value.none .none Value.none Value.none 0)) #[]
def o161_3 (P : Params) : Obj := Obj.mk (Value.type "code") .none (Data.fields #[Value.str (Str.ofString "__init__") 373, Value.str (Str.ofString "ListSort.__init__") 374, Value.str (Str.ofString "/claim/cut.py") 375, Value.int 49 0, Value.int 2 0, Value.int 0 0, Value.int 0 0, Value.int 3 0, Value.ref 156, Value.bool true, Value.int 181 0, Value.ref 157, Value.none, Value.ref 158, Value.ref 159, Value.ref 160, Value.int 378 0, Value.int 49 0, Value.str (Str.ofString "/claim/cut.py") 379]) #[]
def o162_3 (P : Params) : Obj := Obj.mk (Value.type "function") .none (Data.func (FuncData.mk (Str.ofString "__init__") (Str.ofString "ListSort.__init__") (defArgs (inClass (topS 5) 0)) (.stmts (defBody (inClass (topS 5) 0))) (defScope (inClass (topS 5) 0)) 3 [] Value.none Value.none Value.none (Value.str (Str.ofString "oneheap.schemas.sorts") 194) .none (Value.ref 161) Value.none 0)) #[]
def o163_3 (P : Params) : Obj := Obj.mk (Value.type "tuple") .none (Data.seq #[]) #[]
def o164_3 (P : Params) : Obj := Obj.mk Value.none .none (Data.fields #[]) #[]
def o165_3 (P : Params) : Obj := Obj.mk (Value.type "tuple") .none (Data.seq #[Value.str (Str.ofString "self") 384, Value.str (Str.ofString "value") 385]) #[]
def o166_3 (P : Params) : Obj := Obj.mk (Value.type "tuple") .none (Data.seq #[]) #[]
def o167_3 (P : Params) : Obj := Obj.mk Value.none .none (Data.func (FuncData.mk (Str.ofString "holds") (Str.ofString "ListSort.holds") (defArgs (inClass (topS 5) 1)) (.stmts (defBody (inClass (topS 5) 1))) (defScope (inClass (topS 5) 1)) 0 [] Value.none Value.none Value.none Value.none .none Value.none Value.none 0)) #[]
def o168_3 (P : Params) : Obj := Obj.mk (Value.type "code") .none (Data.fields #[Value.str (Str.ofString "holds") 381, Value.str (Str.ofString "ListSort.holds") 382, Value.str (Str.ofString "/claim/cut.py") 383, Value.int 52 0, Value.int 2 0, Value.int 0 0, Value.int 0 0, Value.int 3 0, Value.ref 163, Value.bool true, Value.int 181 0, Value.ref 164, Value.none, Value.ref 165, Value.ref 166, Value.ref 167, Value.int 386 0, Value.int 52 0, Value.str (Str.ofString "/claim/cut.py") 387]) #[]
def o169_3 (P : Params) : Obj := Obj.mk (Value.type "function") .none (Data.func (FuncData.mk (Str.ofString "holds") (Str.ofString "ListSort.holds") (defArgs (inClass (topS 5) 1)) (.stmts (defBody (inClass (topS 5) 1))) (defScope (inClass (topS 5) 1)) 3 [] Value.none Value.none Value.none (Value.str (Str.ofString "oneheap.schemas.sorts") 194) .none (Value.ref 168) Value.none 0)) #[]
def o170_3 (P : Params) : Obj := Obj.mk (Value.type "tuple") .none (Data.seq #[]) #[]
def o171_3 (P : Params) : Obj := Obj.mk Value.none .none (Data.fields #[]) #[]
def o172_3 (P : Params) : Obj := Obj.mk (Value.type "tuple") .none (Data.seq #[Value.str (Str.ofString "self") 392]) #[]
def o173_3 (P : Params) : Obj := Obj.mk (Value.type "tuple") .none (Data.seq #[]) #[]
def o174_3 (P : Params) : Obj := Obj.mk Value.none .none (Data.func (FuncData.mk (Str.ofString "written") (Str.ofString "ListSort.written") (defArgs (inClass (topS 5) 2)) (.stmts (defBody (inClass (topS 5) 2))) (defScope (inClass (topS 5) 2)) 0 [] Value.none Value.none Value.none Value.none .none Value.none Value.none 0)) #[]
def o175_3 (P : Params) : Obj := Obj.mk (Value.type "code") .none (Data.fields #[Value.str (Str.ofString "written") 389, Value.str (Str.ofString "ListSort.written") 390, Value.str (Str.ofString "/claim/cut.py") 391, Value.int 55 0, Value.int 1 0, Value.int 0 0, Value.int 0 0, Value.int 3 0, Value.ref 170, Value.bool true, Value.int 181 0, Value.ref 171, Value.none, Value.ref 172, Value.ref 173, Value.ref 174, Value.int 393 0, Value.int 55 0, Value.str (Str.ofString "/claim/cut.py") 394]) #[]
def o176_3 (P : Params) : Obj := Obj.mk (Value.type "function") .none (Data.func (FuncData.mk (Str.ofString "written") (Str.ofString "ListSort.written") (defArgs (inClass (topS 5) 2)) (.stmts (defBody (inClass (topS 5) 2))) (defScope (inClass (topS 5) 2)) 3 [] Value.none Value.none Value.none (Value.str (Str.ofString "oneheap.schemas.sorts") 194) .none (Value.ref 175) Value.none 0)) #[]
def o177_3 (P : Params) : Obj := Obj.mk (Value.type "tuple") .none (Data.seq #[]) #[]
def o178_3 (P : Params) : Obj := Obj.mk Value.none .none (Data.fields #[]) #[]
def o179_3 (P : Params) : Obj := Obj.mk (Value.type "tuple") .none (Data.seq #[Value.str (Str.ofString "self") 399, Value.str (Str.ofString "other") 400]) #[]
def o180_3 (P : Params) : Obj := Obj.mk (Value.type "tuple") .none (Data.seq #[]) #[]
def o181_3 (P : Params) : Obj := Obj.mk Value.none .none (Data.func (FuncData.mk (Str.ofString "__eq__") (Str.ofString "ListSort.__eq__") (defArgs (inClass (topS 5) 3)) (.stmts (defBody (inClass (topS 5) 3))) (defScope (inClass (topS 5) 3)) 0 [] Value.none Value.none Value.none Value.none .none Value.none Value.none 0)) #[]
def o182_3 (P : Params) : Obj := Obj.mk (Value.type "code") .none (Data.fields #[Value.str (Str.ofString "__eq__") 396, Value.str (Str.ofString "ListSort.__eq__") 397, Value.str (Str.ofString "/claim/cut.py") 398, Value.int 58 0, Value.int 2 0, Value.int 0 0, Value.int 0 0, Value.int 3 0, Value.ref 177, Value.bool true, Value.int 181 0, Value.ref 178, Value.none, Value.ref 179, Value.ref 180, Value.ref 181, Value.int 401 0, Value.int 58 0, Value.str (Str.ofString "/claim/cut.py") 402]) #[]
def o183_3 (P : Params) : Obj := Obj.mk (Value.type "function") .none (Data.func (FuncData.mk (Str.ofString "__eq__") (Str.ofString "ListSort.__eq__") (defArgs (inClass (topS 5) 3)) (.stmts (defBody (inClass (topS 5) 3))) (defScope (inClass (topS 5) 3)) 3 [] Value.none Value.none Value.none (Value.str (Str.ofString "oneheap.schemas.sorts") 194) .none (Value.ref 182) Value.none 0)) #[]
def o184_3 (P : Params) : Obj := Obj.mk (Value.type "tuple") .none (Data.seq #[Value.str (Str.ofString "kinds") 404]) #[]
def o185_3 (P : Params) : Obj := Obj.mk (Value.type "dict") .none (Data.dict #[DictEntry.mk (PyData.keyHash P (Str.ofString "__module__")) (Value.str (Str.ofString "__module__") 368) (Value.str (Str.ofString "oneheap.schemas.sorts") 194), DictEntry.mk (PyData.keyHash P (Str.ofString "__firstlineno__")) (Value.str (Str.ofString "__firstlineno__") 372) (Value.int 47 371), DictEntry.mk (PyData.keyHash P (Str.ofString "__init__")) (Value.str (Str.ofString "__init__") 380) (Value.ref 162), DictEntry.mk (PyData.keyHash P (Str.ofString "holds")) (Value.str (Str.ofString "holds") 388) (Value.ref 169), DictEntry.mk (PyData.keyHash P (Str.ofString "written")) (Value.str (Str.ofString "written") 395) (Value.ref 176), DictEntry.mk (PyData.keyHash P (Str.ofString "__eq__")) (Value.str (Str.ofString "__eq__") 403) (Value.ref 183), DictEntry.mk (PyData.keyHash P (Str.ofString "__static_attributes__")) (Value.str (Str.ofString "__static_attributes__") 405) (Value.ref 184), DictEntry.mk (PyData.keyHash P (Str.ofString "__dict__")) (Value.str (Str.ofString "__dict__") 407) (Value.ref 187), DictEntry.mk (PyData.keyHash P (Str.ofString "__weakref__")) (Value.str (Str.ofString "__weakref__") 409) (Value.ref 188), DictEntry.mk (PyData.keyHash P (Str.ofString "__doc__")) (Value.str (Str.ofString "__doc__") 410) Value.none, DictEntry.mk (PyData.keyHash P (Str.ofString "__hash__")) (Value.str (Str.ofString "__hash__") 411) Value.none] 5) #[]
def o186_3 (P : Params) : Obj := Obj.mk (Value.type "type") .none (Data.cls (ClassData.mk (Str.ofString "ListSort") [Value.type "object"] [Value.ref 186, Value.type "object"] 185 (Str.ofString "ListSort") true [] [] false .none false)) #[.none, .none, .some (Value.str (Str.ofString "ListSort") 361), .some (Value.str (Str.ofString "ListSort") 369), .some (Value.builtin "object.__new__"), .some (Value.bool true)]
def o187_3 (P : Params) : Obj := Obj.mk (Value.type "getset_descriptor") .none (Data.fields #[Value.str (Str.ofString "__dict__") 406, Value.ref 186, Value.builtin "function.__dict__", Value.builtin "function.__dict__#set"]) #[]
def o188_3 (P : Params) : Obj := Obj.mk (Value.type "getset_descriptor") .none (Data.fields #[Value.str (Str.ofString "__weakref__") 408, Value.ref 186, Value.builtin "ExceptionGroup.__weakref__", Value.none]) #[]
def o189_3 (P : Params) : Obj := Obj.mk (Value.type "super") .none (Data.fields #[Value.ref 186, Value.ref 186, Value.ref 186]) #[]
def o190_3 (P : Params) : Obj := Obj.mk (Value.type "builtin_function_or_method") .none (Data.fields #[Value.builtin "object.__init_subclass__", Value.ref 186]) #[]
def o191_3 (P : Params) : Obj := Obj.mk (Value.type "tuple") .none (Data.seq #[]) #[]
def o192_3 (P : Params) : Obj := Obj.mk Value.none .none (Data.fields #[]) #[]
def o193_3 (P : Params) : Obj := Obj.mk (Value.type "tuple") .none (Data.seq #[Value.str (Str.ofString "shape") 417]) #[]
def o194_3 (P : Params) : Obj := Obj.mk (Value.type "tuple") .none (Data.seq #[]) #[]
def o195_3 (P : Params) : Obj := Obj.mk Value.none .none (Data.func (FuncData.mk (Str.ofString "is_reference") (Str.ofString "is_reference") (defArgs (topS 6)) (.stmts (defBody (topS 6))) (defScope (topS 6)) 0 [] Value.none Value.none Value.none Value.none .none Value.none Value.none 0)) #[]
def o196_3 (P : Params) : Obj := Obj.mk (Value.type "code") .none (Data.fields #[Value.str (Str.ofString "is_reference") 414, Value.str (Str.ofString "is_reference") 415, Value.str (Str.ofString "/claim/cut.py") 416, Value.int 60 0, Value.int 1 0, Value.int 0 0, Value.int 0 0, Value.int 3 0, Value.ref 191, Value.bool true, Value.int 181 0, Value.ref 192, Value.none, Value.ref 193, Value.ref 194, Value.ref 195, Value.int 418 0, Value.int 60 0, Value.str (Str.ofString "/claim/cut.py") 419]) #[]
def o197_3 (P : Params) : Obj := Obj.mk (Value.type "function") .none (Data.func (FuncData.mk (Str.ofString "is_reference") (Str.ofString "is_reference") (defArgs (topS 6)) (.stmts (defBody (topS 6))) (defScope (topS 6)) 3 [] Value.none Value.none Value.none (Value.str (Str.ofString "oneheap.schemas.sorts") 194) .none (Value.ref 196) Value.none 0)) #[]
def o198_3 (P : Params) : Obj := Obj.mk (Value.type "tuple") .none (Data.seq #[]) #[]
def o199_3 (P : Params) : Obj := Obj.mk Value.none .none (Data.fields #[]) #[]
def o200_3 (P : Params) : Obj := Obj.mk (Value.type "tuple") .none (Data.seq #[Value.str (Str.ofString "shape") 424]) #[]
def o201_3 (P : Params) : Obj := Obj.mk (Value.type "tuple") .none (Data.seq #[]) #[]
def o202_3 (P : Params) : Obj := Obj.mk Value.none .none (Data.func (FuncData.mk (Str.ofString "is_list") (Str.ofString "is_list") (defArgs (topS 7)) (.stmts (defBody (topS 7))) (defScope (topS 7)) 0 [] Value.none Value.none Value.none Value.none .none Value.none Value.none 0)) #[]
def o203_3 (P : Params) : Obj := Obj.mk (Value.type "code") .none (Data.fields #[Value.str (Str.ofString "is_list") 421, Value.str (Str.ofString "is_list") 422, Value.str (Str.ofString "/claim/cut.py") 423, Value.int 62 0, Value.int 1 0, Value.int 0 0, Value.int 0 0, Value.int 3 0, Value.ref 198, Value.bool true, Value.int 181 0, Value.ref 199, Value.none, Value.ref 200, Value.ref 201, Value.ref 202, Value.int 425 0, Value.int 62 0, Value.str (Str.ofString "/claim/cut.py") 426]) #[]
def o204_3 (P : Params) : Obj := Obj.mk (Value.type "function") .none (Data.func (FuncData.mk (Str.ofString "is_list") (Str.ofString "is_list") (defArgs (topS 7)) (.stmts (defBody (topS 7))) (defScope (topS 7)) 3 [] Value.none Value.none Value.none (Value.str (Str.ofString "oneheap.schemas.sorts") 194) .none (Value.ref 203) Value.none 0)) #[]
def o205_3 (P : Params) : Obj := Obj.mk (Value.type "tuple") .none (Data.seq #[]) #[]
def o206_3 (P : Params) : Obj := Obj.mk (Value.type "builtin_function_or_method") .none (Data.fields #[Value.builtin "type.__prepare__", Value.type "type"]) #[]
def o207_3 (P : Params) : Obj := Obj.mk (Value.type "dict") .none (Data.dict #[DictEntry.mk (PyData.keyHash P (Str.ofString "__module__")) (Value.str (Str.ofString "__module__") 437) (Value.str (Str.ofString "oneheap.objects.thing") 428), DictEntry.mk (PyData.keyHash P (Str.ofString "__qualname__")) (Value.str (Str.ofString "__qualname__") 439) (Value.str (Str.ofString "Thing") 438), DictEntry.mk (PyData.keyHash P (Str.ofString "__firstlineno__")) (Value.str (Str.ofString "__firstlineno__") 441) (Value.int 65 440), DictEntry.mk (PyData.keyHash P (Str.ofString "__init__")) (Value.str (Str.ofString "__init__") 447) (Value.ref 216), DictEntry.mk (PyData.keyHash P (Str.ofString "copied")) (Value.str (Str.ofString "copied") 454) (Value.ref 223), DictEntry.mk (PyData.keyHash P (Str.ofString "__eq__")) (Value.str (Str.ofString "__eq__") 462) (Value.ref 230), DictEntry.mk (PyData.keyHash P (Str.ofString "__static_attributes__")) (Value.str (Str.ofString "__static_attributes__") 465) (Value.ref 231)] 7) #[]
def o208_3 (P : Params) : Obj := Obj.mk (Value.type "tuple") .none (Data.seq #[]) #[]
def o209_3 (P : Params) : Obj := Obj.mk Value.none .none (Data.fields #[Value.int 67 0, Value.int 4 0, Value.ref 215, Value.int 71 0, Value.int 4 0, Value.ref 222, Value.int 74 0, Value.int 4 0, Value.ref 229]) #[]
def o210_3 (P : Params) : Obj := Obj.mk (Value.type "code") .none (Data.fields #[Value.str (Str.ofString "Thing") 432, Value.str (Str.ofString "Thing") 433, Value.str (Str.ofString "/claim/cut.py") 434, Value.int 65 0, Value.int 0 0, Value.int 0 0, Value.int 0 0, Value.int 0 0, Value.ref 208, Value.bool false, Value.int 181 0, Value.ref 209, Value.none, Value.none, Value.none, Value.none, Value.int 435 0, Value.int 65 0, Value.str (Str.ofString "/claim/cut.py") 436]) #[]
def o211_3 (P : Params) : Obj := Obj.mk (Value.type "frame") .none Data.plain #[.some (Value.ref 210), .some (Value.ref 3), .some (Value.ref 207), .none, .some (Value.str (Str.ofString "oneheap.objects.thing") 428), .none, .some (Value.ref 0)]
def o212_3 (P : Params) : Obj := Obj.mk (Value.type "tuple") .none (Data.seq #[]) #[]
def o213_3 (P : Params) : Obj := Obj.mk Value.none .none (Data.fields #[]) #[]
def o214_3 (P : Params) : Obj := Obj.mk Value.none .none (Data.func (FuncData.mk (Str.ofString "__init__") (Str.ofString "Thing.__init__") (defArgs (inClass (topS 9) 0)) (.stmts (defBody (inClass (topS 9) 0))) (defScope (inClass (topS 9) 0)) 0 [] Value.none Value.none Value.none Value.none .none Value.none Value.none 0)) #[]
def o215_3 (P : Params) : Obj := Obj.mk (Value.type "code") .none (Data.fields #[Value.str (Str.ofString "__init__") 442, Value.str (Str.ofString "Thing.__init__") 443, Value.str (Str.ofString "/claim/cut.py") 444, Value.int 67 0, Value.int 3 0, Value.int 0 0, Value.int 0 0, Value.int 3 0, Value.ref 212, Value.bool true, Value.int 181 0, Value.ref 213, Value.none, Value.none, Value.none, Value.ref 214, Value.int 445 0, Value.int 67 0, Value.str (Str.ofString "/claim/cut.py") 446]) #[]
def o216_3 (P : Params) : Obj := Obj.mk (Value.type "function") .none (Data.func (FuncData.mk (Str.ofString "__init__") (Str.ofString "Thing.__init__") (defArgs (inClass (topS 9) 0)) (.stmts (defBody (inClass (topS 9) 0))) (defScope (inClass (topS 9) 0)) 3 [] Value.none Value.none Value.none (Value.str (Str.ofString "oneheap.objects.thing") 428) .none (Value.ref 215) Value.none 0)) #[]
def o217_3 (P : Params) : Obj := Obj.mk (Value.type "tuple") .none (Data.seq #[]) #[]
def o218_3 (P : Params) : Obj := Obj.mk Value.none .none (Data.fields #[]) #[]
def o219_3 (P : Params) : Obj := Obj.mk (Value.type "tuple") .none (Data.seq #[Value.str (Str.ofString "self") 451]) #[]
def o220_3 (P : Params) : Obj := Obj.mk (Value.type "tuple") .none (Data.seq #[]) #[]
def o221_3 (P : Params) : Obj := Obj.mk Value.none .none (Data.func (FuncData.mk (Str.ofString "copied") (Str.ofString "Thing.copied") (defArgs (inClass (topS 9) 1)) (.stmts (defBody (inClass (topS 9) 1))) (defScope (inClass (topS 9) 1)) 0 [] Value.none Value.none Value.none Value.none .none Value.none Value.none 0)) #[]
def o222_3 (P : Params) : Obj := Obj.mk (Value.type "code") .none (Data.fields #[Value.str (Str.ofString "copied") 448, Value.str (Str.ofString "Thing.copied") 449, Value.str (Str.ofString "/claim/cut.py") 450, Value.int 71 0, Value.int 1 0, Value.int 0 0, Value.int 0 0, Value.int 3 0, Value.ref 217, Value.bool true, Value.int 181 0, Value.ref 218, Value.none, Value.ref 219, Value.ref 220, Value.ref 221, Value.int 452 0, Value.int 71 0, Value.str (Str.ofString "/claim/cut.py") 453]) #[]
def o223_3 (P : Params) : Obj := Obj.mk (Value.type "function") .none (Data.func (FuncData.mk (Str.ofString "copied") (Str.ofString "Thing.copied") (defArgs (inClass (topS 9) 1)) (.stmts (defBody (inClass (topS 9) 1))) (defScope (inClass (topS 9) 1)) 3 [] Value.none Value.none Value.none (Value.str (Str.ofString "oneheap.objects.thing") 428) .none (Value.ref 222) Value.none 0)) #[]
def o224_3 (P : Params) : Obj := Obj.mk (Value.type "tuple") .none (Data.seq #[]) #[]
def o225_3 (P : Params) : Obj := Obj.mk Value.none .none (Data.fields #[]) #[]
def o226_3 (P : Params) : Obj := Obj.mk (Value.type "tuple") .none (Data.seq #[Value.str (Str.ofString "self") 458, Value.str (Str.ofString "other") 459]) #[]
def o227_3 (P : Params) : Obj := Obj.mk (Value.type "tuple") .none (Data.seq #[]) #[]
def o228_3 (P : Params) : Obj := Obj.mk Value.none .none (Data.func (FuncData.mk (Str.ofString "__eq__") (Str.ofString "Thing.__eq__") (defArgs (inClass (topS 9) 2)) (.stmts (defBody (inClass (topS 9) 2))) (defScope (inClass (topS 9) 2)) 0 [] Value.none Value.none Value.none Value.none .none Value.none Value.none 0)) #[]
def o229_3 (P : Params) : Obj := Obj.mk (Value.type "code") .none (Data.fields #[Value.str (Str.ofString "__eq__") 455, Value.str (Str.ofString "Thing.__eq__") 456, Value.str (Str.ofString "/claim/cut.py") 457, Value.int 74 0, Value.int 2 0, Value.int 0 0, Value.int 0 0, Value.int 3 0, Value.ref 224, Value.bool true, Value.int 181 0, Value.ref 225, Value.none, Value.ref 226, Value.ref 227, Value.ref 228, Value.int 460 0, Value.int 74 0, Value.str (Str.ofString "/claim/cut.py") 461]) #[]
def o230_3 (P : Params) : Obj := Obj.mk (Value.type "function") .none (Data.func (FuncData.mk (Str.ofString "__eq__") (Str.ofString "Thing.__eq__") (defArgs (inClass (topS 9) 2)) (.stmts (defBody (inClass (topS 9) 2))) (defScope (inClass (topS 9) 2)) 3 [] Value.none Value.none Value.none (Value.str (Str.ofString "oneheap.objects.thing") 428) .none (Value.ref 229) Value.none 0)) #[]
def o231_3 (P : Params) : Obj := Obj.mk (Value.type "tuple") .none (Data.seq #[Value.str (Str.ofString "contents") 463, Value.str (Str.ofString "kind") 464]) #[]
def o232_3 (P : Params) : Obj := Obj.mk (Value.type "dict") .none (Data.dict #[DictEntry.mk (PyData.keyHash P (Str.ofString "__module__")) (Value.str (Str.ofString "__module__") 437) (Value.str (Str.ofString "oneheap.objects.thing") 428), DictEntry.mk (PyData.keyHash P (Str.ofString "__firstlineno__")) (Value.str (Str.ofString "__firstlineno__") 441) (Value.int 65 440), DictEntry.mk (PyData.keyHash P (Str.ofString "__init__")) (Value.str (Str.ofString "__init__") 447) (Value.ref 216), DictEntry.mk (PyData.keyHash P (Str.ofString "copied")) (Value.str (Str.ofString "copied") 454) (Value.ref 223), DictEntry.mk (PyData.keyHash P (Str.ofString "__eq__")) (Value.str (Str.ofString "__eq__") 462) (Value.ref 230), DictEntry.mk (PyData.keyHash P (Str.ofString "__static_attributes__")) (Value.str (Str.ofString "__static_attributes__") 465) (Value.ref 231), DictEntry.mk (PyData.keyHash P (Str.ofString "__dict__")) (Value.str (Str.ofString "__dict__") 467) (Value.ref 234), DictEntry.mk (PyData.keyHash P (Str.ofString "__weakref__")) (Value.str (Str.ofString "__weakref__") 469) (Value.ref 235), DictEntry.mk (PyData.keyHash P (Str.ofString "__doc__")) (Value.str (Str.ofString "__doc__") 470) Value.none, DictEntry.mk (PyData.keyHash P (Str.ofString "__hash__")) (Value.str (Str.ofString "__hash__") 471) Value.none] 5) #[]
def o233_3 (P : Params) : Obj := Obj.mk (Value.type "type") .none (Data.cls (ClassData.mk (Str.ofString "Thing") [Value.type "object"] [Value.ref 233, Value.type "object"] 232 (Str.ofString "Thing") true [] [] false .none false)) #[.none, .none, .some (Value.str (Str.ofString "Thing") 430), .some (Value.str (Str.ofString "Thing") 438), .some (Value.builtin "object.__new__"), .some (Value.bool true)]
def o234_3 (P : Params) : Obj := Obj.mk (Value.type "getset_descriptor") .none (Data.fields #[Value.str (Str.ofString "__dict__") 466, Value.ref 233, Value.builtin "function.__dict__", Value.builtin "function.__dict__#set"]) #[]
def o235_3 (P : Params) : Obj := Obj.mk (Value.type "getset_descriptor") .none (Data.fields #[Value.str (Str.ofString "__weakref__") 468, Value.ref 233, Value.builtin "ExceptionGroup.__weakref__", Value.none]) #[]
def o236_3 (P : Params) : Obj := Obj.mk (Value.type "super") .none (Data.fields #[Value.ref 233, Value.ref 233, Value.ref 233]) #[]
def o237_3 (P : Params) : Obj := Obj.mk (Value.type "builtin_function_or_method") .none (Data.fields #[Value.builtin "object.__init_subclass__", Value.ref 233]) #[]
def o238_3 (P : Params) : Obj := Obj.mk (Value.type "tuple") .none (Data.seq #[]) #[]
def o239_3 (P : Params) : Obj := Obj.mk Value.none .none (Data.fields #[]) #[]
def o240_3 (P : Params) : Obj := Obj.mk (Value.type "tuple") .none (Data.seq #[Value.str (Str.ofString "content") 477]) #[]
def o241_3 (P : Params) : Obj := Obj.mk (Value.type "tuple") .none (Data.seq #[]) #[]
def o242_3 (P : Params) : Obj := Obj.mk Value.none .none (Data.func (FuncData.mk (Str.ofString "content_copy") (Str.ofString "content_copy") (defArgs (topS 10)) (.stmts (defBody (topS 10))) (defScope (topS 10)) 0 [] Value.none Value.none Value.none Value.none .none Value.none Value.none 0)) #[]
def o243_3 (P : Params) : Obj := Obj.mk (Value.type "code") .none (Data.fields #[Value.str (Str.ofString "content_copy") 474, Value.str (Str.ofString "content_copy") 475, Value.str (Str.ofString "/claim/cut.py") 476, Value.int 76 0, Value.int 1 0, Value.int 0 0, Value.int 0 0, Value.int 3 0, Value.ref 238, Value.bool true, Value.int 181 0, Value.ref 239, Value.none, Value.ref 240, Value.ref 241, Value.ref 242, Value.int 478 0, Value.int 76 0, Value.str (Str.ofString "/claim/cut.py") 479]) #[]
def o244_3 (P : Params) : Obj := Obj.mk (Value.type "function") .none (Data.func (FuncData.mk (Str.ofString "content_copy") (Str.ofString "content_copy") (defArgs (topS 10)) (.stmts (defBody (topS 10))) (defScope (topS 10)) 3 [] Value.none Value.none Value.none (Value.str (Str.ofString "oneheap.objects.thing") 428) .none (Value.ref 243) Value.none 0)) #[]
def o245_3 (P : Params) : Obj := Obj.mk (Value.type "tuple") .none (Data.seq #[]) #[]
def o246_3 (P : Params) : Obj := Obj.mk Value.none .none (Data.fields #[]) #[]
def o247_3 (P : Params) : Obj := Obj.mk Value.none .none (Data.func (FuncData.mk (Str.ofString "told_content") (Str.ofString "told_content") (defArgs (topS 11)) (.stmts (defBody (topS 11))) (defScope (topS 11)) 0 [] Value.none Value.none Value.none Value.none .none Value.none Value.none 0)) #[]
def o248_3 (P : Params) : Obj := Obj.mk (Value.type "code") .none (Data.fields #[Value.str (Str.ofString "told_content") 481, Value.str (Str.ofString "told_content") 482, Value.str (Str.ofString "/claim/cut.py") 483, Value.int 78 0, Value.int 3 0, Value.int 0 0, Value.int 0 0, Value.int 3 0, Value.ref 245, Value.bool true, Value.int 181 0, Value.ref 246, Value.none, Value.none, Value.none, Value.ref 247, Value.int 484 0, Value.int 78 0, Value.str (Str.ofString "/claim/cut.py") 485]) #[]
def o249_3 (P : Params) : Obj := Obj.mk (Value.type "function") .none (Data.func (FuncData.mk (Str.ofString "told_content") (Str.ofString "told_content") (defArgs (topS 11)) (.stmts (defBody (topS 11))) (defScope (topS 11)) 3 [] Value.none Value.none Value.none (Value.str (Str.ofString "oneheap.objects.thing") 428) .none (Value.ref 248) Value.none 0)) #[]
def o250_3 (P : Params) : Obj := Obj.mk (Value.type "tuple") .none (Data.seq #[]) #[]
def o251_3 (P : Params) : Obj := Obj.mk Value.none .none (Data.fields #[]) #[]
def o252_3 (P : Params) : Obj := Obj.mk (Value.type "tuple") .none (Data.seq #[Value.str (Str.ofString "source") 490, Value.str (Str.ofString "number") 491, Value.str (Str.ofString "kinds") 492, Value.str (Str.ofString "thing") 493]) #[]
def o253_3 (P : Params) : Obj := Obj.mk (Value.type "tuple") .none (Data.seq #[]) #[]
def o254_3 (P : Params) : Obj := Obj.mk Value.none .none (Data.func (FuncData.mk (Str.ofString "is_one_of") (Str.ofString "is_one_of") (defArgs (topS 12)) (.stmts (defBody (topS 12))) (defScope (topS 12)) 0 [] Value.none Value.none Value.none Value.none .none Value.none Value.none 0)) #[]
def o255_3 (P : Params) : Obj := Obj.mk (Value.type "code") .none (Data.fields #[Value.str (Str.ofString "is_one_of") 487, Value.str (Str.ofString "is_one_of") 488, Value.str (Str.ofString "/claim/cut.py") 489, Value.int 84 0, Value.int 3 0, Value.int 0 0, Value.int 0 0, Value.int 3 0, Value.ref 250, Value.bool true, Value.int 181 0, Value.ref 251, Value.none, Value.ref 252, Value.ref 253, Value.ref 254, Value.int 494 0, Value.int 84 0, Value.str (Str.ofString "/claim/cut.py") 495]) #[]
def o256_3 (P : Params) : Obj := Obj.mk (Value.type "function") .none (Data.func (FuncData.mk (Str.ofString "is_one_of") (Str.ofString "is_one_of") (defArgs (topS 12)) (.stmts (defBody (topS 12))) (defScope (topS 12)) 3 [] Value.none Value.none Value.none (Value.str (Str.ofString "oneheap.objects.thing") 428) .none (Value.ref 255) Value.none 0)) #[]
def o257_3 (P : Params) : Obj := Obj.mk (Value.type "tuple") .none (Data.seq #[]) #[]
def o258_3 (P : Params) : Obj := Obj.mk (Value.type "builtin_function_or_method") .none (Data.fields #[Value.builtin "type.__prepare__", Value.type "type"]) #[]
def o259_3 (P : Params) : Obj := Obj.mk (Value.type "dict") .none (Data.dict #[DictEntry.mk (PyData.keyHash P (Str.ofString "__module__")) (Value.str (Str.ofString "__module__") 506) (Value.str (Str.ofString "oneheap.objects.source") 497), DictEntry.mk (PyData.keyHash P (Str.ofString "__qualname__")) (Value.str (Str.ofString "__qualname__") 508) (Value.str (Str.ofString "PictureSource") 507), DictEntry.mk (PyData.keyHash P (Str.ofString "__firstlineno__")) (Value.str (Str.ofString "__firstlineno__") 510) (Value.int 88 509), DictEntry.mk (PyData.keyHash P (Str.ofString "__init__")) (Value.str (Str.ofString "__init__") 518) (Value.ref 270), DictEntry.mk (PyData.keyHash P (Str.ofString "thing")) (Value.str (Str.ofString "thing") 526) (Value.ref 277), DictEntry.mk (PyData.keyHash P (Str.ofString "numbers")) (Value.str (Str.ofString "numbers") 532) (Value.ref 282), DictEntry.mk (PyData.keyHash P (Str.ofString "referrers")) (Value.str (Str.ofString "referrers") 542) (Value.ref 289), DictEntry.mk (PyData.keyHash P (Str.ofString "alike")) (Value.str (Str.ofString "alike") 548) (Value.ref 294), DictEntry.mk (PyData.keyHash P (Str.ofString "__static_attributes__")) (Value.str (Str.ofString "__static_attributes__") 550) (Value.ref 295)] 9) #[]
def o260_3 (P : Params) : Obj := Obj.mk (Value.type "tuple") .none (Data.seq #[]) #[]
def o261_3 (P : Params) : Obj := Obj.mk Value.none .none (Data.fields #[Value.int 90 0, Value.int 4 0, Value.ref 269, Value.int 93 0, Value.int 4 0, Value.ref 276, Value.int 96 0, Value.int 4 0, Value.ref 281, Value.int 99 0, Value.int 4 0, Value.ref 288, Value.int 102 0, Value.int 4 0, Value.ref 293]) #[]
def o262_3 (P : Params) : Obj := Obj.mk (Value.type "code") .none (Data.fields #[Value.str (Str.ofString "PictureSource") 501, Value.str (Str.ofString "PictureSource") 502, Value.str (Str.ofString "/claim/cut.py") 503, Value.int 88 0, Value.int 0 0, Value.int 0 0, Value.int 0 0, Value.int 0 0, Value.ref 260, Value.bool false, Value.int 181 0, Value.ref 261, Value.none, Value.none, Value.none, Value.none, Value.int 504 0, Value.int 88 0, Value.str (Str.ofString "/claim/cut.py") 505]) #[]
def o263_3 (P : Params) : Obj := Obj.mk (Value.type "frame") .none Data.plain #[.some (Value.ref 262), .some (Value.ref 3), .some (Value.ref 259), .none, .some (Value.str (Str.ofString "oneheap.objects.source") 497), .none, .some (Value.ref 0)]
def o264_3 (P : Params) : Obj := Obj.mk (Value.type "tuple") .none (Data.seq #[]) #[]
def o265_3 (P : Params) : Obj := Obj.mk Value.none .none (Data.fields #[]) #[]
def o266_3 (P : Params) : Obj := Obj.mk (Value.type "tuple") .none (Data.seq #[Value.str (Str.ofString "self") 514, Value.str (Str.ofString "picture") 515]) #[]
def o267_3 (P : Params) : Obj := Obj.mk (Value.type "tuple") .none (Data.seq #[]) #[]
def o268_3 (P : Params) : Obj := Obj.mk Value.none .none (Data.func (FuncData.mk (Str.ofString "__init__") (Str.ofString "PictureSource.__init__") (defArgs (inClass (topS 14) 0)) (.stmts (defBody (inClass (topS 14) 0))) (defScope (inClass (topS 14) 0)) 0 [] Value.none Value.none Value.none Value.none .none Value.none Value.none 0)) #[]
def o269_3 (P : Params) : Obj := Obj.mk (Value.type "code") .none (Data.fields #[Value.str (Str.ofString "__init__") 511, Value.str (Str.ofString "PictureSource.__init__") 512, Value.str (Str.ofString "/claim/cut.py") 513, Value.int 90 0, Value.int 2 0, Value.int 0 0, Value.int 0 0, Value.int 3 0, Value.ref 264, Value.bool true, Value.int 181 0, Value.ref 265, Value.none, Value.ref 266, Value.ref 267, Value.ref 268, Value.int 516 0, Value.int 90 0, Value.str (Str.ofString "/claim/cut.py") 517]) #[]
def o270_3 (P : Params) : Obj := Obj.mk (Value.type "function") .none (Data.func (FuncData.mk (Str.ofString "__init__") (Str.ofString "PictureSource.__init__") (defArgs (inClass (topS 14) 0)) (.stmts (defBody (inClass (topS 14) 0))) (defScope (inClass (topS 14) 0)) 3 [] Value.none Value.none Value.none (Value.str (Str.ofString "oneheap.objects.source") 497) .none (Value.ref 269) Value.none 0)) #[]
def o271_3 (P : Params) : Obj := Obj.mk (Value.type "tuple") .none (Data.seq #[]) #[]
def o272_3 (P : Params) : Obj := Obj.mk Value.none .none (Data.fields #[]) #[]
def o273_3 (P : Params) : Obj := Obj.mk (Value.type "tuple") .none (Data.seq #[Value.str (Str.ofString "self") 522, Value.str (Str.ofString "number") 523]) #[]
def o274_3 (P : Params) : Obj := Obj.mk (Value.type "tuple") .none (Data.seq #[]) #[]
def o275_3 (P : Params) : Obj := Obj.mk Value.none .none (Data.func (FuncData.mk (Str.ofString "thing") (Str.ofString "PictureSource.thing") (defArgs (inClass (topS 14) 1)) (.stmts (defBody (inClass (topS 14) 1))) (defScope (inClass (topS 14) 1)) 0 [] Value.none Value.none Value.none Value.none .none Value.none Value.none 0)) #[]
def o276_3 (P : Params) : Obj := Obj.mk (Value.type "code") .none (Data.fields #[Value.str (Str.ofString "thing") 519, Value.str (Str.ofString "PictureSource.thing") 520, Value.str (Str.ofString "/claim/cut.py") 521, Value.int 93 0, Value.int 2 0, Value.int 0 0, Value.int 0 0, Value.int 3 0, Value.ref 271, Value.bool true, Value.int 181 0, Value.ref 272, Value.none, Value.ref 273, Value.ref 274, Value.ref 275, Value.int 524 0, Value.int 93 0, Value.str (Str.ofString "/claim/cut.py") 525]) #[]
def o277_3 (P : Params) : Obj := Obj.mk (Value.type "function") .none (Data.func (FuncData.mk (Str.ofString "thing") (Str.ofString "PictureSource.thing") (defArgs (inClass (topS 14) 1)) (.stmts (defBody (inClass (topS 14) 1))) (defScope (inClass (topS 14) 1)) 3 [] Value.none Value.none Value.none (Value.str (Str.ofString "oneheap.objects.source") 497) .none (Value.ref 276) Value.none 0)) #[]
def o278_3 (P : Params) : Obj := Obj.mk (Value.type "tuple") .none (Data.seq #[]) #[]
def o279_3 (P : Params) : Obj := Obj.mk Value.none .none (Data.fields #[]) #[]
def o280_3 (P : Params) : Obj := Obj.mk Value.none .none (Data.func (FuncData.mk (Str.ofString "numbers") (Str.ofString "PictureSource.numbers") (defArgs (inClass (topS 14) 2)) (.stmts (defBody (inClass (topS 14) 2))) (defScope (inClass (topS 14) 2)) 0 [] Value.none Value.none Value.none Value.none .none Value.none Value.none 0)) #[]
def o281_3 (P : Params) : Obj := Obj.mk (Value.type "code") .none (Data.fields #[Value.str (Str.ofString "numbers") 527, Value.str (Str.ofString "PictureSource.numbers") 528, Value.str (Str.ofString "/claim/cut.py") 529, Value.int 96 0, Value.int 2 0, Value.int 0 0, Value.int 0 0, Value.int 3 0, Value.ref 278, Value.bool true, Value.int 181 0, Value.ref 279, Value.none, Value.none, Value.none, Value.ref 280, Value.int 530 0, Value.int 96 0, Value.str (Str.ofString "/claim/cut.py") 531]) #[]
def o282_3 (P : Params) : Obj := Obj.mk (Value.type "function") .none (Data.func (FuncData.mk (Str.ofString "numbers") (Str.ofString "PictureSource.numbers") (defArgs (inClass (topS 14) 2)) (.stmts (defBody (inClass (topS 14) 2))) (defScope (inClass (topS 14) 2)) 3 [] Value.none Value.none Value.none (Value.str (Str.ofString "oneheap.objects.source") 497) .none (Value.ref 281) Value.none 0)) #[]
def o283_3 (P : Params) : Obj := Obj.mk (Value.type "tuple") .none (Data.seq #[]) #[]
def o284_3 (P : Params) : Obj := Obj.mk Value.none .none (Data.fields #[]) #[]
def o285_3 (P : Params) : Obj := Obj.mk (Value.type "tuple") .none (Data.seq #[Value.str (Str.ofString "self") 536, Value.str (Str.ofString "number") 537, Value.str (Str.ofString "kind") 538, Value.str (Str.ofString "field") 539]) #[]
def o286_3 (P : Params) : Obj := Obj.mk (Value.type "tuple") .none (Data.seq #[]) #[]
def o287_3 (P : Params) : Obj := Obj.mk Value.none .none (Data.func (FuncData.mk (Str.ofString "referrers") (Str.ofString "PictureSource.referrers") (defArgs (inClass (topS 14) 3)) (.stmts (defBody (inClass (topS 14) 3))) (defScope (inClass (topS 14) 3)) 0 [] Value.none Value.none Value.none Value.none .none Value.none Value.none 0)) #[]
def o288_3 (P : Params) : Obj := Obj.mk (Value.type "code") .none (Data.fields #[Value.str (Str.ofString "referrers") 533, Value.str (Str.ofString "PictureSource.referrers") 534, Value.str (Str.ofString "/claim/cut.py") 535, Value.int 99 0, Value.int 4 0, Value.int 0 0, Value.int 0 0, Value.int 3 0, Value.ref 283, Value.bool true, Value.int 181 0, Value.ref 284, Value.none, Value.ref 285, Value.ref 286, Value.ref 287, Value.int 540 0, Value.int 99 0, Value.str (Str.ofString "/claim/cut.py") 541]) #[]
def o289_3 (P : Params) : Obj := Obj.mk (Value.type "function") .none (Data.func (FuncData.mk (Str.ofString "referrers") (Str.ofString "PictureSource.referrers") (defArgs (inClass (topS 14) 3)) (.stmts (defBody (inClass (topS 14) 3))) (defScope (inClass (topS 14) 3)) 3 [] Value.none Value.none Value.none (Value.str (Str.ofString "oneheap.objects.source") 497) .none (Value.ref 288) Value.none 0)) #[]
def o290_3 (P : Params) : Obj := Obj.mk (Value.type "tuple") .none (Data.seq #[]) #[]
def o291_3 (P : Params) : Obj := Obj.mk Value.none .none (Data.fields #[]) #[]
def o292_3 (P : Params) : Obj := Obj.mk Value.none .none (Data.func (FuncData.mk (Str.ofString "alike") (Str.ofString "PictureSource.alike") (defArgs (inClass (topS 14) 4)) (.stmts (defBody (inClass (topS 14) 4))) (defScope (inClass (topS 14) 4)) 0 [] Value.none Value.none Value.none Value.none .none Value.none Value.none 0)) #[]
def o293_3 (P : Params) : Obj := Obj.mk (Value.type "code") .none (Data.fields #[Value.str (Str.ofString "alike") 543, Value.str (Str.ofString "PictureSource.alike") 544, Value.str (Str.ofString "/claim/cut.py") 545, Value.int 102 0, Value.int 4 0, Value.int 0 0, Value.int 0 0, Value.int 3 0, Value.ref 290, Value.bool true, Value.int 181 0, Value.ref 291, Value.none, Value.none, Value.none, Value.ref 292, Value.int 546 0, Value.int 102 0, Value.str (Str.ofString "/claim/cut.py") 547]) #[]
def o294_3 (P : Params) : Obj := Obj.mk (Value.type "function") .none (Data.func (FuncData.mk (Str.ofString "alike") (Str.ofString "PictureSource.alike") (defArgs (inClass (topS 14) 4)) (.stmts (defBody (inClass (topS 14) 4))) (defScope (inClass (topS 14) 4)) 3 [] Value.none Value.none Value.none (Value.str (Str.ofString "oneheap.objects.source") 497) .none (Value.ref 293) Value.none 0)) #[]
def o295_3 (P : Params) : Obj := Obj.mk (Value.type "tuple") .none (Data.seq #[Value.str (Str.ofString "things") 549]) #[]
def o296_3 (P : Params) : Obj := Obj.mk (Value.type "dict") .none (Data.dict #[DictEntry.mk (PyData.keyHash P (Str.ofString "__module__")) (Value.str (Str.ofString "__module__") 506) (Value.str (Str.ofString "oneheap.objects.source") 497), DictEntry.mk (PyData.keyHash P (Str.ofString "__firstlineno__")) (Value.str (Str.ofString "__firstlineno__") 510) (Value.int 88 509), DictEntry.mk (PyData.keyHash P (Str.ofString "__init__")) (Value.str (Str.ofString "__init__") 518) (Value.ref 270), DictEntry.mk (PyData.keyHash P (Str.ofString "thing")) (Value.str (Str.ofString "thing") 526) (Value.ref 277), DictEntry.mk (PyData.keyHash P (Str.ofString "numbers")) (Value.str (Str.ofString "numbers") 532) (Value.ref 282), DictEntry.mk (PyData.keyHash P (Str.ofString "referrers")) (Value.str (Str.ofString "referrers") 542) (Value.ref 289), DictEntry.mk (PyData.keyHash P (Str.ofString "alike")) (Value.str (Str.ofString "alike") 548) (Value.ref 294), DictEntry.mk (PyData.keyHash P (Str.ofString "__static_attributes__")) (Value.str (Str.ofString "__static_attributes__") 550) (Value.ref 295), DictEntry.mk (PyData.keyHash P (Str.ofString "__dict__")) (Value.str (Str.ofString "__dict__") 552) (Value.ref 298), DictEntry.mk (PyData.keyHash P (Str.ofString "__weakref__")) (Value.str (Str.ofString "__weakref__") 554) (Value.ref 299), DictEntry.mk (PyData.keyHash P (Str.ofString "__doc__")) (Value.str (Str.ofString "__doc__") 555) Value.none] 4) #[]
def o297_3 (P : Params) : Obj := Obj.mk (Value.type "type") .none (Data.cls (ClassData.mk (Str.ofString "PictureSource") [Value.type "object"] [Value.ref 297, Value.type "object"] 296 (Str.ofString "PictureSource") true [] [] false .none false)) #[.none, .none, .some (Value.str (Str.ofString "PictureSource") 499), .some (Value.str (Str.ofString "PictureSource") 507), .some (Value.builtin "object.__new__"), .some (Value.bool true)]
def o298_3 (P : Params) : Obj := Obj.mk (Value.type "getset_descriptor") .none (Data.fields #[Value.str (Str.ofString "__dict__") 551, Value.ref 297, Value.builtin "function.__dict__", Value.builtin "function.__dict__#set"]) #[]
def o299_3 (P : Params) : Obj := Obj.mk (Value.type "getset_descriptor") .none (Data.fields #[Value.str (Str.ofString "__weakref__") 553, Value.ref 297, Value.builtin "ExceptionGroup.__weakref__", Value.none]) #[]
def o300_3 (P : Params) : Obj := Obj.mk (Value.type "super") .none (Data.fields #[Value.ref 297, Value.ref 297, Value.ref 297]) #[]
def o301_3 (P : Params) : Obj := Obj.mk (Value.type "builtin_function_or_method") .none (Data.fields #[Value.builtin "object.__init_subclass__", Value.ref 297]) #[]
def tr3 (P : Params) : PySem.W.BT := (.node (PySem.W.boot_o_0 P) (.node (PySem.W.boot_o_1 P) (.node (o3_3 P) (.node (PySem.W.boot_o_7 P) (.node (o15_3 P) (.node (o31_3 P) (.node (o63_3 P) (.node (o127_3 P) (.node (o255_3 P) .nil .nil) .nil) (.node (o191_3 P) .nil .nil)) (.node (o95_3 P) (.node (o159_3 P) (.node (o287_3 P) .nil .nil) .nil) (.node (o223_3 P) .nil .nil))) (.node (o47_3 P) (.node (o79_3 P) (.node (o143_3 P) (.node (o271_3 P) .nil .nil) .nil) (.node (o207_3 P) .nil .nil)) (.node (o111_3 P) (.node (o175_3 P) .nil .nil) (.node (o239_3 P) .nil .nil)))) (.node (o23_3 P) (.node (o39_3 P) (.node (o71_3 P) (.node (o135_3 P) (.node (o263_3 P) .nil .nil) .nil) (.node (o199_3 P) .nil .nil)) (.node (o103_3 P) (.node (o167_3 P) (.node (o295_3 P) .nil .nil) .nil) (.node (o231_3 P) .nil .nil))) (.node (o55_3 P) (.node (o87_3 P) (.node (o151_3 P) (.node (o279_3 P) .nil .nil) .nil) (.node (o215_3 P) .nil .nil)) (.node (o119_3 P) (.node (o183_3 P) .nil .nil) (.node (o247_3 P) .nil .nil))))) (.node (o11_1 P) (.node (o19_3 P) (.node (o35_3 P) (.node (o67_3 P) (.node (o131_3 P) (.node (o259_3 P) .nil .nil) .nil) (.node (o195_3 P) .nil .nil)) (.node (o99_3 P) (.node (o163_3 P) (.node (o291_3 P) .nil .nil) .nil) (.node (o227_3 P) .nil .nil))) (.node (o51_3 P) (.node (o83_3 P) (.node (o147_3 P) (.node (o275_3 P) .nil .nil) .nil) (.node (o211_3 P) .nil .nil)) (.node (o115_3 P) (.node (o179_3 P) .nil .nil) (.node (o243_3 P) .nil .nil)))) (.node (o27_3 P) (.node (o43_3 P) (.node (o75_3 P) (.node (o139_3 P) (.node (o267_3 P) .nil .nil) .nil) (.node (o203_3 P) .nil .nil)) (.node (o107_3 P) (.node (o171_3 P) (.node (o299_3 P) .nil .nil) .nil) (.node (o235_3 P) .nil .nil))) (.node (o59_3 P) (.node (o91_3 P) (.node (o155_3 P) (.node (o283_3 P) .nil .nil) .nil) (.node (o219_3 P) .nil .nil)) (.node (o123_3 P) (.node (o187_3 P) .nil .nil) (.node (o251_3 P) .nil .nil)))))) (.node (PySem.W.boot_o_5 P) (.node (PySem.W.boot_o_9 P) (.node (o17_3 P) (.node (o33_3 P) (.node (o65_3 P) (.node (o129_3 P) (.node (o257_3 P) .nil .nil) .nil) (.node (o193_3 P) .nil .nil)) (.node (o97_3 P) (.node (o161_3 P) (.node (o289_3 P) .nil .nil) .nil) (.node (o225_3 P) .nil .nil))) (.node (o49_3 P) (.node (o81_3 P) (.node (o145_3 P) (.node (o273_3 P) .nil .nil) .nil) (.node (o209_3 P) .nil .nil)) (.node (o113_3 P) (.node (o177_3 P) .nil .nil) (.node (o241_3 P) .nil .nil)))) (.node (o25_3 P) (.node (o41_3 P) (.node (o73_3 P) (.node (o137_3 P) (.node (o265_3 P) .nil .nil) .nil) (.node (o201_3 P) .nil .nil)) (.node (o105_3 P) (.node (o169_3 P) (.node (o297_3 P) .nil .nil) .nil) (.node (o233_3 P) .nil .nil))) (.node (o57_3 P) (.node (o89_3 P) (.node (o153_3 P) (.node (o281_3 P) .nil .nil) .nil) (.node (o217_3 P) .nil .nil)) (.node (o121_3 P) (.node (o185_3 P) .nil .nil) (.node (o249_3 P) .nil .nil))))) (.node (o13_1 P) (.node (o21_3 P) (.node (o37_3 P) (.node (o69_3 P) (.node (o133_3 P) (.node (o261_3 P) .nil .nil) .nil) (.node (o197_3 P) .nil .nil)) (.node (o101_3 P) (.node (o165_3 P) (.node (o293_3 P) .nil .nil) .nil) (.node (o229_3 P) .nil .nil))) (.node (o53_3 P) (.node (o85_3 P) (.node (o149_3 P) (.node (o277_3 P) .nil .nil) .nil) (.node (o213_3 P) .nil .nil)) (.node (o117_3 P) (.node (o181_3 P) .nil .nil) (.node (o245_3 P) .nil .nil)))) (.node (o29_3 P) (.node (o45_3 P) (.node (o77_3 P) (.node (o141_3 P) (.node (o269_3 P) .nil .nil) .nil) (.node (o205_3 P) .nil .nil)) (.node (o109_3 P) (.node (o173_3 P) (.node (o301_3 P) .nil .nil) .nil) (.node (o237_3 P) .nil .nil))) (.node (o61_3 P) (.node (o93_3 P) (.node (o157_3 P) (.node (o285_3 P) .nil .nil) .nil) (.node (o221_3 P) .nil .nil)) (.node (o125_3 P) (.node (o189_3 P) .nil .nil) (.node (o253_3 P) .nil .nil))))))) (.node (PySem.W.boot_o_2 P) (.node (PySem.W.boot_o_4 P) (.node (PySem.W.boot_o_8 P) (.node (o16_3 P) (.node (o32_3 P) (.node (o64_3 P) (.node (o128_3 P) (.node (o256_3 P) .nil .nil) .nil) (.node (o192_3 P) .nil .nil)) (.node (o96_3 P) (.node (o160_3 P) (.node (o288_3 P) .nil .nil) .nil) (.node (o224_3 P) .nil .nil))) (.node (o48_3 P) (.node (o80_3 P) (.node (o144_3 P) (.node (o272_3 P) .nil .nil) .nil) (.node (o208_3 P) .nil .nil)) (.node (o112_3 P) (.node (o176_3 P) .nil .nil) (.node (o240_3 P) .nil .nil)))) (.node (o24_3 P) (.node (o40_3 P) (.node (o72_3 P) (.node (o136_3 P) (.node (o264_3 P) .nil .nil) .nil) (.node (o200_3 P) .nil .nil)) (.node (o104_3 P) (.node (o168_3 P) (.node (o296_3 P) .nil .nil) .nil) (.node (o232_3 P) .nil .nil))) (.node (o56_3 P) (.node (o88_3 P) (.node (o152_3 P) (.node (o280_3 P) .nil .nil) .nil) (.node (o216_3 P) .nil .nil)) (.node (o120_3 P) (.node (o184_3 P) .nil .nil) (.node (o248_3 P) .nil .nil))))) (.node (o12_3 P) (.node (o20_3 P) (.node (o36_3 P) (.node (o68_3 P) (.node (o132_3 P) (.node (o260_3 P) .nil .nil) .nil) (.node (o196_3 P) .nil .nil)) (.node (o100_3 P) (.node (o164_3 P) (.node (o292_3 P) .nil .nil) .nil) (.node (o228_3 P) .nil .nil))) (.node (o52_3 P) (.node (o84_3 P) (.node (o148_3 P) (.node (o276_3 P) .nil .nil) .nil) (.node (o212_3 P) .nil .nil)) (.node (o116_3 P) (.node (o180_3 P) .nil .nil) (.node (o244_3 P) .nil .nil)))) (.node (o28_3 P) (.node (o44_3 P) (.node (o76_3 P) (.node (o140_3 P) (.node (o268_3 P) .nil .nil) .nil) (.node (o204_3 P) .nil .nil)) (.node (o108_3 P) (.node (o172_3 P) (.node (o300_3 P) .nil .nil) .nil) (.node (o236_3 P) .nil .nil))) (.node (o60_3 P) (.node (o92_3 P) (.node (o156_3 P) (.node (o284_3 P) .nil .nil) .nil) (.node (o220_3 P) .nil .nil)) (.node (o124_3 P) (.node (o188_3 P) .nil .nil) (.node (o252_3 P) .nil .nil)))))) (.node (PySem.W.boot_o_6 P) (.node (PySem.W.boot_o_10 P) (.node (o18_3 P) (.node (o34_3 P) (.node (o66_3 P) (.node (o130_3 P) (.node (o258_3 P) .nil .nil) .nil) (.node (o194_3 P) .nil .nil)) (.node (o98_3 P) (.node (o162_3 P) (.node (o290_3 P) .nil .nil) .nil) (.node (o226_3 P) .nil .nil))) (.node (o50_3 P) (.node (o82_3 P) (.node (o146_3 P) (.node (o274_3 P) .nil .nil) .nil) (.node (o210_3 P) .nil .nil)) (.node (o114_3 P) (.node (o178_3 P) .nil .nil) (.node (o242_3 P) .nil .nil)))) (.node (o26_3 P) (.node (o42_3 P) (.node (o74_3 P) (.node (o138_3 P) (.node (o266_3 P) .nil .nil) .nil) (.node (o202_3 P) .nil .nil)) (.node (o106_3 P) (.node (o170_3 P) (.node (o298_3 P) .nil .nil) .nil) (.node (o234_3 P) .nil .nil))) (.node (o58_3 P) (.node (o90_3 P) (.node (o154_3 P) (.node (o282_3 P) .nil .nil) .nil) (.node (o218_3 P) .nil .nil)) (.node (o122_3 P) (.node (o186_3 P) .nil .nil) (.node (o250_3 P) .nil .nil))))) (.node (o14_1 P) (.node (o22_3 P) (.node (o38_3 P) (.node (o70_3 P) (.node (o134_3 P) (.node (o262_3 P) .nil .nil) .nil) (.node (o198_3 P) .nil .nil)) (.node (o102_3 P) (.node (o166_3 P) (.node (o294_3 P) .nil .nil) .nil) (.node (o230_3 P) .nil .nil))) (.node (o54_3 P) (.node (o86_3 P) (.node (o150_3 P) (.node (o278_3 P) .nil .nil) .nil) (.node (o214_3 P) .nil .nil)) (.node (o118_3 P) (.node (o182_3 P) .nil .nil) (.node (o246_3 P) .nil .nil)))) (.node (o30_3 P) (.node (o46_3 P) (.node (o78_3 P) (.node (o142_3 P) (.node (o270_3 P) .nil .nil) .nil) (.node (o206_3 P) .nil .nil)) (.node (o110_3 P) (.node (o174_3 P) .nil .nil) (.node (o238_3 P) .nil .nil))) (.node (o62_3 P) (.node (o94_3 P) (.node (o158_3 P) (.node (o286_3 P) .nil .nil) .nil) (.node (o222_3 P) .nil .nil)) (.node (o126_3 P) (.node (o190_3 P) .nil .nil) (.node (o254_3 P) .nil .nil))))))))
def sT3 (w : World) (os : OsState) : PySem.W.SharedT := ⟨tr3 w.params, 302, (Life.mk [] [] [] 0 [] [] false #[] [] 0 false false false 0 [2000, 10, 10] false 0 true [] [] 0 false), #[], (Drawn.mk 0 0 0 0), 558, os⟩
def o3_4 (P : Params) : Obj := Obj.mk (Value.type "dict") .none (Data.dict #[DictEntry.mk (PyData.keyHash P (Str.ofString "__name__")) (Value.str (Str.ofString "__name__") 165) (Value.str (Str.ofString "law_oneheap_k46_constraints_and_sizes") 847), DictEntry.mk (PyData.keyHash P (Str.ofString "__doc__")) (Value.str (Str.ofString "__doc__") 166) Value.none, DictEntry.mk (PyData.keyHash P (Str.ofString "__package__")) (Value.str (Str.ofString "__package__") 167) Value.none, DictEntry.mk (PyData.keyHash P (Str.ofString "__loader__")) (Value.str (Str.ofString "__loader__") 168) (Value.builtin "__main__.__loader__#opaque"), DictEntry.mk (PyData.keyHash P (Str.ofString "__spec__")) (Value.str (Str.ofString "__spec__") 169) Value.none, DictEntry.mk (PyData.keyHash P (Str.ofString "__annotations__")) (Value.str (Str.ofString "__annotations__") 170) (Value.ref 6), DictEntry.mk (PyData.keyHash P (Str.ofString "__builtins__")) (Value.str (Str.ofString "__builtins__") 171) (Value.ref 4), DictEntry.mk (PyData.keyHash P (Str.ofString "__file__")) (Value.str (Str.ofString "__file__") 173) (Value.str (Str.ofString "/claim/cut.py") 172), DictEntry.mk (PyData.keyHash P (Str.ofString "__cached__")) (Value.str (Str.ofString "__cached__") 174) Value.none, DictEntry.mk (PyData.keyHash P (Str.ofString "_wall")) (Value.str (Str.ofString "_wall") 193) (Value.ref 21), DictEntry.mk (PyData.keyHash P (Str.ofString "IntSort")) (Value.str (Str.ofString "IntSort") 250) (Value.ref 59), DictEntry.mk (PyData.keyHash P (Str.ofString "TextSort")) (Value.str (Str.ofString "TextSort") 305) (Value.ref 102), DictEntry.mk (PyData.keyHash P (Str.ofString "RefSort")) (Value.str (Str.ofString "RefSort") 360) (Value.ref 144), DictEntry.mk (PyData.keyHash P (Str.ofString "ListSort")) (Value.str (Str.ofString "ListSort") 413) (Value.ref 186), DictEntry.mk (PyData.keyHash P (Str.ofString "is_reference")) (Value.str (Str.ofString "is_reference") 420) (Value.ref 197), DictEntry.mk (PyData.keyHash P (Str.ofString "is_list")) (Value.str (Str.ofString "is_list") 427) (Value.ref 204), DictEntry.mk (PyData.keyHash P (Str.ofString "Thing")) (Value.str (Str.ofString "Thing") 473) (Value.ref 233), DictEntry.mk (PyData.keyHash P (Str.ofString "content_copy")) (Value.str (Str.ofString "content_copy") 480) (Value.ref 244), DictEntry.mk (PyData.keyHash P (Str.ofString "told_content")) (Value.str (Str.ofString "told_content") 486) (Value.ref 249), DictEntry.mk (PyData.keyHash P (Str.ofString "is_one_of")) (Value.str (Str.ofString "is_one_of") 496) (Value.ref 256), DictEntry.mk (PyData.keyHash P (Str.ofString "PictureSource")) (Value.str (Str.ofString "PictureSource") 557) (Value.ref 297), DictEntry.mk (PyData.keyHash P (Str.ofString "has_amounts")) (Value.str (Str.ofString "has_amounts") 563) (Value.ref 306), DictEntry.mk (PyData.keyHash P (Str.ofString "Field")) (Value.str (Str.ofString "Field") 605) (Value.ref 331), DictEntry.mk (PyData.keyHash P (Str.ofString "Kind")) (Value.str (Str.ofString "Kind") 656) (Value.ref 369), DictEntry.mk (PyData.keyHash P (Str.ofString "Schema")) (Value.str (Str.ofString "Schema") 717) (Value.ref 416), DictEntry.mk (PyData.keyHash P (Str.ofString "needed_constraint")) (Value.str (Str.ofString "needed_constraint") 725) (Value.ref 427), DictEntry.mk (PyData.keyHash P (Str.ofString "key_constraint")) (Value.str (Str.ofString "key_constraint") 733) (Value.ref 434), DictEntry.mk (PyData.keyHash P (Str.ofString "constraints_against")) (Value.str (Str.ofString "constraints_against") 745) (Value.ref 441), DictEntry.mk (PyData.keyHash P (Str.ofString "against_fields")) (Value.str (Str.ofString "against_fields") 751) (Value.ref 446), DictEntry.mk (PyData.keyHash P (Str.ofString "told_of")) (Value.str (Str.ofString "told_of") 761) (Value.ref 453), DictEntry.mk (PyData.keyHash P (Str.ofString "has_double")) (Value.str (Str.ofString "has_double") 767) (Value.ref 458), DictEntry.mk (PyData.keyHash P (Str.ofString "first_against")) (Value.str (Str.ofString "first_against") 779) (Value.ref 465), DictEntry.mk (PyData.keyHash P (Str.ofString "picture_size")) (Value.str (Str.ofString "picture_size") 785) (Value.ref 470), DictEntry.mk (PyData.keyHash P (Str.ofString "thing_size")) (Value.str (Str.ofString "thing_size") 791) (Value.ref 475), DictEntry.mk (PyData.keyHash P (Str.ofString "content_size")) (Value.str (Str.ofString "content_size") 800) (Value.ref 482), DictEntry.mk (PyData.keyHash P (Str.ofString "Touch")) (Value.str (Str.ofString "Touch") 846) (Value.ref 506), DictEntry.mk (PyData.keyHash P (Str.ofString "_law_cells")) (Value.str (Str.ofString "_law_cells") 859) (Value.ref 517), DictEntry.mk (PyData.keyHash P (Str.ofString "_law_draw")) (Value.str (Str.ofString "_law_draw") 868) (Value.ref 524), DictEntry.mk (PyData.keyHash P (Str.ofString "_law_pick")) (Value.str (Str.ofString "_law_pick") 876) (Value.ref 531), DictEntry.mk (PyData.keyHash P (Str.ofString "_law_links")) (Value.str (Str.ofString "_law_links") 884) (Value.ref 538), DictEntry.mk (PyData.keyHash P (Str.ofString "_law_names")) (Value.str (Str.ofString "_law_names") 891) (Value.ref 545), DictEntry.mk (PyData.keyHash P (Str.ofString "_law_rules")) (Value.str (Str.ofString "_law_rules") 897) (Value.ref 550), DictEntry.mk (PyData.keyHash P (Str.ofString "_law_schema")) (Value.str (Str.ofString "_law_schema") 907) (Value.ref 557), DictEntry.mk (PyData.keyHash P (Str.ofString "_law_number")) (Value.str (Str.ofString "_law_number") 915) (Value.ref 564), DictEntry.mk (PyData.keyHash P (Str.ofString "_law_list")) (Value.str (Str.ofString "_law_list") 925) (Value.ref 571), DictEntry.mk (PyData.keyHash P (Str.ofString "_law_contents")) (Value.str (Str.ofString "_law_contents") 934) (Value.ref 578), DictEntry.mk (PyData.keyHash P (Str.ofString "_law_picture")) (Value.str (Str.ofString "_law_picture") 945) (Value.ref 585), DictEntry.mk (PyData.keyHash P (Str.ofString "_law_there")) (Value.str (Str.ofString "_law_there") 954) (Value.ref 592), DictEntry.mk (PyData.keyHash P (Str.ofString "_law_told")) (Value.str (Str.ofString "_law_told") 960) (Value.ref 597), DictEntry.mk (PyData.keyHash P (Str.ofString "_law_against")) (Value.str (Str.ofString "_law_against") 966) (Value.ref 602), DictEntry.mk (PyData.keyHash P (Str.ofString "_law_size")) (Value.str (Str.ofString "_law_size") 978) (Value.ref 609), DictEntry.mk (PyData.keyHash P (Str.ofString "_law_first")) (Value.str (Str.ofString "_law_first") 984) (Value.ref 614)] 52) #[]
def o12_4 (P : Params) : Obj := Obj.mk Value.none .none (Data.fields #[Value.int 1 0, Value.int 0 0, Value.ref 20, Value.int 5 0, Value.int 0 0, Value.ref 27, Value.int 19 0, Value.int 0 0, Value.ref 69, Value.int 33 0, Value.int 0 0, Value.ref 112, Value.int 47 0, Value.int 0 0, Value.ref 154, Value.int 60 0, Value.int 0 0, Value.ref 196, Value.int 62 0, Value.int 0 0, Value.ref 203, Value.int 65 0, Value.int 0 0, Value.ref 210, Value.int 76 0, Value.int 0 0, Value.ref 243, Value.int 78 0, Value.int 0 0, Value.ref 248, Value.int 84 0, Value.int 0 0, Value.ref 255, Value.int 88 0, Value.int 0 0, Value.ref 262, Value.int 104 0, Value.int 0 0, Value.ref 305, Value.int 107 0, Value.int 0 0, Value.ref 312, Value.int 116 0, Value.int 0 0, Value.ref 341, Value.int 134 0, Value.int 0 0, Value.ref 379, Value.int 154 0, Value.int 0 0, Value.ref 426, Value.int 156 0, Value.int 0 0, Value.ref 433, Value.int 159 0, Value.int 0 0, Value.ref 440, Value.int 162 0, Value.int 0 0, Value.ref 445, Value.int 173 0, Value.int 0 0, Value.ref 452, Value.int 175 0, Value.int 0 0, Value.ref 457, Value.int 180 0, Value.int 0 0, Value.ref 464, Value.int 188 0, Value.int 0 0, Value.ref 469, Value.int 191 0, Value.int 0 0, Value.ref 474, Value.int 194 0, Value.int 0 0, Value.ref 481, Value.int 199 0, Value.int 0 0, Value.ref 488, Value.int 212 0, Value.int 0 0, Value.ref 516, Value.int 225 0, Value.int 0 0, Value.ref 523, Value.int 231 0, Value.int 0 0, Value.ref 530, Value.int 233 0, Value.int 0 0, Value.ref 537, Value.int 237 0, Value.int 0 0, Value.ref 544, Value.int 241 0, Value.int 0 0, Value.ref 549, Value.int 243 0, Value.int 0 0, Value.ref 556, Value.int 247 0, Value.int 0 0, Value.ref 563, Value.int 252 0, Value.int 0 0, Value.ref 570, Value.int 259 0, Value.int 0 0, Value.ref 577, Value.int 271 0, Value.int 0 0, Value.ref 584, Value.int 278 0, Value.int 0 0, Value.ref 591, Value.int 280 0, Value.int 0 0, Value.ref 596, Value.int 289 0, Value.int 0 0, Value.ref 601, Value.int 306 0, Value.int 0 0, Value.ref 608, Value.int 316 0, Value.int 0 0, Value.ref 613]) #[]
def o302_4 (P : Params) : Obj := Obj.mk (Value.type "tuple") .none (Data.seq #[]) #[]
def o303_4 (P : Params) : Obj := Obj.mk Value.none .none (Data.fields #[]) #[]
def o304_4 (P : Params) : Obj := Obj.mk Value.none .none (Data.func (FuncData.mk (Str.ofString "has_amounts") (Str.ofString "has_amounts") (defArgs (topS 15)) (.stmts (defBody (topS 15))) (defScope (topS 15)) 0 [] Value.none Value.none Value.none Value.none .none Value.none Value.none 0)) #[]
def o305_4 (P : Params) : Obj := Obj.mk (Value.type "code") .none (Data.fields #[Value.str (Str.ofString "has_amounts") 558, Value.str (Str.ofString "has_amounts") 559, Value.str (Str.ofString "/claim/cut.py") 560, Value.int 104 0, Value.int 3 0, Value.int 0 0, Value.int 0 0, Value.int 3 0, Value.ref 302, Value.bool true, Value.int 181 0, Value.ref 303, Value.none, Value.none, Value.none, Value.ref 304, Value.int 561 0, Value.int 104 0, Value.str (Str.ofString "/claim/cut.py") 562]) #[]
def o306_4 (P : Params) : Obj := Obj.mk (Value.type "function") .none (Data.func (FuncData.mk (Str.ofString "has_amounts") (Str.ofString "has_amounts") (defArgs (topS 15)) (.stmts (defBody (topS 15))) (defScope (topS 15)) 3 [] Value.none Value.none Value.none (Value.str (Str.ofString "oneheap.objects.source") 497) .none (Value.ref 305) Value.none 0)) #[]
def o307_4 (P : Params) : Obj := Obj.mk (Value.type "tuple") .none (Data.seq #[]) #[]
def o308_4 (P : Params) : Obj := Obj.mk (Value.type "builtin_function_or_method") .none (Data.fields #[Value.builtin "type.__prepare__", Value.type "type"]) #[]
def o309_4 (P : Params) : Obj := Obj.mk (Value.type "dict") .none (Data.dict #[DictEntry.mk (PyData.keyHash P (Str.ofString "__module__")) (Value.str (Str.ofString "__module__") 573) (Value.str (Str.ofString "oneheap.schemas.schema") 564), DictEntry.mk (PyData.keyHash P (Str.ofString "__qualname__")) (Value.str (Str.ofString "__qualname__") 575) (Value.str (Str.ofString "Field") 574), DictEntry.mk (PyData.keyHash P (Str.ofString "__firstlineno__")) (Value.str (Str.ofString "__firstlineno__") 577) (Value.int 107 576), DictEntry.mk (PyData.keyHash P (Str.ofString "__init__")) (Value.str (Str.ofString "__init__") 587) (Value.ref 321), DictEntry.mk (PyData.keyHash P (Str.ofString "written")) (Value.str (Str.ofString "written") 594) (Value.ref 328), DictEntry.mk (PyData.keyHash P (Str.ofString "__static_attributes__")) (Value.str (Str.ofString "__static_attributes__") 598) (Value.ref 329)] 6) #[]
def o310_4 (P : Params) : Obj := Obj.mk (Value.type "tuple") .none (Data.seq #[]) #[]
def o311_4 (P : Params) : Obj := Obj.mk Value.none .none (Data.fields #[Value.int 109 0, Value.int 4 0, Value.ref 320, Value.int 114 0, Value.int 4 0, Value.ref 327]) #[]
def o312_4 (P : Params) : Obj := Obj.mk (Value.type "code") .none (Data.fields #[Value.str (Str.ofString "Field") 568, Value.str (Str.ofString "Field") 569, Value.str (Str.ofString "/claim/cut.py") 570, Value.int 107 0, Value.int 0 0, Value.int 0 0, Value.int 0 0, Value.int 0 0, Value.ref 310, Value.bool false, Value.int 181 0, Value.ref 311, Value.none, Value.none, Value.none, Value.none, Value.int 571 0, Value.int 107 0, Value.str (Str.ofString "/claim/cut.py") 572]) #[]
def o313_4 (P : Params) : Obj := Obj.mk (Value.type "frame") .none Data.plain #[.some (Value.ref 312), .some (Value.ref 3), .some (Value.ref 309), .none, .some (Value.str (Str.ofString "oneheap.schemas.schema") 564), .none, .some (Value.ref 0)]
def o314_4 (P : Params) : Obj := Obj.mk (Value.type "tuple") .none (Data.seq #[Value.bool false]) #[]
def o315_4 (P : Params) : Obj := Obj.mk (Value.type "tuple") .none (Data.seq #[]) #[]
def o316_4 (P : Params) : Obj := Obj.mk Value.none .none (Data.fields #[]) #[]
def o317_4 (P : Params) : Obj := Obj.mk (Value.type "tuple") .none (Data.seq #[Value.str (Str.ofString "self") 581, Value.str (Str.ofString "name") 582, Value.str (Str.ofString "shape") 583, Value.str (Str.ofString "needed") 584]) #[]
def o318_4 (P : Params) : Obj := Obj.mk (Value.type "tuple") .none (Data.seq #[]) #[]
def o319_4 (P : Params) : Obj := Obj.mk Value.none .none (Data.func (FuncData.mk (Str.ofString "__init__") (Str.ofString "Field.__init__") (defArgs (inClass (topS 17) 0)) (.stmts (defBody (inClass (topS 17) 0))) (defScope (inClass (topS 17) 0)) 0 [] Value.none Value.none Value.none Value.none .none Value.none Value.none 0)) #[]
def o320_4 (P : Params) : Obj := Obj.mk (Value.type "code") .none (Data.fields #[Value.str (Str.ofString "__init__") 578, Value.str (Str.ofString "Field.__init__") 579, Value.str (Str.ofString "/claim/cut.py") 580, Value.int 109 0, Value.int 4 0, Value.int 0 0, Value.int 0 0, Value.int 3 0, Value.ref 315, Value.bool true, Value.int 181 0, Value.ref 316, Value.none, Value.ref 317, Value.ref 318, Value.ref 319, Value.int 585 0, Value.int 109 0, Value.str (Str.ofString "/claim/cut.py") 586]) #[]
def o321_4 (P : Params) : Obj := Obj.mk (Value.type "function") .none (Data.func (FuncData.mk (Str.ofString "__init__") (Str.ofString "Field.__init__") (defArgs (inClass (topS 17) 0)) (.stmts (defBody (inClass (topS 17) 0))) (defScope (inClass (topS 17) 0)) 3 [] (Value.ref 314) Value.none Value.none (Value.str (Str.ofString "oneheap.schemas.schema") 564) .none (Value.ref 320) Value.none 0)) #[]
def o322_4 (P : Params) : Obj := Obj.mk (Value.type "tuple") .none (Data.seq #[]) #[]
def o323_4 (P : Params) : Obj := Obj.mk Value.none .none (Data.fields #[]) #[]
def o324_4 (P : Params) : Obj := Obj.mk (Value.type "tuple") .none (Data.seq #[Value.str (Str.ofString "self") 591]) #[]
def o325_4 (P : Params) : Obj := Obj.mk (Value.type "tuple") .none (Data.seq #[]) #[]
def o326_4 (P : Params) : Obj := Obj.mk Value.none .none (Data.func (FuncData.mk (Str.ofString "written") (Str.ofString "Field.written") (defArgs (inClass (topS 17) 1)) (.stmts (defBody (inClass (topS 17) 1))) (defScope (inClass (topS 17) 1)) 0 [] Value.none Value.none Value.none Value.none .none Value.none Value.none 0)) #[]
def o327_4 (P : Params) : Obj := Obj.mk (Value.type "code") .none (Data.fields #[Value.str (Str.ofString "written") 588, Value.str (Str.ofString "Field.written") 589, Value.str (Str.ofString "/claim/cut.py") 590, Value.int 114 0, Value.int 1 0, Value.int 0 0, Value.int 0 0, Value.int 3 0, Value.ref 322, Value.bool true, Value.int 181 0, Value.ref 323, Value.none, Value.ref 324, Value.ref 325, Value.ref 326, Value.int 592 0, Value.int 114 0, Value.str (Str.ofString "/claim/cut.py") 593]) #[]
def o328_4 (P : Params) : Obj := Obj.mk (Value.type "function") .none (Data.func (FuncData.mk (Str.ofString "written") (Str.ofString "Field.written") (defArgs (inClass (topS 17) 1)) (.stmts (defBody (inClass (topS 17) 1))) (defScope (inClass (topS 17) 1)) 3 [] Value.none Value.none Value.none (Value.str (Str.ofString "oneheap.schemas.schema") 564) .none (Value.ref 327) Value.none 0)) #[]
def o329_4 (P : Params) : Obj := Obj.mk (Value.type "tuple") .none (Data.seq #[Value.str (Str.ofString "name") 595, Value.str (Str.ofString "needed") 596, Value.str (Str.ofString "shape") 597]) #[]
def o330_4 (P : Params) : Obj := Obj.mk (Value.type "dict") .none (Data.dict #[DictEntry.mk (PyData.keyHash P (Str.ofString "__module__")) (Value.str (Str.ofString "__module__") 573) (Value.str (Str.ofString "oneheap.schemas.schema") 564), DictEntry.mk (PyData.keyHash P (Str.ofString "__firstlineno__")) (Value.str (Str.ofString "__firstlineno__") 577) (Value.int 107 576), DictEntry.mk (PyData.keyHash P (Str.ofString "__init__")) (Value.str (Str.ofString "__init__") 587) (Value.ref 321), DictEntry.mk (PyData.keyHash P (Str.ofString "written")) (Value.str (Str.ofString "written") 594) (Value.ref 328), DictEntry.mk (PyData.keyHash P (Str.ofString "__static_attributes__")) (Value.str (Str.ofString "__static_attributes__") 598) (Value.ref 329), DictEntry.mk (PyData.keyHash P (Str.ofString "__dict__")) (Value.str (Str.ofString "__dict__") 600) (Value.ref 332), DictEntry.mk (PyData.keyHash P (Str.ofString "__weakref__")) (Value.str (Str.ofString "__weakref__") 602) (Value.ref 333), DictEntry.mk (PyData.keyHash P (Str.ofString "__doc__")) (Value.str (Str.ofString "__doc__") 603) Value.none] 4) #[]
def o331_4 (P : Params) : Obj := Obj.mk (Value.type "type") .none (Data.cls (ClassData.mk (Str.ofString "Field") [Value.type "object"] [Value.ref 331, Value.type "object"] 330 (Str.ofString "Field") true [] [] false .none false)) #[.none, .none, .some (Value.str (Str.ofString "Field") 566), .some (Value.str (Str.ofString "Field") 574), .some (Value.builtin "object.__new__"), .some (Value.bool true)]
def o332_4 (P : Params) : Obj := Obj.mk (Value.type "getset_descriptor") .none (Data.fields #[Value.str (Str.ofString "__dict__") 599, Value.ref 331, Value.builtin "function.__dict__", Value.builtin "function.__dict__#set"]) #[]
def o333_4 (P : Params) : Obj := Obj.mk (Value.type "getset_descriptor") .none (Data.fields #[Value.str (Str.ofString "__weakref__") 601, Value.ref 331, Value.builtin "ExceptionGroup.__weakref__", Value.none]) #[]
def o334_4 (P : Params) : Obj := Obj.mk (Value.type "super") .none (Data.fields #[Value.ref 331, Value.ref 331, Value.ref 331]) #[]
def o335_4 (P : Params) : Obj := Obj.mk (Value.type "builtin_function_or_method") .none (Data.fields #[Value.builtin "object.__init_subclass__", Value.ref 331]) #[]
def o336_4 (P : Params) : Obj := Obj.mk (Value.type "tuple") .none (Data.seq #[]) #[]
def o337_4 (P : Params) : Obj := Obj.mk (Value.type "builtin_function_or_method") .none (Data.fields #[Value.builtin "type.__prepare__", Value.type "type"]) #[]
def o338_4 (P : Params) : Obj := Obj.mk (Value.type "dict") .none (Data.dict #[DictEntry.mk (PyData.keyHash P (Str.ofString "__module__")) (Value.str (Str.ofString "__module__") 613) (Value.str (Str.ofString "oneheap.schemas.schema") 564), DictEntry.mk (PyData.keyHash P (Str.ofString "__qualname__")) (Value.str (Str.ofString "__qualname__") 615) (Value.str (Str.ofString "Kind") 614), DictEntry.mk (PyData.keyHash P (Str.ofString "__firstlineno__")) (Value.str (Str.ofString "__firstlineno__") 617) (Value.int 116 616), DictEntry.mk (PyData.keyHash P (Str.ofString "__init__")) (Value.str (Str.ofString "__init__") 623) (Value.ref 347), DictEntry.mk (PyData.keyHash P (Str.ofString "field_of")) (Value.str (Str.ofString "field_of") 632) (Value.ref 354), DictEntry.mk (PyData.keyHash P (Str.ofString "names")) (Value.str (Str.ofString "names") 638) (Value.ref 359), DictEntry.mk (PyData.keyHash P (Str.ofString "written")) (Value.str (Str.ofString "written") 645) (Value.ref 366), DictEntry.mk (PyData.keyHash P (Str.ofString "__static_attributes__")) (Value.str (Str.ofString "__static_attributes__") 649) (Value.ref 367)] 8) #[]
def o339_4 (P : Params) : Obj := Obj.mk (Value.type "tuple") .none (Data.seq #[]) #[]
def o340_4 (P : Params) : Obj := Obj.mk Value.none .none (Data.fields #[Value.int 118 0, Value.int 4 0, Value.ref 346, Value.int 123 0, Value.int 4 0, Value.ref 353, Value.int 129 0, Value.int 4 0, Value.ref 358, Value.int 132 0, Value.int 4 0, Value.ref 365]) #[]
def o341_4 (P : Params) : Obj := Obj.mk (Value.type "code") .none (Data.fields #[Value.str (Str.ofString "Kind") 608, Value.str (Str.ofString "Kind") 609, Value.str (Str.ofString "/claim/cut.py") 610, Value.int 116 0, Value.int 0 0, Value.int 0 0, Value.int 0 0, Value.int 0 0, Value.ref 339, Value.bool false, Value.int 181 0, Value.ref 340, Value.none, Value.none, Value.none, Value.none, Value.int 611 0, Value.int 116 0, Value.str (Str.ofString "/claim/cut.py") 612]) #[]
def o342_4 (P : Params) : Obj := Obj.mk (Value.type "frame") .none Data.plain #[.some (Value.ref 341), .some (Value.ref 3), .some (Value.ref 338), .none, .some (Value.str (Str.ofString "oneheap.schemas.schema") 564), .none, .some (Value.ref 0)]
def o343_4 (P : Params) : Obj := Obj.mk (Value.type "tuple") .none (Data.seq #[]) #[]
def o344_4 (P : Params) : Obj := Obj.mk Value.none .none (Data.fields #[]) #[]
def o345_4 (P : Params) : Obj := Obj.mk Value.none .none (Data.func (FuncData.mk (Str.ofString "__init__") (Str.ofString "Kind.__init__") (defArgs (inClass (topS 18) 0)) (.stmts (defBody (inClass (topS 18) 0))) (defScope (inClass (topS 18) 0)) 0 [] Value.none Value.none Value.none Value.none .none Value.none Value.none 0)) #[]
def o346_4 (P : Params) : Obj := Obj.mk (Value.type "code") .none (Data.fields #[Value.str (Str.ofString "__init__") 618, Value.str (Str.ofString "Kind.__init__") 619, Value.str (Str.ofString "/claim/cut.py") 620, Value.int 118 0, Value.int 4 0, Value.int 0 0, Value.int 0 0, Value.int 3 0, Value.ref 343, Value.bool true, Value.int 181 0, Value.ref 344, Value.none, Value.none, Value.none, Value.ref 345, Value.int 621 0, Value.int 118 0, Value.str (Str.ofString "/claim/cut.py") 622]) #[]
def o347_4 (P : Params) : Obj := Obj.mk (Value.type "function") .none (Data.func (FuncData.mk (Str.ofString "__init__") (Str.ofString "Kind.__init__") (defArgs (inClass (topS 18) 0)) (.stmts (defBody (inClass (topS 18) 0))) (defScope (inClass (topS 18) 0)) 3 [] Value.none Value.none Value.none (Value.str (Str.ofString "oneheap.schemas.schema") 564) .none (Value.ref 346) Value.none 0)) #[]
def o348_4 (P : Params) : Obj := Obj.mk (Value.type "tuple") .none (Data.seq #[]) #[]
def o349_4 (P : Params) : Obj := Obj.mk Value.none .none (Data.fields #[]) #[]
def o350_4 (P : Params) : Obj := Obj.mk (Value.type "tuple") .none (Data.seq #[Value.str (Str.ofString "self") 627, Value.str (Str.ofString "name") 628, Value.str (Str.ofString "field") 629]) #[]
def o351_4 (P : Params) : Obj := Obj.mk (Value.type "tuple") .none (Data.seq #[]) #[]
def o352_4 (P : Params) : Obj := Obj.mk Value.none .none (Data.func (FuncData.mk (Str.ofString "field_of") (Str.ofString "Kind.field_of") (defArgs (inClass (topS 18) 1)) (.stmts (defBody (inClass (topS 18) 1))) (defScope (inClass (topS 18) 1)) 0 [] Value.none Value.none Value.none Value.none .none Value.none Value.none 0)) #[]
def o353_4 (P : Params) : Obj := Obj.mk (Value.type "code") .none (Data.fields #[Value.str (Str.ofString "field_of") 624, Value.str (Str.ofString "Kind.field_of") 625, Value.str (Str.ofString "/claim/cut.py") 626, Value.int 123 0, Value.int 2 0, Value.int 0 0, Value.int 0 0, Value.int 3 0, Value.ref 348, Value.bool true, Value.int 181 0, Value.ref 349, Value.none, Value.ref 350, Value.ref 351, Value.ref 352, Value.int 630 0, Value.int 123 0, Value.str (Str.ofString "/claim/cut.py") 631]) #[]
def o354_4 (P : Params) : Obj := Obj.mk (Value.type "function") .none (Data.func (FuncData.mk (Str.ofString "field_of") (Str.ofString "Kind.field_of") (defArgs (inClass (topS 18) 1)) (.stmts (defBody (inClass (topS 18) 1))) (defScope (inClass (topS 18) 1)) 3 [] Value.none Value.none Value.none (Value.str (Str.ofString "oneheap.schemas.schema") 564) .none (Value.ref 353) Value.none 0)) #[]
def o355_4 (P : Params) : Obj := Obj.mk (Value.type "tuple") .none (Data.seq #[]) #[]
def o356_4 (P : Params) : Obj := Obj.mk Value.none .none (Data.fields #[]) #[]
def o357_4 (P : Params) : Obj := Obj.mk Value.none .none (Data.func (FuncData.mk (Str.ofString "names") (Str.ofString "Kind.names") (defArgs (inClass (topS 18) 2)) (.stmts (defBody (inClass (topS 18) 2))) (defScope (inClass (topS 18) 2)) 0 [] Value.none Value.none Value.none Value.none .none Value.none Value.none 0)) #[]
def o358_4 (P : Params) : Obj := Obj.mk (Value.type "code") .none (Data.fields #[Value.str (Str.ofString "names") 633, Value.str (Str.ofString "Kind.names") 634, Value.str (Str.ofString "/claim/cut.py") 635, Value.int 129 0, Value.int 1 0, Value.int 0 0, Value.int 0 0, Value.int 3 0, Value.ref 355, Value.bool true, Value.int 181 0, Value.ref 356, Value.none, Value.none, Value.none, Value.ref 357, Value.int 636 0, Value.int 129 0, Value.str (Str.ofString "/claim/cut.py") 637]) #[]
def o359_4 (P : Params) : Obj := Obj.mk (Value.type "function") .none (Data.func (FuncData.mk (Str.ofString "names") (Str.ofString "Kind.names") (defArgs (inClass (topS 18) 2)) (.stmts (defBody (inClass (topS 18) 2))) (defScope (inClass (topS 18) 2)) 3 [] Value.none Value.none Value.none (Value.str (Str.ofString "oneheap.schemas.schema") 564) .none (Value.ref 358) Value.none 0)) #[]
def o360_4 (P : Params) : Obj := Obj.mk (Value.type "tuple") .none (Data.seq #[]) #[]
def o361_4 (P : Params) : Obj := Obj.mk Value.none .none (Data.fields #[]) #[]
def o362_4 (P : Params) : Obj := Obj.mk (Value.type "tuple") .none (Data.seq #[Value.str (Str.ofString "self") 642]) #[]
def o363_4 (P : Params) : Obj := Obj.mk (Value.type "tuple") .none (Data.seq #[]) #[]
def o364_4 (P : Params) : Obj := Obj.mk Value.none .none (Data.func (FuncData.mk (Str.ofString "written") (Str.ofString "Kind.written") (defArgs (inClass (topS 18) 3)) (.stmts (defBody (inClass (topS 18) 3))) (defScope (inClass (topS 18) 3)) 0 [] Value.none Value.none Value.none Value.none .none Value.none Value.none 0)) #[]
def o365_4 (P : Params) : Obj := Obj.mk (Value.type "code") .none (Data.fields #[Value.str (Str.ofString "written") 639, Value.str (Str.ofString "Kind.written") 640, Value.str (Str.ofString "/claim/cut.py") 641, Value.int 132 0, Value.int 1 0, Value.int 0 0, Value.int 0 0, Value.int 3 0, Value.ref 360, Value.bool true, Value.int 181 0, Value.ref 361, Value.none, Value.ref 362, Value.ref 363, Value.ref 364, Value.int 643 0, Value.int 132 0, Value.str (Str.ofString "/claim/cut.py") 644]) #[]
def o366_4 (P : Params) : Obj := Obj.mk (Value.type "function") .none (Data.func (FuncData.mk (Str.ofString "written") (Str.ofString "Kind.written") (defArgs (inClass (topS 18) 3)) (.stmts (defBody (inClass (topS 18) 3))) (defScope (inClass (topS 18) 3)) 3 [] Value.none Value.none Value.none (Value.str (Str.ofString "oneheap.schemas.schema") 564) .none (Value.ref 365) Value.none 0)) #[]
def o367_4 (P : Params) : Obj := Obj.mk (Value.type "tuple") .none (Data.seq #[Value.str (Str.ofString "fields") 646, Value.str (Str.ofString "key_rows") 647, Value.str (Str.ofString "name") 648]) #[]
def o368_4 (P : Params) : Obj := Obj.mk (Value.type "dict") .none (Data.dict #[DictEntry.mk (PyData.keyHash P (Str.ofString "__module__")) (Value.str (Str.ofString "__module__") 613) (Value.str (Str.ofString "oneheap.schemas.schema") 564), DictEntry.mk (PyData.keyHash P (Str.ofString "__firstlineno__")) (Value.str (Str.ofString "__firstlineno__") 617) (Value.int 116 616), DictEntry.mk (PyData.keyHash P (Str.ofString "__init__")) (Value.str (Str.ofString "__init__") 623) (Value.ref 347), DictEntry.mk (PyData.keyHash P (Str.ofString "field_of")) (Value.str (Str.ofString "field_of") 632) (Value.ref 354), DictEntry.mk (PyData.keyHash P (Str.ofString "names")) (Value.str (Str.ofString "names") 638) (Value.ref 359), DictEntry.mk (PyData.keyHash P (Str.ofString "written")) (Value.str (Str.ofString "written") 645) (Value.ref 366), DictEntry.mk (PyData.keyHash P (Str.ofString "__static_attributes__")) (Value.str (Str.ofString "__static_attributes__") 649) (Value.ref 367), DictEntry.mk (PyData.keyHash P (Str.ofString "__dict__")) (Value.str (Str.ofString "__dict__") 651) (Value.ref 370), DictEntry.mk (PyData.keyHash P (Str.ofString "__weakref__")) (Value.str (Str.ofString "__weakref__") 653) (Value.ref 371), DictEntry.mk (PyData.keyHash P (Str.ofString "__doc__")) (Value.str (Str.ofString "__doc__") 654) Value.none] 4) #[]
def o369_4 (P : Params) : Obj := Obj.mk (Value.type "type") .none (Data.cls (ClassData.mk (Str.ofString "Kind") [Value.type "object"] [Value.ref 369, Value.type "object"] 368 (Str.ofString "Kind") true [] [] false .none false)) #[.none, .none, .some (Value.str (Str.ofString "Kind") 606), .some (Value.str (Str.ofString "Kind") 614), .some (Value.builtin "object.__new__"), .some (Value.bool true)]
def o370_4 (P : Params) : Obj := Obj.mk (Value.type "getset_descriptor") .none (Data.fields #[Value.str (Str.ofString "__dict__") 650, Value.ref 369, Value.builtin "function.__dict__", Value.builtin "function.__dict__#set"]) #[]
def o371_4 (P : Params) : Obj := Obj.mk (Value.type "getset_descriptor") .none (Data.fields #[Value.str (Str.ofString "__weakref__") 652, Value.ref 369, Value.builtin "ExceptionGroup.__weakref__", Value.none]) #[]
def o372_4 (P : Params) : Obj := Obj.mk (Value.type "super") .none (Data.fields #[Value.ref 369, Value.ref 369, Value.ref 369]) #[]
def o373_4 (P : Params) : Obj := Obj.mk (Value.type "builtin_function_or_method") .none (Data.fields #[Value.builtin "object.__init_subclass__", Value.ref 369]) #[]
def o374_4 (P : Params) : Obj := Obj.mk (Value.type "tuple") .none (Data.seq #[]) #[]
def o375_4 (P : Params) : Obj := Obj.mk (Value.type "builtin_function_or_method") .none (Data.fields #[Value.builtin "type.__prepare__", Value.type "type"]) #[]
def o376_4 (P : Params) : Obj := Obj.mk (Value.type "dict") .none (Data.dict #[DictEntry.mk (PyData.keyHash P (Str.ofString "__module__")) (Value.str (Str.ofString "__module__") 664) (Value.str (Str.ofString "oneheap.schemas.schema") 564), DictEntry.mk (PyData.keyHash P (Str.ofString "__qualname__")) (Value.str (Str.ofString "__qualname__") 666) (Value.str (Str.ofString "Schema") 665), DictEntry.mk (PyData.keyHash P (Str.ofString "__firstlineno__")) (Value.str (Str.ofString "__firstlineno__") 668) (Value.int 134 667), DictEntry.mk (PyData.keyHash P (Str.ofString "__init__")) (Value.str (Str.ofString "__init__") 676) (Value.ref 387), DictEntry.mk (PyData.keyHash P (Str.ofString "kind_of")) (Value.str (Str.ofString "kind_of") 685) (Value.ref 394), DictEntry.mk (PyData.keyHash P (Str.ofString "field_of")) (Value.str (Str.ofString "field_of") 695) (Value.ref 401), DictEntry.mk (PyData.keyHash P (Str.ofString "names")) (Value.str (Str.ofString "names") 701) (Value.ref 406), DictEntry.mk (PyData.keyHash P (Str.ofString "written")) (Value.str (Str.ofString "written") 708) (Value.ref 413), DictEntry.mk (PyData.keyHash P (Str.ofString "__static_attributes__")) (Value.str (Str.ofString "__static_attributes__") 710) (Value.ref 414)] 9) #[]
def o377_4 (P : Params) : Obj := Obj.mk (Value.type "tuple") .none (Data.seq #[]) #[]
def o378_4 (P : Params) : Obj := Obj.mk Value.none .none (Data.fields #[Value.int 136 0, Value.int 4 0, Value.ref 386, Value.int 139 0, Value.int 4 0, Value.ref 393, Value.int 145 0, Value.int 4 0, Value.ref 400, Value.int 149 0, Value.int 4 0, Value.ref 405, Value.int 152 0, Value.int 4 0, Value.ref 412]) #[]
def o379_4 (P : Params) : Obj := Obj.mk (Value.type "code") .none (Data.fields #[Value.str (Str.ofString "Schema") 659, Value.str (Str.ofString "Schema") 660, Value.str (Str.ofString "/claim/cut.py") 661, Value.int 134 0, Value.int 0 0, Value.int 0 0, Value.int 0 0, Value.int 0 0, Value.ref 377, Value.bool false, Value.int 181 0, Value.ref 378, Value.none, Value.none, Value.none, Value.none, Value.int 662 0, Value.int 134 0, Value.str (Str.ofString "/claim/cut.py") 663]) #[]
def o380_4 (P : Params) : Obj := Obj.mk (Value.type "frame") .none Data.plain #[.some (Value.ref 379), .some (Value.ref 3), .some (Value.ref 376), .none, .some (Value.str (Str.ofString "oneheap.schemas.schema") 564), .none, .some (Value.ref 0)]
def o381_4 (P : Params) : Obj := Obj.mk (Value.type "tuple") .none (Data.seq #[]) #[]
def o382_4 (P : Params) : Obj := Obj.mk Value.none .none (Data.fields #[]) #[]
def o383_4 (P : Params) : Obj := Obj.mk (Value.type "tuple") .none (Data.seq #[Value.str (Str.ofString "self") 672, Value.str (Str.ofString "kinds") 673]) #[]
def o384_4 (P : Params) : Obj := Obj.mk (Value.type "tuple") .none (Data.seq #[]) #[]
def o385_4 (P : Params) : Obj := Obj.mk Value.none .none (Data.func (FuncData.mk (Str.ofString "__init__") (Str.ofString "Schema.__init__") (defArgs (inClass (topS 19) 0)) (.stmts (defBody (inClass (topS 19) 0))) (defScope (inClass (topS 19) 0)) 0 [] Value.none Value.none Value.none Value.none .none Value.none Value.none 0)) #[]
def o386_4 (P : Params) : Obj := Obj.mk (Value.type "code") .none (Data.fields #[Value.str (Str.ofString "__init__") 669, Value.str (Str.ofString "Schema.__init__") 670, Value.str (Str.ofString "/claim/cut.py") 671, Value.int 136 0, Value.int 2 0, Value.int 0 0, Value.int 0 0, Value.int 3 0, Value.ref 381, Value.bool true, Value.int 181 0, Value.ref 382, Value.none, Value.ref 383, Value.ref 384, Value.ref 385, Value.int 674 0, Value.int 136 0, Value.str (Str.ofString "/claim/cut.py") 675]) #[]
def o387_4 (P : Params) : Obj := Obj.mk (Value.type "function") .none (Data.func (FuncData.mk (Str.ofString "__init__") (Str.ofString "Schema.__init__") (defArgs (inClass (topS 19) 0)) (.stmts (defBody (inClass (topS 19) 0))) (defScope (inClass (topS 19) 0)) 3 [] Value.none Value.none Value.none (Value.str (Str.ofString "oneheap.schemas.schema") 564) .none (Value.ref 386) Value.none 0)) #[]
def o388_4 (P : Params) : Obj := Obj.mk (Value.type "tuple") .none (Data.seq #[]) #[]
def o389_4 (P : Params) : Obj := Obj.mk Value.none .none (Data.fields #[]) #[]
def o390_4 (P : Params) : Obj := Obj.mk (Value.type "tuple") .none (Data.seq #[Value.str (Str.ofString "self") 680, Value.str (Str.ofString "name") 681, Value.str (Str.ofString "kind") 682]) #[]
def o391_4 (P : Params) : Obj := Obj.mk (Value.type "tuple") .none (Data.seq #[]) #[]
def o392_4 (P : Params) : Obj := Obj.mk Value.none .none (Data.func (FuncData.mk (Str.ofString "kind_of") (Str.ofString "Schema.kind_of") (defArgs (inClass (topS 19) 1)) (.stmts (defBody (inClass (topS 19) 1))) (defScope (inClass (topS 19) 1)) 0 [] Value.none Value.none Value.none Value.none .none Value.none Value.none 0)) #[]
def o393_4 (P : Params) : Obj := Obj.mk (Value.type "code") .none (Data.fields #[Value.str (Str.ofString "kind_of") 677, Value.str (Str.ofString "Schema.kind_of") 678, Value.str (Str.ofString "/claim/cut.py") 679, Value.int 139 0, Value.int 2 0, Value.int 0 0, Value.int 0 0, Value.int 3 0, Value.ref 388, Value.bool true, Value.int 181 0, Value.ref 389, Value.none, Value.ref 390, Value.ref 391, Value.ref 392, Value.int 683 0, Value.int 139 0, Value.str (Str.ofString "/claim/cut.py") 684]) #[]
def o394_4 (P : Params) : Obj := Obj.mk (Value.type "function") .none (Data.func (FuncData.mk (Str.ofString "kind_of") (Str.ofString "Schema.kind_of") (defArgs (inClass (topS 19) 1)) (.stmts (defBody (inClass (topS 19) 1))) (defScope (inClass (topS 19) 1)) 3 [] Value.none Value.none Value.none (Value.str (Str.ofString "oneheap.schemas.schema") 564) .none (Value.ref 393) Value.none 0)) #[]
def o395_4 (P : Params) : Obj := Obj.mk (Value.type "tuple") .none (Data.seq #[]) #[]
def o396_4 (P : Params) : Obj := Obj.mk Value.none .none (Data.fields #[]) #[]
def o397_4 (P : Params) : Obj := Obj.mk (Value.type "tuple") .none (Data.seq #[Value.str (Str.ofString "self") 689, Value.str (Str.ofString "kind") 690, Value.str (Str.ofString "name") 691, Value.str (Str.ofString "found") 692]) #[]
def o398_4 (P : Params) : Obj := Obj.mk (Value.type "tuple") .none (Data.seq #[]) #[]
def o399_4 (P : Params) : Obj := Obj.mk Value.none .none (Data.func (FuncData.mk (Str.ofString "field_of") (Str.ofString "Schema.field_of") (defArgs (inClass (topS 19) 2)) (.stmts (defBody (inClass (topS 19) 2))) (defScope (inClass (topS 19) 2)) 0 [] Value.none Value.none Value.none Value.none .none Value.none Value.none 0)) #[]
def o400_4 (P : Params) : Obj := Obj.mk (Value.type "code") .none (Data.fields #[Value.str (Str.ofString "field_of") 686, Value.str (Str.ofString "Schema.field_of") 687, Value.str (Str.ofString "/claim/cut.py") 688, Value.int 145 0, Value.int 3 0, Value.int 0 0, Value.int 0 0, Value.int 3 0, Value.ref 395, Value.bool true, Value.int 181 0, Value.ref 396, Value.none, Value.ref 397, Value.ref 398, Value.ref 399, Value.int 693 0, Value.int 145 0, Value.str (Str.ofString "/claim/cut.py") 694]) #[]
def o401_4 (P : Params) : Obj := Obj.mk (Value.type "function") .none (Data.func (FuncData.mk (Str.ofString "field_of") (Str.ofString "Schema.field_of") (defArgs (inClass (topS 19) 2)) (.stmts (defBody (inClass (topS 19) 2))) (defScope (inClass (topS 19) 2)) 3 [] Value.none Value.none Value.none (Value.str (Str.ofString "oneheap.schemas.schema") 564) .none (Value.ref 400) Value.none 0)) #[]
def o402_4 (P : Params) : Obj := Obj.mk (Value.type "tuple") .none (Data.seq #[]) #[]
def o403_4 (P : Params) : Obj := Obj.mk Value.none .none (Data.fields #[]) #[]
def o404_4 (P : Params) : Obj := Obj.mk Value.none .none (Data.func (FuncData.mk (Str.ofString "names") (Str.ofString "Schema.names") (defArgs (inClass (topS 19) 3)) (.stmts (defBody (inClass (topS 19) 3))) (defScope (inClass (topS 19) 3)) 0 [] Value.none Value.none Value.none Value.none .none Value.none Value.none 0)) #[]
def o405_4 (P : Params) : Obj := Obj.mk (Value.type "code") .none (Data.fields #[Value.str (Str.ofString "names") 696, Value.str (Str.ofString "Schema.names") 697, Value.str (Str.ofString "/claim/cut.py") 698, Value.int 149 0, Value.int 1 0, Value.int 0 0, Value.int 0 0, Value.int 3 0, Value.ref 402, Value.bool true, Value.int 181 0, Value.ref 403, Value.none, Value.none, Value.none, Value.ref 404, Value.int 699 0, Value.int 149 0, Value.str (Str.ofString "/claim/cut.py") 700]) #[]
def o406_4 (P : Params) : Obj := Obj.mk (Value.type "function") .none (Data.func (FuncData.mk (Str.ofString "names") (Str.ofString "Schema.names") (defArgs (inClass (topS 19) 3)) (.stmts (defBody (inClass (topS 19) 3))) (defScope (inClass (topS 19) 3)) 3 [] Value.none Value.none Value.none (Value.str (Str.ofString "oneheap.schemas.schema") 564) .none (Value.ref 405) Value.none 0)) #[]
def o407_4 (P : Params) : Obj := Obj.mk (Value.type "tuple") .none (Data.seq #[]) #[]
def o408_4 (P : Params) : Obj := Obj.mk Value.none .none (Data.fields #[]) #[]
def o409_4 (P : Params) : Obj := Obj.mk (Value.type "tuple") .none (Data.seq #[Value.str (Str.ofString "self") 705]) #[]
def o410_4 (P : Params) : Obj := Obj.mk (Value.type "tuple") .none (Data.seq #[]) #[]
def o411_4 (P : Params) : Obj := Obj.mk Value.none .none (Data.func (FuncData.mk (Str.ofString "written") (Str.ofString "Schema.written") (defArgs (inClass (topS 19) 4)) (.stmts (defBody (inClass (topS 19) 4))) (defScope (inClass (topS 19) 4)) 0 [] Value.none Value.none Value.none Value.none .none Value.none Value.none 0)) #[]
def o412_4 (P : Params) : Obj := Obj.mk (Value.type "code") .none (Data.fields #[Value.str (Str.ofString "written") 702, Value.str (Str.ofString "Schema.written") 703, Value.str (Str.ofString "/claim/cut.py") 704, Value.int 152 0, Value.int 1 0, Value.int 0 0, Value.int 0 0, Value.int 3 0, Value.ref 407, Value.bool true, Value.int 181 0, Value.ref 408, Value.none, Value.ref 409, Value.ref 410, Value.ref 411, Value.int 706 0, Value.int 152 0, Value.str (Str.ofString "/claim/cut.py") 707]) #[]
def o413_4 (P : Params) : Obj := Obj.mk (Value.type "function") .none (Data.func (FuncData.mk (Str.ofString "written") (Str.ofString "Schema.written") (defArgs (inClass (topS 19) 4)) (.stmts (defBody (inClass (topS 19) 4))) (defScope (inClass (topS 19) 4)) 3 [] Value.none Value.none Value.none (Value.str (Str.ofString "oneheap.schemas.schema") 564) .none (Value.ref 412) Value.none 0)) #[]
def o414_4 (P : Params) : Obj := Obj.mk (Value.type "tuple") .none (Data.seq #[Value.str (Str.ofString "kinds") 709]) #[]
def o415_4 (P : Params) : Obj := Obj.mk (Value.type "dict") .none (Data.dict #[DictEntry.mk (PyData.keyHash P (Str.ofString "__module__")) (Value.str (Str.ofString "__module__") 664) (Value.str (Str.ofString "oneheap.schemas.schema") 564), DictEntry.mk (PyData.keyHash P (Str.ofString "__firstlineno__")) (Value.str (Str.ofString "__firstlineno__") 668) (Value.int 134 667), DictEntry.mk (PyData.keyHash P (Str.ofString "__init__")) (Value.str (Str.ofString "__init__") 676) (Value.ref 387), DictEntry.mk (PyData.keyHash P (Str.ofString "kind_of")) (Value.str (Str.ofString "kind_of") 685) (Value.ref 394), DictEntry.mk (PyData.keyHash P (Str.ofString "field_of")) (Value.str (Str.ofString "field_of") 695) (Value.ref 401), DictEntry.mk (PyData.keyHash P (Str.ofString "names")) (Value.str (Str.ofString "names") 701) (Value.ref 406), DictEntry.mk (PyData.keyHash P (Str.ofString "written")) (Value.str (Str.ofString "written") 708) (Value.ref 413), DictEntry.mk (PyData.keyHash P (Str.ofString "__static_attributes__")) (Value.str (Str.ofString "__static_attributes__") 710) (Value.ref 414), DictEntry.mk (PyData.keyHash P (Str.ofString "__dict__")) (Value.str (Str.ofString "__dict__") 712) (Value.ref 417), DictEntry.mk (PyData.keyHash P (Str.ofString "__weakref__")) (Value.str (Str.ofString "__weakref__") 714) (Value.ref 418), DictEntry.mk (PyData.keyHash P (Str.ofString "__doc__")) (Value.str (Str.ofString "__doc__") 715) Value.none] 4) #[]
def o416_4 (P : Params) : Obj := Obj.mk (Value.type "type") .none (Data.cls (ClassData.mk (Str.ofString "Schema") [Value.type "object"] [Value.ref 416, Value.type "object"] 415 (Str.ofString "Schema") true [] [] false .none false)) #[.none, .none, .some (Value.str (Str.ofString "Schema") 657), .some (Value.str (Str.ofString "Schema") 665), .some (Value.builtin "object.__new__"), .some (Value.bool true)]
def o417_4 (P : Params) : Obj := Obj.mk (Value.type "getset_descriptor") .none (Data.fields #[Value.str (Str.ofString "__dict__") 711, Value.ref 416, Value.builtin "function.__dict__", Value.builtin "function.__dict__#set"]) #[]
def o418_4 (P : Params) : Obj := Obj.mk (Value.type "getset_descriptor") .none (Data.fields #[Value.str (Str.ofString "__weakref__") 713, Value.ref 416, Value.builtin "ExceptionGroup.__weakref__", Value.none]) #[]
def o419_4 (P : Params) : Obj := Obj.mk (Value.type "super") .none (Data.fields #[Value.ref 416, Value.ref 416, Value.ref 416]) #[]
def o420_4 (P : Params) : Obj := Obj.mk (Value.type "builtin_function_or_method") .none (Data.fields #[Value.builtin "object.__init_subclass__", Value.ref 416]) #[]
def o421_4 (P : Params) : Obj := Obj.mk (Value.type "tuple") .none (Data.seq #[]) #[]
def o422_4 (P : Params) : Obj := Obj.mk Value.none .none (Data.fields #[]) #[]
def o423_4 (P : Params) : Obj := Obj.mk (Value.type "tuple") .none (Data.seq #[Value.str (Str.ofString "kind") 721, Value.str (Str.ofString "field") 722]) #[]
def o424_4 (P : Params) : Obj := Obj.mk (Value.type "tuple") .none (Data.seq #[]) #[]
def o425_4 (P : Params) : Obj := Obj.mk Value.none .none (Data.func (FuncData.mk (Str.ofString "needed_constraint") (Str.ofString "needed_constraint") (defArgs (topS 20)) (.stmts (defBody (topS 20))) (defScope (topS 20)) 0 [] Value.none Value.none Value.none Value.none .none Value.none Value.none 0)) #[]
def o426_4 (P : Params) : Obj := Obj.mk (Value.type "code") .none (Data.fields #[Value.str (Str.ofString "needed_constraint") 718, Value.str (Str.ofString "needed_constraint") 719, Value.str (Str.ofString "/claim/cut.py") 720, Value.int 154 0, Value.int 2 0, Value.int 0 0, Value.int 0 0, Value.int 3 0, Value.ref 421, Value.bool true, Value.int 181 0, Value.ref 422, Value.none, Value.ref 423, Value.ref 424, Value.ref 425, Value.int 723 0, Value.int 154 0, Value.str (Str.ofString "/claim/cut.py") 724]) #[]
def o427_4 (P : Params) : Obj := Obj.mk (Value.type "function") .none (Data.func (FuncData.mk (Str.ofString "needed_constraint") (Str.ofString "needed_constraint") (defArgs (topS 20)) (.stmts (defBody (topS 20))) (defScope (topS 20)) 3 [] Value.none Value.none Value.none (Value.str (Str.ofString "oneheap.schemas.schema") 564) .none (Value.ref 426) Value.none 0)) #[]
def o428_4 (P : Params) : Obj := Obj.mk (Value.type "tuple") .none (Data.seq #[]) #[]
def o429_4 (P : Params) : Obj := Obj.mk Value.none .none (Data.fields #[]) #[]
def o430_4 (P : Params) : Obj := Obj.mk (Value.type "tuple") .none (Data.seq #[Value.str (Str.ofString "kind") 729, Value.str (Str.ofString "row") 730]) #[]
def o431_4 (P : Params) : Obj := Obj.mk (Value.type "tuple") .none (Data.seq #[]) #[]
def o432_4 (P : Params) : Obj := Obj.mk Value.none .none (Data.func (FuncData.mk (Str.ofString "key_constraint") (Str.ofString "key_constraint") (defArgs (topS 21)) (.stmts (defBody (topS 21))) (defScope (topS 21)) 0 [] Value.none Value.none Value.none Value.none .none Value.none Value.none 0)) #[]
def o433_4 (P : Params) : Obj := Obj.mk (Value.type "code") .none (Data.fields #[Value.str (Str.ofString "key_constraint") 726, Value.str (Str.ofString "key_constraint") 727, Value.str (Str.ofString "/claim/cut.py") 728, Value.int 156 0, Value.int 2 0, Value.int 0 0, Value.int 0 0, Value.int 3 0, Value.ref 428, Value.bool true, Value.int 181 0, Value.ref 429, Value.none, Value.ref 430, Value.ref 431, Value.ref 432, Value.int 731 0, Value.int 156 0, Value.str (Str.ofString "/claim/cut.py") 732]) #[]
def o434_4 (P : Params) : Obj := Obj.mk (Value.type "function") .none (Data.func (FuncData.mk (Str.ofString "key_constraint") (Str.ofString "key_constraint") (defArgs (topS 21)) (.stmts (defBody (topS 21))) (defScope (topS 21)) 3 [] Value.none Value.none Value.none (Value.str (Str.ofString "oneheap.schemas.schema") 564) .none (Value.ref 433) Value.none 0)) #[]
def o435_4 (P : Params) : Obj := Obj.mk (Value.type "tuple") .none (Data.seq #[]) #[]
def o436_4 (P : Params) : Obj := Obj.mk Value.none .none (Data.fields #[]) #[]
def o437_4 (P : Params) : Obj := Obj.mk (Value.type "tuple") .none (Data.seq #[Value.str (Str.ofString "schema") 739, Value.str (Str.ofString "picture") 740, Value.str (Str.ofString "number") 741, Value.str (Str.ofString "kind") 742]) #[]
def o438_4 (P : Params) : Obj := Obj.mk (Value.type "tuple") .none (Data.seq #[]) #[]
def o439_4 (P : Params) : Obj := Obj.mk Value.none .none (Data.func (FuncData.mk (Str.ofString "constraints_against") (Str.ofString "constraints_against") (defArgs (topS 23)) (.stmts (defBody (topS 23))) (defScope (topS 23)) 0 [] Value.none Value.none Value.none Value.none .none Value.none Value.none 0)) #[]
def o440_4 (P : Params) : Obj := Obj.mk (Value.type "code") .none (Data.fields #[Value.str (Str.ofString "constraints_against") 736, Value.str (Str.ofString "constraints_against") 737, Value.str (Str.ofString "/claim/cut.py") 738, Value.int 159 0, Value.int 3 0, Value.int 0 0, Value.int 0 0, Value.int 3 0, Value.ref 435, Value.bool true, Value.int 181 0, Value.ref 436, Value.none, Value.ref 437, Value.ref 438, Value.ref 439, Value.int 743 0, Value.int 159 0, Value.str (Str.ofString "/claim/cut.py") 744]) #[]
def o441_4 (P : Params) : Obj := Obj.mk (Value.type "function") .none (Data.func (FuncData.mk (Str.ofString "constraints_against") (Str.ofString "constraints_against") (defArgs (topS 23)) (.stmts (defBody (topS 23))) (defScope (topS 23)) 3 [] Value.none Value.none Value.none (Value.str (Str.ofString "oneheap.objects.constraints") 734) .none (Value.ref 440) Value.none 0)) #[]
def o442_4 (P : Params) : Obj := Obj.mk (Value.type "tuple") .none (Data.seq #[]) #[]
def o443_4 (P : Params) : Obj := Obj.mk Value.none .none (Data.fields #[]) #[]
def o444_4 (P : Params) : Obj := Obj.mk Value.none .none (Data.func (FuncData.mk (Str.ofString "against_fields") (Str.ofString "against_fields") (defArgs (topS 24)) (.stmts (defBody (topS 24))) (defScope (topS 24)) 0 [] Value.none Value.none Value.none Value.none .none Value.none Value.none 0)) #[]
def o445_4 (P : Params) : Obj := Obj.mk (Value.type "code") .none (Data.fields #[Value.str (Str.ofString "against_fields") 746, Value.str (Str.ofString "against_fields") 747, Value.str (Str.ofString "/claim/cut.py") 748, Value.int 162 0, Value.int 4 0, Value.int 0 0, Value.int 0 0, Value.int 3 0, Value.ref 442, Value.bool true, Value.int 181 0, Value.ref 443, Value.none, Value.none, Value.none, Value.ref 444, Value.int 749 0, Value.int 162 0, Value.str (Str.ofString "/claim/cut.py") 750]) #[]
def o446_4 (P : Params) : Obj := Obj.mk (Value.type "function") .none (Data.func (FuncData.mk (Str.ofString "against_fields") (Str.ofString "against_fields") (defArgs (topS 24)) (.stmts (defBody (topS 24))) (defScope (topS 24)) 3 [] Value.none Value.none Value.none (Value.str (Str.ofString "oneheap.objects.constraints") 734) .none (Value.ref 445) Value.none 0)) #[]
def o447_4 (P : Params) : Obj := Obj.mk (Value.type "tuple") .none (Data.seq #[]) #[]
def o448_4 (P : Params) : Obj := Obj.mk Value.none .none (Data.fields #[]) #[]
def o449_4 (P : Params) : Obj := Obj.mk (Value.type "tuple") .none (Data.seq #[Value.str (Str.ofString "source") 755, Value.str (Str.ofString "kind") 756, Value.str (Str.ofString "number") 757, Value.str (Str.ofString "name") 758]) #[]
def o450_4 (P : Params) : Obj := Obj.mk (Value.type "tuple") .none (Data.seq #[]) #[]
def o451_4 (P : Params) : Obj := Obj.mk Value.none .none (Data.func (FuncData.mk (Str.ofString "told_of") (Str.ofString "told_of") (defArgs (topS 25)) (.stmts (defBody (topS 25))) (defScope (topS 25)) 0 [] Value.none Value.none Value.none Value.none .none Value.none Value.none 0)) #[]
def o452_4 (P : Params) : Obj := Obj.mk (Value.type "code") .none (Data.fields #[Value.str (Str.ofString "told_of") 752, Value.str (Str.ofString "told_of") 753, Value.str (Str.ofString "/claim/cut.py") 754, Value.int 173 0, Value.int 4 0, Value.int 0 0, Value.int 0 0, Value.int 3 0, Value.ref 447, Value.bool true, Value.int 181 0, Value.ref 448, Value.none, Value.ref 449, Value.ref 450, Value.ref 451, Value.int 759 0, Value.int 173 0, Value.str (Str.ofString "/claim/cut.py") 760]) #[]
def o453_4 (P : Params) : Obj := Obj.mk (Value.type "function") .none (Data.func (FuncData.mk (Str.ofString "told_of") (Str.ofString "told_of") (defArgs (topS 25)) (.stmts (defBody (topS 25))) (defScope (topS 25)) 3 [] Value.none Value.none Value.none (Value.str (Str.ofString "oneheap.objects.constraints") 734) .none (Value.ref 452) Value.none 0)) #[]
def o454_4 (P : Params) : Obj := Obj.mk (Value.type "tuple") .none (Data.seq #[]) #[]
def o455_4 (P : Params) : Obj := Obj.mk Value.none .none (Data.fields #[]) #[]
def o456_4 (P : Params) : Obj := Obj.mk Value.none .none (Data.func (FuncData.mk (Str.ofString "has_double") (Str.ofString "has_double") (defArgs (topS 26)) (.stmts (defBody (topS 26))) (defScope (topS 26)) 0 [] Value.none Value.none Value.none Value.none .none Value.none Value.none 0)) #[]
def o457_4 (P : Params) : Obj := Obj.mk (Value.type "code") .none (Data.fields #[Value.str (Str.ofString "has_double") 762, Value.str (Str.ofString "has_double") 763, Value.str (Str.ofString "/claim/cut.py") 764, Value.int 175 0, Value.int 4 0, Value.int 0 0, Value.int 0 0, Value.int 3 0, Value.ref 454, Value.bool true, Value.int 181 0, Value.ref 455, Value.none, Value.none, Value.none, Value.ref 456, Value.int 765 0, Value.int 175 0, Value.str (Str.ofString "/claim/cut.py") 766]) #[]
def o458_4 (P : Params) : Obj := Obj.mk (Value.type "function") .none (Data.func (FuncData.mk (Str.ofString "has_double") (Str.ofString "has_double") (defArgs (topS 26)) (.stmts (defBody (topS 26))) (defScope (topS 26)) 3 [] Value.none Value.none Value.none (Value.str (Str.ofString "oneheap.objects.constraints") 734) .none (Value.ref 457) Value.none 0)) #[]
def o459_4 (P : Params) : Obj := Obj.mk (Value.type "tuple") .none (Data.seq #[]) #[]
def o460_4 (P : Params) : Obj := Obj.mk Value.none .none (Data.fields #[]) #[]
def o461_4 (P : Params) : Obj := Obj.mk (Value.type "tuple") .none (Data.seq #[Value.str (Str.ofString "schema") 771, Value.str (Str.ofString "picture") 772, Value.str (Str.ofString "touches") 773, Value.str (Str.ofString "touch") 774, Value.str (Str.ofString "names") 775, Value.str (Str.ofString "found") 776]) #[]
def o462_4 (P : Params) : Obj := Obj.mk (Value.type "tuple") .none (Data.seq #[]) #[]
def o463_4 (P : Params) : Obj := Obj.mk Value.none .none (Data.func (FuncData.mk (Str.ofString "first_against") (Str.ofString "first_against") (defArgs (topS 27)) (.stmts (defBody (topS 27))) (defScope (topS 27)) 0 [] Value.none Value.none Value.none Value.none .none Value.none Value.none 0)) #[]
def o464_4 (P : Params) : Obj := Obj.mk (Value.type "code") .none (Data.fields #[Value.str (Str.ofString "first_against") 768, Value.str (Str.ofString "first_against") 769, Value.str (Str.ofString "/claim/cut.py") 770, Value.int 180 0, Value.int 3 0, Value.int 0 0, Value.int 0 0, Value.int 3 0, Value.ref 459, Value.bool true, Value.int 181 0, Value.ref 460, Value.none, Value.ref 461, Value.ref 462, Value.ref 463, Value.int 777 0, Value.int 180 0, Value.str (Str.ofString "/claim/cut.py") 778]) #[]
def o465_4 (P : Params) : Obj := Obj.mk (Value.type "function") .none (Data.func (FuncData.mk (Str.ofString "first_against") (Str.ofString "first_against") (defArgs (topS 27)) (.stmts (defBody (topS 27))) (defScope (topS 27)) 3 [] Value.none Value.none Value.none (Value.str (Str.ofString "oneheap.objects.constraints") 734) .none (Value.ref 464) Value.none 0)) #[]
def o466_4 (P : Params) : Obj := Obj.mk (Value.type "tuple") .none (Data.seq #[]) #[]
def o467_4 (P : Params) : Obj := Obj.mk Value.none .none (Data.fields #[]) #[]
def o468_4 (P : Params) : Obj := Obj.mk Value.none .none (Data.func (FuncData.mk (Str.ofString "picture_size") (Str.ofString "picture_size") (defArgs (topS 28)) (.stmts (defBody (topS 28))) (defScope (topS 28)) 0 [] Value.none Value.none Value.none Value.none .none Value.none Value.none 0)) #[]
def o469_4 (P : Params) : Obj := Obj.mk (Value.type "code") .none (Data.fields #[Value.str (Str.ofString "picture_size") 780, Value.str (Str.ofString "picture_size") 781, Value.str (Str.ofString "/claim/cut.py") 782, Value.int 188 0, Value.int 2 0, Value.int 0 0, Value.int 0 0, Value.int 3 0, Value.ref 466, Value.bool true, Value.int 181 0, Value.ref 467, Value.none, Value.none, Value.none, Value.ref 468, Value.int 783 0, Value.int 188 0, Value.str (Str.ofString "/claim/cut.py") 784]) #[]
def o470_4 (P : Params) : Obj := Obj.mk (Value.type "function") .none (Data.func (FuncData.mk (Str.ofString "picture_size") (Str.ofString "picture_size") (defArgs (topS 28)) (.stmts (defBody (topS 28))) (defScope (topS 28)) 3 [] Value.none Value.none Value.none (Value.str (Str.ofString "oneheap.objects.constraints") 734) .none (Value.ref 469) Value.none 0)) #[]
def o471_4 (P : Params) : Obj := Obj.mk (Value.type "tuple") .none (Data.seq #[]) #[]
def o472_4 (P : Params) : Obj := Obj.mk Value.none .none (Data.fields #[]) #[]
def o473_4 (P : Params) : Obj := Obj.mk Value.none .none (Data.func (FuncData.mk (Str.ofString "thing_size") (Str.ofString "thing_size") (defArgs (topS 29)) (.stmts (defBody (topS 29))) (defScope (topS 29)) 0 [] Value.none Value.none Value.none Value.none .none Value.none Value.none 0)) #[]
def o474_4 (P : Params) : Obj := Obj.mk (Value.type "code") .none (Data.fields #[Value.str (Str.ofString "thing_size") 786, Value.str (Str.ofString "thing_size") 787, Value.str (Str.ofString "/claim/cut.py") 788, Value.int 191 0, Value.int 3 0, Value.int 0 0, Value.int 0 0, Value.int 3 0, Value.ref 471, Value.bool true, Value.int 181 0, Value.ref 472, Value.none, Value.none, Value.none, Value.ref 473, Value.int 789 0, Value.int 191 0, Value.str (Str.ofString "/claim/cut.py") 790]) #[]
def o475_4 (P : Params) : Obj := Obj.mk (Value.type "function") .none (Data.func (FuncData.mk (Str.ofString "thing_size") (Str.ofString "thing_size") (defArgs (topS 29)) (.stmts (defBody (topS 29))) (defScope (topS 29)) 3 [] Value.none Value.none Value.none (Value.str (Str.ofString "oneheap.objects.constraints") 734) .none (Value.ref 474) Value.none 0)) #[]
def o476_4 (P : Params) : Obj := Obj.mk (Value.type "tuple") .none (Data.seq #[]) #[]
def o477_4 (P : Params) : Obj := Obj.mk Value.none .none (Data.fields #[]) #[]
def o478_4 (P : Params) : Obj := Obj.mk (Value.type "tuple") .none (Data.seq #[Value.str (Str.ofString "source") 795, Value.str (Str.ofString "field") 796, Value.str (Str.ofString "content") 797]) #[]
def o479_4 (P : Params) : Obj := Obj.mk (Value.type "tuple") .none (Data.seq #[]) #[]
def o480_4 (P : Params) : Obj := Obj.mk Value.none .none (Data.func (FuncData.mk (Str.ofString "content_size") (Str.ofString "content_size") (defArgs (topS 30)) (.stmts (defBody (topS 30))) (defScope (topS 30)) 0 [] Value.none Value.none Value.none Value.none .none Value.none Value.none 0)) #[]
def o481_4 (P : Params) : Obj := Obj.mk (Value.type "code") .none (Data.fields #[Value.str (Str.ofString "content_size") 792, Value.str (Str.ofString "content_size") 793, Value.str (Str.ofString "/claim/cut.py") 794, Value.int 194 0, Value.int 3 0, Value.int 0 0, Value.int 0 0, Value.int 3 0, Value.ref 476, Value.bool true, Value.int 181 0, Value.ref 477, Value.none, Value.ref 478, Value.ref 479, Value.ref 480, Value.int 798 0, Value.int 194 0, Value.str (Str.ofString "/claim/cut.py") 799]) #[]
def o482_4 (P : Params) : Obj := Obj.mk (Value.type "function") .none (Data.func (FuncData.mk (Str.ofString "content_size") (Str.ofString "content_size") (defArgs (topS 30)) (.stmts (defBody (topS 30))) (defScope (topS 30)) 3 [] Value.none Value.none Value.none (Value.str (Str.ofString "oneheap.objects.constraints") 734) .none (Value.ref 481) Value.none 0)) #[]
def o483_4 (P : Params) : Obj := Obj.mk (Value.type "tuple") .none (Data.seq #[]) #[]
def o484_4 (P : Params) : Obj := Obj.mk (Value.type "builtin_function_or_method") .none (Data.fields #[Value.builtin "type.__prepare__", Value.type "type"]) #[]
def o485_4 (P : Params) : Obj := Obj.mk (Value.type "dict") .none (Data.dict #[DictEntry.mk (PyData.keyHash P (Str.ofString "__module__")) (Value.str (Str.ofString "__module__") 810) (Value.str (Str.ofString "oneheap.objects.touching") 801), DictEntry.mk (PyData.keyHash P (Str.ofString "__qualname__")) (Value.str (Str.ofString "__qualname__") 812) (Value.str (Str.ofString "Touch") 811), DictEntry.mk (PyData.keyHash P (Str.ofString "__firstlineno__")) (Value.str (Str.ofString "__firstlineno__") 814) (Value.int 199 813), DictEntry.mk (PyData.keyHash P (Str.ofString "__init__")) (Value.str (Str.ofString "__init__") 825) (Value.ref 496), DictEntry.mk (PyData.keyHash P (Str.ofString "__eq__")) (Value.str (Str.ofString "__eq__") 833) (Value.ref 503), DictEntry.mk (PyData.keyHash P (Str.ofString "__static_attributes__")) (Value.str (Str.ofString "__static_attributes__") 838) (Value.ref 504)] 6) #[]
def o486_4 (P : Params) : Obj := Obj.mk (Value.type "tuple") .none (Data.seq #[]) #[]
def o487_4 (P : Params) : Obj := Obj.mk Value.none .none (Data.fields #[Value.int 201 0, Value.int 4 0, Value.ref 495, Value.int 207 0, Value.int 4 0, Value.ref 502]) #[]
def o488_4 (P : Params) : Obj := Obj.mk (Value.type "code") .none (Data.fields #[Value.str (Str.ofString "Touch") 805, Value.str (Str.ofString "Touch") 806, Value.str (Str.ofString "/claim/cut.py") 807, Value.int 199 0, Value.int 0 0, Value.int 0 0, Value.int 0 0, Value.int 0 0, Value.ref 486, Value.bool false, Value.int 181 0, Value.ref 487, Value.none, Value.none, Value.none, Value.none, Value.int 808 0, Value.int 199 0, Value.str (Str.ofString "/claim/cut.py") 809]) #[]
def o489_4 (P : Params) : Obj := Obj.mk (Value.type "frame") .none Data.plain #[.some (Value.ref 488), .some (Value.ref 3), .some (Value.ref 485), .none, .some (Value.str (Str.ofString "oneheap.objects.touching") 801), .none, .some (Value.ref 0)]
def o490_4 (P : Params) : Obj := Obj.mk (Value.type "tuple") .none (Data.seq #[]) #[]
def o491_4 (P : Params) : Obj := Obj.mk Value.none .none (Data.fields #[]) #[]
def o492_4 (P : Params) : Obj := Obj.mk (Value.type "tuple") .none (Data.seq #[Value.str (Str.ofString "self") 818, Value.str (Str.ofString "number") 819, Value.str (Str.ofString "made") 820, Value.str (Str.ofString "gone") 821, Value.str (Str.ofString "names") 822]) #[]
def o493_4 (P : Params) : Obj := Obj.mk (Value.type "tuple") .none (Data.seq #[]) #[]
def o494_4 (P : Params) : Obj := Obj.mk Value.none .none (Data.func (FuncData.mk (Str.ofString "__init__") (Str.ofString "Touch.__init__") (defArgs (inClass (topS 32) 0)) (.stmts (defBody (inClass (topS 32) 0))) (defScope (inClass (topS 32) 0)) 0 [] Value.none Value.none Value.none Value.none .none Value.none Value.none 0)) #[]
def o495_4 (P : Params) : Obj := Obj.mk (Value.type "code") .none (Data.fields #[Value.str (Str.ofString "__init__") 815, Value.str (Str.ofString "Touch.__init__") 816, Value.str (Str.ofString "/claim/cut.py") 817, Value.int 201 0, Value.int 5 0, Value.int 0 0, Value.int 0 0, Value.int 3 0, Value.ref 490, Value.bool true, Value.int 181 0, Value.ref 491, Value.none, Value.ref 492, Value.ref 493, Value.ref 494, Value.int 823 0, Value.int 201 0, Value.str (Str.ofString "/claim/cut.py") 824]) #[]
def o496_4 (P : Params) : Obj := Obj.mk (Value.type "function") .none (Data.func (FuncData.mk (Str.ofString "__init__") (Str.ofString "Touch.__init__") (defArgs (inClass (topS 32) 0)) (.stmts (defBody (inClass (topS 32) 0))) (defScope (inClass (topS 32) 0)) 3 [] Value.none Value.none Value.none (Value.str (Str.ofString "oneheap.objects.touching") 801) .none (Value.ref 495) Value.none 0)) #[]
def o497_4 (P : Params) : Obj := Obj.mk (Value.type "tuple") .none (Data.seq #[]) #[]
def o498_4 (P : Params) : Obj := Obj.mk Value.none .none (Data.fields #[]) #[]
def o499_4 (P : Params) : Obj := Obj.mk (Value.type "tuple") .none (Data.seq #[Value.str (Str.ofString "self") 829, Value.str (Str.ofString "other") 830]) #[]
def o500_4 (P : Params) : Obj := Obj.mk (Value.type "tuple") .none (Data.seq #[]) #[]
def o501_4 (P : Params) : Obj := Obj.mk Value.none .none (Data.func (FuncData.mk (Str.ofString "__eq__") (Str.ofString "Touch.__eq__") (defArgs (inClass (topS 32) 1)) (.stmts (defBody (inClass (topS 32) 1))) (defScope (inClass (topS 32) 1)) 0 [] Value.none Value.none Value.none Value.none .none Value.none Value.none 0)) #[]
def o502_4 (P : Params) : Obj := Obj.mk (Value.type "code") .none (Data.fields #[Value.str (Str.ofString "__eq__") 826, Value.str (Str.ofString "Touch.__eq__") 827, Value.str (Str.ofString "/claim/cut.py") 828, Value.int 207 0, Value.int 2 0, Value.int 0 0, Value.int 0 0, Value.int 3 0, Value.ref 497, Value.bool true, Value.int 181 0, Value.ref 498, Value.none, Value.ref 499, Value.ref 500, Value.ref 501, Value.int 831 0, Value.int 207 0, Value.str (Str.ofString "/claim/cut.py") 832]) #[]
def o503_4 (P : Params) : Obj := Obj.mk (Value.type "function") .none (Data.func (FuncData.mk (Str.ofString "__eq__") (Str.ofString "Touch.__eq__") (defArgs (inClass (topS 32) 1)) (.stmts (defBody (inClass (topS 32) 1))) (defScope (inClass (topS 32) 1)) 3 [] Value.none Value.none Value.none (Value.str (Str.ofString "oneheap.objects.touching") 801) .none (Value.ref 502) Value.none 0)) #[]
def o504_4 (P : Params) : Obj := Obj.mk (Value.type "tuple") .none (Data.seq #[Value.str (Str.ofString "gone") 834, Value.str (Str.ofString "made") 835, Value.str (Str.ofString "names") 836, Value.str (Str.ofString "number") 837]) #[]
def o505_4 (P : Params) : Obj := Obj.mk (Value.type "dict") .none (Data.dict #[DictEntry.mk (PyData.keyHash P (Str.ofString "__module__")) (Value.str (Str.ofString "__module__") 810) (Value.str (Str.ofString "oneheap.objects.touching") 801), DictEntry.mk (PyData.keyHash P (Str.ofString "__firstlineno__")) (Value.str (Str.ofString "__firstlineno__") 814) (Value.int 199 813), DictEntry.mk (PyData.keyHash P (Str.ofString "__init__")) (Value.str (Str.ofString "__init__") 825) (Value.ref 496), DictEntry.mk (PyData.keyHash P (Str.ofString "__eq__")) (Value.str (Str.ofString "__eq__") 833) (Value.ref 503), DictEntry.mk (PyData.keyHash P (Str.ofString "__static_attributes__")) (Value.str (Str.ofString "__static_attributes__") 838) (Value.ref 504), DictEntry.mk (PyData.keyHash P (Str.ofString "__dict__")) (Value.str (Str.ofString "__dict__") 840) (Value.ref 507), DictEntry.mk (PyData.keyHash P (Str.ofString "__weakref__")) (Value.str (Str.ofString "__weakref__") 842) (Value.ref 508), DictEntry.mk (PyData.keyHash P (Str.ofString "__doc__")) (Value.str (Str.ofString "__doc__") 843) Value.none, DictEntry.mk (PyData.keyHash P (Str.ofString "__hash__")) (Value.str (Str.ofString "__hash__") 844) Value.none] 5) #[]
def o506_4 (P : Params) : Obj := Obj.mk (Value.type "type") .none (Data.cls (ClassData.mk (Str.ofString "Touch") [Value.type "object"] [Value.ref 506, Value.type "object"] 505 (Str.ofString "Touch") true [] [] false .none false)) #[.none, .none, .some (Value.str (Str.ofString "Touch") 803), .some (Value.str (Str.ofString "Touch") 811), .some (Value.builtin "object.__new__"), .some (Value.bool true)]
def o507_4 (P : Params) : Obj := Obj.mk (Value.type "getset_descriptor") .none (Data.fields #[Value.str (Str.ofString "__dict__") 839, Value.ref 506, Value.builtin "function.__dict__", Value.builtin "function.__dict__#set"]) #[]
def o508_4 (P : Params) : Obj := Obj.mk (Value.type "getset_descriptor") .none (Data.fields #[Value.str (Str.ofString "__weakref__") 841, Value.ref 506, Value.builtin "ExceptionGroup.__weakref__", Value.none]) #[]
def o509_4 (P : Params) : Obj := Obj.mk (Value.type "super") .none (Data.fields #[Value.ref 506, Value.ref 506, Value.ref 506]) #[]
def o510_4 (P : Params) : Obj := Obj.mk (Value.type "builtin_function_or_method") .none (Data.fields #[Value.builtin "object.__init_subclass__", Value.ref 506]) #[]
def o511_4 (P : Params) : Obj := Obj.mk (Value.type "tuple") .none (Data.seq #[]) #[]
def o512_4 (P : Params) : Obj := Obj.mk Value.none .none (Data.fields #[]) #[]
def o513_4 (P : Params) : Obj := Obj.mk (Value.type "tuple") .none (Data.seq #[Value.str (Str.ofString "script") 852, Value.str (Str.ofString "count") 853, Value.str (Str.ofString "cells") 854, Value.str (Str.ofString "k") 855, Value.str (Str.ofString "cell") 856]) #[]
def o514_4 (P : Params) : Obj := Obj.mk (Value.type "tuple") .none (Data.seq #[]) #[]
def o515_4 (P : Params) : Obj := Obj.mk Value.none .none (Data.func (FuncData.mk (Str.ofString "_law_cells") (Str.ofString "_law_cells") (defArgs (topS 34)) (.stmts (defBody (topS 34))) (defScope (topS 34)) 0 [] Value.none Value.none Value.none Value.none .none Value.none Value.none 0)) #[]
def o516_4 (P : Params) : Obj := Obj.mk (Value.type "code") .none (Data.fields #[Value.str (Str.ofString "_law_cells") 849, Value.str (Str.ofString "_law_cells") 850, Value.str (Str.ofString "/claim/cut.py") 851, Value.int 212 0, Value.int 2 0, Value.int 0 0, Value.int 0 0, Value.int 3 0, Value.ref 511, Value.bool true, Value.int 181 0, Value.ref 512, Value.none, Value.ref 513, Value.ref 514, Value.ref 515, Value.int 857 0, Value.int 212 0, Value.str (Str.ofString "/claim/cut.py") 858]) #[]
def o517_4 (P : Params) : Obj := Obj.mk (Value.type "function") .none (Data.func (FuncData.mk (Str.ofString "_law_cells") (Str.ofString "_law_cells") (defArgs (topS 34)) (.stmts (defBody (topS 34))) (defScope (topS 34)) 3 [] Value.none Value.none Value.none (Value.str (Str.ofString "law_oneheap_k46_constraints_and_sizes") 847) .none (Value.ref 516) Value.none 0)) #[]
def o518_4 (P : Params) : Obj := Obj.mk (Value.type "tuple") .none (Data.seq #[]) #[]
def o519_4 (P : Params) : Obj := Obj.mk Value.none .none (Data.fields #[]) #[]
def o520_4 (P : Params) : Obj := Obj.mk (Value.type "tuple") .none (Data.seq #[Value.str (Str.ofString "draws") 863, Value.str (Str.ofString "bound") 864, Value.str (Str.ofString "amount") 865]) #[]
def o521_4 (P : Params) : Obj := Obj.mk (Value.type "tuple") .none (Data.seq #[]) #[]
def o522_4 (P : Params) : Obj := Obj.mk Value.none .none (Data.func (FuncData.mk (Str.ofString "_law_draw") (Str.ofString "_law_draw") (defArgs (topS 35)) (.stmts (defBody (topS 35))) (defScope (topS 35)) 0 [] Value.none Value.none Value.none Value.none .none Value.none Value.none 0)) #[]
def o523_4 (P : Params) : Obj := Obj.mk (Value.type "code") .none (Data.fields #[Value.str (Str.ofString "_law_draw") 860, Value.str (Str.ofString "_law_draw") 861, Value.str (Str.ofString "/claim/cut.py") 862, Value.int 225 0, Value.int 2 0, Value.int 0 0, Value.int 0 0, Value.int 3 0, Value.ref 518, Value.bool true, Value.int 181 0, Value.ref 519, Value.none, Value.ref 520, Value.ref 521, Value.ref 522, Value.int 866 0, Value.int 225 0, Value.str (Str.ofString "/claim/cut.py") 867]) #[]
def o524_4 (P : Params) : Obj := Obj.mk (Value.type "function") .none (Data.func (FuncData.mk (Str.ofString "_law_draw") (Str.ofString "_law_draw") (defArgs (topS 35)) (.stmts (defBody (topS 35))) (defScope (topS 35)) 3 [] Value.none Value.none Value.none (Value.str (Str.ofString "law_oneheap_k46_constraints_and_sizes") 847) .none (Value.ref 523) Value.none 0)) #[]
def o525_4 (P : Params) : Obj := Obj.mk (Value.type "tuple") .none (Data.seq #[]) #[]
def o526_4 (P : Params) : Obj := Obj.mk Value.none .none (Data.fields #[]) #[]
def o527_4 (P : Params) : Obj := Obj.mk (Value.type "tuple") .none (Data.seq #[Value.str (Str.ofString "draws") 872, Value.str (Str.ofString "row") 873]) #[]
def o528_4 (P : Params) : Obj := Obj.mk (Value.type "tuple") .none (Data.seq #[]) #[]
def o529_4 (P : Params) : Obj := Obj.mk Value.none .none (Data.func (FuncData.mk (Str.ofString "_law_pick") (Str.ofString "_law_pick") (defArgs (topS 36)) (.stmts (defBody (topS 36))) (defScope (topS 36)) 0 [] Value.none Value.none Value.none Value.none .none Value.none Value.none 0)) #[]
def o530_4 (P : Params) : Obj := Obj.mk (Value.type "code") .none (Data.fields #[Value.str (Str.ofString "_law_pick") 869, Value.str (Str.ofString "_law_pick") 870, Value.str (Str.ofString "/claim/cut.py") 871, Value.int 231 0, Value.int 2 0, Value.int 0 0, Value.int 0 0, Value.int 3 0, Value.ref 525, Value.bool true, Value.int 181 0, Value.ref 526, Value.none, Value.ref 527, Value.ref 528, Value.ref 529, Value.int 874 0, Value.int 231 0, Value.str (Str.ofString "/claim/cut.py") 875]) #[]
def o531_4 (P : Params) : Obj := Obj.mk (Value.type "function") .none (Data.func (FuncData.mk (Str.ofString "_law_pick") (Str.ofString "_law_pick") (defArgs (topS 36)) (.stmts (defBody (topS 36))) (defScope (topS 36)) 3 [] Value.none Value.none Value.none (Value.str (Str.ofString "law_oneheap_k46_constraints_and_sizes") 847) .none (Value.ref 530) Value.none 0)) #[]
def o532_4 (P : Params) : Obj := Obj.mk (Value.type "tuple") .none (Data.seq #[]) #[]
def o533_4 (P : Params) : Obj := Obj.mk Value.none .none (Data.fields #[]) #[]
def o534_4 (P : Params) : Obj := Obj.mk (Value.type "tuple") .none (Data.seq #[Value.str (Str.ofString "kind") 880, Value.str (Str.ofString "rules") 881]) #[]
def o535_4 (P : Params) : Obj := Obj.mk (Value.type "tuple") .none (Data.seq #[]) #[]
def o536_4 (P : Params) : Obj := Obj.mk Value.none .none (Data.func (FuncData.mk (Str.ofString "_law_links") (Str.ofString "_law_links") (defArgs (topS 37)) (.stmts (defBody (topS 37))) (defScope (topS 37)) 0 [] Value.none Value.none Value.none Value.none .none Value.none Value.none 0)) #[]
def o537_4 (P : Params) : Obj := Obj.mk (Value.type "code") .none (Data.fields #[Value.str (Str.ofString "_law_links") 877, Value.str (Str.ofString "_law_links") 878, Value.str (Str.ofString "/claim/cut.py") 879, Value.int 233 0, Value.int 2 0, Value.int 0 0, Value.int 0 0, Value.int 3 0, Value.ref 532, Value.bool true, Value.int 181 0, Value.ref 533, Value.none, Value.ref 534, Value.ref 535, Value.ref 536, Value.int 882 0, Value.int 233 0, Value.str (Str.ofString "/claim/cut.py") 883]) #[]
def o538_4 (P : Params) : Obj := Obj.mk (Value.type "function") .none (Data.func (FuncData.mk (Str.ofString "_law_links") (Str.ofString "_law_links") (defArgs (topS 37)) (.stmts (defBody (topS 37))) (defScope (topS 37)) 3 [] Value.none Value.none Value.none (Value.str (Str.ofString "law_oneheap_k46_constraints_and_sizes") 847) .none (Value.ref 537) Value.none 0)) #[]
def o539_4 (P : Params) : Obj := Obj.mk (Value.type "tuple") .none (Data.seq #[]) #[]
def o540_4 (P : Params) : Obj := Obj.mk Value.none .none (Data.fields #[]) #[]
def o541_4 (P : Params) : Obj := Obj.mk (Value.type "tuple") .none (Data.seq #[Value.str (Str.ofString "kind") 888]) #[]
def o542_4 (P : Params) : Obj := Obj.mk (Value.type "tuple") .none (Data.seq #[]) #[]
def o543_4 (P : Params) : Obj := Obj.mk Value.none .none (Data.func (FuncData.mk (Str.ofString "_law_names") (Str.ofString "_law_names") (defArgs (topS 38)) (.stmts (defBody (topS 38))) (defScope (topS 38)) 0 [] Value.none Value.none Value.none Value.none .none Value.none Value.none 0)) #[]
def o544_4 (P : Params) : Obj := Obj.mk (Value.type "code") .none (Data.fields #[Value.str (Str.ofString "_law_names") 885, Value.str (Str.ofString "_law_names") 886, Value.str (Str.ofString "/claim/cut.py") 887, Value.int 237 0, Value.int 1 0, Value.int 0 0, Value.int 0 0, Value.int 3 0, Value.ref 539, Value.bool true, Value.int 181 0, Value.ref 540, Value.none, Value.ref 541, Value.ref 542, Value.ref 543, Value.int 889 0, Value.int 237 0, Value.str (Str.ofString "/claim/cut.py") 890]) #[]
def o545_4 (P : Params) : Obj := Obj.mk (Value.type "function") .none (Data.func (FuncData.mk (Str.ofString "_law_names") (Str.ofString "_law_names") (defArgs (topS 38)) (.stmts (defBody (topS 38))) (defScope (topS 38)) 3 [] Value.none Value.none Value.none (Value.str (Str.ofString "law_oneheap_k46_constraints_and_sizes") 847) .none (Value.ref 544) Value.none 0)) #[]
def o546_4 (P : Params) : Obj := Obj.mk (Value.type "tuple") .none (Data.seq #[]) #[]
def o547_4 (P : Params) : Obj := Obj.mk Value.none .none (Data.fields #[]) #[]
def o548_4 (P : Params) : Obj := Obj.mk Value.none .none (Data.func (FuncData.mk (Str.ofString "_law_rules") (Str.ofString "_law_rules") (defArgs (topS 39)) (.stmts (defBody (topS 39))) (defScope (topS 39)) 0 [] Value.none Value.none Value.none Value.none .none Value.none Value.none 0)) #[]
def o549_4 (P : Params) : Obj := Obj.mk (Value.type "code") .none (Data.fields #[Value.str (Str.ofString "_law_rules") 892, Value.str (Str.ofString "_law_rules") 893, Value.str (Str.ofString "/claim/cut.py") 894, Value.int 241 0, Value.int 1 0, Value.int 0 0, Value.int 0 0, Value.int 3 0, Value.ref 546, Value.bool true, Value.int 181 0, Value.ref 547, Value.none, Value.none, Value.none, Value.ref 548, Value.int 895 0, Value.int 241 0, Value.str (Str.ofString "/claim/cut.py") 896]) #[]
def o550_4 (P : Params) : Obj := Obj.mk (Value.type "function") .none (Data.func (FuncData.mk (Str.ofString "_law_rules") (Str.ofString "_law_rules") (defArgs (topS 39)) (.stmts (defBody (topS 39))) (defScope (topS 39)) 3 [] Value.none Value.none Value.none (Value.str (Str.ofString "law_oneheap_k46_constraints_and_sizes") 847) .none (Value.ref 549) Value.none 0)) #[]
def o551_4 (P : Params) : Obj := Obj.mk (Value.type "tuple") .none (Data.seq #[]) #[]
def o552_4 (P : Params) : Obj := Obj.mk Value.none .none (Data.fields #[]) #[]
def o553_4 (P : Params) : Obj := Obj.mk (Value.type "tuple") .none (Data.seq #[Value.str (Str.ofString "rules") 901, Value.str (Str.ofString "needed") 902, Value.str (Str.ofString "first") 903, Value.str (Str.ofString "second") 904]) #[]
def o554_4 (P : Params) : Obj := Obj.mk (Value.type "tuple") .none (Data.seq #[]) #[]
def o555_4 (P : Params) : Obj := Obj.mk Value.none .none (Data.func (FuncData.mk (Str.ofString "_law_schema") (Str.ofString "_law_schema") (defArgs (topS 40)) (.stmts (defBody (topS 40))) (defScope (topS 40)) 0 [] Value.none Value.none Value.none Value.none .none Value.none Value.none 0)) #[]
def o556_4 (P : Params) : Obj := Obj.mk (Value.type "code") .none (Data.fields #[Value.str (Str.ofString "_law_schema") 898, Value.str (Str.ofString "_law_schema") 899, Value.str (Str.ofString "/claim/cut.py") 900, Value.int 243 0, Value.int 2 0, Value.int 0 0, Value.int 0 0, Value.int 3 0, Value.ref 551, Value.bool true, Value.int 181 0, Value.ref 552, Value.none, Value.ref 553, Value.ref 554, Value.ref 555, Value.int 905 0, Value.int 243 0, Value.str (Str.ofString "/claim/cut.py") 906]) #[]
def o557_4 (P : Params) : Obj := Obj.mk (Value.type "function") .none (Data.func (FuncData.mk (Str.ofString "_law_schema") (Str.ofString "_law_schema") (defArgs (topS 40)) (.stmts (defBody (topS 40))) (defScope (topS 40)) 3 [] Value.none Value.none Value.none (Value.str (Str.ofString "law_oneheap_k46_constraints_and_sizes") 847) .none (Value.ref 556) Value.none 0)) #[]
def o558_4 (P : Params) : Obj := Obj.mk (Value.type "tuple") .none (Data.seq #[]) #[]
def o559_4 (P : Params) : Obj := Obj.mk Value.none .none (Data.fields #[]) #[]
def o560_4 (P : Params) : Obj := Obj.mk (Value.type "tuple") .none (Data.seq #[Value.str (Str.ofString "draws") 911, Value.str (Str.ofString "digit") 912]) #[]
def o561_4 (P : Params) : Obj := Obj.mk (Value.type "tuple") .none (Data.seq #[]) #[]
def o562_4 (P : Params) : Obj := Obj.mk Value.none .none (Data.func (FuncData.mk (Str.ofString "_law_number") (Str.ofString "_law_number") (defArgs (topS 41)) (.stmts (defBody (topS 41))) (defScope (topS 41)) 0 [] Value.none Value.none Value.none Value.none .none Value.none Value.none 0)) #[]
def o563_4 (P : Params) : Obj := Obj.mk (Value.type "code") .none (Data.fields #[Value.str (Str.ofString "_law_number") 908, Value.str (Str.ofString "_law_number") 909, Value.str (Str.ofString "/claim/cut.py") 910, Value.int 247 0, Value.int 1 0, Value.int 0 0, Value.int 0 0, Value.int 3 0, Value.ref 558, Value.bool true, Value.int 181 0, Value.ref 559, Value.none, Value.ref 560, Value.ref 561, Value.ref 562, Value.int 913 0, Value.int 247 0, Value.str (Str.ofString "/claim/cut.py") 914]) #[]
def o564_4 (P : Params) : Obj := Obj.mk (Value.type "function") .none (Data.func (FuncData.mk (Str.ofString "_law_number") (Str.ofString "_law_number") (defArgs (topS 41)) (.stmts (defBody (topS 41))) (defScope (topS 41)) 3 [] Value.none Value.none Value.none (Value.str (Str.ofString "law_oneheap_k46_constraints_and_sizes") 847) .none (Value.ref 563) Value.none 0)) #[]
def o565_4 (P : Params) : Obj := Obj.mk (Value.type "tuple") .none (Data.seq #[]) #[]
def o566_4 (P : Params) : Obj := Obj.mk Value.none .none (Data.fields #[]) #[]
def o567_4 (P : Params) : Obj := Obj.mk (Value.type "tuple") .none (Data.seq #[Value.str (Str.ofString "draws") 919, Value.str (Str.ofString "row") 920, Value.str (Str.ofString "_law_turn") 921, Value.str (Str.ofString "digit") 922]) #[]
def o568_4 (P : Params) : Obj := Obj.mk (Value.type "tuple") .none (Data.seq #[]) #[]
def o569_4 (P : Params) : Obj := Obj.mk Value.none .none (Data.func (FuncData.mk (Str.ofString "_law_list") (Str.ofString "_law_list") (defArgs (topS 42)) (.stmts (defBody (topS 42))) (defScope (topS 42)) 0 [] Value.none Value.none Value.none Value.none .none Value.none Value.none 0)) #[]
def o570_4 (P : Params) : Obj := Obj.mk (Value.type "code") .none (Data.fields #[Value.str (Str.ofString "_law_list") 916, Value.str (Str.ofString "_law_list") 917, Value.str (Str.ofString "/claim/cut.py") 918, Value.int 252 0, Value.int 1 0, Value.int 0 0, Value.int 0 0, Value.int 3 0, Value.ref 565, Value.bool true, Value.int 181 0, Value.ref 566, Value.none, Value.ref 567, Value.ref 568, Value.ref 569, Value.int 923 0, Value.int 252 0, Value.str (Str.ofString "/claim/cut.py") 924]) #[]
def o571_4 (P : Params) : Obj := Obj.mk (Value.type "function") .none (Data.func (FuncData.mk (Str.ofString "_law_list") (Str.ofString "_law_list") (defArgs (topS 42)) (.stmts (defBody (topS 42))) (defScope (topS 42)) 3 [] Value.none Value.none Value.none (Value.str (Str.ofString "law_oneheap_k46_constraints_and_sizes") 847) .none (Value.ref 570) Value.none 0)) #[]
def o572_4 (P : Params) : Obj := Obj.mk (Value.type "tuple") .none (Data.seq #[]) #[]
def o573_4 (P : Params) : Obj := Obj.mk Value.none .none (Data.fields #[]) #[]
def o574_4 (P : Params) : Obj := Obj.mk (Value.type "tuple") .none (Data.seq #[Value.str (Str.ofString "draws") 929, Value.str (Str.ofString "kind") 930, Value.str (Str.ofString "known") 931]) #[]
def o575_4 (P : Params) : Obj := Obj.mk (Value.type "tuple") .none (Data.seq #[]) #[]
def o576_4 (P : Params) : Obj := Obj.mk Value.none .none (Data.func (FuncData.mk (Str.ofString "_law_contents") (Str.ofString "_law_contents") (defArgs (topS 43)) (.stmts (defBody (topS 43))) (defScope (topS 43)) 0 [] Value.none Value.none Value.none Value.none .none Value.none Value.none 0)) #[]
def o577_4 (P : Params) : Obj := Obj.mk (Value.type "code") .none (Data.fields #[Value.str (Str.ofString "_law_contents") 926, Value.str (Str.ofString "_law_contents") 927, Value.str (Str.ofString "/claim/cut.py") 928, Value.int 259 0, Value.int 2 0, Value.int 0 0, Value.int 0 0, Value.int 3 0, Value.ref 572, Value.bool true, Value.int 181 0, Value.ref 573, Value.none, Value.ref 574, Value.ref 575, Value.ref 576, Value.int 932 0, Value.int 259 0, Value.str (Str.ofString "/claim/cut.py") 933]) #[]
def o578_4 (P : Params) : Obj := Obj.mk (Value.type "function") .none (Data.func (FuncData.mk (Str.ofString "_law_contents") (Str.ofString "_law_contents") (defArgs (topS 43)) (.stmts (defBody (topS 43))) (defScope (topS 43)) 3 [] Value.none Value.none Value.none (Value.str (Str.ofString "law_oneheap_k46_constraints_and_sizes") 847) .none (Value.ref 577) Value.none 0)) #[]
def o579_4 (P : Params) : Obj := Obj.mk (Value.type "tuple") .none (Data.seq #[]) #[]
def o580_4 (P : Params) : Obj := Obj.mk Value.none .none (Data.fields #[]) #[]
def o581_4 (P : Params) : Obj := Obj.mk (Value.type "tuple") .none (Data.seq #[Value.str (Str.ofString "draws") 938, Value.str (Str.ofString "picture") 939, Value.str (Str.ofString "_law_turn") 940, Value.str (Str.ofString "number") 941, Value.str (Str.ofString "kind") 942]) #[]
def o582_4 (P : Params) : Obj := Obj.mk (Value.type "tuple") .none (Data.seq #[]) #[]
def o583_4 (P : Params) : Obj := Obj.mk Value.none .none (Data.func (FuncData.mk (Str.ofString "_law_picture") (Str.ofString "_law_picture") (defArgs (topS 44)) (.stmts (defBody (topS 44))) (defScope (topS 44)) 0 [] Value.none Value.none Value.none Value.none .none Value.none Value.none 0)) #[]
def o584_4 (P : Params) : Obj := Obj.mk (Value.type "code") .none (Data.fields #[Value.str (Str.ofString "_law_picture") 935, Value.str (Str.ofString "_law_picture") 936, Value.str (Str.ofString "/claim/cut.py") 937, Value.int 271 0, Value.int 1 0, Value.int 0 0, Value.int 0 0, Value.int 3 0, Value.ref 579, Value.bool true, Value.int 181 0, Value.ref 580, Value.none, Value.ref 581, Value.ref 582, Value.ref 583, Value.int 943 0, Value.int 271 0, Value.str (Str.ofString "/claim/cut.py") 944]) #[]
def o585_4 (P : Params) : Obj := Obj.mk (Value.type "function") .none (Data.func (FuncData.mk (Str.ofString "_law_picture") (Str.ofString "_law_picture") (defArgs (topS 44)) (.stmts (defBody (topS 44))) (defScope (topS 44)) 3 [] Value.none Value.none Value.none (Value.str (Str.ofString "law_oneheap_k46_constraints_and_sizes") 847) .none (Value.ref 584) Value.none 0)) #[]
def o586_4 (P : Params) : Obj := Obj.mk (Value.type "tuple") .none (Data.seq #[]) #[]
def o587_4 (P : Params) : Obj := Obj.mk Value.none .none (Data.fields #[]) #[]
def o588_4 (P : Params) : Obj := Obj.mk (Value.type "tuple") .none (Data.seq #[Value.str (Str.ofString "picture") 949, Value.str (Str.ofString "kinds") 950, Value.str (Str.ofString "number") 951]) #[]
def o589_4 (P : Params) : Obj := Obj.mk (Value.type "tuple") .none (Data.seq #[]) #[]
def o590_4 (P : Params) : Obj := Obj.mk Value.none .none (Data.func (FuncData.mk (Str.ofString "_law_there") (Str.ofString "_law_there") (defArgs (topS 45)) (.stmts (defBody (topS 45))) (defScope (topS 45)) 0 [] Value.none Value.none Value.none Value.none .none Value.none Value.none 0)) #[]
def o591_4 (P : Params) : Obj := Obj.mk (Value.type "code") .none (Data.fields #[Value.str (Str.ofString "_law_there") 946, Value.str (Str.ofString "_law_there") 947, Value.str (Str.ofString "/claim/cut.py") 948, Value.int 278 0, Value.int 3 0, Value.int 0 0, Value.int 0 0, Value.int 3 0, Value.ref 586, Value.bool true, Value.int 181 0, Value.ref 587, Value.none, Value.ref 588, Value.ref 589, Value.ref 590, Value.int 952 0, Value.int 278 0, Value.str (Str.ofString "/claim/cut.py") 953]) #[]
def o592_4 (P : Params) : Obj := Obj.mk (Value.type "function") .none (Data.func (FuncData.mk (Str.ofString "_law_there") (Str.ofString "_law_there") (defArgs (topS 45)) (.stmts (defBody (topS 45))) (defScope (topS 45)) 3 [] Value.none Value.none Value.none (Value.str (Str.ofString "law_oneheap_k46_constraints_and_sizes") 847) .none (Value.ref 591) Value.none 0)) #[]
def o593_4 (P : Params) : Obj := Obj.mk (Value.type "tuple") .none (Data.seq #[]) #[]
def o594_4 (P : Params) : Obj := Obj.mk Value.none .none (Data.fields #[]) #[]
def o595_4 (P : Params) : Obj := Obj.mk Value.none .none (Data.func (FuncData.mk (Str.ofString "_law_told") (Str.ofString "_law_told") (defArgs (topS 46)) (.stmts (defBody (topS 46))) (defScope (topS 46)) 0 [] Value.none Value.none Value.none Value.none .none Value.none Value.none 0)) #[]
def o596_4 (P : Params) : Obj := Obj.mk (Value.type "code") .none (Data.fields #[Value.str (Str.ofString "_law_told") 955, Value.str (Str.ofString "_law_told") 956, Value.str (Str.ofString "/claim/cut.py") 957, Value.int 280 0, Value.int 4 0, Value.int 0 0, Value.int 0 0, Value.int 3 0, Value.ref 593, Value.bool true, Value.int 181 0, Value.ref 594, Value.none, Value.none, Value.none, Value.ref 595, Value.int 958 0, Value.int 280 0, Value.str (Str.ofString "/claim/cut.py") 959]) #[]
def o597_4 (P : Params) : Obj := Obj.mk (Value.type "function") .none (Data.func (FuncData.mk (Str.ofString "_law_told") (Str.ofString "_law_told") (defArgs (topS 46)) (.stmts (defBody (topS 46))) (defScope (topS 46)) 3 [] Value.none Value.none Value.none (Value.str (Str.ofString "law_oneheap_k46_constraints_and_sizes") 847) .none (Value.ref 596) Value.none 0)) #[]
def o598_4 (P : Params) : Obj := Obj.mk (Value.type "tuple") .none (Data.seq #[]) #[]
def o599_4 (P : Params) : Obj := Obj.mk Value.none .none (Data.fields #[]) #[]
def o600_4 (P : Params) : Obj := Obj.mk Value.none .none (Data.func (FuncData.mk (Str.ofString "_law_against") (Str.ofString "_law_against") (defArgs (topS 47)) (.stmts (defBody (topS 47))) (defScope (topS 47)) 0 [] Value.none Value.none Value.none Value.none .none Value.none Value.none 0)) #[]
def o601_4 (P : Params) : Obj := Obj.mk (Value.type "code") .none (Data.fields #[Value.str (Str.ofString "_law_against") 961, Value.str (Str.ofString "_law_against") 962, Value.str (Str.ofString "/claim/cut.py") 963, Value.int 289 0, Value.int 4 0, Value.int 0 0, Value.int 0 0, Value.int 3 0, Value.ref 598, Value.bool true, Value.int 181 0, Value.ref 599, Value.none, Value.none, Value.none, Value.ref 600, Value.int 964 0, Value.int 289 0, Value.str (Str.ofString "/claim/cut.py") 965]) #[]
def o602_4 (P : Params) : Obj := Obj.mk (Value.type "function") .none (Data.func (FuncData.mk (Str.ofString "_law_against") (Str.ofString "_law_against") (defArgs (topS 47)) (.stmts (defBody (topS 47))) (defScope (topS 47)) 3 [] Value.none Value.none Value.none (Value.str (Str.ofString "law_oneheap_k46_constraints_and_sizes") 847) .none (Value.ref 601) Value.none 0)) #[]
def o603_4 (P : Params) : Obj := Obj.mk (Value.type "tuple") .none (Data.seq #[]) #[]
def o604_4 (P : Params) : Obj := Obj.mk Value.none .none (Data.fields #[]) #[]
def o605_4 (P : Params) : Obj := Obj.mk (Value.type "tuple") .none (Data.seq #[Value.str (Str.ofString "picture") 970, Value.str (Str.ofString "rules") 971, Value.str (Str.ofString "total") 972, Value.str (Str.ofString "number") 973, Value.str (Str.ofString "name") 974, Value.str (Str.ofString "told") 975]) #[]
def o606_4 (P : Params) : Obj := Obj.mk (Value.type "tuple") .none (Data.seq #[]) #[]
def o607_4 (P : Params) : Obj := Obj.mk Value.none .none (Data.func (FuncData.mk (Str.ofString "_law_size") (Str.ofString "_law_size") (defArgs (topS 48)) (.stmts (defBody (topS 48))) (defScope (topS 48)) 0 [] Value.none Value.none Value.none Value.none .none Value.none Value.none 0)) #[]
def o608_4 (P : Params) : Obj := Obj.mk (Value.type "code") .none (Data.fields #[Value.str (Str.ofString "_law_size") 967, Value.str (Str.ofString "_law_size") 968, Value.str (Str.ofString "/claim/cut.py") 969, Value.int 306 0, Value.int 2 0, Value.int 0 0, Value.int 0 0, Value.int 3 0, Value.ref 603, Value.bool true, Value.int 181 0, Value.ref 604, Value.none, Value.ref 605, Value.ref 606, Value.ref 607, Value.int 976 0, Value.int 306 0, Value.str (Str.ofString "/claim/cut.py") 977]) #[]
def o609_4 (P : Params) : Obj := Obj.mk (Value.type "function") .none (Data.func (FuncData.mk (Str.ofString "_law_size") (Str.ofString "_law_size") (defArgs (topS 48)) (.stmts (defBody (topS 48))) (defScope (topS 48)) 3 [] Value.none Value.none Value.none (Value.str (Str.ofString "law_oneheap_k46_constraints_and_sizes") 847) .none (Value.ref 608) Value.none 0)) #[]
def o610_4 (P : Params) : Obj := Obj.mk (Value.type "tuple") .none (Data.seq #[]) #[]
def o611_4 (P : Params) : Obj := Obj.mk Value.none .none (Data.fields #[]) #[]
def o612_4 (P : Params) : Obj := Obj.mk Value.none .none (Data.func (FuncData.mk (Str.ofString "_law_first") (Str.ofString "_law_first") (defArgs (topS 49)) (.stmts (defBody (topS 49))) (defScope (topS 49)) 0 [] Value.none Value.none Value.none Value.none .none Value.none Value.none 0)) #[]
def o613_4 (P : Params) : Obj := Obj.mk (Value.type "code") .none (Data.fields #[Value.str (Str.ofString "_law_first") 979, Value.str (Str.ofString "_law_first") 980, Value.str (Str.ofString "/claim/cut.py") 981, Value.int 316 0, Value.int 4 0, Value.int 0 0, Value.int 0 0, Value.int 3 0, Value.ref 610, Value.bool true, Value.int 181 0, Value.ref 611, Value.none, Value.none, Value.none, Value.ref 612, Value.int 982 0, Value.int 316 0, Value.str (Str.ofString "/claim/cut.py") 983]) #[]
def o614_4 (P : Params) : Obj := Obj.mk (Value.type "function") .none (Data.func (FuncData.mk (Str.ofString "_law_first") (Str.ofString "_law_first") (defArgs (topS 49)) (.stmts (defBody (topS 49))) (defScope (topS 49)) 3 [] Value.none Value.none Value.none (Value.str (Str.ofString "law_oneheap_k46_constraints_and_sizes") 847) .none (Value.ref 613) Value.none 0)) #[]
def tr4 (P : Params) : PySem.W.BT := (.node (PySem.W.boot_o_0 P) (.node (PySem.W.boot_o_1 P) (.node (o3_4 P) (.node (PySem.W.boot_o_7 P) (.node (o15_3 P) (.node (o31_3 P) (.node (o63_3 P) (.node (o127_3 P) (.node (o255_3 P) (.node (o511_4 P) .nil .nil) .nil) (.node (o383_4 P) .nil .nil)) (.node (o191_3 P) (.node (o319_4 P) (.node (o575_4 P) .nil .nil) .nil) (.node (o447_4 P) .nil .nil))) (.node (o95_3 P) (.node (o159_3 P) (.node (o287_3 P) (.node (o543_4 P) .nil .nil) .nil) (.node (o415_4 P) .nil .nil)) (.node (o223_3 P) (.node (o351_4 P) (.node (o607_4 P) .nil .nil) .nil) (.node (o479_4 P) .nil .nil)))) (.node (o47_3 P) (.node (o79_3 P) (.node (o143_3 P) (.node (o271_3 P) (.node (o527_4 P) .nil .nil) .nil) (.node (o399_4 P) .nil .nil)) (.node (o207_3 P) (.node (o335_4 P) (.node (o591_4 P) .nil .nil) .nil) (.node (o463_4 P) .nil .nil))) (.node (o111_3 P) (.node (o175_3 P) (.node (o303_4 P) (.node (o559_4 P) .nil .nil) .nil) (.node (o431_4 P) .nil .nil)) (.node (o239_3 P) (.node (o367_4 P) .nil .nil) (.node (o495_4 P) .nil .nil))))) (.node (o23_3 P) (.node (o39_3 P) (.node (o71_3 P) (.node (o135_3 P) (.node (o263_3 P) (.node (o519_4 P) .nil .nil) .nil) (.node (o391_4 P) .nil .nil)) (.node (o199_3 P) (.node (o327_4 P) (.node (o583_4 P) .nil .nil) .nil) (.node (o455_4 P) .nil .nil))) (.node (o103_3 P) (.node (o167_3 P) (.node (o295_3 P) (.node (o551_4 P) .nil .nil) .nil) (.node (o423_4 P) .nil .nil)) (.node (o231_3 P) (.node (o359_4 P) .nil .nil) (.node (o487_4 P) .nil .nil)))) (.node (o55_3 P) (.node (o87_3 P) (.node (o151_3 P) (.node (o279_3 P) (.node (o535_4 P) .nil .nil) .nil) (.node (o407_4 P) .nil .nil)) (.node (o215_3 P) (.node (o343_4 P) (.node (o599_4 P) .nil .nil) .nil) (.node (o471_4 P) .nil .nil))) (.node (o119_3 P) (.node (o183_3 P) (.node (o311_4 P) (.node (o567_4 P) .nil .nil) .nil) (.node (o439_4 P) .nil .nil)) (.node (o247_3 P) (.node (o375_4 P) .nil .nil) (.node (o503_4 P) .nil .nil)))))) (.node (o11_1 P) (.node (o19_3 P) (.node (o35_3 P) (.node (o67_3 P) (.node (o131_3 P) (.node (o259_3 P) (.node (o515_4 P) .nil .nil) .nil) (.node (o387_4 P) .nil .nil)) (.node (o195_3 P) (.node (o323_4 P) (.node (o579_4 P) .nil .nil) .nil) (.node (o451_4 P) .nil .nil))) (.node (o99_3 P) (.node (o163_3 P) (.node (o291_3 P) (.node (o547_4 P) .nil .nil) .nil) (.node (o419_4 P) .nil .nil)) (.node (o227_3 P) (.node (o355_4 P) (.node (o611_4 P) .nil .nil) .nil) (.node (o483_4 P) .nil .nil)))) (.node (o51_3 P) (.node (o83_3 P) (.node (o147_3 P) (.node (o275_3 P) (.node (o531_4 P) .nil .nil) .nil) (.node (o403_4 P) .nil .nil)) (.node (o211_3 P) (.node (o339_4 P) (.node (o595_4 P) .nil .nil) .nil) (.node (o467_4 P) .nil .nil))) (.node (o115_3 P) (.node (o179_3 P) (.node (o307_4 P) (.node (o563_4 P) .nil .nil) .nil) (.node (o435_4 P) .nil .nil)) (.node (o243_3 P) (.node (o371_4 P) .nil .nil) (.node (o499_4 P) .nil .nil))))) (.node (o27_3 P) (.node (o43_3 P) (.node (o75_3 P) (.node (o139_3 P) (.node (o267_3 P) (.node (o523_4 P) .nil .nil) .nil) (.node (o395_4 P) .nil .nil)) (.node (o203_3 P) (.node (o331_4 P) (.node (o587_4 P) .nil .nil) .nil) (.node (o459_4 P) .nil .nil))) (.node (o107_3 P) (.node (o171_3 P) (.node (o299_3 P) (.node (o555_4 P) .nil .nil) .nil) (.node (o427_4 P) .nil .nil)) (.node (o235_3 P) (.node (o363_4 P) .nil .nil) (.node (o491_4 P) .nil .nil)))) (.node (o59_3 P) (.node (o91_3 P) (.node (o155_3 P) (.node (o283_3 P) (.node (o539_4 P) .nil .nil) .nil) (.node (o411_4 P) .nil .nil)) (.node (o219_3 P) (.node (o347_4 P) (.node (o603_4 P) .nil .nil) .nil) (.node (o475_4 P) .nil .nil))) (.node (o123_3 P) (.node (o187_3 P) (.node (o315_4 P) (.node (o571_4 P) .nil .nil) .nil) (.node (o443_4 P) .nil .nil)) (.node (o251_3 P) (.node (o379_4 P) .nil .nil) (.node (o507_4 P) .nil .nil))))))) (.node (PySem.W.boot_o_5 P) (.node (PySem.W.boot_o_9 P) (.node (o17_3 P) (.node (o33_3 P) (.node (o65_3 P) (.node (o129_3 P) (.node (o257_3 P) (.node (o513_4 P) .nil .nil) .nil) (.node (o385_4 P) .nil .nil)) (.node (o193_3 P) (.node (o321_4 P) (.node (o577_4 P) .nil .nil) .nil) (.node (o449_4 P) .nil .nil))) (.node (o97_3 P) (.node (o161_3 P) (.node (o289_3 P) (.node (o545_4 P) .nil .nil) .nil) (.node (o417_4 P) .nil .nil)) (.node (o225_3 P) (.node (o353_4 P) (.node (o609_4 P) .nil .nil) .nil) (.node (o481_4 P) .nil .nil)))) (.node (o49_3 P) (.node (o81_3 P) (.node (o145_3 P) (.node (o273_3 P) (.node (o529_4 P) .nil .nil) .nil) (.node (o401_4 P) .nil .nil)) (.node (o209_3 P) (.node (o337_4 P) (.node (o593_4 P) .nil .nil) .nil) (.node (o465_4 P) .nil .nil))) (.node (o113_3 P) (.node (o177_3 P) (.node (o305_4 P) (.node (o561_4 P) .nil .nil) .nil) (.node (o433_4 P) .nil .nil)) (.node (o241_3 P) (.node (o369_4 P) .nil .nil) (.node (o497_4 P) .nil .nil))))) (.node (o25_3 P) (.node (o41_3 P) (.node (o73_3 P) (.node (o137_3 P) (.node (o265_3 P) (.node (o521_4 P) .nil .nil) .nil) (.node (o393_4 P) .nil .nil)) (.node (o201_3 P) (.node (o329_4 P) (.node (o585_4 P) .nil .nil) .nil) (.node (o457_4 P) .nil .nil))) (.node (o105_3 P) (.node (o169_3 P) (.node (o297_3 P) (.node (o553_4 P) .nil .nil) .nil) (.node (o425_4 P) .nil .nil)) (.node (o233_3 P) (.node (o361_4 P) .nil .nil) (.node (o489_4 P) .nil .nil)))) (.node (o57_3 P) (.node (o89_3 P) (.node (o153_3 P) (.node (o281_3 P) (.node (o537_4 P) .nil .nil) .nil) (.node (o409_4 P) .nil .nil)) (.node (o217_3 P) (.node (o345_4 P) (.node (o601_4 P) .nil .nil) .nil) (.node (o473_4 P) .nil .nil))) (.node (o121_3 P) (.node (o185_3 P) (.node (o313_4 P) (.node (o569_4 P) .nil .nil) .nil) (.node (o441_4 P) .nil .nil)) (.node (o249_3 P) (.node (o377_4 P) .nil .nil) (.node (o505_4 P) .nil .nil)))))) (.node (o13_1 P) (.node (o21_3 P) (.node (o37_3 P) (.node (o69_3 P) (.node (o133_3 P) (.node (o261_3 P) (.node (o517_4 P) .nil .nil) .nil) (.node (o389_4 P) .nil .nil)) (.node (o197_3 P) (.node (o325_4 P) (.node (o581_4 P) .nil .nil) .nil) (.node (o453_4 P) .nil .nil))) (.node (o101_3 P) (.node (o165_3 P) (.node (o293_3 P) (.node (o549_4 P) .nil .nil) .nil) (.node (o421_4 P) .nil .nil)) (.node (o229_3 P) (.node (o357_4 P) (.node (o613_4 P) .nil .nil) .nil) (.node (o485_4 P) .nil .nil)))) (.node (o53_3 P) (.node (o85_3 P) (.node (o149_3 P) (.node (o277_3 P) (.node (o533_4 P) .nil .nil) .nil) (.node (o405_4 P) .nil .nil)) (.node (o213_3 P) (.node (o341_4 P) (.node (o597_4 P) .nil .nil) .nil) (.node (o469_4 P) .nil .nil))) (.node (o117_3 P) (.node (o181_3 P) (.node (o309_4 P) (.node (o565_4 P) .nil .nil) .nil) (.node (o437_4 P) .nil .nil)) (.node (o245_3 P) (.node (o373_4 P) .nil .nil) (.node (o501_4 P) .nil .nil))))) (.node (o29_3 P) (.node (o45_3 P) (.node (o77_3 P) (.node (o141_3 P) (.node (o269_3 P) (.node (o525_4 P) .nil .nil) .nil) (.node (o397_4 P) .nil .nil)) (.node (o205_3 P) (.node (o333_4 P) (.node (o589_4 P) .nil .nil) .nil) (.node (o461_4 P) .nil .nil))) (.node (o109_3 P) (.node (o173_3 P) (.node (o301_3 P) (.node (o557_4 P) .nil .nil) .nil) (.node (o429_4 P) .nil .nil)) (.node (o237_3 P) (.node (o365_4 P) .nil .nil) (.node (o493_4 P) .nil .nil)))) (.node (o61_3 P) (.node (o93_3 P) (.node (o157_3 P) (.node (o285_3 P) (.node (o541_4 P) .nil .nil) .nil) (.node (o413_4 P) .nil .nil)) (.node (o221_3 P) (.node (o349_4 P) (.node (o605_4 P) .nil .nil) .nil) (.node (o477_4 P) .nil .nil))) (.node (o125_3 P) (.node (o189_3 P) (.node (o317_4 P) (.node (o573_4 P) .nil .nil) .nil) (.node (o445_4 P) .nil .nil)) (.node (o253_3 P) (.node (o381_4 P) .nil .nil) (.node (o509_4 P) .nil .nil)))))))) (.node (PySem.W.boot_o_2 P) (.node (PySem.W.boot_o_4 P) (.node (PySem.W.boot_o_8 P) (.node (o16_3 P) (.node (o32_3 P) (.node (o64_3 P) (.node (o128_3 P) (.node (o256_3 P) (.node (o512_4 P) .nil .nil) .nil) (.node (o384_4 P) .nil .nil)) (.node (o192_3 P) (.node (o320_4 P) (.node (o576_4 P) .nil .nil) .nil) (.node (o448_4 P) .nil .nil))) (.node (o96_3 P) (.node (o160_3 P) (.node (o288_3 P) (.node (o544_4 P) .nil .nil) .nil) (.node (o416_4 P) .nil .nil)) (.node (o224_3 P) (.node (o352_4 P) (.node (o608_4 P) .nil .nil) .nil) (.node (o480_4 P) .nil .nil)))) (.node (o48_3 P) (.node (o80_3 P) (.node (o144_3 P) (.node (o272_3 P) (.node (o528_4 P) .nil .nil) .nil) (.node (o400_4 P) .nil .nil)) (.node (o208_3 P) (.node (o336_4 P) (.node (o592_4 P) .nil .nil) .nil) (.node (o464_4 P) .nil .nil))) (.node (o112_3 P) (.node (o176_3 P) (.node (o304_4 P) (.node (o560_4 P) .nil .nil) .nil) (.node (o432_4 P) .nil .nil)) (.node (o240_3 P) (.node (o368_4 P) .nil .nil) (.node (o496_4 P) .nil .nil))))) (.node (o24_3 P) (.node (o40_3 P) (.node (o72_3 P) (.node (o136_3 P) (.node (o264_3 P) (.node (o520_4 P) .nil .nil) .nil) (.node (o392_4 P) .nil .nil)) (.node (o200_3 P) (.node (o328_4 P) (.node (o584_4 P) .nil .nil) .nil) (.node (o456_4 P) .nil .nil))) (.node (o104_3 P) (.node (o168_3 P) (.node (o296_3 P) (.node (o552_4 P) .nil .nil) .nil) (.node (o424_4 P) .nil .nil)) (.node (o232_3 P) (.node (o360_4 P) .nil .nil) (.node (o488_4 P) .nil .nil)))) (.node (o56_3 P) (.node (o88_3 P) (.node (o152_3 P) (.node (o280_3 P) (.node (o536_4 P) .nil .nil) .nil) (.node (o408_4 P) .nil .nil)) (.node (o216_3 P) (.node (o344_4 P) (.node (o600_4 P) .nil .nil) .nil) (.node (o472_4 P) .nil .nil))) (.node (o120_3 P) (.node (o184_3 P) (.node (o312_4 P) (.node (o568_4 P) .nil .nil) .nil) (.node (o440_4 P) .nil .nil)) (.node (o248_3 P) (.node (o376_4 P) .nil .nil) (.node (o504_4 P) .nil .nil)))))) (.node (o12_4 P) (.node (o20_3 P) (.node (o36_3 P) (.node (o68_3 P) (.node (o132_3 P) (.node (o260_3 P) (.node (o516_4 P) .nil .nil) .nil) (.node (o388_4 P) .nil .nil)) (.node (o196_3 P) (.node (o324_4 P) (.node (o580_4 P) .nil .nil) .nil) (.node (o452_4 P) .nil .nil))) (.node (o100_3 P) (.node (o164_3 P) (.node (o292_3 P) (.node (o548_4 P) .nil .nil) .nil) (.node (o420_4 P) .nil .nil)) (.node (o228_3 P) (.node (o356_4 P) (.node (o612_4 P) .nil .nil) .nil) (.node (o484_4 P) .nil .nil)))) (.node (o52_3 P) (.node (o84_3 P) (.node (o148_3 P) (.node (o276_3 P) (.node (o532_4 P) .nil .nil) .nil) (.node (o404_4 P) .nil .nil)) (.node (o212_3 P) (.node (o340_4 P) (.node (o596_4 P) .nil .nil) .nil) (.node (o468_4 P) .nil .nil))) (.node (o116_3 P) (.node (o180_3 P) (.node (o308_4 P) (.node (o564_4 P) .nil .nil) .nil) (.node (o436_4 P) .nil .nil)) (.node (o244_3 P) (.node (o372_4 P) .nil .nil) (.node (o500_4 P) .nil .nil))))) (.node (o28_3 P) (.node (o44_3 P) (.node (o76_3 P) (.node (o140_3 P) (.node (o268_3 P) (.node (o524_4 P) .nil .nil) .nil) (.node (o396_4 P) .nil .nil)) (.node (o204_3 P) (.node (o332_4 P) (.node (o588_4 P) .nil .nil) .nil) (.node (o460_4 P) .nil .nil))) (.node (o108_3 P) (.node (o172_3 P) (.node (o300_3 P) (.node (o556_4 P) .nil .nil) .nil) (.node (o428_4 P) .nil .nil)) (.node (o236_3 P) (.node (o364_4 P) .nil .nil) (.node (o492_4 P) .nil .nil)))) (.node (o60_3 P) (.node (o92_3 P) (.node (o156_3 P) (.node (o284_3 P) (.node (o540_4 P) .nil .nil) .nil) (.node (o412_4 P) .nil .nil)) (.node (o220_3 P) (.node (o348_4 P) (.node (o604_4 P) .nil .nil) .nil) (.node (o476_4 P) .nil .nil))) (.node (o124_3 P) (.node (o188_3 P) (.node (o316_4 P) (.node (o572_4 P) .nil .nil) .nil) (.node (o444_4 P) .nil .nil)) (.node (o252_3 P) (.node (o380_4 P) .nil .nil) (.node (o508_4 P) .nil .nil))))))) (.node (PySem.W.boot_o_6 P) (.node (PySem.W.boot_o_10 P) (.node (o18_3 P) (.node (o34_3 P) (.node (o66_3 P) (.node (o130_3 P) (.node (o258_3 P) (.node (o514_4 P) .nil .nil) .nil) (.node (o386_4 P) .nil .nil)) (.node (o194_3 P) (.node (o322_4 P) (.node (o578_4 P) .nil .nil) .nil) (.node (o450_4 P) .nil .nil))) (.node (o98_3 P) (.node (o162_3 P) (.node (o290_3 P) (.node (o546_4 P) .nil .nil) .nil) (.node (o418_4 P) .nil .nil)) (.node (o226_3 P) (.node (o354_4 P) (.node (o610_4 P) .nil .nil) .nil) (.node (o482_4 P) .nil .nil)))) (.node (o50_3 P) (.node (o82_3 P) (.node (o146_3 P) (.node (o274_3 P) (.node (o530_4 P) .nil .nil) .nil) (.node (o402_4 P) .nil .nil)) (.node (o210_3 P) (.node (o338_4 P) (.node (o594_4 P) .nil .nil) .nil) (.node (o466_4 P) .nil .nil))) (.node (o114_3 P) (.node (o178_3 P) (.node (o306_4 P) (.node (o562_4 P) .nil .nil) .nil) (.node (o434_4 P) .nil .nil)) (.node (o242_3 P) (.node (o370_4 P) .nil .nil) (.node (o498_4 P) .nil .nil))))) (.node (o26_3 P) (.node (o42_3 P) (.node (o74_3 P) (.node (o138_3 P) (.node (o266_3 P) (.node (o522_4 P) .nil .nil) .nil) (.node (o394_4 P) .nil .nil)) (.node (o202_3 P) (.node (o330_4 P) (.node (o586_4 P) .nil .nil) .nil) (.node (o458_4 P) .nil .nil))) (.node (o106_3 P) (.node (o170_3 P) (.node (o298_3 P) (.node (o554_4 P) .nil .nil) .nil) (.node (o426_4 P) .nil .nil)) (.node (o234_3 P) (.node (o362_4 P) .nil .nil) (.node (o490_4 P) .nil .nil)))) (.node (o58_3 P) (.node (o90_3 P) (.node (o154_3 P) (.node (o282_3 P) (.node (o538_4 P) .nil .nil) .nil) (.node (o410_4 P) .nil .nil)) (.node (o218_3 P) (.node (o346_4 P) (.node (o602_4 P) .nil .nil) .nil) (.node (o474_4 P) .nil .nil))) (.node (o122_3 P) (.node (o186_3 P) (.node (o314_4 P) (.node (o570_4 P) .nil .nil) .nil) (.node (o442_4 P) .nil .nil)) (.node (o250_3 P) (.node (o378_4 P) .nil .nil) (.node (o506_4 P) .nil .nil)))))) (.node (o14_1 P) (.node (o22_3 P) (.node (o38_3 P) (.node (o70_3 P) (.node (o134_3 P) (.node (o262_3 P) (.node (o518_4 P) .nil .nil) .nil) (.node (o390_4 P) .nil .nil)) (.node (o198_3 P) (.node (o326_4 P) (.node (o582_4 P) .nil .nil) .nil) (.node (o454_4 P) .nil .nil))) (.node (o102_3 P) (.node (o166_3 P) (.node (o294_3 P) (.node (o550_4 P) .nil .nil) .nil) (.node (o422_4 P) .nil .nil)) (.node (o230_3 P) (.node (o358_4 P) (.node (o614_4 P) .nil .nil) .nil) (.node (o486_4 P) .nil .nil)))) (.node (o54_3 P) (.node (o86_3 P) (.node (o150_3 P) (.node (o278_3 P) (.node (o534_4 P) .nil .nil) .nil) (.node (o406_4 P) .nil .nil)) (.node (o214_3 P) (.node (o342_4 P) (.node (o598_4 P) .nil .nil) .nil) (.node (o470_4 P) .nil .nil))) (.node (o118_3 P) (.node (o182_3 P) (.node (o310_4 P) (.node (o566_4 P) .nil .nil) .nil) (.node (o438_4 P) .nil .nil)) (.node (o246_3 P) (.node (o374_4 P) .nil .nil) (.node (o502_4 P) .nil .nil))))) (.node (o30_3 P) (.node (o46_3 P) (.node (o78_3 P) (.node (o142_3 P) (.node (o270_3 P) (.node (o526_4 P) .nil .nil) .nil) (.node (o398_4 P) .nil .nil)) (.node (o206_3 P) (.node (o334_4 P) (.node (o590_4 P) .nil .nil) .nil) (.node (o462_4 P) .nil .nil))) (.node (o110_3 P) (.node (o174_3 P) (.node (o302_4 P) (.node (o558_4 P) .nil .nil) .nil) (.node (o430_4 P) .nil .nil)) (.node (o238_3 P) (.node (o366_4 P) .nil .nil) (.node (o494_4 P) .nil .nil)))) (.node (o62_3 P) (.node (o94_3 P) (.node (o158_3 P) (.node (o286_3 P) (.node (o542_4 P) .nil .nil) .nil) (.node (o414_4 P) .nil .nil)) (.node (o222_3 P) (.node (o350_4 P) (.node (o606_4 P) .nil .nil) .nil) (.node (o478_4 P) .nil .nil))) (.node (o126_3 P) (.node (o190_3 P) (.node (o318_4 P) (.node (o574_4 P) .nil .nil) .nil) (.node (o446_4 P) .nil .nil)) (.node (o254_3 P) (.node (o382_4 P) .nil .nil) (.node (o510_4 P) .nil .nil)))))))))
def sT4 (w : World) (os : OsState) : PySem.W.SharedT := ⟨tr4 w.params, 615, (Life.mk [] [] [] 0 [] [] false #[] [] 0 false false false 0 [2000, 10, 10] false 0 true [] [] 0 false), #[], (Drawn.mk 0 0 0 0), 985, os⟩
def o3_5 (P : Params) : Obj := Obj.mk (Value.type "dict") .none (Data.dict #[DictEntry.mk (PyData.keyHash P (Str.ofString "__name__")) (Value.str (Str.ofString "__name__") 165) (Value.str (Str.ofString "law_oneheap_k46_constraints_and_sizes") 847), DictEntry.mk (PyData.keyHash P (Str.ofString "__doc__")) (Value.str (Str.ofString "__doc__") 166) Value.none, DictEntry.mk (PyData.keyHash P (Str.ofString "__package__")) (Value.str (Str.ofString "__package__") 167) Value.none, DictEntry.mk (PyData.keyHash P (Str.ofString "__loader__")) (Value.str (Str.ofString "__loader__") 168) (Value.builtin "__main__.__loader__#opaque"), DictEntry.mk (PyData.keyHash P (Str.ofString "__spec__")) (Value.str (Str.ofString "__spec__") 169) Value.none, DictEntry.mk (PyData.keyHash P (Str.ofString "__annotations__")) (Value.str (Str.ofString "__annotations__") 170) (Value.ref 6), DictEntry.mk (PyData.keyHash P (Str.ofString "__builtins__")) (Value.str (Str.ofString "__builtins__") 171) (Value.ref 4), DictEntry.mk (PyData.keyHash P (Str.ofString "__file__")) (Value.str (Str.ofString "__file__") 173) (Value.str (Str.ofString "/claim/cut.py") 172), DictEntry.mk (PyData.keyHash P (Str.ofString "__cached__")) (Value.str (Str.ofString "__cached__") 174) Value.none, DictEntry.mk (PyData.keyHash P (Str.ofString "_wall")) (Value.str (Str.ofString "_wall") 193) (Value.ref 21), DictEntry.mk (PyData.keyHash P (Str.ofString "IntSort")) (Value.str (Str.ofString "IntSort") 250) (Value.ref 59), DictEntry.mk (PyData.keyHash P (Str.ofString "TextSort")) (Value.str (Str.ofString "TextSort") 305) (Value.ref 102), DictEntry.mk (PyData.keyHash P (Str.ofString "RefSort")) (Value.str (Str.ofString "RefSort") 360) (Value.ref 144), DictEntry.mk (PyData.keyHash P (Str.ofString "ListSort")) (Value.str (Str.ofString "ListSort") 413) (Value.ref 186), DictEntry.mk (PyData.keyHash P (Str.ofString "is_reference")) (Value.str (Str.ofString "is_reference") 420) (Value.ref 197), DictEntry.mk (PyData.keyHash P (Str.ofString "is_list")) (Value.str (Str.ofString "is_list") 427) (Value.ref 204), DictEntry.mk (PyData.keyHash P (Str.ofString "Thing")) (Value.str (Str.ofString "Thing") 473) (Value.ref 233), DictEntry.mk (PyData.keyHash P (Str.ofString "content_copy")) (Value.str (Str.ofString "content_copy") 480) (Value.ref 244), DictEntry.mk (PyData.keyHash P (Str.ofString "told_content")) (Value.str (Str.ofString "told_content") 486) (Value.ref 249), DictEntry.mk (PyData.keyHash P (Str.ofString "is_one_of")) (Value.str (Str.ofString "is_one_of") 496) (Value.ref 256), DictEntry.mk (PyData.keyHash P (Str.ofString "PictureSource")) (Value.str (Str.ofString "PictureSource") 557) (Value.ref 297), DictEntry.mk (PyData.keyHash P (Str.ofString "has_amounts")) (Value.str (Str.ofString "has_amounts") 563) (Value.ref 306), DictEntry.mk (PyData.keyHash P (Str.ofString "Field")) (Value.str (Str.ofString "Field") 605) (Value.ref 331), DictEntry.mk (PyData.keyHash P (Str.ofString "Kind")) (Value.str (Str.ofString "Kind") 656) (Value.ref 369), DictEntry.mk (PyData.keyHash P (Str.ofString "Schema")) (Value.str (Str.ofString "Schema") 717) (Value.ref 416), DictEntry.mk (PyData.keyHash P (Str.ofString "needed_constraint")) (Value.str (Str.ofString "needed_constraint") 725) (Value.ref 427), DictEntry.mk (PyData.keyHash P (Str.ofString "key_constraint")) (Value.str (Str.ofString "key_constraint") 733) (Value.ref 434), DictEntry.mk (PyData.keyHash P (Str.ofString "constraints_against")) (Value.str (Str.ofString "constraints_against") 745) (Value.ref 441), DictEntry.mk (PyData.keyHash P (Str.ofString "against_fields")) (Value.str (Str.ofString "against_fields") 751) (Value.ref 446), DictEntry.mk (PyData.keyHash P (Str.ofString "told_of")) (Value.str (Str.ofString "told_of") 761) (Value.ref 453), DictEntry.mk (PyData.keyHash P (Str.ofString "has_double")) (Value.str (Str.ofString "has_double") 767) (Value.ref 458), DictEntry.mk (PyData.keyHash P (Str.ofString "first_against")) (Value.str (Str.ofString "first_against") 779) (Value.ref 465), DictEntry.mk (PyData.keyHash P (Str.ofString "picture_size")) (Value.str (Str.ofString "picture_size") 785) (Value.ref 470), DictEntry.mk (PyData.keyHash P (Str.ofString "thing_size")) (Value.str (Str.ofString "thing_size") 791) (Value.ref 475), DictEntry.mk (PyData.keyHash P (Str.ofString "content_size")) (Value.str (Str.ofString "content_size") 800) (Value.ref 482), DictEntry.mk (PyData.keyHash P (Str.ofString "Touch")) (Value.str (Str.ofString "Touch") 846) (Value.ref 506), DictEntry.mk (PyData.keyHash P (Str.ofString "_law_cells")) (Value.str (Str.ofString "_law_cells") 859) (Value.ref 517), DictEntry.mk (PyData.keyHash P (Str.ofString "_law_draw")) (Value.str (Str.ofString "_law_draw") 868) (Value.ref 524), DictEntry.mk (PyData.keyHash P (Str.ofString "_law_pick")) (Value.str (Str.ofString "_law_pick") 876) (Value.ref 531), DictEntry.mk (PyData.keyHash P (Str.ofString "_law_links")) (Value.str (Str.ofString "_law_links") 884) (Value.ref 538), DictEntry.mk (PyData.keyHash P (Str.ofString "_law_names")) (Value.str (Str.ofString "_law_names") 891) (Value.ref 545), DictEntry.mk (PyData.keyHash P (Str.ofString "_law_rules")) (Value.str (Str.ofString "_law_rules") 897) (Value.ref 550), DictEntry.mk (PyData.keyHash P (Str.ofString "_law_schema")) (Value.str (Str.ofString "_law_schema") 907) (Value.ref 557), DictEntry.mk (PyData.keyHash P (Str.ofString "_law_number")) (Value.str (Str.ofString "_law_number") 915) (Value.ref 564), DictEntry.mk (PyData.keyHash P (Str.ofString "_law_list")) (Value.str (Str.ofString "_law_list") 925) (Value.ref 571), DictEntry.mk (PyData.keyHash P (Str.ofString "_law_contents")) (Value.str (Str.ofString "_law_contents") 934) (Value.ref 578), DictEntry.mk (PyData.keyHash P (Str.ofString "_law_picture")) (Value.str (Str.ofString "_law_picture") 945) (Value.ref 585), DictEntry.mk (PyData.keyHash P (Str.ofString "_law_there")) (Value.str (Str.ofString "_law_there") 954) (Value.ref 592), DictEntry.mk (PyData.keyHash P (Str.ofString "_law_told")) (Value.str (Str.ofString "_law_told") 960) (Value.ref 597), DictEntry.mk (PyData.keyHash P (Str.ofString "_law_against")) (Value.str (Str.ofString "_law_against") 966) (Value.ref 602), DictEntry.mk (PyData.keyHash P (Str.ofString "_law_size")) (Value.str (Str.ofString "_law_size") 978) (Value.ref 609), DictEntry.mk (PyData.keyHash P (Str.ofString "_law_first")) (Value.str (Str.ofString "_law_first") 984) (Value.ref 614), DictEntry.mk (PyData.keyHash P (Str.ofString "law")) (Value.str (Str.ofString "law") 990) (Value.ref 619)] 53) #[]
def o12_5 (P : Params) : Obj := Obj.mk Value.none .none (Data.fields #[Value.int 1 0, Value.int 0 0, Value.ref 20, Value.int 5 0, Value.int 0 0, Value.ref 27, Value.int 19 0, Value.int 0 0, Value.ref 69, Value.int 33 0, Value.int 0 0, Value.ref 112, Value.int 47 0, Value.int 0 0, Value.ref 154, Value.int 60 0, Value.int 0 0, Value.ref 196, Value.int 62 0, Value.int 0 0, Value.ref 203, Value.int 65 0, Value.int 0 0, Value.ref 210, Value.int 76 0, Value.int 0 0, Value.ref 243, Value.int 78 0, Value.int 0 0, Value.ref 248, Value.int 84 0, Value.int 0 0, Value.ref 255, Value.int 88 0, Value.int 0 0, Value.ref 262, Value.int 104 0, Value.int 0 0, Value.ref 305, Value.int 107 0, Value.int 0 0, Value.ref 312, Value.int 116 0, Value.int 0 0, Value.ref 341, Value.int 134 0, Value.int 0 0, Value.ref 379, Value.int 154 0, Value.int 0 0, Value.ref 426, Value.int 156 0, Value.int 0 0, Value.ref 433, Value.int 159 0, Value.int 0 0, Value.ref 440, Value.int 162 0, Value.int 0 0, Value.ref 445, Value.int 173 0, Value.int 0 0, Value.ref 452, Value.int 175 0, Value.int 0 0, Value.ref 457, Value.int 180 0, Value.int 0 0, Value.ref 464, Value.int 188 0, Value.int 0 0, Value.ref 469, Value.int 191 0, Value.int 0 0, Value.ref 474, Value.int 194 0, Value.int 0 0, Value.ref 481, Value.int 199 0, Value.int 0 0, Value.ref 488, Value.int 212 0, Value.int 0 0, Value.ref 516, Value.int 225 0, Value.int 0 0, Value.ref 523, Value.int 231 0, Value.int 0 0, Value.ref 530, Value.int 233 0, Value.int 0 0, Value.ref 537, Value.int 237 0, Value.int 0 0, Value.ref 544, Value.int 241 0, Value.int 0 0, Value.ref 549, Value.int 243 0, Value.int 0 0, Value.ref 556, Value.int 247 0, Value.int 0 0, Value.ref 563, Value.int 252 0, Value.int 0 0, Value.ref 570, Value.int 259 0, Value.int 0 0, Value.ref 577, Value.int 271 0, Value.int 0 0, Value.ref 584, Value.int 278 0, Value.int 0 0, Value.ref 591, Value.int 280 0, Value.int 0 0, Value.ref 596, Value.int 289 0, Value.int 0 0, Value.ref 601, Value.int 306 0, Value.int 0 0, Value.ref 608, Value.int 316 0, Value.int 0 0, Value.ref 613, Value.int 323 0, Value.int 0 0, Value.ref 618]) #[]
def o615_5 (P : Params) : Obj := Obj.mk (Value.type "tuple") .none (Data.seq #[]) #[]
def o616_5 (P : Params) : Obj := Obj.mk Value.none .none (Data.fields #[]) #[]
def o617_5 (P : Params) : Obj := Obj.mk Value.none .none (Data.func (FuncData.mk (Str.ofString "law") (Str.ofString "law") (defArgs (topS 50)) (.stmts (defBody (topS 50))) (defScope (topS 50)) 0 [] Value.none Value.none Value.none Value.none .none Value.none Value.none 0)) #[]
def o618_5 (P : Params) : Obj := Obj.mk (Value.type "code") .none (Data.fields #[Value.str (Str.ofString "law") 985, Value.str (Str.ofString "law") 986, Value.str (Str.ofString "/claim/cut.py") 987, Value.int 323 0, Value.int 1 0, Value.int 0 0, Value.int 0 0, Value.int 3 0, Value.ref 615, Value.bool true, Value.int 181 0, Value.ref 616, Value.none, Value.none, Value.none, Value.ref 617, Value.int 988 0, Value.int 323 0, Value.str (Str.ofString "/claim/cut.py") 989]) #[]
def o619_5 (P : Params) : Obj := Obj.mk (Value.type "function") .none (Data.func (FuncData.mk (Str.ofString "law") (Str.ofString "law") (defArgs (topS 50)) (.stmts (defBody (topS 50))) (defScope (topS 50)) 3 [] Value.none Value.none Value.none (Value.str (Str.ofString "law_oneheap_k46_constraints_and_sizes") 847) .none (Value.ref 618) Value.none 0)) #[]
def tr5 (P : Params) : PySem.W.BT := (.node (PySem.W.boot_o_0 P) (.node (PySem.W.boot_o_1 P) (.node (o3_5 P) (.node (PySem.W.boot_o_7 P) (.node (o15_3 P) (.node (o31_3 P) (.node (o63_3 P) (.node (o127_3 P) (.node (o255_3 P) (.node (o511_4 P) .nil .nil) .nil) (.node (o383_4 P) .nil .nil)) (.node (o191_3 P) (.node (o319_4 P) (.node (o575_4 P) .nil .nil) .nil) (.node (o447_4 P) .nil .nil))) (.node (o95_3 P) (.node (o159_3 P) (.node (o287_3 P) (.node (o543_4 P) .nil .nil) .nil) (.node (o415_4 P) .nil .nil)) (.node (o223_3 P) (.node (o351_4 P) (.node (o607_4 P) .nil .nil) .nil) (.node (o479_4 P) .nil .nil)))) (.node (o47_3 P) (.node (o79_3 P) (.node (o143_3 P) (.node (o271_3 P) (.node (o527_4 P) .nil .nil) .nil) (.node (o399_4 P) .nil .nil)) (.node (o207_3 P) (.node (o335_4 P) (.node (o591_4 P) .nil .nil) .nil) (.node (o463_4 P) .nil .nil))) (.node (o111_3 P) (.node (o175_3 P) (.node (o303_4 P) (.node (o559_4 P) .nil .nil) .nil) (.node (o431_4 P) .nil .nil)) (.node (o239_3 P) (.node (o367_4 P) .nil .nil) (.node (o495_4 P) .nil .nil))))) (.node (o23_3 P) (.node (o39_3 P) (.node (o71_3 P) (.node (o135_3 P) (.node (o263_3 P) (.node (o519_4 P) .nil .nil) .nil) (.node (o391_4 P) .nil .nil)) (.node (o199_3 P) (.node (o327_4 P) (.node (o583_4 P) .nil .nil) .nil) (.node (o455_4 P) .nil .nil))) (.node (o103_3 P) (.node (o167_3 P) (.node (o295_3 P) (.node (o551_4 P) .nil .nil) .nil) (.node (o423_4 P) .nil .nil)) (.node (o231_3 P) (.node (o359_4 P) (.node (o615_5 P) .nil .nil) .nil) (.node (o487_4 P) .nil .nil)))) (.node (o55_3 P) (.node (o87_3 P) (.node (o151_3 P) (.node (o279_3 P) (.node (o535_4 P) .nil .nil) .nil) (.node (o407_4 P) .nil .nil)) (.node (o215_3 P) (.node (o343_4 P) (.node (o599_4 P) .nil .nil) .nil) (.node (o471_4 P) .nil .nil))) (.node (o119_3 P) (.node (o183_3 P) (.node (o311_4 P) (.node (o567_4 P) .nil .nil) .nil) (.node (o439_4 P) .nil .nil)) (.node (o247_3 P) (.node (o375_4 P) .nil .nil) (.node (o503_4 P) .nil .nil)))))) (.node (o11_1 P) (.node (o19_3 P) (.node (o35_3 P) (.node (o67_3 P) (.node (o131_3 P) (.node (o259_3 P) (.node (o515_4 P) .nil .nil) .nil) (.node (o387_4 P) .nil .nil)) (.node (o195_3 P) (.node (o323_4 P) (.node (o579_4 P) .nil .nil) .nil) (.node (o451_4 P) .nil .nil))) (.node (o99_3 P) (.node (o163_3 P) (.node (o291_3 P) (.node (o547_4 P) .nil .nil) .nil) (.node (o419_4 P) .nil .nil)) (.node (o227_3 P) (.node (o355_4 P) (.node (o611_4 P) .nil .nil) .nil) (.node (o483_4 P) .nil .nil)))) (.node (o51_3 P) (.node (o83_3 P) (.node (o147_3 P) (.node (o275_3 P) (.node (o531_4 P) .nil .nil) .nil) (.node (o403_4 P) .nil .nil)) (.node (o211_3 P) (.node (o339_4 P) (.node (o595_4 P) .nil .nil) .nil) (.node (o467_4 P) .nil .nil))) (.node (o115_3 P) (.node (o179_3 P) (.node (o307_4 P) (.node (o563_4 P) .nil .nil) .nil) (.node (o435_4 P) .nil .nil)) (.node (o243_3 P) (.node (o371_4 P) .nil .nil) (.node (o499_4 P) .nil .nil))))) (.node (o27_3 P) (.node (o43_3 P) (.node (o75_3 P) (.node (o139_3 P) (.node (o267_3 P) (.node (o523_4 P) .nil .nil) .nil) (.node (o395_4 P) .nil .nil)) (.node (o203_3 P) (.node (o331_4 P) (.node (o587_4 P) .nil .nil) .nil) (.node (o459_4 P) .nil .nil))) (.node (o107_3 P) (.node (o171_3 P) (.node (o299_3 P) (.node (o555_4 P) .nil .nil) .nil) (.node (o427_4 P) .nil .nil)) (.node (o235_3 P) (.node (o363_4 P) (.node (o619_5 P) .nil .nil) .nil) (.node (o491_4 P) .nil .nil)))) (.node (o59_3 P) (.node (o91_3 P) (.node (o155_3 P) (.node (o283_3 P) (.node (o539_4 P) .nil .nil) .nil) (.node (o411_4 P) .nil .nil)) (.node (o219_3 P) (.node (o347_4 P) (.node (o603_4 P) .nil .nil) .nil) (.node (o475_4 P) .nil .nil))) (.node (o123_3 P) (.node (o187_3 P) (.node (o315_4 P) (.node (o571_4 P) .nil .nil) .nil) (.node (o443_4 P) .nil .nil)) (.node (o251_3 P) (.node (o379_4 P) .nil .nil) (.node (o507_4 P) .nil .nil))))))) (.node (PySem.W.boot_o_5 P) (.node (PySem.W.boot_o_9 P) (.node (o17_3 P) (.node (o33_3 P) (.node (o65_3 P) (.node (o129_3 P) (.node (o257_3 P) (.node (o513_4 P) .nil .nil) .nil) (.node (o385_4 P) .nil .nil)) (.node (o193_3 P) (.node (o321_4 P) (.node (o577_4 P) .nil .nil) .nil) (.node (o449_4 P) .nil .nil))) (.node (o97_3 P) (.node (o161_3 P) (.node (o289_3 P) (.node (o545_4 P) .nil .nil) .nil) (.node (o417_4 P) .nil .nil)) (.node (o225_3 P) (.node (o353_4 P) (.node (o609_4 P) .nil .nil) .nil) (.node (o481_4 P) .nil .nil)))) (.node (o49_3 P) (.node (o81_3 P) (.node (o145_3 P) (.node (o273_3 P) (.node (o529_4 P) .nil .nil) .nil) (.node (o401_4 P) .nil .nil)) (.node (o209_3 P) (.node (o337_4 P) (.node (o593_4 P) .nil .nil) .nil) (.node (o465_4 P) .nil .nil))) (.node (o113_3 P) (.node (o177_3 P) (.node (o305_4 P) (.node (o561_4 P) .nil .nil) .nil) (.node (o433_4 P) .nil .nil)) (.node (o241_3 P) (.node (o369_4 P) .nil .nil) (.node (o497_4 P) .nil .nil))))) (.node (o25_3 P) (.node (o41_3 P) (.node (o73_3 P) (.node (o137_3 P) (.node (o265_3 P) (.node (o521_4 P) .nil .nil) .nil) (.node (o393_4 P) .nil .nil)) (.node (o201_3 P) (.node (o329_4 P) (.node (o585_4 P) .nil .nil) .nil) (.node (o457_4 P) .nil .nil))) (.node (o105_3 P) (.node (o169_3 P) (.node (o297_3 P) (.node (o553_4 P) .nil .nil) .nil) (.node (o425_4 P) .nil .nil)) (.node (o233_3 P) (.node (o361_4 P) (.node (o617_5 P) .nil .nil) .nil) (.node (o489_4 P) .nil .nil)))) (.node (o57_3 P) (.node (o89_3 P) (.node (o153_3 P) (.node (o281_3 P) (.node (o537_4 P) .nil .nil) .nil) (.node (o409_4 P) .nil .nil)) (.node (o217_3 P) (.node (o345_4 P) (.node (o601_4 P) .nil .nil) .nil) (.node (o473_4 P) .nil .nil))) (.node (o121_3 P) (.node (o185_3 P) (.node (o313_4 P) (.node (o569_4 P) .nil .nil) .nil) (.node (o441_4 P) .nil .nil)) (.node (o249_3 P) (.node (o377_4 P) .nil .nil) (.node (o505_4 P) .nil .nil)))))) (.node (o13_1 P) (.node (o21_3 P) (.node (o37_3 P) (.node (o69_3 P) (.node (o133_3 P) (.node (o261_3 P) (.node (o517_4 P) .nil .nil) .nil) (.node (o389_4 P) .nil .nil)) (.node (o197_3 P) (.node (o325_4 P) (.node (o581_4 P) .nil .nil) .nil) (.node (o453_4 P) .nil .nil))) (.node (o101_3 P) (.node (o165_3 P) (.node (o293_3 P) (.node (o549_4 P) .nil .nil) .nil) (.node (o421_4 P) .nil .nil)) (.node (o229_3 P) (.node (o357_4 P) (.node (o613_4 P) .nil .nil) .nil) (.node (o485_4 P) .nil .nil)))) (.node (o53_3 P) (.node (o85_3 P) (.node (o149_3 P) (.node (o277_3 P) (.node (o533_4 P) .nil .nil) .nil) (.node (o405_4 P) .nil .nil)) (.node (o213_3 P) (.node (o341_4 P) (.node (o597_4 P) .nil .nil) .nil) (.node (o469_4 P) .nil .nil))) (.node (o117_3 P) (.node (o181_3 P) (.node (o309_4 P) (.node (o565_4 P) .nil .nil) .nil) (.node (o437_4 P) .nil .nil)) (.node (o245_3 P) (.node (o373_4 P) .nil .nil) (.node (o501_4 P) .nil .nil))))) (.node (o29_3 P) (.node (o45_3 P) (.node (o77_3 P) (.node (o141_3 P) (.node (o269_3 P) (.node (o525_4 P) .nil .nil) .nil) (.node (o397_4 P) .nil .nil)) (.node (o205_3 P) (.node (o333_4 P) (.node (o589_4 P) .nil .nil) .nil) (.node (o461_4 P) .nil .nil))) (.node (o109_3 P) (.node (o173_3 P) (.node (o301_3 P) (.node (o557_4 P) .nil .nil) .nil) (.node (o429_4 P) .nil .nil)) (.node (o237_3 P) (.node (o365_4 P) .nil .nil) (.node (o493_4 P) .nil .nil)))) (.node (o61_3 P) (.node (o93_3 P) (.node (o157_3 P) (.node (o285_3 P) (.node (o541_4 P) .nil .nil) .nil) (.node (o413_4 P) .nil .nil)) (.node (o221_3 P) (.node (o349_4 P) (.node (o605_4 P) .nil .nil) .nil) (.node (o477_4 P) .nil .nil))) (.node (o125_3 P) (.node (o189_3 P) (.node (o317_4 P) (.node (o573_4 P) .nil .nil) .nil) (.node (o445_4 P) .nil .nil)) (.node (o253_3 P) (.node (o381_4 P) .nil .nil) (.node (o509_4 P) .nil .nil)))))))) (.node (PySem.W.boot_o_2 P) (.node (PySem.W.boot_o_4 P) (.node (PySem.W.boot_o_8 P) (.node (o16_3 P) (.node (o32_3 P) (.node (o64_3 P) (.node (o128_3 P) (.node (o256_3 P) (.node (o512_4 P) .nil .nil) .nil) (.node (o384_4 P) .nil .nil)) (.node (o192_3 P) (.node (o320_4 P) (.node (o576_4 P) .nil .nil) .nil) (.node (o448_4 P) .nil .nil))) (.node (o96_3 P) (.node (o160_3 P) (.node (o288_3 P) (.node (o544_4 P) .nil .nil) .nil) (.node (o416_4 P) .nil .nil)) (.node (o224_3 P) (.node (o352_4 P) (.node (o608_4 P) .nil .nil) .nil) (.node (o480_4 P) .nil .nil)))) (.node (o48_3 P) (.node (o80_3 P) (.node (o144_3 P) (.node (o272_3 P) (.node (o528_4 P) .nil .nil) .nil) (.node (o400_4 P) .nil .nil)) (.node (o208_3 P) (.node (o336_4 P) (.node (o592_4 P) .nil .nil) .nil) (.node (o464_4 P) .nil .nil))) (.node (o112_3 P) (.node (o176_3 P) (.node (o304_4 P) (.node (o560_4 P) .nil .nil) .nil) (.node (o432_4 P) .nil .nil)) (.node (o240_3 P) (.node (o368_4 P) .nil .nil) (.node (o496_4 P) .nil .nil))))) (.node (o24_3 P) (.node (o40_3 P) (.node (o72_3 P) (.node (o136_3 P) (.node (o264_3 P) (.node (o520_4 P) .nil .nil) .nil) (.node (o392_4 P) .nil .nil)) (.node (o200_3 P) (.node (o328_4 P) (.node (o584_4 P) .nil .nil) .nil) (.node (o456_4 P) .nil .nil))) (.node (o104_3 P) (.node (o168_3 P) (.node (o296_3 P) (.node (o552_4 P) .nil .nil) .nil) (.node (o424_4 P) .nil .nil)) (.node (o232_3 P) (.node (o360_4 P) (.node (o616_5 P) .nil .nil) .nil) (.node (o488_4 P) .nil .nil)))) (.node (o56_3 P) (.node (o88_3 P) (.node (o152_3 P) (.node (o280_3 P) (.node (o536_4 P) .nil .nil) .nil) (.node (o408_4 P) .nil .nil)) (.node (o216_3 P) (.node (o344_4 P) (.node (o600_4 P) .nil .nil) .nil) (.node (o472_4 P) .nil .nil))) (.node (o120_3 P) (.node (o184_3 P) (.node (o312_4 P) (.node (o568_4 P) .nil .nil) .nil) (.node (o440_4 P) .nil .nil)) (.node (o248_3 P) (.node (o376_4 P) .nil .nil) (.node (o504_4 P) .nil .nil)))))) (.node (o12_5 P) (.node (o20_3 P) (.node (o36_3 P) (.node (o68_3 P) (.node (o132_3 P) (.node (o260_3 P) (.node (o516_4 P) .nil .nil) .nil) (.node (o388_4 P) .nil .nil)) (.node (o196_3 P) (.node (o324_4 P) (.node (o580_4 P) .nil .nil) .nil) (.node (o452_4 P) .nil .nil))) (.node (o100_3 P) (.node (o164_3 P) (.node (o292_3 P) (.node (o548_4 P) .nil .nil) .nil) (.node (o420_4 P) .nil .nil)) (.node (o228_3 P) (.node (o356_4 P) (.node (o612_4 P) .nil .nil) .nil) (.node (o484_4 P) .nil .nil)))) (.node (o52_3 P) (.node (o84_3 P) (.node (o148_3 P) (.node (o276_3 P) (.node (o532_4 P) .nil .nil) .nil) (.node (o404_4 P) .nil .nil)) (.node (o212_3 P) (.node (o340_4 P) (.node (o596_4 P) .nil .nil) .nil) (.node (o468_4 P) .nil .nil))) (.node (o116_3 P) (.node (o180_3 P) (.node (o308_4 P) (.node (o564_4 P) .nil .nil) .nil) (.node (o436_4 P) .nil .nil)) (.node (o244_3 P) (.node (o372_4 P) .nil .nil) (.node (o500_4 P) .nil .nil))))) (.node (o28_3 P) (.node (o44_3 P) (.node (o76_3 P) (.node (o140_3 P) (.node (o268_3 P) (.node (o524_4 P) .nil .nil) .nil) (.node (o396_4 P) .nil .nil)) (.node (o204_3 P) (.node (o332_4 P) (.node (o588_4 P) .nil .nil) .nil) (.node (o460_4 P) .nil .nil))) (.node (o108_3 P) (.node (o172_3 P) (.node (o300_3 P) (.node (o556_4 P) .nil .nil) .nil) (.node (o428_4 P) .nil .nil)) (.node (o236_3 P) (.node (o364_4 P) .nil .nil) (.node (o492_4 P) .nil .nil)))) (.node (o60_3 P) (.node (o92_3 P) (.node (o156_3 P) (.node (o284_3 P) (.node (o540_4 P) .nil .nil) .nil) (.node (o412_4 P) .nil .nil)) (.node (o220_3 P) (.node (o348_4 P) (.node (o604_4 P) .nil .nil) .nil) (.node (o476_4 P) .nil .nil))) (.node (o124_3 P) (.node (o188_3 P) (.node (o316_4 P) (.node (o572_4 P) .nil .nil) .nil) (.node (o444_4 P) .nil .nil)) (.node (o252_3 P) (.node (o380_4 P) .nil .nil) (.node (o508_4 P) .nil .nil))))))) (.node (PySem.W.boot_o_6 P) (.node (PySem.W.boot_o_10 P) (.node (o18_3 P) (.node (o34_3 P) (.node (o66_3 P) (.node (o130_3 P) (.node (o258_3 P) (.node (o514_4 P) .nil .nil) .nil) (.node (o386_4 P) .nil .nil)) (.node (o194_3 P) (.node (o322_4 P) (.node (o578_4 P) .nil .nil) .nil) (.node (o450_4 P) .nil .nil))) (.node (o98_3 P) (.node (o162_3 P) (.node (o290_3 P) (.node (o546_4 P) .nil .nil) .nil) (.node (o418_4 P) .nil .nil)) (.node (o226_3 P) (.node (o354_4 P) (.node (o610_4 P) .nil .nil) .nil) (.node (o482_4 P) .nil .nil)))) (.node (o50_3 P) (.node (o82_3 P) (.node (o146_3 P) (.node (o274_3 P) (.node (o530_4 P) .nil .nil) .nil) (.node (o402_4 P) .nil .nil)) (.node (o210_3 P) (.node (o338_4 P) (.node (o594_4 P) .nil .nil) .nil) (.node (o466_4 P) .nil .nil))) (.node (o114_3 P) (.node (o178_3 P) (.node (o306_4 P) (.node (o562_4 P) .nil .nil) .nil) (.node (o434_4 P) .nil .nil)) (.node (o242_3 P) (.node (o370_4 P) .nil .nil) (.node (o498_4 P) .nil .nil))))) (.node (o26_3 P) (.node (o42_3 P) (.node (o74_3 P) (.node (o138_3 P) (.node (o266_3 P) (.node (o522_4 P) .nil .nil) .nil) (.node (o394_4 P) .nil .nil)) (.node (o202_3 P) (.node (o330_4 P) (.node (o586_4 P) .nil .nil) .nil) (.node (o458_4 P) .nil .nil))) (.node (o106_3 P) (.node (o170_3 P) (.node (o298_3 P) (.node (o554_4 P) .nil .nil) .nil) (.node (o426_4 P) .nil .nil)) (.node (o234_3 P) (.node (o362_4 P) (.node (o618_5 P) .nil .nil) .nil) (.node (o490_4 P) .nil .nil)))) (.node (o58_3 P) (.node (o90_3 P) (.node (o154_3 P) (.node (o282_3 P) (.node (o538_4 P) .nil .nil) .nil) (.node (o410_4 P) .nil .nil)) (.node (o218_3 P) (.node (o346_4 P) (.node (o602_4 P) .nil .nil) .nil) (.node (o474_4 P) .nil .nil))) (.node (o122_3 P) (.node (o186_3 P) (.node (o314_4 P) (.node (o570_4 P) .nil .nil) .nil) (.node (o442_4 P) .nil .nil)) (.node (o250_3 P) (.node (o378_4 P) .nil .nil) (.node (o506_4 P) .nil .nil)))))) (.node (o14_1 P) (.node (o22_3 P) (.node (o38_3 P) (.node (o70_3 P) (.node (o134_3 P) (.node (o262_3 P) (.node (o518_4 P) .nil .nil) .nil) (.node (o390_4 P) .nil .nil)) (.node (o198_3 P) (.node (o326_4 P) (.node (o582_4 P) .nil .nil) .nil) (.node (o454_4 P) .nil .nil))) (.node (o102_3 P) (.node (o166_3 P) (.node (o294_3 P) (.node (o550_4 P) .nil .nil) .nil) (.node (o422_4 P) .nil .nil)) (.node (o230_3 P) (.node (o358_4 P) (.node (o614_4 P) .nil .nil) .nil) (.node (o486_4 P) .nil .nil)))) (.node (o54_3 P) (.node (o86_3 P) (.node (o150_3 P) (.node (o278_3 P) (.node (o534_4 P) .nil .nil) .nil) (.node (o406_4 P) .nil .nil)) (.node (o214_3 P) (.node (o342_4 P) (.node (o598_4 P) .nil .nil) .nil) (.node (o470_4 P) .nil .nil))) (.node (o118_3 P) (.node (o182_3 P) (.node (o310_4 P) (.node (o566_4 P) .nil .nil) .nil) (.node (o438_4 P) .nil .nil)) (.node (o246_3 P) (.node (o374_4 P) .nil .nil) (.node (o502_4 P) .nil .nil))))) (.node (o30_3 P) (.node (o46_3 P) (.node (o78_3 P) (.node (o142_3 P) (.node (o270_3 P) (.node (o526_4 P) .nil .nil) .nil) (.node (o398_4 P) .nil .nil)) (.node (o206_3 P) (.node (o334_4 P) (.node (o590_4 P) .nil .nil) .nil) (.node (o462_4 P) .nil .nil))) (.node (o110_3 P) (.node (o174_3 P) (.node (o302_4 P) (.node (o558_4 P) .nil .nil) .nil) (.node (o430_4 P) .nil .nil)) (.node (o238_3 P) (.node (o366_4 P) .nil .nil) (.node (o494_4 P) .nil .nil)))) (.node (o62_3 P) (.node (o94_3 P) (.node (o158_3 P) (.node (o286_3 P) (.node (o542_4 P) .nil .nil) .nil) (.node (o414_4 P) .nil .nil)) (.node (o222_3 P) (.node (o350_4 P) (.node (o606_4 P) .nil .nil) .nil) (.node (o478_4 P) .nil .nil))) (.node (o126_3 P) (.node (o190_3 P) (.node (o318_4 P) (.node (o574_4 P) .nil .nil) .nil) (.node (o446_4 P) .nil .nil)) (.node (o254_3 P) (.node (o382_4 P) .nil .nil) (.node (o510_4 P) .nil .nil)))))))))
def sT5 (w : World) (os : OsState) : PySem.W.SharedT := ⟨tr5 w.params, 620, (Life.mk [] [] [] 0 [] [] false #[] [] 0 false false false 0 [2000, 10, 10] false 0 true [] [] 0 false), #[], (Drawn.mk 0 0 0 0), 991, os⟩
def sT6 (w : World) (os : OsState) : PySem.W.SharedT := ⟨tr5 w.params, 620, (Life.mk [] [] [] 0 [] [] false #[] [] 0 false false false 0 [2000, 10, 10] false 0 true [] [] 0 false), #[], (Drawn.mk 0 0 0 0), 991, os⟩
abbrev cAnn : Option Value := .some (Value.ref 6)
abbrev cFp : Pos := Pos.mk 0 0 0 0
abbrev cBody : List Stmt := PySem.W.behindTheImports RR.prog
abbrev cEnv : PySem.Env := { scope := RR.prog.main.scope, locals := mainNs, globals := mainNs, cells := [], code := Value.ref 13, frame := some 14 }
abbrev cCode : Code := .body cBody cEnv
def cSl (a n : Nat) : List Stmt := (cBody.drop a).take n
def cBt (w : World) : PySem.W.BT := match HandSHeadRun.putAll (PySem.W.boot_heap w.params).objs.toList .nil 0 with
  | some (t, _) => t
  | none => .nil
end
end K46
namespace K46
open PySem PySem.Spec PyProof.Rows L2
open Rn
set_option autoImplicit false
set_option maxHeartbeats 0
noncomputable section
theorem cPut (w : World) : HandSHeadRun.putAll (PySem.W.boot_heap w.params).objs.toList .nil 0 = some (cBt w, 11) := by kernel_rfl
theorem cSize (w : World) : (PySem.W.boot_heap w.params).objs.size = 11 := by kernel_rfl
theorem cAnnE (w : World) : HandSHeadRun.bootAnn w = cAnn := by kernel_rfl
theorem cPre (w : World) (os : OsState) : Ct.preF (Ct.stQ RR.prog w) 11 cAnn 12 (HandSHeadRun.bootT w os (cBt w, 11)) (PySem.W.topStub RR.prog) = some (sT1 w os, ⟨HandSHeadRun.denQ HandSHeadRun.tabQ cCode, cCode, (Pos.mk 0 0 0 0), [PySem.W.topFrame cFp]⟩) := by kernel_rfl
theorem cBlk (w : World) (os : OsState) : Ct.segF (Ct.stQ RR.prog w) 11 cAnn 1 1 (sT1 w os) (Ct.blockQ cBody cEnv cCode (Pos.mk 0 0 0 0) [PySem.W.topFrame cFp]) = some (.next, sT2 w os, cCode, (Pos.mk 0 0 0 0)) := by kernel_rfl
theorem cRun3 (w : World) (os : OsState) : Ct.segF (Ct.stQ RR.prog w) 11 cAnn 1 2133 (sT2 w os) (Ct.piecesQ (cSl 0 15) cEnv cCode (Pos.mk 0 0 0 0) [PySem.W.topFrame cFp]) = some (.next, sT3 w os, cCode, (Pos.mk 88 0 103 99)) := by kernel_rfl
theorem cRun4 (w : World) (os : OsState) : Ct.segF (Ct.stQ RR.prog w) 11 cAnn 1 2020 (sT3 w os) (Ct.piecesQ (cSl 15 35) cEnv cCode (Pos.mk 88 0 103 99) [PySem.W.topFrame cFp]) = some (.next, sT4 w os, cCode, (Pos.mk 316 0 322 15)) := by kernel_rfl
theorem cRun5 (w : World) (os : OsState) : Ct.segF (Ct.stQ RR.prog w) 11 cAnn 1 27 (sT4 w os) (Ct.piecesQ (cSl 50 1) cEnv cCode (Pos.mk 316 0 322 15) [PySem.W.topFrame cFp]) = some (.next, sT5 w os, cCode, (Pos.mk 323 0 343 72)) := by kernel_rfl
theorem cFin (w : World) (os : OsState) : HandSHeadRun.goF (Ct.stQ RR.prog w) 11 cAnn 2 (sT5 w os) ⟨PySem.W.doneF .next, cCode, (Pos.mk 323 0 343 72), [PySem.W.topFrame cFp]⟩ = some (sT6 w os) := by kernel_rfl
theorem cAll : cBody = cSl 0 15 ++ (cSl 15 35 ++ (cSl 50 1 ++ [])) := by kernel_rfl
theorem cTop (w : World) (os : OsState) : PySem.W.topRun treeTable RR.prog w (PySem.W.boot_heap w.params).objs.size (HandSHeadRun.bootAnn w) 4195 ⟨PySem.W.boot_heap w.params, #[], PySem.W.boot_drawn, PySem.W.boot_toks, os⟩ (PySem.W.topStub RR.prog) = some (sT6 w os).abs := by
  have eb : (HandSHeadRun.bootT w os (cBt w, 11)).abs = ⟨PySem.W.boot_heap w.params, #[], PySem.W.boot_drawn, PySem.W.boot_toks, os⟩ := by
    show (⟨PySem.W.absHeap (cBt w) 11 (PySem.W.boot_heap w.params).life, #[], PySem.W.boot_drawn, PySem.W.boot_toks, os⟩ : Shared) = _
    rw [HandSHeadRun.putAll_heap (cPut w)]
  rw [← eb, cSize w, cAnnE w]
  have z : PySem.W.topRun treeTable RR.prog w 11 cAnn (1+ (2133+ (2020+ (27+ (2))))) (sT1 w os).abs ⟨denote treeTable (.body cBody cEnv), cCode, (Pos.mk 0 0 0 0), [PySem.W.topFrame cFp]⟩ = some (sT6 w os).abs := by
    refine Ct.blockQ_ok (cBlk w os) ?_
    rw [cAll]
    exact Ct.pieceQ (cRun3 w os) (Ct.pieceQ (cRun4 w os) (Ct.pieceQ (cRun5 w os) (Ct.finQ (cFin w os))))
  exact Ct.preQ (cPre w os) z
end
end K46
namespace K46
open PySem PySem.Spec PyProof.Rows L2 Dv
set_option autoImplicit false
noncomputable section
section
variable {P : Program} {w : World} {K : PySem.W.Frag} {mg : Str → Option Value} {base : Heap} {A : Ad}
theorem fl_low (T : Txt K mg A) : FldOk K (S A) "low" fc_low := (Dv.fo_cons (show Cls K (S A 0) ∧ NoAttr K (S A 0) "low" from ⟨T.cl_IntSort, T.na_IntSort_low⟩) Dv.fo_nil)
theorem fl_high (T : Txt K mg A) : FldOk K (S A) "high" fc_high := (Dv.fo_cons (show Cls K (S A 0) ∧ NoAttr K (S A 0) "high" from ⟨T.cl_IntSort, T.na_IntSort_high⟩) Dv.fo_nil)
theorem fl_longest (T : Txt K mg A) : FldOk K (S A) "longest" fc_longest := (Dv.fo_cons (show Cls K (S A 1) ∧ NoAttr K (S A 1) "longest" from ⟨T.cl_TextSort, T.na_TextSort_longest⟩) Dv.fo_nil)
theorem fl_without (T : Txt K mg A) : FldOk K (S A) "without" fc_without := (Dv.fo_cons (show Cls K (S A 1) ∧ NoAttr K (S A 1) "without" from ⟨T.cl_TextSort, T.na_TextSort_without⟩) Dv.fo_nil)
theorem fl_kinds (T : Txt K mg A) : FldOk K (S A) "kinds" fc_kinds := (Dv.fo_cons (show Cls K (S A 2) ∧ NoAttr K (S A 2) "kinds" from ⟨T.cl_RefSort, T.na_RefSort_kinds⟩) (Dv.fo_cons (show Cls K (S A 3) ∧ NoAttr K (S A 3) "kinds" from ⟨T.cl_ListSort, T.na_ListSort_kinds⟩) (Dv.fo_cons (show Cls K (S A 8) ∧ NoAttr K (S A 8) "kinds" from ⟨T.cl_Schema, T.na_Schema_kinds⟩) Dv.fo_nil)))
theorem fl_rule (T : Txt K mg A) : FldOk K (S A) "rule" fc_rule := (Dv.fo_cons (show Cls K (S A 2) ∧ NoAttr K (S A 2) "rule" from ⟨T.cl_RefSort, T.na_RefSort_rule⟩) Dv.fo_nil)
theorem fl_kind (T : Txt K mg A) : FldOk K (S A) "kind" fc_kind := (Dv.fo_cons (show Cls K (S A 4) ∧ NoAttr K (S A 4) "kind" from ⟨T.cl_Thing, T.na_Thing_kind⟩) Dv.fo_nil)
theorem fl_contents (T : Txt K mg A) : FldOk K (S A) "contents" fc_contents := (Dv.fo_cons (show Cls K (S A 4) ∧ NoAttr K (S A 4) "contents" from ⟨T.cl_Thing, T.na_Thing_contents⟩) Dv.fo_nil)
theorem fl_things (T : Txt K mg A) : FldOk K (S A) "things" fc_things := (Dv.fo_cons (show Cls K (S A 5) ∧ NoAttr K (S A 5) "things" from ⟨T.cl_PictureSource, T.na_PictureSource_things⟩) Dv.fo_nil)
theorem fl_name (T : Txt K mg A) : FldOk K (S A) "name" fc_name := (Dv.fo_cons (show Cls K (S A 6) ∧ NoAttr K (S A 6) "name" from ⟨T.cl_Field, T.na_Field_name⟩) (Dv.fo_cons (show Cls K (S A 7) ∧ NoAttr K (S A 7) "name" from ⟨T.cl_Kind, T.na_Kind_name⟩) Dv.fo_nil))
theorem fl_shape (T : Txt K mg A) : FldOk K (S A) "shape" fc_shape := (Dv.fo_cons (show Cls K (S A 6) ∧ NoAttr K (S A 6) "shape" from ⟨T.cl_Field, T.na_Field_shape⟩) Dv.fo_nil)
theorem fl_needed (T : Txt K mg A) : FldOk K (S A) "needed" fc_needed := (Dv.fo_cons (show Cls K (S A 6) ∧ NoAttr K (S A 6) "needed" from ⟨T.cl_Field, T.na_Field_needed⟩) Dv.fo_nil)
theorem fl_fields (T : Txt K mg A) : FldOk K (S A) "fields" fc_fields := (Dv.fo_cons (show Cls K (S A 7) ∧ NoAttr K (S A 7) "fields" from ⟨T.cl_Kind, T.na_Kind_fields⟩) Dv.fo_nil)
theorem fl_key_rows (T : Txt K mg A) : FldOk K (S A) "key_rows" fc_key_rows := (Dv.fo_cons (show Cls K (S A 7) ∧ NoAttr K (S A 7) "key_rows" from ⟨T.cl_Kind, T.na_Kind_key_rows⟩) Dv.fo_nil)
theorem fl_number (T : Txt K mg A) : FldOk K (S A) "number" fc_number := (Dv.fo_cons (show Cls K (S A 9) ∧ NoAttr K (S A 9) "number" from ⟨T.cl_Touch, T.na_Touch_number⟩) Dv.fo_nil)
theorem fl_made (T : Txt K mg A) : FldOk K (S A) "made" fc_made := (Dv.fo_cons (show Cls K (S A 9) ∧ NoAttr K (S A 9) "made" from ⟨T.cl_Touch, T.na_Touch_made⟩) Dv.fo_nil)
theorem fl_gone (T : Txt K mg A) : FldOk K (S A) "gone" fc_gone := (Dv.fo_cons (show Cls K (S A 9) ∧ NoAttr K (S A 9) "gone" from ⟨T.cl_Touch, T.na_Touch_gone⟩) Dv.fo_nil)
theorem fl_names (T : Txt K mg A) : FldOk K (S A) "names" fc_names := (Dv.fo_cons (show Cls K (S A 9) ∧ NoAttr K (S A 9) "names" from ⟨T.cl_Touch, T.na_Touch_names⟩) Dv.fo_nil)
theorem isk (T : Txt K mg A) : IsOk K (S A) isOO isOB isBT := ⟨(by
    intro c d b h
    unfold isOO at h
    split at h
    · cases h; exact ⟨T.ii_IntSort, T.is_IntSort_RefSort⟩
    · cases h; exact ⟨T.ii_TextSort, T.is_TextSort_RefSort⟩
    · cases h; exact ⟨T.ii_RefSort, T.is_RefSort_RefSort⟩
    · cases h; exact ⟨T.ii_ListSort, T.is_ListSort_RefSort⟩
    · cases h; exact ⟨T.ii_IntSort, T.is_IntSort_ListSort⟩
    · cases h; exact ⟨T.ii_TextSort, T.is_TextSort_ListSort⟩
    · cases h; exact ⟨T.ii_RefSort, T.is_RefSort_ListSort⟩
    · cases h; exact ⟨T.ii_ListSort, T.is_ListSort_ListSort⟩
    · cases h),
  fun _ _ _ e => (by cases e),
  fun _ _ _ e => (by cases e)⟩
end
section
variable {P : Program} {w : World} {K : PySem.W.Frag} {mg : Str → Option Value} {base : Heap} {A : Ad}
theorem sc_IntSort___init__ : FnScope ["self", "low", "high"] ["self", "low", "high"] (defScope (inClass (topS 2) 0)) := ⟨rfl, rfl, rfl, by decide +kernel, rfl, by decide +kernel, by decide +kernel⟩
theorem ok_IntSort___init__ (T : Txt K mg A) : FnOk P w K mg base CX0 1 A.f_IntSort___init__ A.fd_IntSort___init__ ["self", "low", "high"] (spD K (S A) false 3 d_IntSort___init__) := by
  refine T.F_IntSort___init__.ok sc_IntSort___init__ (fun vs H Q E h => spD_len _ _ _ h) (fun cdv Ar outer s H vs Q E hr h => bodyD (N := ["self", "low", "high"]) (f := b_IntSort___init__) ?_ e_IntSort___init__ (by decide) h)
  exact (s_cons (s_fld (fl_low T) (pv 0) (q_vl (pv 1)) rfl)
 (s_one (s_fld (fl_high T) (pv 0) (q_vl (pv 2)) rfl)))
theorem sc_TextSort___init__ : FnScope ["self", "longest", "without"] ["self", "longest", "without"] (defScope (inClass (topS 3) 0)) := ⟨rfl, rfl, rfl, by decide +kernel, rfl, by decide +kernel, by decide +kernel⟩
theorem ok_TextSort___init__ (T : Txt K mg A) : FnOk P w K mg base CX0 1 A.f_TextSort___init__ A.fd_TextSort___init__ ["self", "longest", "without"] (spD K (S A) false 3 d_TextSort___init__) := by
  refine T.F_TextSort___init__.ok sc_TextSort___init__ (fun vs H Q E h => spD_len _ _ _ h) (fun cdv Ar outer s H vs Q E hr h => bodyD (N := ["self", "longest", "without"]) (f := b_TextSort___init__) ?_ e_TextSort___init__ (by decide) h)
  exact (s_cons (s_fld (fl_longest T) (pv 0) (q_vl (pv 1)) rfl)
 (s_one (s_fld (fl_without T) (pv 0) (q_vl (pv 2)) rfl)))
theorem sc_RefSort___init__ : FnScope ["self", "kinds", "rule"] ["self", "kinds", "rule"] (defScope (inClass (topS 4) 0)) := ⟨rfl, rfl, rfl, by decide +kernel, rfl, by decide +kernel, by decide +kernel⟩
theorem ok_RefSort___init__ (T : Txt K mg A) : FnOk P w K mg base CX0 1 A.f_RefSort___init__ A.fd_RefSort___init__ ["self", "kinds", "rule"] (spD K (S A) false 3 d_RefSort___init__) := by
  refine T.F_RefSort___init__.ok sc_RefSort___init__ (fun vs H Q E h => spD_len _ _ _ h) (fun cdv Ar outer s H vs Q E hr h => bodyD (N := ["self", "kinds", "rule"]) (f := b_RefSort___init__) ?_ e_RefSort___init__ (by decide) h)
  exact (s_cons (s_fld (fl_kinds T) (pv 0) (q_fr (qf_callTy (call_list_of) sc_list rfl T.b_list (by decide +kernel) (q_cons (q_vl (pv 1)) q_nil))) rfl)
 (s_one (s_fld (fl_rule T) (pv 0) (q_vl (pv 2)) rfl)))
theorem sc_ListSort___init__ : FnScope ["self", "kinds"] ["self", "kinds"] (defScope (inClass (topS 5) 0)) := ⟨rfl, rfl, rfl, by decide +kernel, rfl, by decide +kernel, by decide +kernel⟩
theorem ok_ListSort___init__ (T : Txt K mg A) : FnOk P w K mg base CX0 1 A.f_ListSort___init__ A.fd_ListSort___init__ ["self", "kinds"] (spD K (S A) false 2 d_ListSort___init__) := by
  refine T.F_ListSort___init__.ok sc_ListSort___init__ (fun vs H Q E h => spD_len _ _ _ h) (fun cdv Ar outer s H vs Q E hr h => bodyD (N := ["self", "kinds"]) (f := b_ListSort___init__) ?_ e_ListSort___init__ (by decide) h)
  exact (s_one (s_fld (fl_kinds T) (pv 0) (q_fr (qf_callTy (call_list_of) sc_list rfl T.b_list (by decide +kernel) (q_cons (q_vl (pv 1)) q_nil))) rfl))
theorem sc_is_reference : FnScope ["shape"] ["shape"] (defScope (topS 6)) := ⟨rfl, rfl, rfl, by decide +kernel, rfl, by decide +kernel, by decide +kernel⟩
theorem ok_is_reference (T : Txt K mg A) : FnOk P w K mg base CX0 1 A.f_is_reference A.fd_is_reference ["shape"] (spD K (S A) false 1 d_is_reference) := by
  refine T.F_is_reference.ok sc_is_reference (fun vs H Q E h => spD_len _ _ _ h) (fun cdv Ar outer s H vs Q E hr h => bodyD (N := ["shape"]) (f := b_is_reference) ?_ e_is_reference (by decide) h)
  exact (s_one (s_ret (q_callB call_isi (sc_is (isk T)) rfl T.b_isinstance (by decide +kernel) (q_cons (q_vl (pv 0)) (q_cons (q_c (pe_glob (v := .ref A.C_RefSort) rfl T.g_RefSort rfl) fun _ => rfl) q_nil)))))
theorem sc_is_list : FnScope ["shape"] ["shape"] (defScope (topS 7)) := ⟨rfl, rfl, rfl, by decide +kernel, rfl, by decide +kernel, by decide +kernel⟩
theorem ok_is_list (T : Txt K mg A) : FnOk P w K mg base CX0 1 A.f_is_list A.fd_is_list ["shape"] (spD K (S A) false 1 d_is_list) := by
  refine T.F_is_list.ok sc_is_list (fun vs H Q E h => spD_len _ _ _ h) (fun cdv Ar outer s H vs Q E hr h => bodyD (N := ["shape"]) (f := b_is_list) ?_ e_is_list (by decide) h)
  exact (s_one (s_ret (q_callB call_isi (sc_is (isk T)) rfl T.b_isinstance (by decide +kernel) (q_cons (q_vl (pv 0)) (q_cons (q_c (pe_glob (v := .ref A.C_ListSort) rfl T.g_ListSort rfl) fun _ => rfl) q_nil)))))
theorem sc_content_copy : FnScope ["content"] ["content"] (defScope (topS 10)) := ⟨rfl, rfl, rfl, by decide +kernel, rfl, by decide +kernel, by decide +kernel⟩
theorem ok_content_copy (T : Txt K mg A) : FnOk P w K mg base CX0 1 A.f_content_copy A.fd_content_copy ["content"] (spD K (S A) false 1 d_content_copy) := by
  refine T.F_content_copy.ok sc_content_copy (fun vs H Q E h => spD_len _ _ _ h) (fun cdv Ar outer s H vs Q E hr h => bodyD (N := ["content"]) (f := b_content_copy) ?_ e_content_copy (by decide) h)
  exact (s_one (s_ret (q_if (q_val (q_callB call_isi (sc_is (isk T)) rfl T.b_isinstance (by decide +kernel) (q_cons (q_vl (pv 0)) (q_cons (q_c (pe_bltn (v := .ty "list") rfl T.b_list (by decide +kernel) rfl) fun _ => rfl) q_nil)))) (q_fr (qf_callTy (call_list_of) sc_list rfl T.b_list (by decide +kernel) (q_cons (q_vl (pv 0)) q_nil))) (q_vl (pv 0)))))
theorem sc_PictureSource___init__ : FnScope ["self", "picture"] ["self", "picture"] (defScope (inClass (topS 14) 0)) := ⟨rfl, rfl, rfl, by decide +kernel, rfl, by decide +kernel, by decide +kernel⟩
theorem ok_PictureSource___init__ (T : Txt K mg A) : FnOk P w K mg base CX0 1 A.f_PictureSource___init__ A.fd_PictureSource___init__ ["self", "picture"] (spD K (S A) false 2 d_PictureSource___init__) := by
  refine T.F_PictureSource___init__.ok sc_PictureSource___init__ (fun vs H Q E h => spD_len _ _ _ h) (fun cdv Ar outer s H vs Q E hr h => bodyD (N := ["self", "picture"]) (f := b_PictureSource___init__) ?_ e_PictureSource___init__ (by decide) h)
  exact (s_one (s_fld (fl_things T) (pv 0) (q_vl (pv 1)) rfl))
theorem sc_PictureSource_thing : FnScope ["self", "number"] ["self", "number"] (defScope (inClass (topS 14) 1)) := ⟨rfl, rfl, rfl, by decide +kernel, rfl, by decide +kernel, by decide +kernel⟩
theorem ok_PictureSource_thing (T : Txt K mg A) : FnOk P w K mg base CX0 1 A.f_PictureSource_thing A.fd_PictureSource_thing ["self", "number"] (spD K (S A) false 2 d_PictureSource_thing) := by
  refine T.F_PictureSource_thing.ok sc_PictureSource_thing (fun vs H Q E h => spD_len _ _ _ h) (fun cdv Ar outer s H vs Q E hr h => bodyD (N := ["self", "number"]) (f := b_PictureSource_thing) ?_ e_PictureSource_thing (by decide) h)
  exact (s_one (s_ret (q_dget1 (u1 hr) (q_fld (fl_things T) (q_vl (pv 0)) rfl) (q_vl (pv 1)) ⟨rfl, rfl, rfl, rfl⟩)))
theorem sc_PictureSource_numbers : FnScope ["self", "kind", "number", "thing"] ["self", "kind"] (defScope (inClass (topS 14) 2)) := ⟨rfl, rfl, rfl, by decide +kernel, rfl, by decide +kernel, by decide +kernel⟩
theorem ok_PictureSource_numbers (T : Txt K mg A) : FnOk P w K mg base CX0 1 A.f_PictureSource_numbers A.fd_PictureSource_numbers ["self", "kind"] (spD K (S A) false 2 d_PictureSource_numbers) := by
  refine T.F_PictureSource_numbers.ok sc_PictureSource_numbers (fun vs H Q E h => spD_len _ _ _ h) (fun cdv Ar outer s H vs Q E hr h => bodyD (N := ["self", "kind", "number", "thing"]) (f := b_PictureSource_numbers) ?_ e_PictureSource_numbers (by decide) h)
  exact (s_one (s_ret (q_fr (qf_callB (cr_sortedI) sc_sorted rfl T.b_sorted (by decide +kernel) (q_cons (q_fr (qf_lcD (vs := [2, 3]) rfl sc_PictureSource_numbers.nd (pi_items (pe_fld (pv 0) rfl)) wk_items (Dv.p_fld (fl_things T) Dv.p_slot) (blkOk_by (own := [("number", 2), ("thing", 3)]) (N := ["self", "kind", "number", "thing"]) (sc := defScope (inClass (topS 14) 2)) (by decide +kernel)) rfl (fun _ _ _ _ _ => (pg_tup rfl (pgs_cons (pg_name (i := 2) sc_PictureSource_numbers.nd rfl (Or.inl rfl)) (pgs_cons (pg_name (i := 3) sc_PictureSource_numbers.nd rfl (Or.inl rfl)) pgs_nil)))) (Dv.g_tup (gs_cons (Dv.g_name 2) (gs_cons (Dv.g_name 3) gs_nil))) (by decide) (fun _ _ _ _ _ => pts_one (by exact (q_cmpT (opOr op_eq (op_eqD (u64 hr))) so_eq (q_fld (fl_kind T) (q_vl (pv 3)) rfl) (q_vl (pv 1)) (nomark _)))) (fun _ _ _ h => h) (fun _ _ _ _ _ => by exact (q_vl (pv 2))))) q_nil)))))
theorem sc_has_amounts : FnScope ["thing", "names", "amounts", "name", "amount"] ["thing", "names", "amounts"] (defScope (topS 15)) := ⟨rfl, rfl, rfl, by decide +kernel, rfl, by decide +kernel, by decide +kernel⟩
theorem ok_has_amounts (T : Txt K mg A) : FnOk P w K mg base CX0 1 A.f_has_amounts A.fd_has_amounts ["thing", "names", "amounts"] (spD K (S A) false 3 d_has_amounts) := by
  refine T.F_has_amounts.ok sc_has_amounts (fun vs H Q E h => spD_len _ _ _ h) (fun cdv Ar outer s H vs Q E hr h => bodyD (N := ["thing", "names", "amounts", "name", "amount"]) (f := b_has_amounts) ?_ e_has_amounts (by decide) h)
  exact (s_one (s_ret (q_callB (cr_all rfl) sc_all rfl T.b_all (by decide +kernel) (q_cons (q_fr (qf_lc (vs := [3, 4]) rfl sc_has_amounts.nd (i_zip rfl T.b_zip (q_cons (q_vl (pv 1)) (q_cons (q_vl (pv 2)) q_nil))) (blkOk_by (own := [("name", 3), ("amount", 4)]) (N := ["thing", "names", "amounts", "name", "amount"]) (sc := defScope (topS 15)) (by decide +kernel)) rfl (fun _ _ _ _ _ => (pg_tup rfl (pgs_cons (pg_name (i := 3) sc_has_amounts.nd rfl (Or.inl rfl)) (pgs_cons (pg_name (i := 4) sc_has_amounts.nd rfl (Or.inl rfl)) pgs_nil)))) (Dv.g_tup (gs_cons (Dv.g_name 3) (gs_cons (Dv.g_name 4) gs_nil))) (by decide) (fun _ _ _ _ _ => pts_nil) (fun _ _ _ h => yes_ok h) (fun _ _ _ _ _ => by exact (q_and (q_din (u1 hr) (q_vl (pv 3)) (q_fld (fl_contents T) (q_vl (pv 0)) rfl)) (q_one (q_cmp (opOr op_eq (op_eqD (u64 hr))) so_eq (q_dget (u1 hr) (q_fld (fl_contents T) (q_vl (pv 0)) rfl) (q_vl (pv 3)) (fun _ _ => rfl)) (q_vl (pv 4)) (nomark _))))))) q_nil))))
theorem sc_Field___init__ : FnScope ["self", "name", "shape", "needed"] ["self", "name", "shape", "needed"] (defScope (inClass (topS 17) 0)) := ⟨rfl, rfl, rfl, by decide +kernel, rfl, by decide +kernel, by decide +kernel⟩
theorem ok_Field___init__ (T : Txt K mg A) : FnOk P w K mg base CX0 1 A.f_Field___init__ A.fd_Field___init__ ["self", "name", "shape", "needed"] (spD K (S A) false 4 d_Field___init__) := by
  refine T.F_Field___init__.ok sc_Field___init__ (fun vs H Q E h => spD_len _ _ _ h) (fun cdv Ar outer s H vs Q E hr h => bodyD (N := ["self", "name", "shape", "needed"]) (f := b_Field___init__) ?_ e_Field___init__ (by decide) h)
  exact (s_cons (s_fld (fl_name T) (pv 0) (q_vl (pv 1)) rfl)
 (s_cons (s_fld (fl_shape T) (pv 0) (q_vl (pv 2)) rfl)
 (s_one (s_fld (fl_needed T) (pv 0) (q_vl (pv 3)) rfl))))
theorem sc_Kind___init__ : FnScope ["self", "name", "fields", "key_rows", "row"] ["self", "name", "fields", "key_rows"] (defScope (inClass (topS 18) 0)) := ⟨rfl, rfl, rfl, by decide +kernel, rfl, by decide +kernel, by decide +kernel⟩
theorem ok_Kind___init__ (T : Txt K mg A) : FnOk P w K mg base CX0 1 A.f_Kind___init__ A.fd_Kind___init__ ["self", "name", "fields", "key_rows"] (spD K (S A) false 4 d_Kind___init__) := by
  refine T.F_Kind___init__.ok sc_Kind___init__ (fun vs H Q E h => spD_len _ _ _ h) (fun cdv Ar outer s H vs Q E hr h => bodyD (N := ["self", "name", "fields", "key_rows", "row"]) (f := b_Kind___init__) ?_ e_Kind___init__ (by decide) h)
  exact (s_cons (s_fld (fl_name T) (pv 0) (q_vl (pv 1)) rfl)
 (s_cons (s_fld (fl_fields T) (pv 0) (q_fr (qf_callTy (call_list_of) sc_list rfl T.b_list (by decide +kernel) (q_cons (q_vl (pv 2)) q_nil))) rfl)
 (s_one (s_fld (fl_key_rows T) (pv 0) (q_fr (qf_lc (vs := [4]) rfl sc_Kind___init__.nd (i_seq (q_vl (pv 3))) (blkOk_by (own := [("row", 4)]) (N := ["self", "name", "fields", "key_rows", "row"]) (sc := defScope (inClass (topS 18) 0)) (by decide +kernel)) rfl (fun _ _ _ _ _ => (pg_name (i := 4) sc_Kind___init__.nd rfl (Or.inl rfl))) (Dv.g_name 4) (by decide) (fun _ _ _ _ _ => pts_nil) (fun _ _ _ h => yes_ok h) (fun _ _ _ _ _ => by exact (q_fr (qf_callTy (call_list_of) sc_list rfl T.b_list (by decide +kernel) (q_cons (q_vl (pv 4)) q_nil)))))) rfl))))
theorem sc_Kind_field_of : FnScope ["self", "name", "field"] ["self", "name"] (defScope (inClass (topS 18) 1)) := ⟨rfl, rfl, rfl, by decide +kernel, rfl, by decide +kernel, by decide +kernel⟩
theorem ok_Kind_field_of (T : Txt K mg A) : FnOk P w K mg base CX0 1 A.f_Kind_field_of A.fd_Kind_field_of ["self", "name"] (spD K (S A) false 2 d_Kind_field_of) := by
  refine T.F_Kind_field_of.ok sc_Kind_field_of (fun vs H Q E h => spD_len _ _ _ h) (fun cdv Ar outer s H vs Q E hr h => bodyD (N := ["self", "name", "field"]) (f := b_Kind_field_of) ?_ e_Kind_field_of (by decide) h)
  exact (s_cons (s_for PassesOwn.never rfl (i_seq (q_fld (fl_fields T) (q_vl (pv 0)) rfl)) (pg_name (i := 2) sc_Kind_field_of.nd rfl (.inl rfl)) (Dv.g_name 2)
 (s_one (s_if (q_cmpT (opOr op_eq (op_eqD (u64 hr))) so_eq (q_fld (fl_name T) (q_vl (pv 2)) rfl) (q_vl (pv 1)) (nomark _))
 (s_one (s_ret (q_vl (pv 2))))
 s_nil)))
 (s_one (s_ret (q_c pe_non fun _ => rfl))))
theorem sc_Kind_names : FnScope ["self", "field"] ["self"] (defScope (inClass (topS 18) 2)) := ⟨rfl, rfl, rfl, by decide +kernel, rfl, by decide +kernel, by decide +kernel⟩
theorem ok_Kind_names (T : Txt K mg A) : FnOk P w K mg base CX0 1 A.f_Kind_names A.fd_Kind_names ["self"] (spD K (S A) false 1 d_Kind_names) := by
  refine T.F_Kind_names.ok sc_Kind_names (fun vs H Q E h => spD_len _ _ _ h) (fun cdv Ar outer s H vs Q E hr h => bodyD (N := ["self", "field"]) (f := b_Kind_names) ?_ e_Kind_names (by decide) h)
  exact (s_one (s_ret (q_fr (qf_lc (vs := [1]) rfl sc_Kind_names.nd (i_seq (q_fld (fl_fields T) (q_vl (pv 0)) rfl)) (blkOk_by (own := [("field", 1)]) (N := ["self", "field"]) (sc := defScope (inClass (topS 18) 2)) (by decide +kernel)) rfl (fun _ _ _ _ _ => (pg_name (i := 1) sc_Kind_names.nd rfl (Or.inl rfl))) (Dv.g_name 1) (by decide) (fun _ _ _ _ _ => pts_nil) (fun _ _ _ h => yes_ok h) (fun _ _ _ _ _ => by exact (q_fld (fl_name T) (q_vl (pv 1)) rfl))))))
theorem sc_Schema___init__ : FnScope ["self", "kinds"] ["self", "kinds"] (defScope (inClass (topS 19) 0)) := ⟨rfl, rfl, rfl, by decide +kernel, rfl, by decide +kernel, by decide +kernel⟩
theorem ok_Schema___init__ (T : Txt K mg A) : FnOk P w K mg base CX0 1 A.f_Schema___init__ A.fd_Schema___init__ ["self", "kinds"] (spD K (S A) false 2 d_Schema___init__) := by
  refine T.F_Schema___init__.ok sc_Schema___init__ (fun vs H Q E h => spD_len _ _ _ h) (fun cdv Ar outer s H vs Q E hr h => bodyD (N := ["self", "kinds"]) (f := b_Schema___init__) ?_ e_Schema___init__ (by decide) h)
  exact (s_one (s_fld (fl_kinds T) (pv 0) (q_fr (qf_callTy (call_list_of) sc_list rfl T.b_list (by decide +kernel) (q_cons (q_vl (pv 1)) q_nil))) rfl))
theorem sc_Schema_kind_of : FnScope ["self", "name", "kind"] ["self", "name"] (defScope (inClass (topS 19) 1)) := ⟨rfl, rfl, rfl, by decide +kernel, rfl, by decide +kernel, by decide +kernel⟩
theorem ok_Schema_kind_of (T : Txt K mg A) : FnOk P w K mg base CX0 1 A.f_Schema_kind_of A.fd_Schema_kind_of ["self", "name"] (spD K (S A) false 2 d_Schema_kind_of) := by
  refine T.F_Schema_kind_of.ok sc_Schema_kind_of (fun vs H Q E h => spD_len _ _ _ h) (fun cdv Ar outer s H vs Q E hr h => bodyD (N := ["self", "name", "kind"]) (f := b_Schema_kind_of) ?_ e_Schema_kind_of (by decide) h)
  exact (s_cons (s_for PassesOwn.never rfl (i_seq (q_fld (fl_kinds T) (q_vl (pv 0)) rfl)) (pg_name (i := 2) sc_Schema_kind_of.nd rfl (.inl rfl)) (Dv.g_name 2)
 (s_one (s_if (q_cmpT (opOr op_eq (op_eqD (u64 hr))) so_eq (q_fld (fl_name T) (q_vl (pv 2)) rfl) (q_vl (pv 1)) (nomark _))
 (s_one (s_ret (q_vl (pv 2))))
 s_nil)))
 (s_one (s_ret (q_c pe_non fun _ => rfl))))
theorem sc_Schema_names : FnScope ["self", "kind"] ["self"] (defScope (inClass (topS 19) 3)) := ⟨rfl, rfl, rfl, by decide +kernel, rfl, by decide +kernel, by decide +kernel⟩
theorem ok_Schema_names (T : Txt K mg A) : FnOk P w K mg base CX0 1 A.f_Schema_names A.fd_Schema_names ["self"] (spD K (S A) false 1 d_Schema_names) := by
  refine T.F_Schema_names.ok sc_Schema_names (fun vs H Q E h => spD_len _ _ _ h) (fun cdv Ar outer s H vs Q E hr h => bodyD (N := ["self", "kind"]) (f := b_Schema_names) ?_ e_Schema_names (by decide) h)
  exact (s_one (s_ret (q_fr (qf_lc (vs := [1]) rfl sc_Schema_names.nd (i_seq (q_fld (fl_kinds T) (q_vl (pv 0)) rfl)) (blkOk_by (own := [("kind", 1)]) (N := ["self", "kind"]) (sc := defScope (inClass (topS 19) 3)) (by decide +kernel)) rfl (fun _ _ _ _ _ => (pg_name (i := 1) sc_Schema_names.nd rfl (Or.inl rfl))) (Dv.g_name 1) (by decide) (fun _ _ _ _ _ => pts_nil) (fun _ _ _ h => yes_ok h) (fun _ _ _ _ _ => by exact (q_fld (fl_name T) (q_vl (pv 1)) rfl))))))
theorem sc_needed_constraint : FnScope ["kind", "field"] ["kind", "field"] (defScope (topS 20)) := ⟨rfl, rfl, rfl, by decide +kernel, rfl, by decide +kernel, by decide +kernel⟩
theorem ok_needed_constraint (T : Txt K mg A) : FnOk P w K mg base CX0 1 A.f_needed_constraint A.fd_needed_constraint ["kind", "field"] (spD K (S A) false 2 d_needed_constraint) := by
  refine T.F_needed_constraint.ok sc_needed_constraint (fun vs H Q E h => spD_len _ _ _ h) (fun cdv Ar outer s H vs Q E hr h => bodyD (N := ["kind", "field"]) (f := b_needed_constraint) ?_ e_needed_constraint (by decide) h)
  exact (s_one (s_ret (q_joined (j_cons (q_fmt (q_vl (pv 0))) (j_cons (q_c pe_str fun _ => rfl) (j_cons (q_fmt (q_vl (pv 1))) (j_cons (q_c pe_str fun _ => rfl) j_nil)))))))
theorem sc_key_constraint : FnScope ["kind", "row"] ["kind", "row"] (defScope (topS 21)) := ⟨rfl, rfl, rfl, by decide +kernel, rfl, by decide +kernel, by decide +kernel⟩
theorem ok_key_constraint (T : Txt K mg A) : FnOk P w K mg base CX0 1 A.f_key_constraint A.fd_key_constraint ["kind", "row"] (spD K (S A) false 2 d_key_constraint) := by
  refine T.F_key_constraint.ok sc_key_constraint (fun vs H Q E h => spD_len _ _ _ h) (fun cdv Ar outer s H vs Q E hr h => bodyD (N := ["kind", "row"]) (f := b_key_constraint) ?_ e_key_constraint (by decide) h)
  exact (s_one (s_ret (q_op (opOr op_add (opOr op_add_str op_cat)) so_add (q_joined (j_cons (q_fmt (q_vl (pv 0))) (j_cons (q_c pe_str fun _ => rfl) j_nil))) (q_join (q_c pe_str fun _ => rfl) (q_vl (pv 1))))))
theorem sc_Touch___init__ : FnScope ["self", "number", "made", "gone", "names"] ["self", "number", "made", "gone", "names"] (defScope (inClass (topS 32) 0)) := ⟨rfl, rfl, rfl, by decide +kernel, rfl, by decide +kernel, by decide +kernel⟩
theorem ok_Touch___init__ (T : Txt K mg A) : FnOk P w K mg base CX0 1 A.f_Touch___init__ A.fd_Touch___init__ ["self", "number", "made", "gone", "names"] (spD K (S A) false 5 d_Touch___init__) := by
  refine T.F_Touch___init__.ok sc_Touch___init__ (fun vs H Q E h => spD_len _ _ _ h) (fun cdv Ar outer s H vs Q E hr h => bodyD (N := ["self", "number", "made", "gone", "names"]) (f := b_Touch___init__) ?_ e_Touch___init__ (by decide) h)
  exact (s_cons (s_fld (fl_number T) (pv 0) (q_vl (pv 1)) rfl)
 (s_cons (s_fld (fl_made T) (pv 0) (q_vl (pv 2)) rfl)
 (s_cons (s_fld (fl_gone T) (pv 0) (q_vl (pv 3)) rfl)
 (s_one (s_fld (fl_names T) (pv 0) (q_fr (qf_callTy (call_list_of) sc_list rfl T.b_list (by decide +kernel) (q_cons (q_vl (pv 4)) q_nil))) rfl)))))
theorem sc__law_cells : FnScope ["script", "count", "cells", "k", "cell"] ["script", "count"] (defScope (topS 34)) := ⟨rfl, rfl, rfl, by decide +kernel, rfl, by decide +kernel, by decide +kernel⟩
theorem ok__law_cells (T : Txt K mg A) : FnOk P w K mg base CX0 1 A.f__law_cells A.fd__law_cells ["script", "count"] (spD K (S A) true 2 d__law_cells) := by
  refine T.F__law_cells.ok sc__law_cells (fun vs H Q E h => spD_len _ _ _ h) (fun cdv Ar outer s H vs Q E hr h => bodyD (N := ["script", "count", "cells", "k", "cell"]) (f := b__law_cells) ?_ e__law_cells (by decide) h)
  exact (s_cons (s_box (i := 2) sc__law_cells.nd rfl (.inl rfl) (qf_lst q_nil))
 (s_cons (s_for PassesOwn.never rfl (i_rng1 rfl T.b_range (q_cons (q_vl (pv 1)) q_nil)) (pg_name (i := 3) sc__law_cells.nd rfl (.inl rfl)) (Dv.g_name 3)
 (s_cons (s_set (i := 4) sc__law_cells.nd rfl (.inl rfl) (q_op (opOr op_add (opOr op_add_str op_cat)) so_add (q_op op_mul so_mul (q_c pe_int fun _ => rfl) (q_vl (pv 3))) (q_c pe_int fun _ => rfl)))
 (s_cons (s_if (q_cmpT (opOr op_lt op_lt_str) so_cmp (q_vl (pv 3)) (q_callB call_len sc_len rfl T.b_len (by decide +kernel) (q_cons (q_vl (pv 0)) q_nil)) (nomark _))
 (s_cons (s_set (i := 4) sc__law_cells.nd rfl (.inl rfl) (q_callTy call_int1 sc_int rfl T.b_int (by decide +kernel) (q_cons (q_ix ix_seq so_ix (q_vl (pv 0)) (q_vl (pv 3)) (fun _ _ => rfl)) q_nil)))
 (s_one (s_if (q_cmpT (opOr op_lt op_lt_str) so_cmp (q_vl (pv 4)) (q_c pe_int fun _ => rfl) (nomark _))
 (s_one (s_set (i := 4) sc__law_cells.nd rfl (.inl rfl) (q_op op_sub so_sub (q_c pe_int fun _ => rfl) (q_op op_mul so_mul (q_c pe_int fun _ => rfl) (q_vl (pv 4))))))
 s_nil)))
 s_nil)
 (s_cons (s_if (q_cmpT (opOr op_lt op_lt_str) so_cmp (q_vl (pv 4)) (q_c pe_int fun _ => rfl) (nomark _))
 (s_cons (s_set (i := 4) sc__law_cells.nd rfl (.inl rfl) (q_op op_modN so_mod (q_callTy call_int1 sc_int rfl T.b_int (by decide +kernel) (q_cons (q_op (opOr op_add (opOr op_add_str op_cat)) so_add (q_op (opOr op_add (opOr op_add_str op_cat)) so_add (q_op op_mul so_mul (q_callTy call_int1 sc_int rfl T.b_int (by decide +kernel) (q_cons (q_vl (pv 4)) q_nil)) (q_c pe_int fun _ => rfl)) (q_op op_mul so_mul (q_c pe_int fun _ => rfl) (q_vl (pv 3)))) (q_c pe_int fun _ => rfl)) q_nil)) (q_c pe_int fun _ => rfl)))
 (s_one (s_set (i := 4) sc__law_cells.nd rfl (.inl rfl) (q_op op_modN so_mod (q_callTy call_int1 sc_int rfl T.b_int (by decide +kernel) (q_cons (q_op (opOr op_add (opOr op_add_str op_cat)) so_add (q_op op_mul so_mul (q_callTy call_int1 sc_int rfl T.b_int (by decide +kernel) (q_cons (q_vl (pv 4)) q_nil)) (q_c pe_int fun _ => rfl)) (q_c pe_int fun _ => rfl)) q_nil)) (q_c pe_int fun _ => rfl)))))
 s_nil)
 (s_one (s_expr (q_own PySem.F.plainAttrs_list PySem.F.slot_list_append PySem.F.type_list_append mt_append sm_app (pv 2) (q_cons (q_vl (pv 4)) q_nil))))))))
 (s_one (s_retV (pv 2)))))
theorem sc__law_draw : FnScope ["draws", "bound", "amount"] ["draws", "bound"] (defScope (topS 35)) := ⟨rfl, rfl, rfl, by decide +kernel, rfl, by decide +kernel, by decide +kernel⟩
theorem ok__law_draw (T : Txt K mg A) : FnOk P w K mg base CX0 1 A.f__law_draw A.fd__law_draw ["draws", "bound"] (spD K (S A) false 2 d__law_draw) := by
  refine T.F__law_draw.ok sc__law_draw (fun vs H Q E h => spD_len _ _ _ h) (fun cdv Ar outer s H vs Q E hr h => bodyD (N := ["draws", "bound", "amount"]) (f := b__law_draw) ?_ e__law_draw (by decide) h)
  exact (s_cons (s_if (q_pt (q_wand (q_borT (q_cmpT (opOr op_eq (op_eqD (u64 hr))) so_eq (q_ix ix_seq so_ix (q_vl (pv 0)) (q_c pe_int fun _ => rfl) (fun _ _ => rfl)) (q_c pe_int fun _ => rfl) (nomark _))) (q_wand1 (q_borT (q_cmpT (opOr op_gt op_gt_str) so_cmp (q_callB call_len sc_len rfl T.b_len (by decide +kernel) (q_cons (q_vl (pv 0)) q_nil)) (q_c pe_int fun _ => rfl) (nomark _))))))
 (s_one (s_expr (q_own PySem.F.plainAttrs_list PySem.F.slot_list_pop PySem.F.type_list_pop mt_popAt sm_popAt (pv 0) (q_cons (q_c pe_int fun _ => rfl) q_nil))))
 s_nil)
 (s_cons (s_set (i := 2) sc__law_draw.nd rfl (.inl rfl) (q_bor (q_op op_modN so_mod (q_callTy call_int1 sc_int rfl T.b_int (by decide +kernel) (q_cons (q_ix ix_seq so_ix (q_vl (pv 0)) (q_c pe_int fun _ => rfl) (fun _ _ => rfl)) q_nil)) (q_vl (pv 1)))))
 (s_cons (s_setIx (pv 0) (q_c pe_int fun _ => rfl) (q_bor (q_op op_fdivN so_fdv (q_ix ix_seq so_ix (q_vl (pv 0)) (q_c pe_int fun _ => rfl) (fun _ _ => rfl)) (q_vl (pv 1)))) (pg_sub (pv 0) (q_c pe_int fun _ => rfl) set_list))
 (s_one (s_ret (q_vl (pv 2)))))))
theorem sc__law_links : FnScope ["kind", "rules"] ["kind", "rules"] (defScope (topS 37)) := ⟨rfl, rfl, rfl, by decide +kernel, rfl, by decide +kernel, by decide +kernel⟩
theorem ok__law_links (T : Txt K mg A) : FnOk P w K mg base CX0 1 A.f__law_links A.fd__law_links ["kind", "rules"] (spD K (S A) false 2 d__law_links) := by
  refine T.F__law_links.ok sc__law_links (fun vs H Q E h => spD_len _ _ _ h) (fun cdv Ar outer s H vs Q E hr h => bodyD (N := ["kind", "rules"]) (f := b__law_links) ?_ e__law_links (by decide) h)
  exact (s_cons (s_if (q_cmpT (opOr op_eq (op_eqD (u64 hr))) so_eq (q_vl (pv 0)) (q_c pe_str fun _ => rfl) (nomark _))
 (s_one (s_ret (q_fr (qf_lst (q_cons (q_tup (q_cons (q_c pe_str fun _ => rfl) (q_cons (q_fr (qf_lst (q_cons (q_c pe_str fun _ => rfl) (q_cons (q_c pe_str fun _ => rfl) q_nil)))) (q_cons (q_ix ix_seq so_ix (q_vl (pv 1)) (q_c pe_int fun _ => rfl) (fun _ _ => rfl)) q_nil)))) (q_cons (q_tup (q_cons (q_c pe_str fun _ => rfl) (q_cons (q_fr (qf_lst (q_cons (q_c pe_str fun _ => rfl) q_nil))) (q_cons (q_c pe_str fun _ => rfl) q_nil)))) q_nil))))))
 s_nil)
 (s_one (s_ret (q_fr (qf_lst (q_cons (q_tup (q_cons (q_c pe_str fun _ => rfl) (q_cons (q_fr (qf_lst (q_cons (q_c pe_str fun _ => rfl) q_nil))) (q_cons (q_ix ix_seq so_ix (q_vl (pv 1)) (q_c pe_int fun _ => rfl) (fun _ _ => rfl)) q_nil)))) (q_cons (q_tup (q_cons (q_c pe_str fun _ => rfl) (q_cons (q_fr (qf_lst (q_cons (q_c pe_str fun _ => rfl) q_nil))) (q_cons (q_ix ix_seq so_ix (q_vl (pv 1)) (q_c pe_int fun _ => rfl) (fun _ _ => rfl)) q_nil)))) (q_cons (q_tup (q_cons (q_c pe_str fun _ => rfl) (q_cons (q_fr (qf_lst (q_cons (q_c pe_str fun _ => rfl) (q_cons (q_c pe_str fun _ => rfl) q_nil)))) (q_cons (q_c pe_str fun _ => rfl) q_nil)))) q_nil))))))))
theorem sc__law_names : FnScope ["kind"] ["kind"] (defScope (topS 38)) := ⟨rfl, rfl, rfl, by decide +kernel, rfl, by decide +kernel, by decide +kernel⟩
theorem ok__law_names (T : Txt K mg A) : FnOk P w K mg base CX0 1 A.f__law_names A.fd__law_names ["kind"] (spD K (S A) false 1 d__law_names) := by
  refine T.F__law_names.ok sc__law_names (fun vs H Q E h => spD_len _ _ _ h) (fun cdv Ar outer s H vs Q E hr h => bodyD (N := ["kind"]) (f := b__law_names) ?_ e__law_names (by decide) h)
  exact (s_cons (s_if (q_cmpT (opOr op_eq (op_eqD (u64 hr))) so_eq (q_vl (pv 0)) (q_c pe_str fun _ => rfl) (nomark _))
 (s_one (s_ret (q_fr (qf_lst (q_cons (q_c pe_str fun _ => rfl) (q_cons (q_c pe_str fun _ => rfl) (q_cons (q_c pe_str fun _ => rfl) (q_cons (q_c pe_str fun _ => rfl) q_nil))))))))
 s_nil)
 (s_one (s_ret (q_fr (qf_lst (q_cons (q_c pe_str fun _ => rfl) (q_cons (q_c pe_str fun _ => rfl) (q_cons (q_c pe_str fun _ => rfl) q_nil))))))))
theorem sc__law_there : FnScope ["picture", "kinds", "number"] ["picture", "kinds", "number"] (defScope (topS 45)) := ⟨rfl, rfl, rfl, by decide +kernel, rfl, by decide +kernel, by decide +kernel⟩
theorem ok__law_there (T : Txt K mg A) : FnOk P w K mg base CX0 1 A.f__law_there A.fd__law_there ["picture", "kinds", "number"] (spD K (S A) false 3 d__law_there) := by
  refine T.F__law_there.ok sc__law_there (fun vs H Q E h => spD_len _ _ _ h) (fun cdv Ar outer s H vs Q E hr h => bodyD (N := ["picture", "kinds", "number"]) (f := b__law_there) ?_ e__law_there (by decide) h)
  exact (s_one (s_ret (q_and (q_cmp op_notN so_isnt (q_vl (pv 2)) (q_c pe_non fun _ => rfl) (nomark _)) (q_and (q_din (u1 hr) (q_vl (pv 2)) (q_vl (pv 0))) (q_one (q_cmp (opOr op_in_seq (op_inD (u65 hr))) (so_or (so_in false) so_inD) (q_fld (fl_kind T) (q_dget (u1 hr) (q_vl (pv 0)) (q_vl (pv 2)) (fun _ _ => rfl)) rfl) (q_vl (pv 1)) (by rfl)))))))
theorem sc_Thing___init__ : FnScope ["self", "kind", "contents", "name", "content"] ["self", "kind", "contents"] (defScope (inClass (topS 9) 0)) := ⟨rfl, rfl, rfl, by decide +kernel, rfl, by decide +kernel, by decide +kernel⟩
theorem ok_Thing___init__ (T : Txt K mg A) : FnOk P w K mg base CX0 2 A.f_Thing___init__ A.fd_Thing___init__ ["self", "kind", "contents"] (spD K (S A) false 3 d_Thing___init__) := by
  refine T.F_Thing___init__.ok sc_Thing___init__ (fun vs H Q E h => spD_len _ _ _ h) (fun cdv Ar outer s H vs Q E hr h => bodyD (N := ["self", "kind", "contents", "name", "content"]) (f := b_Thing___init__) ?_ e_Thing___init__ (by decide) h)
  exact (s_cons (s_fld (fl_kind T) (pv 0) (q_vl (pv 1)) rfl)
 (s_one (s_fld (fl_contents T) (pv 0) (q_fr (qf_dcD (vs := [3, 4]) rfl sc_Thing___init__.nd (pi_items (pv 2)) wk_items Dv.p_slot (blkOk_by (own := [("name", 3), ("content", 4)]) (N := ["self", "kind", "contents", "name", "content"]) (sc := defScope (inClass (topS 9) 0)) (by decide +kernel)) rfl (fun _ _ _ _ _ => (pg_tup rfl (pgs_cons (pg_name (i := 3) sc_Thing___init__.nd rfl (Or.inl rfl)) (pgs_cons (pg_name (i := 4) sc_Thing___init__.nd rfl (Or.inl rfl)) pgs_nil)))) (Dv.g_tup (gs_cons (Dv.g_name 3) (gs_cons (Dv.g_name 4) gs_nil))) (by decide) (fun _ _ _ _ _ => pts_nil) (fun _ _ _ h => yes_ok h) (fun _ _ _ _ _ => by exact (q_vl (pv 3))) (fun _ _ _ _ _ => by exact (q_call (ok_content_copy T) (hr.mono (by decide)) (by rfl) T.g_content_copy T.F_content_copy.kp T.b_content_copy pass0 (g_val (q_vl (pv 4)) g_nil))))) rfl)))
theorem sc_is_one_of : FnScope ["source", "number", "kinds", "thing"] ["source", "number", "kinds"] (defScope (topS 12)) := ⟨rfl, rfl, rfl, by decide +kernel, rfl, by decide +kernel, by decide +kernel⟩
theorem ok_is_one_of (T : Txt K mg A) : FnOk P w K mg base CX0 2 A.f_is_one_of A.fd_is_one_of ["source", "number", "kinds"] (spD K (S A) false 3 d_is_one_of) := by
  refine T.F_is_one_of.ok sc_is_one_of (fun vs H Q E h => spD_len _ _ _ h) (fun cdv Ar outer s H vs Q E hr h => bodyD (N := ["source", "number", "kinds", "thing"]) (f := b_is_one_of) ?_ e_is_one_of (by decide) h)
  exact (s_cons (s_set (i := 3) sc_is_one_of.nd rfl (.inl rfl) (q_meth (q_vl (pv 0)) (mt_cons ⟨T.cl_PictureSource, T.me_PictureSource_thing, _, _, (ok_PictureSource_thing T).mono (show 1 ≤ 1 by decide), T.b_PictureSource_thing⟩ mt_nil) (hr.mono (by decide)) pass0 (g_val (q_vl (pv 1)) g_nil)))
 (s_one (s_ret (q_and (q_cmp op_notN so_isnt (q_vl (pv 3)) (q_c pe_non fun _ => rfl) (nomark _)) (q_one (q_cmp (opOr op_in_seq (op_inD (u65 hr))) (so_or (so_in false) so_inD) (q_fld (fl_kind T) (q_vl (pv 3)) rfl) (q_vl (pv 2)) (by rfl)))))))
theorem sc_PictureSource_alike : FnScope ["self", "kind", "names", "amounts", "one"] ["self", "kind", "names", "amounts"] (defScope (inClass (topS 14) 4)) := ⟨rfl, rfl, rfl, by decide +kernel, rfl, by decide +kernel, by decide +kernel⟩
theorem ok_PictureSource_alike (T : Txt K mg A) : FnOk P w K mg base CX0 2 A.f_PictureSource_alike A.fd_PictureSource_alike ["self", "kind", "names", "amounts"] (spD K (S A) false 4 d_PictureSource_alike) := by
  refine T.F_PictureSource_alike.ok sc_PictureSource_alike (fun vs H Q E h => spD_len _ _ _ h) (fun cdv Ar outer s H vs Q E hr h => bodyD (N := ["self", "kind", "names", "amounts", "one"]) (f := b_PictureSource_alike) ?_ e_PictureSource_alike (by decide) h)
  exact (s_one (s_ret (q_fr (qf_lc (vs := [4]) rfl sc_PictureSource_alike.nd (i_seq (q_meth (q_vl (pv 0)) (mt_cons ⟨T.cl_PictureSource, T.me_PictureSource_numbers, _, _, (ok_PictureSource_numbers T).mono (show 1 ≤ 1 by decide), T.b_PictureSource_numbers⟩ mt_nil) (hr.mono (by decide)) pass0 (g_val (q_vl (pv 1)) g_nil))) (blkOk_by (own := [("one", 4)]) (N := ["self", "kind", "names", "amounts", "one"]) (sc := defScope (inClass (topS 14) 4)) (by decide +kernel)) rfl (fun _ _ _ _ _ => (pg_name (i := 4) sc_PictureSource_alike.nd rfl (Or.inl rfl))) (Dv.g_name 4) (by decide) (fun _ _ _ _ _ => pts_one (by exact (q_val (q_call (ok_has_amounts T) (hr.mono (by decide)) (by rfl) T.g_has_amounts T.F_has_amounts.kp T.b_has_amounts pass0 (g_val (q_dget (u1 hr) (q_fld (fl_things T) (q_vl (pv 0)) rfl) (q_vl (pv 4)) (fun _ _ => rfl)) (g_val (q_vl (pv 2)) (g_val (q_vl (pv 3)) g_nil))))))) (fun _ _ _ h => h) (fun _ _ _ _ _ => by exact (q_vl (pv 4)))))))
theorem sc__law_pick : FnScope ["draws", "row"] ["draws", "row"] (defScope (topS 36)) := ⟨rfl, rfl, rfl, by decide +kernel, rfl, by decide +kernel, by decide +kernel⟩
theorem ok__law_pick (T : Txt K mg A) : FnOk P w K mg base CX0 2 A.f__law_pick A.fd__law_pick ["draws", "row"] (spD K (S A) false 2 d__law_pick) := by
  refine T.F__law_pick.ok sc__law_pick (fun vs H Q E h => spD_len _ _ _ h) (fun cdv Ar outer s H vs Q E hr h => bodyD (N := ["draws", "row"]) (f := b__law_pick) ?_ e__law_pick (by decide) h)
  exact (s_one (s_ret (q_ix ix_seq so_ix (q_vl (pv 1)) (q_call (ok__law_draw T) (hr.mono (by decide)) (by rfl) T.g__law_draw T.F__law_draw.kp T.b__law_draw pass0 (g_slot (pv 0) (g_val (q_callB call_len sc_len rfl T.b_len (by decide +kernel) (q_cons (q_vl (pv 1)) q_nil)) g_nil))) (fun _ _ => rfl))))
theorem sc__law_number : FnScope ["draws", "digit"] ["draws"] (defScope (topS 41)) := ⟨rfl, rfl, rfl, by decide +kernel, rfl, by decide +kernel, by decide +kernel⟩
theorem ok__law_number (T : Txt K mg A) : FnOk P w K mg base CX0 2 A.f__law_number A.fd__law_number ["draws"] (spD K (S A) false 1 d__law_number) := by
  refine T.F__law_number.ok sc__law_number (fun vs H Q E h => spD_len _ _ _ h) (fun cdv Ar outer s H vs Q E hr h => bodyD (N := ["draws", "digit"]) (f := b__law_number) ?_ e__law_number (by decide) h)
  exact (s_cons (s_set (i := 1) sc__law_number.nd rfl (.inl rfl) (q_call (ok__law_draw T) (hr.mono (by decide)) (by rfl) T.g__law_draw T.F__law_draw.kp T.b__law_draw pass0 (g_slot (pv 0) (g_val (q_c pe_int fun _ => rfl) g_nil))))
 (s_cons (s_if (q_cmpT (opOr op_eq (op_eqD (u64 hr))) so_eq (q_vl (pv 1)) (q_c pe_int fun _ => rfl) (nomark _))
 (s_one (s_ret (q_c pe_non fun _ => rfl)))
 s_nil)
 (s_one (s_ret (q_vl (pv 1))))))
theorem sc__law_list : FnScope ["draws", "row", "_law_turn", "digit"] ["draws"] (defScope (topS 42)) := ⟨rfl, rfl, rfl, by decide +kernel, rfl, by decide +kernel, by decide +kernel⟩
theorem ok__law_list (T : Txt K mg A) : FnOk P w K mg base CX0 2 A.f__law_list A.fd__law_list ["draws"] (spD K (S A) false 1 d__law_list) := by
  refine T.F__law_list.ok sc__law_list (fun vs H Q E h => spD_len _ _ _ h) (fun cdv Ar outer s H vs Q E hr h => bodyD (N := ["draws", "row", "_law_turn", "digit"]) (f := b__law_list) ?_ e__law_list (by decide) h)
  exact (s_cons (s_box (i := 1) sc__law_list.nd rfl (.inl rfl) (qf_lst q_nil))
 (s_cons (s_for PassesOwn.never rfl (i_rng1 rfl T.b_range (q_cons (q_call (ok__law_draw T) (hr.mono (by decide)) (by rfl) T.g__law_draw T.F__law_draw.kp T.b__law_draw pass0 (g_slot (pv 0) (g_val (q_c pe_int fun _ => rfl) g_nil))) q_nil)) (pg_name (i := 2) sc__law_list.nd rfl (.inl rfl)) (Dv.g_name 2)
 (s_cons (s_set (i := 3) sc__law_list.nd rfl (.inl rfl) (q_op (opOr op_add (opOr op_add_str op_cat)) so_add (q_c pe_int fun _ => rfl) (q_call (ok__law_draw T) (hr.mono (by decide)) (by rfl) T.g__law_draw T.F__law_draw.kp T.b__law_draw pass0 (g_slot (pv 0) (g_val (q_c pe_int fun _ => rfl) g_nil)))))
 (s_one (s_if (q_borT (q_cmpT (opOr op_notIn_seq (op_notInD (u65 hr))) (so_or (so_in true) so_notInD) (q_vl (pv 3)) (q_vl (pv 1)) (by rfl)))
 (s_one (s_expr (q_own PySem.F.plainAttrs_list PySem.F.slot_list_append PySem.F.type_list_append mt_append sm_app (pv 1) (q_cons (q_vl (pv 3)) q_nil))))
 s_nil))))
 (s_one (s_ret (q_var (pv 1))))))
theorem sc__law_told : FnScope ["picture", "rules", "thing", "name", "link", "number"] ["picture", "rules", "thing", "name"] (defScope (topS 46)) := ⟨rfl, rfl, rfl, by decide +kernel, rfl, by decide +kernel, by decide +kernel⟩
theorem ok__law_told (T : Txt K mg A) : FnOk P w K mg base CX0 2 A.f__law_told A.fd__law_told ["picture", "rules", "thing", "name"] (spD K (S A) false 4 d__law_told) := by
  refine T.F__law_told.ok sc__law_told (fun vs H Q E h => spD_len _ _ _ h) (fun cdv Ar outer s H vs Q E hr h => bodyD (N := ["picture", "rules", "thing", "name", "link", "number"]) (f := b__law_told) ?_ e__law_told (by decide) h)
  exact (s_cons (s_for PassesOwn.never rfl (i_seq (q_call (ok__law_links T) (hr.mono (by decide)) (by rfl) T.g__law_links T.F__law_links.kp T.b__law_links pass0 (g_val (q_fld (fl_kind T) (q_vl (pv 2)) rfl) (g_val (q_vl (pv 1)) g_nil)))) (pg_name (i := 4) sc__law_told.nd rfl (.inr rfl)) (Dv.g_name 4)
 (s_one (s_if (q_cmpT (opOr op_eq (op_eqD (u64 hr))) so_eq (q_ix ix_seq so_ix (q_vl (pv 4)) (q_c pe_int fun _ => rfl) (fun _ _ => rfl)) (q_vl (pv 3)) (nomark _))
 (s_cons (s_if (q_cmpT (opOr op_eq (op_eqD (u64 hr))) so_eq (q_ix ix_seq so_ix (q_vl (pv 4)) (q_c pe_int fun _ => rfl) (fun _ _ => rfl)) (q_c pe_str fun _ => rfl) (nomark _))
 (s_one (s_ret (q_fr (qf_lc (vs := [5]) rfl sc__law_told.nd (i_seq (q_dget (u1 hr) (q_fld (fl_contents T) (q_vl (pv 2)) rfl) (q_vl (pv 3)) (fun _ _ => rfl))) (blkOk_by (own := [("number", 5)]) (N := ["picture", "rules", "thing", "name", "link", "number"]) (sc := defScope (topS 46)) (by decide +kernel)) rfl (fun _ _ _ _ _ => (pg_name (i := 5) sc__law_told.nd rfl (Or.inl rfl))) (Dv.g_name 5) (by decide) (fun _ _ _ _ _ => pts_one (by exact (q_val (q_call (ok__law_there T) (hr.mono (by decide)) (by rfl) T.g__law_there T.F__law_there.kp T.b__law_there pass0 (g_val (q_vl (pv 0)) (g_val (q_ix ix_seq so_ix (q_vl (pv 4)) (q_c pe_int fun _ => rfl) (fun _ _ => rfl)) (g_val (q_vl (pv 5)) g_nil))))))) (fun _ _ _ h => h) (fun _ _ _ _ _ => by exact (q_vl (pv 5)))))))
 s_nil)
 (s_cons (s_if (q_val (q_call (ok__law_there T) (hr.mono (by decide)) (by rfl) T.g__law_there T.F__law_there.kp T.b__law_there pass0 (g_val (q_vl (pv 0)) (g_val (q_ix ix_seq so_ix (q_vl (pv 4)) (q_c pe_int fun _ => rfl) (fun _ _ => rfl)) (g_val (q_dget (u1 hr) (q_fld (fl_contents T) (q_vl (pv 2)) rfl) (q_vl (pv 3)) (fun _ _ => rfl)) g_nil)))))
 (s_one (s_ret (q_dget (u1 hr) (q_fld (fl_contents T) (q_vl (pv 2)) rfl) (q_vl (pv 3)) (fun _ _ => rfl))))
 s_nil)
 (s_one (s_ret (q_c pe_non fun _ => rfl)))))
 s_nil)))
 (s_one (s_ret (q_dget (u1 hr) (q_fld (fl_contents T) (q_vl (pv 2)) rfl) (q_vl (pv 3)) (fun _ _ => rfl)))))
theorem sc_told_content : FnScope ["source", "field", "content", "number"] ["source", "field", "content"] (defScope (topS 11)) := ⟨rfl, rfl, rfl, by decide +kernel, rfl, by decide +kernel, by decide +kernel⟩
theorem ok_told_content (T : Txt K mg A) : FnOk P w K mg base CX0 3 A.f_told_content A.fd_told_content ["source", "field", "content"] (spD K (S A) false 3 d_told_content) := by
  refine T.F_told_content.ok sc_told_content (fun vs H Q E h => spD_len _ _ _ h) (fun cdv Ar outer s H vs Q E hr h => bodyD (N := ["source", "field", "content", "number"]) (f := b_told_content) ?_ e_told_content (by decide) h)
  exact (s_cons (s_if (q_val (q_call (ok_is_list T) (hr.mono (by decide)) (by rfl) T.g_is_list T.F_is_list.kp T.b_is_list pass0 (g_val (q_fld (fl_shape T) (q_vl (pv 1)) rfl) g_nil)))
 (s_one (s_ret (q_fr (qf_lc (vs := [3]) rfl sc_told_content.nd (i_seq (q_vl (pv 2))) (blkOk_by (own := [("number", 3)]) (N := ["source", "field", "content", "number"]) (sc := defScope (topS 11)) (by decide +kernel)) rfl (fun _ _ _ _ _ => (pg_name (i := 3) sc_told_content.nd rfl (Or.inl rfl))) (Dv.g_name 3) (by decide) (fun _ _ _ _ _ => pts_one (by exact (q_val (q_call (ok_is_one_of T) (hr.mono (by decide)) (by rfl) T.g_is_one_of T.F_is_one_of.kp T.b_is_one_of pass0 (g_val (q_vl (pv 0)) (g_val (q_vl (pv 3)) (g_val (q_fld (fl_kinds T) (q_fld (fl_shape T) (q_vl (pv 1)) rfl) rfl) g_nil))))))) (fun _ _ _ h => h) (fun _ _ _ _ _ => by exact (q_vl (pv 3)))))))
 s_nil)
 (s_cons (s_if (q_val (q_call (ok_is_reference T) (hr.mono (by decide)) (by rfl) T.g_is_reference T.F_is_reference.kp T.b_is_reference pass0 (g_val (q_fld (fl_shape T) (q_vl (pv 1)) rfl) g_nil)))
 (s_one (s_ret (q_if (q_pt (q_wand (q_cmpT op_notN so_isnt (q_vl (pv 2)) (q_c pe_non fun _ => rfl) (nomark _)) (q_wand1 (q_val (q_call (ok_is_one_of T) (hr.mono (by decide)) (by rfl) T.g_is_one_of T.F_is_one_of.kp T.b_is_one_of pass0 (g_val (q_vl (pv 0)) (g_val (q_vl (pv 2)) (g_val (q_fld (fl_kinds T) (q_fld (fl_shape T) (q_vl (pv 1)) rfl) rfl) g_nil)))))))) (q_vl (pv 2)) (q_c pe_non fun _ => rfl))))
 s_nil)
 (s_one (s_ret (q_vl (pv 2))))))
theorem sc__law_rules : FnScope ["draws", "_law_turn"] ["draws"] (defScope (topS 39)) := ⟨rfl, rfl, rfl, by decide +kernel, rfl, by decide +kernel, by decide +kernel⟩
theorem ok__law_rules (T : Txt K mg A) : FnOk P w K mg base CX0 3 A.f__law_rules A.fd__law_rules ["draws"] (spD K (S A) false 1 d__law_rules) := by
  refine T.F__law_rules.ok sc__law_rules (fun vs H Q E h => spD_len _ _ _ h) (fun cdv Ar outer s H vs Q E hr h => bodyD (N := ["draws", "_law_turn"]) (f := b__law_rules) ?_ e__law_rules (by decide) h)
  exact (s_one (s_ret (q_fr (qf_lc (vs := [1]) rfl sc__law_rules.nd (i_rng1 rfl T.b_range (q_cons (q_c pe_int fun _ => rfl) q_nil)) (blkOk_by (own := [("_law_turn", 1)]) (N := ["draws", "_law_turn"]) (sc := defScope (topS 39)) (by decide +kernel)) rfl (fun _ _ _ _ _ => (pg_name (i := 1) sc__law_rules.nd rfl (Or.inl rfl))) (Dv.g_name 1) (by decide) (fun _ _ _ _ _ => pts_nil) (fun _ _ _ h => yes_ok h) (fun _ _ _ _ _ => by exact (q_call (ok__law_pick T) (hr.mono (by decide)) (by rfl) T.g__law_pick T.F__law_pick.kp T.b__law_pick pass0 (g_slot (pv 0) (g_val (q_fr (qf_lst (q_cons (q_c pe_str fun _ => rfl) (q_cons (q_c pe_str fun _ => rfl) (q_cons (q_c pe_str fun _ => rfl) q_nil))))) g_nil))))))))
theorem sc__law_schema : FnScope ["rules", "needed", "first", "second"] ["rules", "needed"] (defScope (topS 40)) := ⟨rfl, rfl, rfl, by decide +kernel, rfl, by decide +kernel, by decide +kernel⟩
theorem ok__law_schema (T : Txt K mg A) : FnOk P w K mg base CX0 3 A.f__law_schema A.fd__law_schema ["rules", "needed"] (spD K (S A) false 2 d__law_schema) := by
  refine T.F__law_schema.ok sc__law_schema (fun vs H Q E h => spD_len _ _ _ h) (fun cdv Ar outer s H vs Q E hr h => bodyD (N := ["rules", "needed", "first", "second"]) (f := b__law_schema) ?_ e__law_schema (by decide) h)
  exact (s_cons (s_set (i := 2) sc__law_schema.nd rfl (.inl rfl) (q_fr (qf_make (ci := 7) (dcs := []) (fun _ => rfl) T.mk_Kind (ok_Kind___init__ T) (hr.mono (by decide)) (by rfl) T.g_Kind T.b_Kind___init__ .nil pass0 (q_cons (q_c pe_str fun _ => rfl) (q_cons (q_fr (qf_lst (q_cons (q_fr (qf_make (ci := 6) (dcs := []) (fun _ => rfl) T.mk_Field (ok_Field___init__ T) (hr.mono (by decide)) (by rfl) T.g_Field T.b_Field___init__ .nil pass0 (q_cons (q_c pe_str fun _ => rfl) (q_cons (q_fr (qf_make (ci := 0) (dcs := []) (fun _ => rfl) T.mk_IntSort (ok_IntSort___init__ T) (hr.mono (by decide)) (by rfl) T.g_IntSort T.b_IntSort___init__ .nil pass0 (q_cons (q_c pe_int fun _ => rfl) (q_cons (q_c pe_int fun _ => rfl) q_nil)))) (q_cons (q_vl (pv 1)) q_nil))))) (q_cons (q_fr (qf_make (ci := 6) (dcs := [.bl false]) (fun _ => ⟨_, _, rfl, rfl, rfl⟩) T.mk_Field (ok_Field___init__ T) (hr.mono (by decide)) (by rfl) T.g_Field T.b1_Field___init__.choose_spec.2 T.b1_Field___init__.choose_spec.1 pass0 (q_cons (q_c pe_str fun _ => rfl) (q_cons (q_fr (qf_make (ci := 1) (dcs := [.non]) (fun _ => ⟨_, _, rfl, rfl, rfl⟩) T.mk_TextSort (ok_TextSort___init__ T) (hr.mono (by decide)) (by rfl) T.g_TextSort T.b1_TextSort___init__.choose_spec.2 T.b1_TextSort___init__.choose_spec.1 pass0 (q_cons (q_c pe_int fun _ => rfl) q_nil))) q_nil)))) (q_cons (q_fr (qf_make (ci := 6) (dcs := [.bl false]) (fun _ => ⟨_, _, rfl, rfl, rfl⟩) T.mk_Field (ok_Field___init__ T) (hr.mono (by decide)) (by rfl) T.g_Field T.b1_Field___init__.choose_spec.2 T.b1_Field___init__.choose_spec.1 pass0 (q_cons (q_c pe_str fun _ => rfl) (q_cons (q_fr (qf_make (ci := 2) (dcs := []) (fun _ => rfl) T.mk_RefSort (ok_RefSort___init__ T) (hr.mono (by decide)) (by rfl) T.g_RefSort T.b_RefSort___init__ .nil pass0 (q_cons (q_fr (qf_lst (q_cons (q_c pe_str fun _ => rfl) (q_cons (q_c pe_str fun _ => rfl) q_nil)))) (q_cons (q_ix ix_seq so_ix (q_vl (pv 0)) (q_c pe_int fun _ => rfl) (fun _ _ => rfl)) q_nil)))) q_nil)))) (q_cons (q_fr (qf_make (ci := 6) (dcs := [.bl false]) (fun _ => ⟨_, _, rfl, rfl, rfl⟩) T.mk_Field (ok_Field___init__ T) (hr.mono (by decide)) (by rfl) T.g_Field T.b1_Field___init__.choose_spec.2 T.b1_Field___init__.choose_spec.1 pass0 (q_cons (q_c pe_str fun _ => rfl) (q_cons (q_fr (qf_make (ci := 3) (dcs := []) (fun _ => rfl) T.mk_ListSort (ok_ListSort___init__ T) (hr.mono (by decide)) (by rfl) T.g_ListSort T.b_ListSort___init__ .nil pass0 (q_cons (q_fr (qf_lst (q_cons (q_c pe_str fun _ => rfl) q_nil))) q_nil))) q_nil)))) q_nil)))))) (q_cons (q_fr (qf_lst (q_cons (q_fr (qf_lst (q_cons (q_c pe_str fun _ => rfl) (q_cons (q_c pe_str fun _ => rfl) q_nil)))) q_nil))) q_nil))))))
 (s_cons (s_set (i := 3) sc__law_schema.nd rfl (.inl rfl) (q_fr (qf_make (ci := 7) (dcs := []) (fun _ => rfl) T.mk_Kind (ok_Kind___init__ T) (hr.mono (by decide)) (by rfl) T.g_Kind T.b_Kind___init__ .nil pass0 (q_cons (q_c pe_str fun _ => rfl) (q_cons (q_fr (qf_lst (q_cons (q_fr (qf_make (ci := 6) (dcs := []) (fun _ => rfl) T.mk_Field (ok_Field___init__ T) (hr.mono (by decide)) (by rfl) T.g_Field T.b_Field___init__ .nil pass0 (q_cons (q_c pe_str fun _ => rfl) (q_cons (q_fr (qf_make (ci := 2) (dcs := []) (fun _ => rfl) T.mk_RefSort (ok_RefSort___init__ T) (hr.mono (by decide)) (by rfl) T.g_RefSort T.b_RefSort___init__ .nil pass0 (q_cons (q_fr (qf_lst (q_cons (q_c pe_str fun _ => rfl) q_nil))) (q_cons (q_ix ix_seq so_ix (q_vl (pv 0)) (q_c pe_int fun _ => rfl) (fun _ _ => rfl)) q_nil)))) (q_cons (q_vl (pv 1)) q_nil))))) (q_cons (q_fr (qf_make (ci := 6) (dcs := [.bl false]) (fun _ => ⟨_, _, rfl, rfl, rfl⟩) T.mk_Field (ok_Field___init__ T) (hr.mono (by decide)) (by rfl) T.g_Field T.b1_Field___init__.choose_spec.2 T.b1_Field___init__.choose_spec.1 pass0 (q_cons (q_c pe_str fun _ => rfl) (q_cons (q_fr (qf_make (ci := 2) (dcs := []) (fun _ => rfl) T.mk_RefSort (ok_RefSort___init__ T) (hr.mono (by decide)) (by rfl) T.g_RefSort T.b_RefSort___init__ .nil pass0 (q_cons (q_fr (qf_lst (q_cons (q_c pe_str fun _ => rfl) q_nil))) (q_cons (q_ix ix_seq so_ix (q_vl (pv 0)) (q_c pe_int fun _ => rfl) (fun _ _ => rfl)) q_nil)))) q_nil)))) (q_cons (q_fr (qf_make (ci := 6) (dcs := [.bl false]) (fun _ => ⟨_, _, rfl, rfl, rfl⟩) T.mk_Field (ok_Field___init__ T) (hr.mono (by decide)) (by rfl) T.g_Field T.b1_Field___init__.choose_spec.2 T.b1_Field___init__.choose_spec.1 pass0 (q_cons (q_c pe_str fun _ => rfl) (q_cons (q_fr (qf_make (ci := 3) (dcs := []) (fun _ => rfl) T.mk_ListSort (ok_ListSort___init__ T) (hr.mono (by decide)) (by rfl) T.g_ListSort T.b_ListSort___init__ .nil pass0 (q_cons (q_fr (qf_lst (q_cons (q_c pe_str fun _ => rfl) (q_cons (q_c pe_str fun _ => rfl) q_nil)))) q_nil))) q_nil)))) q_nil))))) (q_cons (q_fr (qf_lst (q_cons (q_fr (qf_lst (q_cons (q_c pe_str fun _ => rfl) q_nil))) q_nil))) q_nil))))))
 (s_one (s_ret (q_fr (qf_make (ci := 8) (dcs := []) (fun _ => rfl) T.mk_Schema (ok_Schema___init__ T) (hr.mono (by decide)) (by rfl) T.g_Schema T.b_Schema___init__ .nil pass0 (q_cons (q_fr (qf_lst (q_cons (q_vl (pv 2)) (q_cons (q_vl (pv 3)) q_nil)))) q_nil)))))))
theorem sc__law_contents : FnScope ["draws", "kind", "known"] ["draws", "kind"] (defScope (topS 43)) := ⟨rfl, rfl, rfl, by decide +kernel, rfl, by decide +kernel, by decide +kernel⟩
theorem ok__law_contents (T : Txt K mg A) : FnOk P w K mg base CX0 3 A.f__law_contents A.fd__law_contents ["draws", "kind"] (spD K (S A) false 2 d__law_contents) := by
  refine T.F__law_contents.ok sc__law_contents (fun vs H Q E h => spD_len _ _ _ h) (fun cdv Ar outer s H vs Q E hr h => bodyD (N := ["draws", "kind", "known"]) (f := b__law_contents) ?_ e__law_contents (by decide) h)
  exact (s_cons (s_box (i := 2) sc__law_contents.nd rfl (.inl rfl) qf_dnew)
 (s_cons (s_if (q_cmpT (opOr op_eq (op_eqD (u64 hr))) so_eq (q_vl (pv 1)) (q_c pe_str fun _ => rfl) (nomark _))
 (s_cons (s_dput (u1 hr) (pv 2) (q_c pe_str fun _ => rfl) (q_call (ok__law_pick T) (hr.mono (by decide)) (by rfl) T.g__law_pick T.F__law_pick.kp T.b__law_pick pass0 (g_slot (pv 0) (g_val (q_fr (qf_lst (q_cons (q_c pe_non fun _ => rfl) (q_cons (q_c pe_int fun _ => rfl) (q_cons (q_c pe_int fun _ => rfl) (q_cons (q_c pe_int fun _ => rfl) (q_cons (q_c pe_int fun _ => rfl) q_nil))))))) g_nil))) rfl)
 (s_cons (s_dput (u1 hr) (pv 2) (q_c pe_str fun _ => rfl) (q_call (ok__law_pick T) (hr.mono (by decide)) (by rfl) T.g__law_pick T.F__law_pick.kp T.b__law_pick pass0 (g_slot (pv 0) (g_val (q_fr (qf_lst (q_cons (q_c pe_non fun _ => rfl) (q_cons (q_c pe_str fun _ => rfl) (q_cons (q_c pe_str fun _ => rfl) (q_cons (q_c pe_str fun _ => rfl) q_nil)))))) g_nil))) rfl)
 (s_cons (s_dput (u1 hr) (pv 2) (q_c pe_str fun _ => rfl) (q_call (ok__law_number T) (hr.mono (by decide)) (by rfl) T.g__law_number T.F__law_number.kp T.b__law_number pass0 (g_slot (pv 0) g_nil)) rfl)
 (s_cons (s_dput (u1 hr) (pv 2) (q_c pe_str fun _ => rfl) (q_call (ok__law_list T) (hr.mono (by decide)) (by rfl) T.g__law_list T.F__law_list.kp T.b__law_list pass0 (g_slot (pv 0) g_nil)) rfl)
 (s_one (s_ret (q_var (pv 2))))))))
 s_nil)
 (s_cons (s_dput (u1 hr) (pv 2) (q_c pe_str fun _ => rfl) (q_call (ok__law_number T) (hr.mono (by decide)) (by rfl) T.g__law_number T.F__law_number.kp T.b__law_number pass0 (g_slot (pv 0) g_nil)) rfl)
 (s_cons (s_dput (u1 hr) (pv 2) (q_c pe_str fun _ => rfl) (q_call (ok__law_number T) (hr.mono (by decide)) (by rfl) T.g__law_number T.F__law_number.kp T.b__law_number pass0 (g_slot (pv 0) g_nil)) rfl)
 (s_cons (s_dput (u1 hr) (pv 2) (q_c pe_str fun _ => rfl) (q_call (ok__law_list T) (hr.mono (by decide)) (by rfl) T.g__law_list T.F__law_list.kp T.b__law_list pass0 (g_slot (pv 0) g_nil)) rfl)
 (s_one (s_ret (q_var (pv 2)))))))))
theorem sc__law_against : FnScope ["picture", "rules", "needed", "number", "thing", "found", "field", "names", "due", "other", "name"] ["picture", "rules", "needed", "number"] (defScope (topS 47)) := ⟨rfl, rfl, rfl, by decide +kernel, rfl, by decide +kernel, by decide +kernel⟩
theorem ok__law_against (T : Txt K mg A) : FnOk P w K mg base CX0 3 A.f__law_against A.fd__law_against ["picture", "rules", "needed", "number"] (spD K (S A) false 4 d__law_against) := by
  refine T.F__law_against.ok sc__law_against (fun vs H Q E h => spD_len _ _ _ h) (fun cdv Ar outer s H vs Q E hr h => bodyD (N := ["picture", "rules", "needed", "number", "thing", "found", "field", "names", "due", "other", "name"]) (f := b__law_against) ?_ e__law_against (by decide) h)
  exact (s_cons (s_set (i := 4) sc__law_against.nd rfl (.inr rfl) (q_dget (u1 hr) (q_vl (pv 0)) (q_vl (pv 3)) (fun _ _ => rfl)))
 (s_cons (s_box (i := 5) sc__law_against.nd rfl (.inl rfl) (qf_lst q_nil))
 (s_cons (s_set (i := 6) sc__law_against.nd rfl (.inl rfl) (q_c pe_str fun _ => rfl))
 (s_cons (s_set (i := 7) sc__law_against.nd rfl (.inl rfl) (q_fr (qf_lst (q_cons (q_c pe_str fun _ => rfl) q_nil))))
 (s_cons (s_if (q_cmpT (opOr op_eq (op_eqD (u64 hr))) so_eq (q_fld (fl_kind T) (q_vl (pv 4)) rfl) (q_c pe_str fun _ => rfl) (nomark _))
 (s_cons (s_set (i := 6) sc__law_against.nd rfl (.inl rfl) (q_c pe_str fun _ => rfl))
 (s_one (s_set (i := 7) sc__law_against.nd rfl (.inl rfl) (q_fr (qf_lst (q_cons (q_c pe_str fun _ => rfl) (q_cons (q_c pe_str fun _ => rfl) q_nil)))))))
 s_nil)
 (s_cons (s_if (q_pt (q_wand (q_val (q_vl (pv 2))) (q_wand1 (q_cmpT op_isN so_is (q_call (ok__law_told T) (hr.mono (by decide)) (by rfl) T.g__law_told T.F__law_told.kp T.b__law_told pass0 (g_val (q_vl (pv 0)) (g_val (q_vl (pv 1)) (g_val (q_vl (pv 4)) (g_val (q_vl (pv 6)) g_nil))))) (q_c pe_non fun _ => rfl) (nomark _)))))
 (s_one (s_expr (q_own PySem.F.plainAttrs_list PySem.F.slot_list_append PySem.F.type_list_append mt_append sm_app (pv 5) (q_cons (q_tup (q_cons (q_op (opOr op_add (opOr op_add_str op_cat)) so_add (q_op (opOr op_add (opOr op_add_str op_cat)) so_add (q_op (opOr op_add (opOr op_add_str op_cat)) so_add (q_fld (fl_kind T) (q_vl (pv 4)) rfl) (q_c pe_str fun _ => rfl)) (q_vl (pv 6))) (q_c pe_str fun _ => rfl)) (q_cons (q_fr (qf_lst (q_cons (q_vl (pv 6)) q_nil))) q_nil))) q_nil))))
 s_nil)
 (s_cons (s_setLc (i := 8) (vs := [10]) rfl sc__law_against.nd rfl rfl (sw_true rfl rfl rfl (by decide +kernel)) (i_seq (q_vl (pv 7))) (blkOk_by (own := [("name", 10)]) (N := ["picture", "rules", "needed", "number", "thing", "found", "field", "names", "due", "other", "name"]) (sc := defScope (topS 47)) (by decide +kernel)) rfl (fun _ _ _ _ _ => (pg_name (i := 10) sc__law_against.nd rfl (Or.inl rfl))) (Dv.g_name 10) (by decide) (fun _ _ _ _ _ => pts_nil) (fun _ _ _ h => yes_ok h) (fun _ _ _ _ _ => by exact (q_call (ok__law_told T) (hr.mono (by decide)) (by rfl) T.g__law_told T.F__law_told.kp T.b__law_told pass0 (g_val (q_vl (pv 0)) (g_val (q_vl (pv 1)) (g_val (q_vl (pv 4)) (g_val (q_vl (pv 10)) g_nil)))))))
 (s_cons (s_forD wk_keys (ps_for PassesOwn.never rfl (pi_keys (pv 0)) (pg_name (i := 9) sc__law_against.nd rfl (.inr rfl))
 (s_one (s_if (q_pt (q_wand (q_cmpT (opOr op_ne (op_neD (u64 hr))) so_ne (q_vl (pv 9)) (q_vl (pv 3)) (nomark _)) (q_wand (q_cmpT (opOr op_eq (op_eqD (u64 hr))) so_eq (q_fld (fl_kind T) (q_dget (u1 hr) (q_vl (pv 0)) (q_vl (pv 9)) (fun _ _ => rfl)) rfl) (q_fld (fl_kind T) (q_vl (pv 4)) rfl) (nomark _)) (q_wand1 (q_cmpT (opOr op_notIn_seq (op_notInD (u65 hr))) (so_or (so_in true) so_notInD) (q_c pe_non fun _ => rfl) (q_var (pv 8)) (by rfl))))))
 (s_one (s_if (q_cmpT (opOr op_eq (op_eqD (u64 hr))) so_eq (q_fr (qf_lc (vs := [10]) rfl sc__law_against.nd (i_seq (q_vl (pv 7))) (blkOk_by (own := [("name", 10)]) (N := ["picture", "rules", "needed", "number", "thing", "found", "field", "names", "due", "other", "name"]) (sc := defScope (topS 47)) (by decide +kernel)) rfl (fun _ _ _ _ _ => (pg_name (i := 10) sc__law_against.nd rfl (Or.inl rfl))) (Dv.g_name 10) (by decide) (fun _ _ _ _ _ => pts_nil) (fun _ _ _ h => yes_ok h) (fun _ _ _ _ _ => by exact (q_call (ok__law_told T) (hr.mono (by decide)) (by rfl) T.g__law_told T.F__law_told.kp T.b__law_told pass0 (g_val (q_vl (pv 0)) (g_val (q_vl (pv 1)) (g_val (q_dget (u1 hr) (q_vl (pv 0)) (q_vl (pv 9)) (fun _ _ => rfl)) (g_val (q_vl (pv 10)) g_nil)))))))) (q_var (pv 8)) (nomark _))
 (s_cons (s_expr (q_own PySem.F.plainAttrs_list PySem.F.slot_list_append PySem.F.type_list_append mt_append sm_app (pv 5) (q_cons (q_tup (q_cons (q_op (opOr op_add (opOr op_add_str op_cat)) so_add (q_op (opOr op_add (opOr op_add_str op_cat)) so_add (q_fld (fl_kind T) (q_vl (pv 4)) rfl) (q_c pe_str fun _ => rfl)) (q_join (q_c pe_str fun _ => rfl) (q_vl (pv 7)))) (q_cons (q_vl (pv 7)) q_nil))) q_nil)))
 (s_one s_break))
 s_nil))
 s_nil))) Dv.p_slot (Dv.g_name 9))
 (s_one (s_ret (q_var (pv 5))))))))))))
theorem sc__law_size : FnScope ["picture", "rules", "total", "number", "name", "told"] ["picture", "rules"] (defScope (topS 48)) := ⟨rfl, rfl, rfl, by decide +kernel, rfl, by decide +kernel, by decide +kernel⟩
theorem ok__law_size (T : Txt K mg A) : FnOk P w K mg base CX0 3 A.f__law_size A.fd__law_size ["picture", "rules"] (spD K (S A) false 2 d__law_size) := by
  refine T.F__law_size.ok sc__law_size (fun vs H Q E h => spD_len _ _ _ h) (fun cdv Ar outer s H vs Q E hr h => bodyD (N := ["picture", "rules", "total", "number", "name", "told"]) (f := b__law_size) ?_ e__law_size (by decide) h)
  exact (s_cons (s_set (i := 2) sc__law_size.nd rfl (.inl rfl) (q_c pe_int fun _ => rfl))
 (s_cons (s_forD wk_keys (ps_for PassesOwn.never rfl (pi_keys (pv 0)) (pg_name (i := 3) sc__law_size.nd rfl (.inl rfl))
 (s_cons (s_set (i := 2) sc__law_size.nd rfl (.inl rfl) (q_op (opOr op_add (opOr op_add_str op_cat)) so_add (q_vl (pv 2)) (q_c pe_int fun _ => rfl)))
 (s_one (s_for PassesOwn.never rfl (i_seq (q_call (ok__law_names T) (hr.mono (by decide)) (by rfl) T.g__law_names T.F__law_names.kp T.b__law_names pass0 (g_val (q_fld (fl_kind T) (q_dget (u1 hr) (q_vl (pv 0)) (q_vl (pv 3)) (fun _ _ => rfl)) rfl) g_nil))) (pg_name (i := 4) sc__law_size.nd rfl (.inl rfl)) (Dv.g_name 4)
 (s_cons (s_set (i := 5) sc__law_size.nd rfl (.inl rfl) (q_call (ok__law_told T) (hr.mono (by decide)) (by rfl) T.g__law_told T.F__law_told.kp T.b__law_told pass0 (g_val (q_vl (pv 0)) (g_val (q_vl (pv 1)) (g_val (q_dget (u1 hr) (q_vl (pv 0)) (q_vl (pv 3)) (fun _ _ => rfl)) (g_val (q_vl (pv 4)) g_nil))))))
 (s_cons (s_set (i := 2) sc__law_size.nd rfl (.inl rfl) (q_op (opOr op_add (opOr op_add_str op_cat)) so_add (q_vl (pv 2)) (q_c pe_int fun _ => rfl)))
 (s_one (s_if (q_pt (q_wor (q_val (q_callB call_isi (sc_is (isk T)) rfl T.b_isinstance (by decide +kernel) (q_cons (q_vl (pv 5)) (q_cons (q_c (pe_bltn (v := .ty "str") rfl T.b_str (by decide +kernel) rfl) fun _ => rfl) q_nil)))) (q_wor1 (q_val (q_callB call_isi (sc_is (isk T)) rfl T.b_isinstance (by decide +kernel) (q_cons (q_vl (pv 5)) (q_cons (q_c (pe_bltn (v := .ty "list") rfl T.b_list (by decide +kernel) rfl) fun _ => rfl) q_nil)))))))
 (s_one (s_set (i := 2) sc__law_size.nd rfl (.inl rfl) (q_op (opOr op_add (opOr op_add_str op_cat)) so_add (q_vl (pv 2)) (q_callB call_len sc_len rfl T.b_len (by decide +kernel) (q_cons (q_vl (pv 5)) q_nil)))))
 s_nil)))))))) Dv.p_slot (Dv.g_name 3))
 (s_one (s_ret (q_vl (pv 2))))))
theorem sc_told_of : FnScope ["source", "kind", "number", "name"] ["source", "kind", "number", "name"] (defScope (topS 25)) := ⟨rfl, rfl, rfl, by decide +kernel, rfl, by decide +kernel, by decide +kernel⟩
theorem ok_told_of (T : Txt K mg A) : FnOk P w K mg base CX0 4 A.f_told_of A.fd_told_of ["source", "kind", "number", "name"] (spD K (S A) false 4 d_told_of) := by
  refine T.F_told_of.ok sc_told_of (fun vs H Q E h => spD_len _ _ _ h) (fun cdv Ar outer s H vs Q E hr h => bodyD (N := ["source", "kind", "number", "name"]) (f := b_told_of) ?_ e_told_of (by decide) h)
  exact (s_one (s_ret (q_call (ok_told_content T) (hr.mono (by decide)) (by rfl) T.g_told_content T.F_told_content.kp T.b_told_content pass0 (g_val (q_vl (pv 0)) (g_val (q_meth (q_vl (pv 1)) (mt_cons ⟨T.cl_Kind, T.me_Kind_field_of, _, _, (ok_Kind_field_of T).mono (show 1 ≤ 1 by decide), T.b_Kind_field_of⟩ mt_nil) (hr.mono (by decide)) pass0 (g_val (q_vl (pv 3)) g_nil)) (g_val (q_dget (u1 hr) (q_fld (fl_contents T) (q_meth (q_vl (pv 0)) (mt_cons ⟨T.cl_PictureSource, T.me_PictureSource_thing, _, _, (ok_PictureSource_thing T).mono (show 1 ≤ 1 by decide), T.b_PictureSource_thing⟩ mt_nil) (hr.mono (by decide)) pass0 (g_val (q_vl (pv 2)) g_nil)) rfl) (q_vl (pv 3)) (fun _ _ => rfl)) g_nil))))))
theorem sc_content_size : FnScope ["source", "field", "content"] ["source", "field", "content"] (defScope (topS 30)) := ⟨rfl, rfl, rfl, by decide +kernel, rfl, by decide +kernel, by decide +kernel⟩
theorem ok_content_size (T : Txt K mg A) : FnOk P w K mg base CX0 4 A.f_content_size A.fd_content_size ["source", "field", "content"] (spD K (S A) false 3 d_content_size) := by
  refine T.F_content_size.ok sc_content_size (fun vs H Q E h => spD_len _ _ _ h) (fun cdv Ar outer s H vs Q E hr h => bodyD (N := ["source", "field", "content"]) (f := b_content_size) ?_ e_content_size (by decide) h)
  exact (s_cons (s_if (q_val (q_call (ok_is_list T) (hr.mono (by decide)) (by rfl) T.g_is_list T.F_is_list.kp T.b_is_list pass0 (g_val (q_fld (fl_shape T) (q_vl (pv 1)) rfl) g_nil)))
 (s_one (s_ret (q_op (opOr op_add (opOr op_add_str op_cat)) so_add (q_c pe_int fun _ => rfl) (q_callB call_len sc_len rfl T.b_len (by decide +kernel) (q_cons (q_call (ok_told_content T) (hr.mono (by decide)) (by rfl) T.g_told_content T.F_told_content.kp T.b_told_content pass0 (g_val (q_vl (pv 0)) (g_val (q_vl (pv 1)) (g_val (q_vl (pv 2)) g_nil)))) q_nil)))))
 s_nil)
 (s_one (s_ret (q_if (q_val (q_callB call_isi (sc_is (isk T)) rfl T.b_isinstance (by decide +kernel) (q_cons (q_vl (pv 2)) (q_cons (q_c (pe_bltn (v := .ty "str") rfl T.b_str (by decide +kernel) rfl) fun _ => rfl) q_nil)))) (q_op (opOr op_add (opOr op_add_str op_cat)) so_add (q_c pe_int fun _ => rfl) (q_callB call_len sc_len rfl T.b_len (by decide +kernel) (q_cons (q_vl (pv 2)) q_nil))) (q_c pe_int fun _ => rfl)))))
theorem sc__law_picture : FnScope ["draws", "picture", "_law_turn", "number", "kind"] ["draws"] (defScope (topS 44)) := ⟨rfl, rfl, rfl, by decide +kernel, rfl, by decide +kernel, by decide +kernel⟩
theorem ok__law_picture (T : Txt K mg A) : FnOk P w K mg base CX0 4 A.f__law_picture A.fd__law_picture ["draws"] (spD K (S A) false 1 d__law_picture) := by
  refine T.F__law_picture.ok sc__law_picture (fun vs H Q E h => spD_len _ _ _ h) (fun cdv Ar outer s H vs Q E hr h => bodyD (N := ["draws", "picture", "_law_turn", "number", "kind"]) (f := b__law_picture) ?_ e__law_picture (by decide) h)
  exact (s_cons (s_box (i := 1) sc__law_picture.nd rfl (.inl rfl) qf_dnew)
 (s_cons (s_for PassesOwn.never rfl (i_rng1 rfl T.b_range (q_cons (q_call (ok__law_draw T) (hr.mono (by decide)) (by rfl) T.g__law_draw T.F__law_draw.kp T.b__law_draw pass0 (g_slot (pv 0) (g_val (q_c pe_int fun _ => rfl) g_nil))) q_nil)) (pg_name (i := 2) sc__law_picture.nd rfl (.inl rfl)) (Dv.g_name 2)
 (s_cons (s_set (i := 3) sc__law_picture.nd rfl (.inl rfl) (q_op (opOr op_add (opOr op_add_str op_cat)) so_add (q_c pe_int fun _ => rfl) (q_call (ok__law_draw T) (hr.mono (by decide)) (by rfl) T.g__law_draw T.F__law_draw.kp T.b__law_draw pass0 (g_slot (pv 0) (g_val (q_c pe_int fun _ => rfl) g_nil)))))
 (s_cons (s_set (i := 4) sc__law_picture.nd rfl (.inl rfl) (q_call (ok__law_pick T) (hr.mono (by decide)) (by rfl) T.g__law_pick T.F__law_pick.kp T.b__law_pick pass0 (g_slot (pv 0) (g_val (q_fr (qf_lst (q_cons (q_c pe_str fun _ => rfl) (q_cons (q_c pe_str fun _ => rfl) q_nil)))) g_nil))))
 (s_one (s_dput (u1 hr) (pv 1) (q_vl (pv 3)) (q_fr (qf_make (ci := 4) (dcs := []) (fun _ => rfl) T.mk_Thing (ok_Thing___init__ T) (hr.mono (by decide)) (by rfl) T.g_Thing T.b_Thing___init__ .nil pass0 (q_cons (q_vl (pv 4)) (q_cons (q_call (ok__law_contents T) (hr.mono (by decide)) (by rfl) T.g__law_contents T.F__law_contents.kp T.b__law_contents pass0 (g_slot (pv 0) (g_val (q_vl (pv 4)) g_nil))) q_nil)))) rfl)))))
 (s_one (s_ret (q_var (pv 1))))))
theorem sc__law_first : FnScope ["picture", "rules", "needed", "touches", "touch", "text", "names", "name"] ["picture", "rules", "needed", "touches"] (defScope (topS 49)) := ⟨rfl, rfl, rfl, by decide +kernel, rfl, by decide +kernel, by decide +kernel⟩
theorem ok__law_first (T : Txt K mg A) : FnOk P w K mg base CX0 4 A.f__law_first A.fd__law_first ["picture", "rules", "needed", "touches"] (spD K (S A) false 4 d__law_first) := by
  refine T.F__law_first.ok sc__law_first (fun vs H Q E h => spD_len _ _ _ h) (fun cdv Ar outer s H vs Q E hr h => bodyD (N := ["picture", "rules", "needed", "touches", "touch", "text", "names", "name"]) (f := b__law_first) ?_ e__law_first (by decide) h)
  exact (s_cons (s_for PassesOwn.never rfl (i_seq (q_vl (pv 3))) (pg_name (i := 4) sc__law_first.nd rfl (.inr rfl)) (Dv.g_name 4)
 (s_one (s_if (q_dinT (u1 hr) (q_fld (fl_number T) (q_vl (pv 4)) rfl) (q_vl (pv 0)))
 (s_one (s_for PassesOwn.never rfl (i_seq (q_call (ok__law_against T) (hr.mono (by decide)) (by rfl) T.g__law_against T.F__law_against.kp T.b__law_against pass0 (g_val (q_vl (pv 0)) (g_val (q_vl (pv 1)) (g_val (q_vl (pv 2)) (g_val (q_fld (fl_number T) (q_vl (pv 4)) rfl) g_nil)))))) (pg_tup rfl (pgs_cons (pg_name (i := 5) sc__law_first.nd rfl (.inl rfl)) (pgs_cons (pg_name (i := 6) sc__law_first.nd rfl (.inl rfl)) pgs_nil))) (Dv.g_tup (gs_cons (Dv.g_name 5) (gs_cons (Dv.g_name 6) gs_nil)))
 (s_one (s_if (q_pt (q_wor (q_val (q_fld (fl_made T) (q_vl (pv 4)) rfl)) (q_wor1 (q_cmpT (opOr op_gt op_gt_str) so_cmp (q_callB call_len sc_len rfl T.b_len (by decide +kernel) (q_cons (q_fr (qf_lc (vs := [7]) rfl sc__law_first.nd (i_seq (q_vl (pv 6))) (blkOk_by (own := [("name", 7)]) (N := ["picture", "rules", "needed", "touches", "touch", "text", "names", "name"]) (sc := defScope (topS 49)) (by decide +kernel)) rfl (fun _ _ _ _ _ => (pg_name (i := 7) sc__law_first.nd rfl (Or.inl rfl))) (Dv.g_name 7) (by decide) (fun _ _ _ _ _ => pts_one (by exact (q_cmpT (opOr op_in_seq (op_inD (u65 hr))) (so_or (so_in false) so_inD) (q_vl (pv 7)) (q_fld (fl_names T) (q_vl (pv 4)) rfl) (by rfl)))) (fun _ _ _ h => h) (fun _ _ _ _ _ => by exact (q_vl (pv 7))))) q_nil)) (q_c pe_int fun _ => rfl) (nomark _)))))
 (s_one (s_ret (q_tup (q_cons (q_fld (fl_number T) (q_vl (pv 4)) rfl) (q_cons (q_vl (pv 5)) q_nil)))))
 s_nil))))
 s_nil)))
 (s_one (s_ret (q_c pe_non fun _ => rfl))))
theorem sc_has_double : FnScope ["source", "kind", "number", "row", "values", "name", "other"] ["source", "kind", "number", "row"] (defScope (topS 26)) := ⟨rfl, rfl, rfl, by decide +kernel, rfl, by decide +kernel, by decide +kernel⟩
theorem ok_has_double (T : Txt K mg A) : FnOk P w K mg base CX0 5 A.f_has_double A.fd_has_double ["source", "kind", "number", "row"] (spD K (S A) false 4 d_has_double) := by
  refine T.F_has_double.ok sc_has_double (fun vs H Q E h => spD_len _ _ _ h) (fun cdv Ar outer s H vs Q E hr h => bodyD (N := ["source", "kind", "number", "row", "values", "name", "other"]) (f := b_has_double) ?_ e_has_double (by decide) h)
  exact (s_cons (s_setLc (i := 4) (vs := [5]) rfl sc_has_double.nd rfl rfl (sw_true rfl rfl rfl (by decide +kernel)) (i_seq (q_vl (pv 3))) (blkOk_by (own := [("name", 5)]) (N := ["source", "kind", "number", "row", "values", "name", "other"]) (sc := defScope (topS 26)) (by decide +kernel)) rfl (fun _ _ _ _ _ => (pg_name (i := 5) sc_has_double.nd rfl (Or.inl rfl))) (Dv.g_name 5) (by decide) (fun _ _ _ _ _ => pts_nil) (fun _ _ _ h => yes_ok h) (fun _ _ _ _ _ => by exact (q_call (ok_told_of T) (hr.mono (by decide)) (by rfl) T.g_told_of T.F_told_of.kp T.b_told_of pass0 (g_val (q_vl (pv 0)) (g_val (q_vl (pv 1)) (g_val (q_vl (pv 2)) (g_val (q_vl (pv 5)) g_nil)))))))
 (s_cons (s_if (q_cmpT (opOr op_in_seq (op_inD (u65 hr))) (so_or (so_in false) so_inD) (q_c pe_non fun _ => rfl) (q_var (pv 4)) (by rfl))
 (s_one (s_ret (q_c pe_bl fun _ => rfl)))
 s_nil)
 (s_one (s_ret (q_callB (cr_any rfl) sc_any rfl T.b_any (by decide +kernel) (q_cons (q_fr (qf_lc (vs := [6]) rfl sc_has_double.nd (i_seq (q_meth (q_vl (pv 0)) (mt_cons ⟨T.cl_PictureSource, T.me_PictureSource_alike, _, _, (ok_PictureSource_alike T).mono (show 2 ≤ 2 by decide), T.b_PictureSource_alike⟩ mt_nil) (hr.mono (by decide)) pass0 (g_val (q_fld (fl_name T) (q_vl (pv 1)) rfl) (g_val (q_vl (pv 3)) (g_val (q_var (pv 4)) g_nil))))) (blkOk_by (own := [("other", 6)]) (N := ["source", "kind", "number", "row", "values", "name", "other"]) (sc := defScope (topS 26)) (by decide +kernel)) rfl (fun _ _ _ _ _ => (pg_name (i := 6) sc_has_double.nd rfl (Or.inl rfl))) (Dv.g_name 6) (by decide) (fun _ _ _ _ _ => pts_nil) (fun _ _ _ h => yes_ok h) (fun _ _ _ _ _ => by exact (q_cmp (opOr op_ne (op_neD (u64 hr))) so_ne (q_vl (pv 6)) (q_vl (pv 2)) (nomark _))))) q_nil))))))
theorem sc_thing_size : FnScope ["schema", "source", "thing", "fields", "field"] ["schema", "source", "thing"] (defScope (topS 29)) := ⟨rfl, rfl, rfl, by decide +kernel, rfl, by decide +kernel, by decide +kernel⟩
theorem ok_thing_size (T : Txt K mg A) : FnOk P w K mg base CX0 5 A.f_thing_size A.fd_thing_size ["schema", "source", "thing"] (spD K (S A) false 3 d_thing_size) := by
  refine T.F_thing_size.ok sc_thing_size (fun vs H Q E h => spD_len _ _ _ h) (fun cdv Ar outer s H vs Q E hr h => bodyD (N := ["schema", "source", "thing", "fields", "field"]) (f := b_thing_size) ?_ e_thing_size (by decide) h)
  exact (s_cons (s_set (i := 3) sc_thing_size.nd rfl (.inl rfl) (q_fld (fl_fields T) (q_meth (q_vl (pv 0)) (mt_cons ⟨T.cl_Schema, T.me_Schema_kind_of, _, _, (ok_Schema_kind_of T).mono (show 1 ≤ 1 by decide), T.b_Schema_kind_of⟩ mt_nil) (hr.mono (by decide)) pass0 (g_val (q_fld (fl_kind T) (q_vl (pv 2)) rfl) g_nil)) rfl))
 (s_one (s_ret (q_op (opOr op_add (opOr op_add_str op_cat)) so_add (q_c pe_int fun _ => rfl) (q_callB (cr_sum rfl) sc_sum rfl T.b_sum (by decide +kernel) (q_cons (q_fr (qf_lc (vs := [4]) rfl sc_thing_size.nd (i_seq (q_vl (pv 3))) (blkOk_by (own := [("field", 4)]) (N := ["schema", "source", "thing", "fields", "field"]) (sc := defScope (topS 29)) (by decide +kernel)) rfl (fun _ _ _ _ _ => (pg_name (i := 4) sc_thing_size.nd rfl (Or.inl rfl))) (Dv.g_name 4) (by decide) (fun _ _ _ _ _ => pts_nil) (fun _ _ _ h => yes_ok h) (fun _ _ _ _ _ => by exact (q_call (ok_content_size T) (hr.mono (by decide)) (by rfl) T.g_content_size T.F_content_size.kp T.b_content_size pass0 (g_val (q_vl (pv 1)) (g_val (q_vl (pv 4)) (g_val (q_dget (u1 hr) (q_fld (fl_contents T) (q_vl (pv 2)) rfl) (q_fld (fl_name T) (q_vl (pv 4)) rfl) (fun _ _ => rfl)) g_nil))))))) q_nil))))))
theorem sc_against_fields : FnScope ["schema", "picture", "number", "names", "source", "kind", "found", "field", "row", "name"] ["schema", "picture", "number", "names"] (defScope (topS 24)) := ⟨rfl, rfl, rfl, by decide +kernel, rfl, by decide +kernel, by decide +kernel⟩
theorem ok_against_fields (T : Txt K mg A) : FnOk P w K mg base CX0 6 A.f_against_fields A.fd_against_fields ["schema", "picture", "number", "names"] (spD K (S A) false 4 d_against_fields) := by
  refine T.F_against_fields.ok sc_against_fields (fun vs H Q E h => spD_len _ _ _ h) (fun cdv Ar outer s H vs Q E hr h => bodyD (N := ["schema", "picture", "number", "names", "source", "kind", "found", "field", "row", "name"]) (f := b_against_fields) ?_ e_against_fields (by decide) h)
  exact (s_cons (s_set (i := 4) sc_against_fields.nd rfl (.inl rfl) (q_fr (qf_make (ci := 5) (dcs := []) (fun _ => rfl) T.mk_PictureSource (ok_PictureSource___init__ T) (hr.mono (by decide)) (by rfl) T.g_PictureSource T.b_PictureSource___init__ .nil pass0 (q_cons (q_vl (pv 1)) q_nil))))
 (s_cons (s_set (i := 5) sc_against_fields.nd rfl (.inl rfl) (q_meth (q_vl (pv 0)) (mt_cons ⟨T.cl_Schema, T.me_Schema_kind_of, _, _, (ok_Schema_kind_of T).mono (show 1 ≤ 1 by decide), T.b_Schema_kind_of⟩ mt_nil) (hr.mono (by decide)) pass0 (g_val (q_fld (fl_kind T) (q_dget (u1 hr) (q_vl (pv 1)) (q_vl (pv 2)) (fun _ _ => rfl)) rfl) g_nil)))
 (s_cons (s_box (i := 6) sc_against_fields.nd rfl (.inl rfl) (qf_lst q_nil))
 (s_cons (s_for PassesOwn.never rfl (i_seq (q_fld (fl_fields T) (q_vl (pv 5)) rfl)) (pg_name (i := 7) sc_against_fields.nd rfl (.inl rfl)) (Dv.g_name 7)
 (s_one (s_if (q_pt (q_wand (q_val (q_fld (fl_needed T) (q_vl (pv 7)) rfl)) (q_wand (q_cmpT (opOr op_in_seq (op_inD (u65 hr))) (so_or (so_in false) so_inD) (q_fld (fl_name T) (q_vl (pv 7)) rfl) (q_vl (pv 3)) (by rfl)) (q_wand1 (q_cmpT op_isN so_is (q_call (ok_told_of T) (hr.mono (by decide)) (by rfl) T.g_told_of T.F_told_of.kp T.b_told_of pass0 (g_val (q_vl (pv 4)) (g_val (q_vl (pv 5)) (g_val (q_vl (pv 2)) (g_val (q_fld (fl_name T) (q_vl (pv 7)) rfl) g_nil))))) (q_c pe_non fun _ => rfl) (nomark _))))))
 (s_one (s_expr (q_own PySem.F.plainAttrs_list PySem.F.slot_list_append PySem.F.type_list_append mt_append sm_app (pv 6) (q_cons (q_call (ok_needed_constraint T) (hr.mono (by decide)) (by rfl) T.g_needed_constraint T.F_needed_constraint.kp T.b_needed_constraint pass0 (g_val (q_fld (fl_name T) (q_vl (pv 5)) rfl) (g_val (q_fld (fl_name T) (q_vl (pv 7)) rfl) g_nil))) q_nil))))
 s_nil)))
 (s_cons (s_for PassesOwn.never rfl (i_seq (q_fld (fl_key_rows T) (q_vl (pv 5)) rfl)) (pg_name (i := 8) sc_against_fields.nd rfl (.inl rfl)) (Dv.g_name 8)
 (s_one (s_if (q_pt (q_wand (q_val (q_callB (cr_any rfl) sc_any rfl T.b_any (by decide +kernel) (q_cons (q_fr (qf_lc (vs := [9]) rfl sc_against_fields.nd (i_seq (q_vl (pv 8))) (blkOk_by (own := [("name", 9)]) (N := ["schema", "picture", "number", "names", "source", "kind", "found", "field", "row", "name"]) (sc := defScope (topS 24)) (by decide +kernel)) rfl (fun _ _ _ _ _ => (pg_name (i := 9) sc_against_fields.nd rfl (Or.inl rfl))) (Dv.g_name 9) (by decide) (fun _ _ _ _ _ => pts_nil) (fun _ _ _ h => yes_ok h) (fun _ _ _ _ _ => by exact (q_cmp (opOr op_in_seq (op_inD (u65 hr))) (so_or (so_in false) so_inD) (q_vl (pv 9)) (q_vl (pv 3)) (by rfl))))) q_nil))) (q_wand1 (q_val (q_call (ok_has_double T) (hr.mono (by decide)) (by rfl) T.g_has_double T.F_has_double.kp T.b_has_double pass0 (g_val (q_vl (pv 4)) (g_val (q_vl (pv 5)) (g_val (q_vl (pv 2)) (g_val (q_vl (pv 8)) g_nil)))))))))
 (s_one (s_expr (q_own PySem.F.plainAttrs_list PySem.F.slot_list_append PySem.F.type_list_append mt_append sm_app (pv 6) (q_cons (q_call (ok_key_constraint T) (hr.mono (by decide)) (by rfl) T.g_key_constraint T.F_key_constraint.kp T.b_key_constraint pass0 (g_val (q_fld (fl_name T) (q_vl (pv 5)) rfl) (g_val (q_vl (pv 8)) g_nil))) q_nil))))
 s_nil)))
 (s_one (s_ret (q_var (pv 6)))))))))
theorem sc_picture_size : FnScope ["schema", "picture", "source", "thing"] ["schema", "picture"] (defScope (topS 28)) := ⟨rfl, rfl, rfl, by decide +kernel, rfl, by decide +kernel, by decide +kernel⟩
theorem ok_picture_size (T : Txt K mg A) : FnOk P w K mg base CX0 6 A.f_picture_size A.fd_picture_size ["schema", "picture"] (spD K (S A) false 2 d_picture_size) := by
  refine T.F_picture_size.ok sc_picture_size (fun vs H Q E h => spD_len _ _ _ h) (fun cdv Ar outer s H vs Q E hr h => bodyD (N := ["schema", "picture", "source", "thing"]) (f := b_picture_size) ?_ e_picture_size (by decide) h)
  exact (s_cons (s_set (i := 2) sc_picture_size.nd rfl (.inr rfl) (q_fr (qf_make (ci := 5) (dcs := []) (fun _ => rfl) T.mk_PictureSource (ok_PictureSource___init__ T) (hr.mono (by decide)) (by rfl) T.g_PictureSource T.b_PictureSource___init__ .nil pass0 (q_cons (q_vl (pv 1)) q_nil))))
 (s_one (s_ret (q_callB (cr_sum rfl) sc_sum rfl T.b_sum (by decide +kernel) (q_cons (q_fr (qf_lcD (vs := [3]) rfl sc_picture_size.nd (pi_values (pv 1)) wk_vals Dv.p_slot (blkOk_by (own := [("thing", 3)]) (N := ["schema", "picture", "source", "thing"]) (sc := defScope (topS 28)) (by decide +kernel)) rfl (fun _ _ _ _ _ => (pg_name (i := 3) sc_picture_size.nd rfl (Or.inl rfl))) (Dv.g_name 3) (by decide) (fun _ _ _ _ _ => pts_nil) (fun _ _ _ h => yes_ok h) (fun _ _ _ _ _ => by exact (q_call (ok_thing_size T) (hr.mono (by decide)) (by rfl) T.g_thing_size T.F_thing_size.kp T.b_thing_size pass0 (g_val (q_vl (pv 0)) (g_val (q_vl (pv 2)) (g_val (q_vl (pv 3)) g_nil))))))) q_nil)))))
theorem sc_constraints_against : FnScope ["schema", "picture", "number", "kind"] ["schema", "picture", "number"] (defScope (topS 23)) := ⟨rfl, rfl, rfl, by decide +kernel, rfl, by decide +kernel, by decide +kernel⟩
theorem ok_constraints_against (T : Txt K mg A) : FnOk P w K mg base CX0 7 A.f_constraints_against A.fd_constraints_against ["schema", "picture", "number"] (spD K (S A) false 3 d_constraints_against) := by
  refine T.F_constraints_against.ok sc_constraints_against (fun vs H Q E h => spD_len _ _ _ h) (fun cdv Ar outer s H vs Q E hr h => bodyD (N := ["schema", "picture", "number", "kind"]) (f := b_constraints_against) ?_ e_constraints_against (by decide) h)
  exact (s_cons (s_set (i := 3) sc_constraints_against.nd rfl (.inl rfl) (q_meth (q_vl (pv 0)) (mt_cons ⟨T.cl_Schema, T.me_Schema_kind_of, _, _, (ok_Schema_kind_of T).mono (show 1 ≤ 1 by decide), T.b_Schema_kind_of⟩ mt_nil) (hr.mono (by decide)) pass0 (g_val (q_fld (fl_kind T) (q_dget (u1 hr) (q_vl (pv 1)) (q_vl (pv 2)) (fun _ _ => rfl)) rfl) g_nil)))
 (s_one (s_ret (q_call (ok_against_fields T) (hr.mono (by decide)) (by rfl) T.g_against_fields T.F_against_fields.kp T.b_against_fields pass0 (g_val (q_vl (pv 0)) (g_val (q_vl (pv 1)) (g_val (q_vl (pv 2)) (g_val (q_meth0 (q_vl (pv 3)) (mt_cons ⟨T.cl_Kind, T.me_Kind_names, _, _, (ok_Kind_names T).mono (show 1 ≤ 1 by decide), T.b_Kind_names⟩ (mt_cons ⟨T.cl_Schema, T.me_Schema_names, _, _, (ok_Schema_names T).mono (show 1 ≤ 1 by decide), T.b_Schema_names⟩ mt_nil)) (hr.mono (by decide)) pass0) g_nil))))))))
theorem sc_first_against : FnScope ["schema", "picture", "touches", "touch", "names", "found"] ["schema", "picture", "touches"] (defScope (topS 27)) := ⟨rfl, rfl, rfl, by decide +kernel, rfl, by decide +kernel, by decide +kernel⟩
theorem ok_first_against (T : Txt K mg A) : FnOk P w K mg base CX0 7 A.f_first_against A.fd_first_against ["schema", "picture", "touches"] (spD K (S A) false 3 d_first_against) := by
  refine T.F_first_against.ok sc_first_against (fun vs H Q E h => spD_len _ _ _ h) (fun cdv Ar outer s H vs Q E hr h => bodyD (N := ["schema", "picture", "touches", "touch", "names", "found"]) (f := b_first_against) ?_ e_first_against (by decide) h)
  exact (s_cons (s_for PassesOwn.never rfl (i_seq (q_vl (pv 2))) (pg_name (i := 3) sc_first_against.nd rfl (.inl rfl)) (Dv.g_name 3)
 (s_one (s_if (q_dinT (u1 hr) (q_fld (fl_number T) (q_vl (pv 3)) rfl) (q_vl (pv 1)))
 (s_cons (s_set (i := 4) sc_first_against.nd rfl (.inl rfl) (q_if (q_val (q_fld (fl_made T) (q_vl (pv 3)) rfl)) (q_meth0 (q_meth (q_vl (pv 0)) (mt_cons ⟨T.cl_Schema, T.me_Schema_kind_of, _, _, (ok_Schema_kind_of T).mono (show 1 ≤ 1 by decide), T.b_Schema_kind_of⟩ mt_nil) (hr.mono (by decide)) pass0 (g_val (q_fld (fl_kind T) (q_dget (u1 hr) (q_vl (pv 1)) (q_fld (fl_number T) (q_vl (pv 3)) rfl) (fun _ _ => rfl)) rfl) g_nil)) (mt_cons ⟨T.cl_Kind, T.me_Kind_names, _, _, (ok_Kind_names T).mono (show 1 ≤ 1 by decide), T.b_Kind_names⟩ (mt_cons ⟨T.cl_Schema, T.me_Schema_names, _, _, (ok_Schema_names T).mono (show 1 ≤ 1 by decide), T.b_Schema_names⟩ mt_nil)) (hr.mono (by decide)) pass0) (q_fld (fl_names T) (q_vl (pv 3)) rfl)))
 (s_cons (s_set (i := 5) sc_first_against.nd rfl (.inl rfl) (q_call (ok_against_fields T) (hr.mono (by decide)) (by rfl) T.g_against_fields T.F_against_fields.kp T.b_against_fields pass0 (g_val (q_vl (pv 0)) (g_val (q_vl (pv 1)) (g_val (q_fld (fl_number T) (q_vl (pv 3)) rfl) (g_val (q_vl (pv 4)) g_nil))))))
 (s_one (s_if (q_cmpT (opOr op_gt op_gt_str) so_cmp (q_callB call_len sc_len rfl T.b_len (by decide +kernel) (q_cons (q_vl (pv 5)) q_nil)) (q_c pe_int fun _ => rfl) (nomark _))
 (s_one (s_ret (q_tup (q_cons (q_fld (fl_number T) (q_vl (pv 3)) rfl) (q_cons (q_ix ix_seq so_ix (q_vl (pv 5)) (q_c pe_int fun _ => rfl) (fun _ _ => rfl)) q_nil)))))
 s_nil))))
 s_nil)))
 (s_one (s_ret (q_c pe_non fun _ => rfl))))
theorem sc_law : FnScope ["script", "draws", "rules", "needed", "schema", "picture", "number", "due", "touches", "names", "found", "row", "name"] ["script"] (defScope (topS 50)) := ⟨rfl, rfl, rfl, by decide +kernel, rfl, by decide +kernel, by decide +kernel⟩
theorem ok_law (T : Txt K mg A) : FnOk P w K mg base CX0 8 A.f_law A.fd_law ["script"] (spD K (S A) false 1 d_law) := by
  refine T.F_law.ok sc_law (fun vs H Q E h => spD_len _ _ _ h) (fun cdv Ar outer s H vs Q E hr h => bodyD (N := ["script", "draws", "rules", "needed", "schema", "picture", "number", "due", "touches", "names", "found", "row", "name"]) (f := b_law) ?_ e_law (by decide) h)
  exact (s_cons (s_box (i := 1) sc_law.nd rfl (.inr rfl) (qf_call (ok__law_cells T) (hr.mono (by decide)) (by rfl) T.g__law_cells T.F__law_cells.kp T.b__law_cells pass0 (g_val (q_vl (pv 0)) (g_val (q_c pe_int fun _ => rfl) g_nil))))
 (s_cons (s_set (i := 2) sc_law.nd rfl (.inl rfl) (q_call (ok__law_rules T) (hr.mono (by decide)) (by rfl) T.g__law_rules T.F__law_rules.kp T.b__law_rules pass0 (g_slot (pv 1) g_nil)))
 (s_cons (s_set (i := 3) sc_law.nd rfl (.inl rfl) (q_cmp (opOr op_eq (op_eqD (u64 hr))) so_eq (q_call (ok__law_draw T) (hr.mono (by decide)) (by rfl) T.g__law_draw T.F__law_draw.kp T.b__law_draw pass0 (g_slot (pv 1) (g_val (q_c pe_int fun _ => rfl) g_nil))) (q_c pe_int fun _ => rfl) (nomark _)))
 (s_cons (s_set (i := 4) sc_law.nd rfl (.inl rfl) (q_call (ok__law_schema T) (hr.mono (by decide)) (by rfl) T.g__law_schema T.F__law_schema.kp T.b__law_schema pass0 (g_val (q_vl (pv 2)) (g_val (q_vl (pv 3)) g_nil))))
 (s_cons (s_set (i := 5) sc_law.nd rfl (.inl rfl) (q_call (ok__law_picture T) (hr.mono (by decide)) (by rfl) T.g__law_picture T.F__law_picture.kp T.b__law_picture pass0 (g_slot (pv 1) g_nil)))
 (s_cons (s_for PassesOwn.never rfl (i_seq (q_fr (qf_callB (cr_sortedI) sc_sorted rfl T.b_sorted (by decide +kernel) (q_cons (q_fr (qf_callTy (call_listD rfl) sc_listD rfl T.b_list (by decide +kernel) (q_cons (q_vl (pv 5)) q_nil))) q_nil)))) (pg_name (i := 6) sc_law.nd rfl (.inl rfl)) (Dv.g_name 6)
 (s_cons (s_setLc (i := 7) (vs := [11]) rfl sc_law.nd rfl rfl (sw_true rfl rfl rfl (by decide +kernel)) (i_seq (q_call (ok__law_against T) (hr.mono (by decide)) (by rfl) T.g__law_against T.F__law_against.kp T.b__law_against pass0 (g_val (q_vl (pv 5)) (g_val (q_vl (pv 2)) (g_val (q_vl (pv 3)) (g_val (q_vl (pv 6)) g_nil)))))) (blkOk_by (own := [("row", 11)]) (N := ["script", "draws", "rules", "needed", "schema", "picture", "number", "due", "touches", "names", "found", "row", "name"]) (sc := defScope (topS 50)) (by decide +kernel)) rfl (fun _ _ _ _ _ => (pg_name (i := 11) sc_law.nd rfl (Or.inl rfl))) (Dv.g_name 11) (by decide) (fun _ _ _ _ _ => pts_nil) (fun _ _ _ h => yes_ok h) (fun _ _ _ _ _ => by exact (q_ix ix_seq so_ix (q_vl (pv 11)) (q_c pe_int fun _ => rfl) (fun _ _ => rfl))))
 (s_one (s_if (q_cmpT (opOr op_ne (op_neD (u64 hr))) so_ne (q_call (ok_constraints_against T) (hr.mono (by decide)) (by rfl) T.g_constraints_against T.F_constraints_against.kp T.b_constraints_against pass0 (g_val (q_vl (pv 4)) (g_val (q_vl (pv 5)) (g_val (q_vl (pv 6)) g_nil)))) (q_var (pv 7)) (nomark _))
 (s_one (s_ret (q_c pe_bl fun _ => rfl)))
 s_nil))))
 (s_cons (s_box (i := 8) sc_law.nd rfl (.inl rfl) (qf_lst q_nil))
 (s_cons (s_for PassesOwn.never rfl (i_rng2 rfl T.b_range (q_cons (q_c pe_int fun _ => rfl) (q_cons (q_c pe_int fun _ => rfl) q_nil))) (pg_name (i := 6) sc_law.nd rfl (.inl rfl)) (Dv.g_name 6)
 (s_one (s_if (q_pt (q_wand (q_cmpT (opOr op_eq (op_eqD (u64 hr))) so_eq (q_call (ok__law_draw T) (hr.mono (by decide)) (by rfl) T.g__law_draw T.F__law_draw.kp T.b__law_draw pass0 (g_slot (pv 1) (g_val (q_c pe_int fun _ => rfl) g_nil))) (q_c pe_int fun _ => rfl) (nomark _)) (q_wand1 (q_borT (q_cmpT (opOr op_lt op_lt_str) so_cmp (q_callB call_len sc_len rfl T.b_len (by decide +kernel) (q_cons (q_vl (pv 8)) q_nil)) (q_c pe_int fun _ => rfl) (nomark _))))))
 (s_cons (s_set (i := 9) sc_law.nd rfl (.inl rfl) (q_fr (qf_lst q_nil)))
 (s_cons (s_if (q_dinT (u1 hr) (q_vl (pv 6)) (q_vl (pv 5)))
 (s_one (s_setLc (i := 9) (vs := [12]) rfl sc_law.nd rfl rfl (sw_true rfl rfl rfl (by decide +kernel)) (i_seq (q_call (ok__law_names T) (hr.mono (by decide)) (by rfl) T.g__law_names T.F__law_names.kp T.b__law_names pass0 (g_val (q_fld (fl_kind T) (q_dget (u1 hr) (q_vl (pv 5)) (q_vl (pv 6)) (fun _ _ => rfl)) rfl) g_nil))) (blkOk_by (own := [("name", 12)]) (N := ["script", "draws", "rules", "needed", "schema", "picture", "number", "due", "touches", "names", "found", "row", "name"]) (sc := defScope (topS 50)) (by decide +kernel)) rfl (fun _ _ _ _ _ => (pg_name (i := 12) sc_law.nd rfl (Or.inl rfl))) (Dv.g_name 12) (by decide) (fun _ _ _ _ _ => pts_one (by exact (q_cmpT (opOr op_eq (op_eqD (u64 hr))) so_eq (q_call (ok__law_draw T) (hr.mono (by decide)) (by rfl) T.g__law_draw T.F__law_draw.kp T.b__law_draw pass0 (g_slot (pv 1) (g_val (q_c pe_int fun _ => rfl) g_nil))) (q_c pe_int fun _ => rfl) (nomark _)))) (fun _ _ _ h => h) (fun _ _ _ _ _ => by exact (q_vl (pv 12)))))
 s_nil)
 (s_one (s_expr (q_own PySem.F.plainAttrs_list PySem.F.slot_list_append PySem.F.type_list_append mt_append sm_app (pv 8) (q_cons (q_fr (qf_make (ci := 9) (dcs := []) (fun _ => rfl) T.mk_Touch (ok_Touch___init__ T) (hr.mono (by decide)) (by rfl) T.g_Touch T.b_Touch___init__ .nil pass0 (q_cons (q_vl (pv 6)) (q_cons (q_cmp (opOr op_eq (op_eqD (u64 hr))) so_eq (q_call (ok__law_draw T) (hr.mono (by decide)) (by rfl) T.g__law_draw T.F__law_draw.kp T.b__law_draw pass0 (g_slot (pv 1) (g_val (q_c pe_int fun _ => rfl) g_nil))) (q_c pe_int fun _ => rfl) (nomark _)) (q_cons (q_c pe_bl fun _ => rfl) (q_cons (q_var (pv 9)) q_nil)))))) q_nil))))))
 s_nil)))
 (s_cons (s_if (q_cmpT (opOr op_ne (op_neD (u64 hr))) so_ne (q_call (ok_first_against T) (hr.mono (by decide)) (by rfl) T.g_first_against T.F_first_against.kp T.b_first_against pass0 (g_val (q_vl (pv 4)) (g_val (q_vl (pv 5)) (g_val (q_var (pv 8)) g_nil)))) (q_call (ok__law_first T) (hr.mono (by decide)) (by rfl) T.g__law_first T.F__law_first.kp T.b__law_first pass0 (g_val (q_vl (pv 5)) (g_val (q_vl (pv 2)) (g_val (q_vl (pv 3)) (g_val (q_var (pv 8)) g_nil))))) (nomark _))
 (s_one (s_ret (q_c pe_bl fun _ => rfl)))
 s_nil)
 (s_cons (s_set (i := 10) sc_law.nd rfl (.inl rfl) (q_call (ok_picture_size T) (hr.mono (by decide)) (by rfl) T.g_picture_size T.F_picture_size.kp T.b_picture_size pass0 (g_val (q_vl (pv 4)) (g_val (q_vl (pv 5)) g_nil))))
 (s_one (s_ret (q_and (q_callB call_isi (sc_is (isk T)) rfl T.b_isinstance (by decide +kernel) (q_cons (q_vl (pv 10)) (q_cons (q_c (pe_bltn (v := .ty "int") rfl T.b_int (by decide +kernel) rfl) fun _ => rfl) q_nil))) (q_one (q_cmp (opOr op_eq (op_eqD (u64 hr))) so_eq (q_vl (pv 10)) (q_call (ok__law_size T) (hr.mono (by decide)) (by rfl) T.g__law_size T.F__law_size.kp T.b__law_size pass0 (g_val (q_vl (pv 5)) (g_val (q_vl (pv 2)) g_nil))) (nomark _))))))))))))))))
end
end
end K46
namespace K46
open PySem PySem.Spec PyProof.Rows L2 Dv
set_option autoImplicit false
noncomputable section
open Rn
set_option maxHeartbeats 0
def e0 (K : PySem.W.Frag) : List Bool := [eqN (PySem.W.nsIn K mainGlobals "all"), eqN (PySem.W.nsIn K mainGlobals "any"), eqN (PySem.W.nsIn K mainGlobals "int"), eqN (PySem.W.nsIn K mainGlobals "isinstance"), eqN (PySem.W.nsIn K mainGlobals "len"), eqN (PySem.W.nsIn K mainGlobals "list"), eqN (PySem.W.nsIn K mainGlobals "range"), eqN (PySem.W.nsIn K mainGlobals "sorted"), eqN (PySem.W.nsIn K mainGlobals "str"), eqN (PySem.W.nsIn K mainGlobals "sum"), eqN (PySem.W.nsIn K mainGlobals "zip"), eqR (PySem.W.nsIn K mainGlobals "IntSort") 59, eqR (PySem.W.nsIn K mainGlobals "TextSort") 102, eqR (PySem.W.nsIn K mainGlobals "RefSort") 144, eqR (PySem.W.nsIn K mainGlobals "ListSort") 186, eqR (PySem.W.nsIn K mainGlobals "Thing") 233, eqR (PySem.W.nsIn K mainGlobals "PictureSource") 297, eqR (PySem.W.nsIn K mainGlobals "Field") 331, eqR (PySem.W.nsIn K mainGlobals "Kind") 369, eqR (PySem.W.nsIn K mainGlobals "Schema") 416, eqR (PySem.W.nsIn K mainGlobals "Touch") 506, eqR (PySem.W.nsIn K mainGlobals "is_reference") 197, eqR (PySem.W.nsIn K mainGlobals "is_list") 204, eqR (PySem.W.nsIn K mainGlobals "content_copy") 244, eqR (PySem.W.nsIn K mainGlobals "told_content") 249, eqR (PySem.W.nsIn K mainGlobals "is_one_of") 256, eqR (PySem.W.nsIn K mainGlobals "has_amounts") 306, eqR (PySem.W.nsIn K mainGlobals "needed_constraint") 427, eqR (PySem.W.nsIn K mainGlobals "key_constraint") 434, eqR (PySem.W.nsIn K mainGlobals "constraints_against") 441, eqR (PySem.W.nsIn K mainGlobals "against_fields") 446, eqR (PySem.W.nsIn K mainGlobals "told_of") 453, eqR (PySem.W.nsIn K mainGlobals "has_double") 458, eqR (PySem.W.nsIn K mainGlobals "first_against") 465, eqR (PySem.W.nsIn K mainGlobals "picture_size") 470, eqR (PySem.W.nsIn K mainGlobals "thing_size") 475, eqR (PySem.W.nsIn K mainGlobals "content_size") 482, eqR (PySem.W.nsIn K mainGlobals "_law_cells") 517, eqR (PySem.W.nsIn K mainGlobals "_law_draw") 524, eqR (PySem.W.nsIn K mainGlobals "_law_pick") 531]
def e1 (K : PySem.W.Frag) : List Bool := [eqR (PySem.W.nsIn K mainGlobals "_law_links") 538, eqR (PySem.W.nsIn K mainGlobals "_law_names") 545, eqR (PySem.W.nsIn K mainGlobals "_law_rules") 550, eqR (PySem.W.nsIn K mainGlobals "_law_schema") 557, eqR (PySem.W.nsIn K mainGlobals "_law_number") 564, eqR (PySem.W.nsIn K mainGlobals "_law_list") 571, eqR (PySem.W.nsIn K mainGlobals "_law_contents") 578, eqR (PySem.W.nsIn K mainGlobals "_law_picture") 585, eqR (PySem.W.nsIn K mainGlobals "_law_there") 592, eqR (PySem.W.nsIn K mainGlobals "_law_told") 597, eqR (PySem.W.nsIn K mainGlobals "_law_against") 602, eqR (PySem.W.nsIn K mainGlobals "_law_size") 609, eqR (PySem.W.nsIn K mainGlobals "_law_first") 614, eqR (PySem.W.nsIn K mainGlobals "law") 619]
def e2 (K : PySem.W.Frag) : List Bool := [PySem.W.plainGet K 59 Str.empty, PySem.W.hasDictIn K 59, PySem.W.plainOver K 59, eqF (PySem.W.findIn K (.ref 59) "__setattr__") "object.__setattr__", PySem.W.makesIn K 59, PySem.W.keepIn K (.ref 59), eqN (PySem.W.findIn K (.ref 59) "low"), eqN (PySem.W.findIn K (.ref 59) "high"), eqR (PySem.W.findIn K (.ref 59) "__init__") 35, eqF (PySem.W.findIn K (.ref 59) "__class__") "object.__class__", eqB (PySem.W.mroIn K 59 (.type "object")) true]
def e3 (K : PySem.W.Frag) : List Bool := [PySem.W.plainGet K 102 Str.empty, PySem.W.hasDictIn K 102, PySem.W.plainOver K 102, eqF (PySem.W.findIn K (.ref 102) "__setattr__") "object.__setattr__", PySem.W.makesIn K 102, PySem.W.keepIn K (.ref 102), eqN (PySem.W.findIn K (.ref 102) "longest"), eqN (PySem.W.findIn K (.ref 102) "without"), eqR (PySem.W.findIn K (.ref 102) "__init__") 78, eqF (PySem.W.findIn K (.ref 102) "__class__") "object.__class__", eqB (PySem.W.mroIn K 102 (.type "object")) true]
def e4 (K : PySem.W.Frag) : List Bool := [PySem.W.plainGet K 144 Str.empty, PySem.W.hasDictIn K 144, PySem.W.plainOver K 144, eqF (PySem.W.findIn K (.ref 144) "__setattr__") "object.__setattr__", PySem.W.makesIn K 144, PySem.W.keepIn K (.ref 144), eqN (PySem.W.findIn K (.ref 144) "kinds"), eqN (PySem.W.findIn K (.ref 144) "rule"), eqR (PySem.W.findIn K (.ref 144) "__init__") 120, eqF (PySem.W.findIn K (.ref 144) "__class__") "object.__class__", eqB (PySem.W.mroIn K 144 (.type "object")) true]
def e5 (K : PySem.W.Frag) : List Bool := [PySem.W.plainGet K 186 Str.empty, PySem.W.hasDictIn K 186, PySem.W.plainOver K 186, eqF (PySem.W.findIn K (.ref 186) "__setattr__") "object.__setattr__", PySem.W.makesIn K 186, PySem.W.keepIn K (.ref 186), eqN (PySem.W.findIn K (.ref 186) "kinds"), eqR (PySem.W.findIn K (.ref 186) "__init__") 162, eqF (PySem.W.findIn K (.ref 186) "__class__") "object.__class__", eqB (PySem.W.mroIn K 186 (.type "object")) true]
def e6 (K : PySem.W.Frag) : List Bool := [PySem.W.plainGet K 233 Str.empty, PySem.W.hasDictIn K 233, PySem.W.plainOver K 233, eqF (PySem.W.findIn K (.ref 233) "__setattr__") "object.__setattr__", PySem.W.makesIn K 233, PySem.W.keepIn K (.ref 233), eqN (PySem.W.findIn K (.ref 233) "kind"), eqN (PySem.W.findIn K (.ref 233) "contents"), eqR (PySem.W.findIn K (.ref 233) "__init__") 216]
def e7 (K : PySem.W.Frag) : List Bool := [PySem.W.plainGet K 297 Str.empty, PySem.W.hasDictIn K 297, PySem.W.plainOver K 297, eqF (PySem.W.findIn K (.ref 297) "__setattr__") "object.__setattr__", PySem.W.makesIn K 297, PySem.W.keepIn K (.ref 297), eqN (PySem.W.findIn K (.ref 297) "things"), eqR (PySem.W.findIn K (.ref 297) "__init__") 270, eqR (PySem.W.findIn K (.ref 297) "thing") 277, eqR (PySem.W.findIn K (.ref 297) "numbers") 282, eqR (PySem.W.findIn K (.ref 297) "alike") 294]
def e8 (K : PySem.W.Frag) : List Bool := [PySem.W.plainGet K 331 Str.empty, PySem.W.hasDictIn K 331, PySem.W.plainOver K 331, eqF (PySem.W.findIn K (.ref 331) "__setattr__") "object.__setattr__", PySem.W.makesIn K 331, PySem.W.keepIn K (.ref 331), eqN (PySem.W.findIn K (.ref 331) "name"), eqN (PySem.W.findIn K (.ref 331) "shape"), eqN (PySem.W.findIn K (.ref 331) "needed"), eqR (PySem.W.findIn K (.ref 331) "__init__") 321]
def e9 (K : PySem.W.Frag) : List Bool := [PySem.W.plainGet K 369 Str.empty, PySem.W.hasDictIn K 369, PySem.W.plainOver K 369, eqF (PySem.W.findIn K (.ref 369) "__setattr__") "object.__setattr__", PySem.W.makesIn K 369, PySem.W.keepIn K (.ref 369), eqN (PySem.W.findIn K (.ref 369) "name"), eqN (PySem.W.findIn K (.ref 369) "fields"), eqN (PySem.W.findIn K (.ref 369) "key_rows"), eqR (PySem.W.findIn K (.ref 369) "__init__") 347, eqR (PySem.W.findIn K (.ref 369) "field_of") 354, eqR (PySem.W.findIn K (.ref 369) "names") 359]
def e10 (K : PySem.W.Frag) : List Bool := [PySem.W.plainGet K 416 Str.empty, PySem.W.hasDictIn K 416, PySem.W.plainOver K 416, eqF (PySem.W.findIn K (.ref 416) "__setattr__") "object.__setattr__", PySem.W.makesIn K 416, PySem.W.keepIn K (.ref 416), eqN (PySem.W.findIn K (.ref 416) "kinds"), eqR (PySem.W.findIn K (.ref 416) "__init__") 387, eqR (PySem.W.findIn K (.ref 416) "kind_of") 394, eqR (PySem.W.findIn K (.ref 416) "names") 406]
def e11 (K : PySem.W.Frag) : List Bool := [PySem.W.plainGet K 506 Str.empty, PySem.W.hasDictIn K 506, PySem.W.plainOver K 506, eqF (PySem.W.findIn K (.ref 506) "__setattr__") "object.__setattr__", PySem.W.makesIn K 506, PySem.W.keepIn K (.ref 506), eqN (PySem.W.findIn K (.ref 506) "number"), eqN (PySem.W.findIn K (.ref 506) "made"), eqN (PySem.W.findIn K (.ref 506) "gone"), eqN (PySem.W.findIn K (.ref 506) "names"), eqR (PySem.W.findIn K (.ref 506) "__init__") 496]
def e12 (K : PySem.W.Frag) : List Bool := [eqF (PySem.W.specialIn K (.builtin "object.__class__") "__get__") "getset_descriptor.__get__", eqB (PySem.W.takesIn K (.builtin "object.__class__")) true, eqB (PySem.W.kitOne K (.ref 59) (.ref 144)) false, eqB (PySem.W.kitOne K (.ref 102) (.ref 144)) false, eqB (PySem.W.kitOne K (.ref 144) (.ref 144)) true, eqB (PySem.W.kitOne K (.ref 186) (.ref 144)) false, eqB (PySem.W.kitOne K (.ref 59) (.ref 186)) false, eqB (PySem.W.kitOne K (.ref 102) (.ref 186)) false, eqB (PySem.W.kitOne K (.ref 144) (.ref 186)) false, eqB (PySem.W.kitOne K (.ref 186) (.ref 186)) true]
def e13 (K : PySem.W.Frag) : List Bool := [fkB K 35 "IntSort.__init__", fnBD K 78 "TextSort.__init__" [V.non], PySem.W.keepIn K (.ref 78), PySem.W.isFn K (.ref 78), fkB K 120 "RefSort.__init__", fkB K 162 "ListSort.__init__", fkB K 216 "Thing.__init__", fkB K 270 "PictureSource.__init__", fkB K 277 "PictureSource.thing", fkB K 282 "PictureSource.numbers", fkB K 294 "PictureSource.alike", fnBD K 321 "Field.__init__" [V.bl false], PySem.W.keepIn K (.ref 321), PySem.W.isFn K (.ref 321), fkB K 347 "Kind.__init__", fkB K 354 "Kind.field_of", fkB K 359 "Kind.names", fkB K 387 "Schema.__init__", fkB K 394 "Schema.kind_of", fkB K 406 "Schema.names", fkB K 496 "Touch.__init__", fkB K 197 "is_reference", fkB K 204 "is_list", fkB K 244 "content_copy", fkB K 249 "told_content", fkB K 256 "is_one_of", fkB K 306 "has_amounts", fkB K 427 "needed_constraint", fkB K 434 "key_constraint", fkB K 441 "constraints_against", fkB K 446 "against_fields", fkB K 453 "told_of", fkB K 458 "has_double", fkB K 465 "first_against", fkB K 470 "picture_size", fkB K 475 "thing_size", fkB K 482 "content_size", fkB K 517 "_law_cells", fkB K 524 "_law_draw", fkB K 531 "_law_pick"]
def e14 (K : PySem.W.Frag) : List Bool := [fkB K 538 "_law_links", fkB K 545 "_law_names", fkB K 550 "_law_rules", fkB K 557 "_law_schema", fkB K 564 "_law_number", fkB K 571 "_law_list", fkB K 578 "_law_contents", fkB K 585 "_law_picture", fkB K 592 "_law_there", fkB K 597 "_law_told", fkB K 602 "_law_against", fkB K 609 "_law_size", fkB K 614 "_law_first", fkB K 619 "law"]
def eA (K : PySem.W.Frag) : List Bool := [allB (e0 K), allB (e1 K)]
def eB (K : PySem.W.Frag) : List Bool := [allB (e13 K), allB (e14 K)]
def eC (K : PySem.W.Frag) : List Bool := [allB (e12 K)]
def eP (K : PySem.W.Frag) : List Bool := [allB (e2 K), allB (e3 K), allB (e4 K), allB (e5 K), allB (e6 K), allB (e7 K), allB (e8 K), allB (e9 K), allB (e10 K), allB (e11 K)]
def exB (K : PySem.W.Frag) : Bool := allB [allB (eA K), allB (eB K), allB (eC K), allB (eP K)]
def asL0 : List Addr := [3, 2, 59, 58, 102, 101, 144, 143, 186, 185, 233, 232, 297, 296, 331, 330, 369, 368, 416, 415, 506, 505, 35, 34, 78, 77, 71, 120, 119, 162, 161, 216, 215, 270, 269, 277, 276, 282, 281, 294]
def asL1 : List Addr := [293, 321, 320, 314, 347, 346, 354, 353, 359, 358, 387, 386, 394, 393, 406, 405, 496, 495, 197, 196, 204, 203, 244, 243, 249, 248, 256, 255, 306, 305, 427, 426, 434, 433, 441, 440, 446, 445, 453, 452]
def asL2 : List Addr := [458, 457, 465, 464, 470, 469, 475, 474, 482, 481, 517, 516, 524, 523, 531, 530, 538, 537, 545, 544, 550, 549, 557, 556, 564, 563, 571, 570, 578, 577, 585, 584, 592, 591, 597, 596, 602, 601, 609, 608]
def asL3 : List Addr := [614, 613, 619, 618]
def asL : List Addr := asL0 ++ asL1 ++ asL2 ++ asL3
def fsL0 : List Addr := [35, 78, 120, 162, 216, 270, 277, 282, 294, 321, 347, 354, 359, 387, 394, 406, 496, 197, 204, 244, 249, 256, 306, 427, 434, 441, 446, 453, 458, 465, 470, 475, 482, 517, 524, 531, 538, 545, 550, 557]
def fsL1 : List Addr := [564, 571, 578, 585, 592, 597, 602, 609, 614, 619]
def fsL : List Addr := fsL0 ++ fsL1
def fvL0 : List FnX := [fnV "__init__" "IntSort.__init__" (inClass (topS 2) 0), fnV "__init__" "TextSort.__init__" (inClass (topS 3) 0), fnV "__init__" "RefSort.__init__" (inClass (topS 4) 0), fnV "__init__" "ListSort.__init__" (inClass (topS 5) 0), fnV "__init__" "Thing.__init__" (inClass (topS 9) 0), fnV "__init__" "PictureSource.__init__" (inClass (topS 14) 0), fnV "thing" "PictureSource.thing" (inClass (topS 14) 1), fnV "numbers" "PictureSource.numbers" (inClass (topS 14) 2), fnV "alike" "PictureSource.alike" (inClass (topS 14) 4), fnV "__init__" "Field.__init__" (inClass (topS 17) 0), fnV "__init__" "Kind.__init__" (inClass (topS 18) 0), fnV "field_of" "Kind.field_of" (inClass (topS 18) 1), fnV "names" "Kind.names" (inClass (topS 18) 2), fnV "__init__" "Schema.__init__" (inClass (topS 19) 0), fnV "kind_of" "Schema.kind_of" (inClass (topS 19) 1), fnV "names" "Schema.names" (inClass (topS 19) 3), fnV "__init__" "Touch.__init__" (inClass (topS 32) 0), fnV "is_reference" "is_reference" (topS 6), fnV "is_list" "is_list" (topS 7), fnV "content_copy" "content_copy" (topS 10), fnV "told_content" "told_content" (topS 11), fnV "is_one_of" "is_one_of" (topS 12), fnV "has_amounts" "has_amounts" (topS 15), fnV "needed_constraint" "needed_constraint" (topS 20), fnV "key_constraint" "key_constraint" (topS 21), fnV "constraints_against" "constraints_against" (topS 23), fnV "against_fields" "against_fields" (topS 24), fnV "told_of" "told_of" (topS 25), fnV "has_double" "has_double" (topS 26), fnV "first_against" "first_against" (topS 27), fnV "picture_size" "picture_size" (topS 28), fnV "thing_size" "thing_size" (topS 29), fnV "content_size" "content_size" (topS 30), fnV "_law_cells" "_law_cells" (topS 34), fnV "_law_draw" "_law_draw" (topS 35), fnV "_law_pick" "_law_pick" (topS 36), fnV "_law_links" "_law_links" (topS 37), fnV "_law_names" "_law_names" (topS 38), fnV "_law_rules" "_law_rules" (topS 39), fnV "_law_schema" "_law_schema" (topS 40)]
def fvL1 : List FnX := [fnV "_law_number" "_law_number" (topS 41), fnV "_law_list" "_law_list" (topS 42), fnV "_law_contents" "_law_contents" (topS 43), fnV "_law_picture" "_law_picture" (topS 44), fnV "_law_there" "_law_there" (topS 45), fnV "_law_told" "_law_told" (topS 46), fnV "_law_against" "_law_against" (topS 47), fnV "_law_size" "_law_size" (topS 48), fnV "_law_first" "_law_first" (topS 49), fnV "law" "law" (topS 50)]
def fvL : List FnX := fvL0 ++ fvL1
def HD : HdD := { as := asL, ex := exB, fs := fsL, fv := fvL, ds := [], dk := [] }
def adr (K : PySem.W.Frag) : Ad := {
  C_IntSort := 59,
  C_TextSort := 102,
  C_RefSort := 144,
  C_ListSort := 186,
  C_Thing := 233,
  C_PictureSource := 297,
  C_Field := 331,
  C_Kind := 369,
  C_Schema := 416,
  C_Touch := 506,
  f_IntSort___init__ := 35,
  fd_IntSort___init__ := fdOf K 35,
  f_TextSort___init__ := 78,
  fd_TextSort___init__ := fdOf K 78,
  f_RefSort___init__ := 120,
  fd_RefSort___init__ := fdOf K 120,
  f_ListSort___init__ := 162,
  fd_ListSort___init__ := fdOf K 162,
  f_Thing___init__ := 216,
  fd_Thing___init__ := fdOf K 216,
  f_PictureSource___init__ := 270,
  fd_PictureSource___init__ := fdOf K 270,
  f_PictureSource_thing := 277,
  fd_PictureSource_thing := fdOf K 277,
  f_PictureSource_numbers := 282,
  fd_PictureSource_numbers := fdOf K 282,
  f_PictureSource_alike := 294,
  fd_PictureSource_alike := fdOf K 294,
  f_Field___init__ := 321,
  fd_Field___init__ := fdOf K 321,
  f_Kind___init__ := 347,
  fd_Kind___init__ := fdOf K 347,
  f_Kind_field_of := 354,
  fd_Kind_field_of := fdOf K 354,
  f_Kind_names := 359,
  fd_Kind_names := fdOf K 359,
  f_Schema___init__ := 387,
  fd_Schema___init__ := fdOf K 387,
  f_Schema_kind_of := 394,
  fd_Schema_kind_of := fdOf K 394,
  f_Schema_names := 406,
  fd_Schema_names := fdOf K 406,
  f_Touch___init__ := 496,
  fd_Touch___init__ := fdOf K 496,
  f_is_reference := 197,
  fd_is_reference := fdOf K 197,
  f_is_list := 204,
  fd_is_list := fdOf K 204,
  f_content_copy := 244,
  fd_content_copy := fdOf K 244,
  f_told_content := 249,
  fd_told_content := fdOf K 249,
  f_is_one_of := 256,
  fd_is_one_of := fdOf K 256,
  f_has_amounts := 306,
  fd_has_amounts := fdOf K 306,
  f_needed_constraint := 427,
  fd_needed_constraint := fdOf K 427,
  f_key_constraint := 434,
  fd_key_constraint := fdOf K 434,
  f_constraints_against := 441,
  fd_constraints_against := fdOf K 441,
  f_against_fields := 446,
  fd_against_fields := fdOf K 446,
  f_told_of := 453,
  fd_told_of := fdOf K 453,
  f_has_double := 458,
  fd_has_double := fdOf K 458,
  f_first_against := 465,
  fd_first_against := fdOf K 465,
  f_picture_size := 470,
  fd_picture_size := fdOf K 470,
  f_thing_size := 475,
  fd_thing_size := fdOf K 475,
  f_content_size := 482,
  fd_content_size := fdOf K 482,
  f__law_cells := 517,
  fd__law_cells := fdOf K 517,
  f__law_draw := 524,
  fd__law_draw := fdOf K 524,
  f__law_pick := 531,
  fd__law_pick := fdOf K 531,
  f__law_links := 538,
  fd__law_links := fdOf K 538,
  f__law_names := 545,
  fd__law_names := fdOf K 545,
  f__law_rules := 550,
  fd__law_rules := fdOf K 550,
  f__law_schema := 557,
  fd__law_schema := fdOf K 557,
  f__law_number := 564,
  fd__law_number := fdOf K 564,
  f__law_list := 571,
  fd__law_list := fdOf K 571,
  f__law_contents := 578,
  fd__law_contents := fdOf K 578,
  f__law_picture := 585,
  fd__law_picture := fdOf K 585,
  f__law_there := 592,
  fd__law_there := fdOf K 592,
  f__law_told := 597,
  fd__law_told := fdOf K 597,
  f__law_against := 602,
  fd__law_against := fdOf K 602,
  f__law_size := 609,
  fd__law_size := fdOf K 609,
  f__law_first := 614,
  fd__law_first := fdOf K 614,
  f_law := 619,
  fd_law := fdOf K 619 }
def nm0 : List PySem.Str := ["_wall", "IntSort", "TextSort", "RefSort", "ListSort", "is_reference", "is_list", "Thing", "content_copy", "told_content", "is_one_of", "PictureSource", "has_amounts", "Field", "Kind", "Schema", "needed_constraint", "key_constraint", "constraints_against", "against_fields", "told_of", "has_double", "first_against", "picture_size", "thing_size", "content_size", "Touch", "_law_cells", "_law_draw", "_law_pick"]
def nm1 : List PySem.Str := ["_law_links", "_law_names", "_law_rules", "_law_schema", "_law_number", "_law_list", "_law_contents", "_law_picture", "_law_there", "_law_told", "_law_against", "_law_size", "_law_first"]
def nms : List PySem.Str := nm0 ++ nm1
abbrev qv : Program := PySem.W.view RR.prog [50]
def finS (w : World) (os : OsState) : Option PySem.W.SharedT := some (sT6 w os)
abbrev wf (w : World) (b : Bool) : World := w.withFollow "special-get-raises" b
theorem runLf (w : World) (os : OsState) : (finS (wf w false) os).map (fun s => HandSHeadRun.looksF RR.prog (PySem.W.boot_heap (wf w false).params) s.abs) = some (true) := by kernel_rfl
theorem runSf (w : World) (os : OsState) : (finS (wf w false) os).map (fun s => (HandSHeadRun.seenQ qv nms (importedModules RR.prog.main.body) (fun s => PySem.W.xlAt qv [] s && PySem.W.recOk RR.records s) s.abs, HD.ds.map (He.dicW (He.frG (HandSHeadRun.getT s) asL)), allB (eC (He.frG (HandSHeadRun.getT s) asL)))) = some ((PySem.W.openGood qv nms, (HD.dk.map fun ks => some (He.keysIn (wf w false).params ks)), true)) := by kernel_rfl
theorem runAf (w : World) (os : OsState) : (finS (wf w false) os).map (fun s => allB (eA (He.frG (HandSHeadRun.getT s) asL))) = some (true) := by kernel_rfl
theorem runBf (w : World) (os : OsState) : (finS (wf w false) os).map (fun s => allB (eB (He.frG (HandSHeadRun.getT s) asL))) = some (true) := by kernel_rfl
theorem runFf (w : World) (os : OsState) : (finS (wf w false) os).map (fun s => (fsL.map (fnX (He.frG (HandSHeadRun.getT s) asL)), allB (eP (He.frG (HandSHeadRun.getT s) asL)))) = some ((fvL, true)) := by kernel_rfl
theorem runLt (w : World) (os : OsState) : (finS (wf w true) os).map (fun s => HandSHeadRun.looksF RR.prog (PySem.W.boot_heap (wf w true).params) s.abs) = some (true) := by kernel_rfl
theorem runSt (w : World) (os : OsState) : (finS (wf w true) os).map (fun s => (HandSHeadRun.seenQ qv nms (importedModules RR.prog.main.body) (fun s => PySem.W.xlAt qv [] s && PySem.W.recOk RR.records s) s.abs, HD.ds.map (He.dicW (He.frG (HandSHeadRun.getT s) asL)), allB (eC (He.frG (HandSHeadRun.getT s) asL)))) = some ((PySem.W.openGood qv nms, (HD.dk.map fun ks => some (He.keysIn (wf w true).params ks)), true)) := by kernel_rfl
theorem runAt (w : World) (os : OsState) : (finS (wf w true) os).map (fun s => allB (eA (He.frG (HandSHeadRun.getT s) asL))) = some (true) := by kernel_rfl
theorem runBt (w : World) (os : OsState) : (finS (wf w true) os).map (fun s => allB (eB (He.frG (HandSHeadRun.getT s) asL))) = some (true) := by kernel_rfl
theorem runFt (w : World) (os : OsState) : (finS (wf w true) os).map (fun s => (fsL.map (fnX (He.frG (HandSHeadRun.getT s) asL)), allB (eP (He.frG (HandSHeadRun.getT s) asL)))) = some ((fvL, true)) := by kernel_rfl
theorem join2 {α a b : Type} {o : Option α} {f1 : α → a} {f2 : α → b} {v1 : a} {v2 : b} (h1 : o.map f1 = some v1) (h2 : o.map f2 = some v2) : o.map (fun s => (f1 s, f2 s)) = some (v1, v2) := by
  cases o with
  | none => cases h1
  | some s =>
    rw [Option.map_some] at h1 h2 ⊢
    rw [Option.some.inj h1, Option.some.inj h2]
theorem runCf (w : World) (os : OsState) : (finS (wf w false) os).map (fun s => allB (eC (He.frG (HandSHeadRun.getT s) asL))) = some true := by
  have h := runSf w os
  generalize finS (wf w false) os = o at h ⊢
  cases o with
  | none => cases h
  | some s =>
    have h2 := Option.some.inj h
    exact congrArg some (congrArg (fun p => p.2.2) h2)
theorem runCt (w : World) (os : OsState) : (finS (wf w true) os).map (fun s => allB (eC (He.frG (HandSHeadRun.getT s) asL))) = some true := by
  have h := runSt w os
  generalize finS (wf w true) os = o at h ⊢
  cases o with
  | none => cases h
  | some s =>
    have h2 := Option.some.inj h
    exact congrArg some (congrArg (fun p => p.2.2) h2)
theorem runPf (w : World) (os : OsState) : (finS (wf w false) os).map (fun s => allB (eP (He.frG (HandSHeadRun.getT s) asL))) = some true := by
  have h := runFf w os
  generalize finS (wf w false) os = o at h ⊢
  cases o with
  | none => cases h
  | some s =>
    have h2 := Option.some.inj h
    exact congrArg some (congrArg Prod.snd h2)
theorem runPt (w : World) (os : OsState) : (finS (wf w true) os).map (fun s => allB (eP (He.frG (HandSHeadRun.getT s) asL))) = some true := by
  have h := runFt w os
  generalize finS (wf w true) os = o at h ⊢
  cases o with
  | none => cases h
  | some s =>
    have h2 := Option.some.inj h
    exact congrArg some (congrArg Prod.snd h2)
theorem ex_of {K : PySem.W.Frag} (a : allB (eA K) = true) (b : allB (eB K) = true) (c : allB (eC K) = true) (d : allB (eP K) = true) : exB K = true := by
  unfold exB
  rw [a, b, c, d]
  rfl
theorem exRun {o : Option PySem.W.SharedT} (a : o.map (fun s => allB (eA (He.frG (HandSHeadRun.getT s) asL))) = some true) (b : o.map (fun s => allB (eB (He.frG (HandSHeadRun.getT s) asL))) = some true) (c : o.map (fun s => allB (eC (He.frG (HandSHeadRun.getT s) asL))) = some true) (d : o.map (fun s => allB (eP (He.frG (HandSHeadRun.getT s) asL))) = some true) : o.map (fun s => exB (He.frG (HandSHeadRun.getT s) asL)) = some true := by
  cases o with
  | none => cases a
  | some s => exact congrArg some (ex_of (Option.some.inj a) (Option.some.inj b) (Option.some.inj c) (Option.some.inj d))
theorem runf (w : World) : Ct.RunEq RR qv (hookH HD) (obH HD) sT6 nms (wf w false) := by
  intro os
  refine Ct.joinC (D := HD) (finS (wf w false) os) rfl ?_ ?_ ?_ ?_ ?_
  · have h := runLf w os
    generalize finS (wf w false) os = o at h ⊢
    exact h
  · have h := runSf w os
    generalize finS (wf w false) os = o at h ⊢
    cases o with
    | none => cases h
    | some s =>
      have h2 := Option.some.inj h
      exact congrArg some (congrArg Prod.fst h2)
  · have h := exRun (runAf w os) (runBf w os) (runCf w os) (runPf w os)
    generalize finS (wf w false) os = o at h ⊢
    exact h
  · have h := runFf w os
    generalize finS (wf w false) os = o at h ⊢
    cases o with
    | none => cases h
    | some s =>
      have h2 := Option.some.inj h
      exact congrArg some (congrArg Prod.fst h2)
  · have h := runSf w os
    generalize finS (wf w false) os = o at h ⊢
    cases o with
    | none => cases h
    | some s =>
      have h2 := Option.some.inj h
      exact congrArg some (congrArg (fun p => p.2.1) h2)
theorem runt (w : World) : Ct.RunEq RR qv (hookH HD) (obH HD) sT6 nms (wf w true) := by
  intro os
  refine Ct.joinC (D := HD) (finS (wf w true) os) rfl ?_ ?_ ?_ ?_ ?_
  · have h := runLt w os
    generalize finS (wf w true) os = o at h ⊢
    exact h
  · have h := runSt w os
    generalize finS (wf w true) os = o at h ⊢
    cases o with
    | none => cases h
    | some s =>
      have h2 := Option.some.inj h
      exact congrArg some (congrArg Prod.fst h2)
  · have h := exRun (runAt w os) (runBt w os) (runCt w os) (runPt w os)
    generalize finS (wf w true) os = o at h ⊢
    exact h
  · have h := runFt w os
    generalize finS (wf w true) os = o at h ⊢
    cases o with
    | none => cases h
    | some s =>
      have h2 := Option.some.inj h
      exact congrArg some (congrArg Prod.fst h2)
  · have h := runSt w os
    generalize finS (wf w true) os = o at h ⊢
    cases o with
    | none => cases h
    | some s =>
      have h2 := Option.some.inj h
      exact congrArg some (congrArg (fun p => p.2.1) h2)
theorem runH (w : World) : Ct.RunEq RR qv (hookH HD) (obH HD) sT6 nms w :=
  PySem.W.byRow2 "special-get-raises" (P := fun w => Ct.RunEq RR qv (hookH HD) (obH HD) sT6 nms w) runf runt w
end
end K46
namespace K46
open PySem PySem.Spec PyProof.Rows L2 Dv
set_option autoImplicit false
noncomputable section
open Rn
set_option maxHeartbeats 0
set_option maxHeartbeats 0 in
theorem mk_txt {w : World} {K : PySem.W.Frag} {h : Heap} {mg : Str → Option Value} (X : K.In h) (G : h.Ns mainGlobals mg) (s : SaysH HD w K) : Txt K mg (adr K) := by
  have E : exB K = true := s.ex
  have gA : allB (eA K) = true := allB_at E 0 rfl
  have g0 : allB (e0 K) = true := allB_at gA 0 rfl
  have g1 : allB (e1 K) = true := allB_at gA 1 rfl
  have gB : allB (eB K) = true := allB_at E 1 rfl
  have g13 : allB (e13 K) = true := allB_at gB 0 rfl
  have g14 : allB (e14 K) = true := allB_at gB 1 rfl
  have gC : allB (eC K) = true := allB_at E 2 rfl
  have g12 : allB (e12 K) = true := allB_at gC 0 rfl
  have gP : allB (eP K) = true := allB_at E 3 rfl
  have g2 : allB (e2 K) = true := allB_at gP 0 rfl
  have g3 : allB (e3 K) = true := allB_at gP 1 rfl
  have g4 : allB (e4 K) = true := allB_at gP 2 rfl
  have g5 : allB (e5 K) = true := allB_at gP 3 rfl
  have g6 : allB (e6 K) = true := allB_at gP 4 rfl
  have g7 : allB (e7 K) = true := allB_at gP 5 rfl
  have g8 : allB (e8 K) = true := allB_at gP 6 rfl
  have g9 : allB (e9 K) = true := allB_at gP 7 rfl
  have g10 : allB (e10 K) = true := allB_at gP 8 rfl
  have g11 : allB (e11 K) = true := allB_at gP 9 rfl
  have F0 : Fun K "__init__" "IntSort.__init__" (inClass (topS 2) 0) 35 (fdOf K 35) := fun_of (fn_at s 0 rfl rfl) (fk_ok (allB_at g13 0 rfl)).1 (fk_ok (allB_at g13 0 rfl)).2.1
  have b0 : Binds K (fdOf K 35) ["self", "low", "high"] [] := F0.binds (ps := ["self", "low", "high"]) fun _ _ _ _ _ _ us hl => match us, hl with | [_, _, _], _ => rfl
  have F1 : FunD K "__init__" "TextSort.__init__" (defArgs (inClass (topS 3) 0)) (defBody (inClass (topS 3) 0)) (defScope (inClass (topS 3) 0)) [V.non] [] 78 (fdOf K 78) := funD_of (by simp) (fn_at s 1 rfl rfl) (allB_at g13 1 rfl) (allB_at g13 2 rfl)
  have b1 : Binds K (fdOf K 78) ["self", "longest", "without"] [] := by
    obtain ⟨ds, h1, h2⟩ := F1.binds1 (ps := ["self", "longest", "without"]) 3 1 (by simp) (by rfl) (fun _ _ _ _ _ _ _ us its h3 h4 => match us, its, h3, h4 with | [_, _, _], [_], _, _ => ⟨_, rfl, rfl⟩)
    cases h1
    exact h2
  have F2 : Fun K "__init__" "RefSort.__init__" (inClass (topS 4) 0) 120 (fdOf K 120) := fun_of (fn_at s 2 rfl rfl) (fk_ok (allB_at g13 4 rfl)).1 (fk_ok (allB_at g13 4 rfl)).2.1
  have b2 : Binds K (fdOf K 120) ["self", "kinds", "rule"] [] := F2.binds (ps := ["self", "kinds", "rule"]) fun _ _ _ _ _ _ us hl => match us, hl with | [_, _, _], _ => rfl
  have F3 : Fun K "__init__" "ListSort.__init__" (inClass (topS 5) 0) 162 (fdOf K 162) := fun_of (fn_at s 3 rfl rfl) (fk_ok (allB_at g13 5 rfl)).1 (fk_ok (allB_at g13 5 rfl)).2.1
  have b3 : Binds K (fdOf K 162) ["self", "kinds"] [] := F3.binds (ps := ["self", "kinds"]) fun _ _ _ _ _ _ us hl => match us, hl with | [_, _], _ => rfl
  have F4 : Fun K "__init__" "Thing.__init__" (inClass (topS 9) 0) 216 (fdOf K 216) := fun_of (fn_at s 4 rfl rfl) (fk_ok (allB_at g13 6 rfl)).1 (fk_ok (allB_at g13 6 rfl)).2.1
  have b4 : Binds K (fdOf K 216) ["self", "kind", "contents"] [] := F4.binds (ps := ["self", "kind", "contents"]) fun _ _ _ _ _ _ us hl => match us, hl with | [_, _, _], _ => rfl
  have F5 : Fun K "__init__" "PictureSource.__init__" (inClass (topS 14) 0) 270 (fdOf K 270) := fun_of (fn_at s 5 rfl rfl) (fk_ok (allB_at g13 7 rfl)).1 (fk_ok (allB_at g13 7 rfl)).2.1
  have b5 : Binds K (fdOf K 270) ["self", "picture"] [] := F5.binds (ps := ["self", "picture"]) fun _ _ _ _ _ _ us hl => match us, hl with | [_, _], _ => rfl
  have F6 : Fun K "thing" "PictureSource.thing" (inClass (topS 14) 1) 277 (fdOf K 277) := fun_of (fn_at s 6 rfl rfl) (fk_ok (allB_at g13 8 rfl)).1 (fk_ok (allB_at g13 8 rfl)).2.1
  have b6 : Binds K (fdOf K 277) ["self", "number"] [] := F6.binds (ps := ["self", "number"]) fun _ _ _ _ _ _ us hl => match us, hl with | [_, _], _ => rfl
  have F7 : Fun K "numbers" "PictureSource.numbers" (inClass (topS 14) 2) 282 (fdOf K 282) := fun_of (fn_at s 7 rfl rfl) (fk_ok (allB_at g13 9 rfl)).1 (fk_ok (allB_at g13 9 rfl)).2.1
  have b7 : Binds K (fdOf K 282) ["self", "kind"] [] := F7.binds (ps := ["self", "kind"]) fun _ _ _ _ _ _ us hl => match us, hl with | [_, _], _ => rfl
  have F8 : Fun K "alike" "PictureSource.alike" (inClass (topS 14) 4) 294 (fdOf K 294) := fun_of (fn_at s 8 rfl rfl) (fk_ok (allB_at g13 10 rfl)).1 (fk_ok (allB_at g13 10 rfl)).2.1
  have b8 : Binds K (fdOf K 294) ["self", "kind", "names", "amounts"] [] := F8.binds (ps := ["self", "kind", "names", "amounts"]) fun _ _ _ _ _ _ us hl => match us, hl with | [_, _, _, _], _ => rfl
  have F9 : FunD K "__init__" "Field.__init__" (defArgs (inClass (topS 17) 0)) (defBody (inClass (topS 17) 0)) (defScope (inClass (topS 17) 0)) [V.bl false] [] 321 (fdOf K 321) := funD_of (by simp) (fn_at s 9 rfl rfl) (allB_at g13 11 rfl) (allB_at g13 12 rfl)
  have b9 : Binds K (fdOf K 321) ["self", "name", "shape", "needed"] [] := by
    obtain ⟨ds, h1, h2⟩ := F9.binds1 (ps := ["self", "name", "shape", "needed"]) 4 1 (by simp) (by rfl) (fun _ _ _ _ _ _ _ us its h3 h4 => match us, its, h3, h4 with | [_, _, _, _], [_], _, _ => ⟨_, rfl, rfl⟩)
    cases h1
    exact h2
  have F10 : Fun K "__init__" "Kind.__init__" (inClass (topS 18) 0) 347 (fdOf K 347) := fun_of (fn_at s 10 rfl rfl) (fk_ok (allB_at g13 14 rfl)).1 (fk_ok (allB_at g13 14 rfl)).2.1
  have b10 : Binds K (fdOf K 347) ["self", "name", "fields", "key_rows"] [] := F10.binds (ps := ["self", "name", "fields", "key_rows"]) fun _ _ _ _ _ _ us hl => match us, hl with | [_, _, _, _], _ => rfl
  have F11 : Fun K "field_of" "Kind.field_of" (inClass (topS 18) 1) 354 (fdOf K 354) := fun_of (fn_at s 11 rfl rfl) (fk_ok (allB_at g13 15 rfl)).1 (fk_ok (allB_at g13 15 rfl)).2.1
  have b11 : Binds K (fdOf K 354) ["self", "name"] [] := F11.binds (ps := ["self", "name"]) fun _ _ _ _ _ _ us hl => match us, hl with | [_, _], _ => rfl
  have F12 : Fun K "names" "Kind.names" (inClass (topS 18) 2) 359 (fdOf K 359) := fun_of (fn_at s 12 rfl rfl) (fk_ok (allB_at g13 16 rfl)).1 (fk_ok (allB_at g13 16 rfl)).2.1
  have b12 : Binds K (fdOf K 359) ["self"] [] := F12.binds (ps := ["self"]) fun _ _ _ _ _ _ us hl => match us, hl with | [_], _ => rfl
  have F13 : Fun K "__init__" "Schema.__init__" (inClass (topS 19) 0) 387 (fdOf K 387) := fun_of (fn_at s 13 rfl rfl) (fk_ok (allB_at g13 17 rfl)).1 (fk_ok (allB_at g13 17 rfl)).2.1
  have b13 : Binds K (fdOf K 387) ["self", "kinds"] [] := F13.binds (ps := ["self", "kinds"]) fun _ _ _ _ _ _ us hl => match us, hl with | [_, _], _ => rfl
  have F14 : Fun K "kind_of" "Schema.kind_of" (inClass (topS 19) 1) 394 (fdOf K 394) := fun_of (fn_at s 14 rfl rfl) (fk_ok (allB_at g13 18 rfl)).1 (fk_ok (allB_at g13 18 rfl)).2.1
  have b14 : Binds K (fdOf K 394) ["self", "name"] [] := F14.binds (ps := ["self", "name"]) fun _ _ _ _ _ _ us hl => match us, hl with | [_, _], _ => rfl
  have F15 : Fun K "names" "Schema.names" (inClass (topS 19) 3) 406 (fdOf K 406) := fun_of (fn_at s 15 rfl rfl) (fk_ok (allB_at g13 19 rfl)).1 (fk_ok (allB_at g13 19 rfl)).2.1
  have b15 : Binds K (fdOf K 406) ["self"] [] := F15.binds (ps := ["self"]) fun _ _ _ _ _ _ us hl => match us, hl with | [_], _ => rfl
  have F16 : Fun K "__init__" "Touch.__init__" (inClass (topS 32) 0) 496 (fdOf K 496) := fun_of (fn_at s 16 rfl rfl) (fk_ok (allB_at g13 20 rfl)).1 (fk_ok (allB_at g13 20 rfl)).2.1
  have b16 : Binds K (fdOf K 496) ["self", "number", "made", "gone", "names"] [] := F16.binds (ps := ["self", "number", "made", "gone", "names"]) fun _ _ _ _ _ _ us hl => match us, hl with | [_, _, _, _, _], _ => rfl
  have F17 : Fun K "is_reference" "is_reference" (topS 6) 197 (fdOf K 197) := fun_of (fn_at s 17 rfl rfl) (fk_ok (allB_at g13 21 rfl)).1 (fk_ok (allB_at g13 21 rfl)).2.1
  have b17 : Binds K (fdOf K 197) ["shape"] [] := F17.binds (ps := ["shape"]) fun _ _ _ _ _ _ us hl => match us, hl with | [_], _ => rfl
  have F18 : Fun K "is_list" "is_list" (topS 7) 204 (fdOf K 204) := fun_of (fn_at s 18 rfl rfl) (fk_ok (allB_at g13 22 rfl)).1 (fk_ok (allB_at g13 22 rfl)).2.1
  have b18 : Binds K (fdOf K 204) ["shape"] [] := F18.binds (ps := ["shape"]) fun _ _ _ _ _ _ us hl => match us, hl with | [_], _ => rfl
  have F19 : Fun K "content_copy" "content_copy" (topS 10) 244 (fdOf K 244) := fun_of (fn_at s 19 rfl rfl) (fk_ok (allB_at g13 23 rfl)).1 (fk_ok (allB_at g13 23 rfl)).2.1
  have b19 : Binds K (fdOf K 244) ["content"] [] := F19.binds (ps := ["content"]) fun _ _ _ _ _ _ us hl => match us, hl with | [_], _ => rfl
  have F20 : Fun K "told_content" "told_content" (topS 11) 249 (fdOf K 249) := fun_of (fn_at s 20 rfl rfl) (fk_ok (allB_at g13 24 rfl)).1 (fk_ok (allB_at g13 24 rfl)).2.1
  have b20 : Binds K (fdOf K 249) ["source", "field", "content"] [] := F20.binds (ps := ["source", "field", "content"]) fun _ _ _ _ _ _ us hl => match us, hl with | [_, _, _], _ => rfl
  have F21 : Fun K "is_one_of" "is_one_of" (topS 12) 256 (fdOf K 256) := fun_of (fn_at s 21 rfl rfl) (fk_ok (allB_at g13 25 rfl)).1 (fk_ok (allB_at g13 25 rfl)).2.1
  have b21 : Binds K (fdOf K 256) ["source", "number", "kinds"] [] := F21.binds (ps := ["source", "number", "kinds"]) fun _ _ _ _ _ _ us hl => match us, hl with | [_, _, _], _ => rfl
  have F22 : Fun K "has_amounts" "has_amounts" (topS 15) 306 (fdOf K 306) := fun_of (fn_at s 22 rfl rfl) (fk_ok (allB_at g13 26 rfl)).1 (fk_ok (allB_at g13 26 rfl)).2.1
  have b22 : Binds K (fdOf K 306) ["thing", "names", "amounts"] [] := F22.binds (ps := ["thing", "names", "amounts"]) fun _ _ _ _ _ _ us hl => match us, hl with | [_, _, _], _ => rfl
  have F23 : Fun K "needed_constraint" "needed_constraint" (topS 20) 427 (fdOf K 427) := fun_of (fn_at s 23 rfl rfl) (fk_ok (allB_at g13 27 rfl)).1 (fk_ok (allB_at g13 27 rfl)).2.1
  have b23 : Binds K (fdOf K 427) ["kind", "field"] [] := F23.binds (ps := ["kind", "field"]) fun _ _ _ _ _ _ us hl => match us, hl with | [_, _], _ => rfl
  have F24 : Fun K "key_constraint" "key_constraint" (topS 21) 434 (fdOf K 434) := fun_of (fn_at s 24 rfl rfl) (fk_ok (allB_at g13 28 rfl)).1 (fk_ok (allB_at g13 28 rfl)).2.1
  have b24 : Binds K (fdOf K 434) ["kind", "row"] [] := F24.binds (ps := ["kind", "row"]) fun _ _ _ _ _ _ us hl => match us, hl with | [_, _], _ => rfl
  have F25 : Fun K "constraints_against" "constraints_against" (topS 23) 441 (fdOf K 441) := fun_of (fn_at s 25 rfl rfl) (fk_ok (allB_at g13 29 rfl)).1 (fk_ok (allB_at g13 29 rfl)).2.1
  have b25 : Binds K (fdOf K 441) ["schema", "picture", "number"] [] := F25.binds (ps := ["schema", "picture", "number"]) fun _ _ _ _ _ _ us hl => match us, hl with | [_, _, _], _ => rfl
  have F26 : Fun K "against_fields" "against_fields" (topS 24) 446 (fdOf K 446) := fun_of (fn_at s 26 rfl rfl) (fk_ok (allB_at g13 30 rfl)).1 (fk_ok (allB_at g13 30 rfl)).2.1
  have b26 : Binds K (fdOf K 446) ["schema", "picture", "number", "names"] [] := F26.binds (ps := ["schema", "picture", "number", "names"]) fun _ _ _ _ _ _ us hl => match us, hl with | [_, _, _, _], _ => rfl
  have F27 : Fun K "told_of" "told_of" (topS 25) 453 (fdOf K 453) := fun_of (fn_at s 27 rfl rfl) (fk_ok (allB_at g13 31 rfl)).1 (fk_ok (allB_at g13 31 rfl)).2.1
  have b27 : Binds K (fdOf K 453) ["source", "kind", "number", "name"] [] := F27.binds (ps := ["source", "kind", "number", "name"]) fun _ _ _ _ _ _ us hl => match us, hl with | [_, _, _, _], _ => rfl
  have F28 : Fun K "has_double" "has_double" (topS 26) 458 (fdOf K 458) := fun_of (fn_at s 28 rfl rfl) (fk_ok (allB_at g13 32 rfl)).1 (fk_ok (allB_at g13 32 rfl)).2.1
  have b28 : Binds K (fdOf K 458) ["source", "kind", "number", "row"] [] := F28.binds (ps := ["source", "kind", "number", "row"]) fun _ _ _ _ _ _ us hl => match us, hl with | [_, _, _, _], _ => rfl
  have F29 : Fun K "first_against" "first_against" (topS 27) 465 (fdOf K 465) := fun_of (fn_at s 29 rfl rfl) (fk_ok (allB_at g13 33 rfl)).1 (fk_ok (allB_at g13 33 rfl)).2.1
  have b29 : Binds K (fdOf K 465) ["schema", "picture", "touches"] [] := F29.binds (ps := ["schema", "picture", "touches"]) fun _ _ _ _ _ _ us hl => match us, hl with | [_, _, _], _ => rfl
  have F30 : Fun K "picture_size" "picture_size" (topS 28) 470 (fdOf K 470) := fun_of (fn_at s 30 rfl rfl) (fk_ok (allB_at g13 34 rfl)).1 (fk_ok (allB_at g13 34 rfl)).2.1
  have b30 : Binds K (fdOf K 470) ["schema", "picture"] [] := F30.binds (ps := ["schema", "picture"]) fun _ _ _ _ _ _ us hl => match us, hl with | [_, _], _ => rfl
  have F31 : Fun K "thing_size" "thing_size" (topS 29) 475 (fdOf K 475) := fun_of (fn_at s 31 rfl rfl) (fk_ok (allB_at g13 35 rfl)).1 (fk_ok (allB_at g13 35 rfl)).2.1
  have b31 : Binds K (fdOf K 475) ["schema", "source", "thing"] [] := F31.binds (ps := ["schema", "source", "thing"]) fun _ _ _ _ _ _ us hl => match us, hl with | [_, _, _], _ => rfl
  have F32 : Fun K "content_size" "content_size" (topS 30) 482 (fdOf K 482) := fun_of (fn_at s 32 rfl rfl) (fk_ok (allB_at g13 36 rfl)).1 (fk_ok (allB_at g13 36 rfl)).2.1
  have b32 : Binds K (fdOf K 482) ["source", "field", "content"] [] := F32.binds (ps := ["source", "field", "content"]) fun _ _ _ _ _ _ us hl => match us, hl with | [_, _, _], _ => rfl
  have F33 : Fun K "_law_cells" "_law_cells" (topS 34) 517 (fdOf K 517) := fun_of (fn_at s 33 rfl rfl) (fk_ok (allB_at g13 37 rfl)).1 (fk_ok (allB_at g13 37 rfl)).2.1
  have b33 : Binds K (fdOf K 517) ["script", "count"] [] := F33.binds (ps := ["script", "count"]) fun _ _ _ _ _ _ us hl => match us, hl with | [_, _], _ => rfl
  have F34 : Fun K "_law_draw" "_law_draw" (topS 35) 524 (fdOf K 524) := fun_of (fn_at s 34 rfl rfl) (fk_ok (allB_at g13 38 rfl)).1 (fk_ok (allB_at g13 38 rfl)).2.1
  have b34 : Binds K (fdOf K 524) ["draws", "bound"] [] := F34.binds (ps := ["draws", "bound"]) fun _ _ _ _ _ _ us hl => match us, hl with | [_, _], _ => rfl
  have F35 : Fun K "_law_pick" "_law_pick" (topS 36) 531 (fdOf K 531) := fun_of (fn_at s 35 rfl rfl) (fk_ok (allB_at g13 39 rfl)).1 (fk_ok (allB_at g13 39 rfl)).2.1
  have b35 : Binds K (fdOf K 531) ["draws", "row"] [] := F35.binds (ps := ["draws", "row"]) fun _ _ _ _ _ _ us hl => match us, hl with | [_, _], _ => rfl
  have F36 : Fun K "_law_links" "_law_links" (topS 37) 538 (fdOf K 538) := fun_of (fn_at s 36 rfl rfl) (fk_ok (allB_at g14 0 rfl)).1 (fk_ok (allB_at g14 0 rfl)).2.1
  have b36 : Binds K (fdOf K 538) ["kind", "rules"] [] := F36.binds (ps := ["kind", "rules"]) fun _ _ _ _ _ _ us hl => match us, hl with | [_, _], _ => rfl
  have F37 : Fun K "_law_names" "_law_names" (topS 38) 545 (fdOf K 545) := fun_of (fn_at s 37 rfl rfl) (fk_ok (allB_at g14 1 rfl)).1 (fk_ok (allB_at g14 1 rfl)).2.1
  have b37 : Binds K (fdOf K 545) ["kind"] [] := F37.binds (ps := ["kind"]) fun _ _ _ _ _ _ us hl => match us, hl with | [_], _ => rfl
  have F38 : Fun K "_law_rules" "_law_rules" (topS 39) 550 (fdOf K 550) := fun_of (fn_at s 38 rfl rfl) (fk_ok (allB_at g14 2 rfl)).1 (fk_ok (allB_at g14 2 rfl)).2.1
  have b38 : Binds K (fdOf K 550) ["draws"] [] := F38.binds (ps := ["draws"]) fun _ _ _ _ _ _ us hl => match us, hl with | [_], _ => rfl
  have F39 : Fun K "_law_schema" "_law_schema" (topS 40) 557 (fdOf K 557) := fun_of (fn_at s 39 rfl rfl) (fk_ok (allB_at g14 3 rfl)).1 (fk_ok (allB_at g14 3 rfl)).2.1
  have b39 : Binds K (fdOf K 557) ["rules", "needed"] [] := F39.binds (ps := ["rules", "needed"]) fun _ _ _ _ _ _ us hl => match us, hl with | [_, _], _ => rfl
  have F40 : Fun K "_law_number" "_law_number" (topS 41) 564 (fdOf K 564) := fun_of (fn_at s 40 rfl rfl) (fk_ok (allB_at g14 4 rfl)).1 (fk_ok (allB_at g14 4 rfl)).2.1
  have b40 : Binds K (fdOf K 564) ["draws"] [] := F40.binds (ps := ["draws"]) fun _ _ _ _ _ _ us hl => match us, hl with | [_], _ => rfl
  have F41 : Fun K "_law_list" "_law_list" (topS 42) 571 (fdOf K 571) := fun_of (fn_at s 41 rfl rfl) (fk_ok (allB_at g14 5 rfl)).1 (fk_ok (allB_at g14 5 rfl)).2.1
  have b41 : Binds K (fdOf K 571) ["draws"] [] := F41.binds (ps := ["draws"]) fun _ _ _ _ _ _ us hl => match us, hl with | [_], _ => rfl
  have F42 : Fun K "_law_contents" "_law_contents" (topS 43) 578 (fdOf K 578) := fun_of (fn_at s 42 rfl rfl) (fk_ok (allB_at g14 6 rfl)).1 (fk_ok (allB_at g14 6 rfl)).2.1
  have b42 : Binds K (fdOf K 578) ["draws", "kind"] [] := F42.binds (ps := ["draws", "kind"]) fun _ _ _ _ _ _ us hl => match us, hl with | [_, _], _ => rfl
  have F43 : Fun K "_law_picture" "_law_picture" (topS 44) 585 (fdOf K 585) := fun_of (fn_at s 43 rfl rfl) (fk_ok (allB_at g14 7 rfl)).1 (fk_ok (allB_at g14 7 rfl)).2.1
  have b43 : Binds K (fdOf K 585) ["draws"] [] := F43.binds (ps := ["draws"]) fun _ _ _ _ _ _ us hl => match us, hl with | [_], _ => rfl
  have F44 : Fun K "_law_there" "_law_there" (topS 45) 592 (fdOf K 592) := fun_of (fn_at s 44 rfl rfl) (fk_ok (allB_at g14 8 rfl)).1 (fk_ok (allB_at g14 8 rfl)).2.1
  have b44 : Binds K (fdOf K 592) ["picture", "kinds", "number"] [] := F44.binds (ps := ["picture", "kinds", "number"]) fun _ _ _ _ _ _ us hl => match us, hl with | [_, _, _], _ => rfl
  have F45 : Fun K "_law_told" "_law_told" (topS 46) 597 (fdOf K 597) := fun_of (fn_at s 45 rfl rfl) (fk_ok (allB_at g14 9 rfl)).1 (fk_ok (allB_at g14 9 rfl)).2.1
  have b45 : Binds K (fdOf K 597) ["picture", "rules", "thing", "name"] [] := F45.binds (ps := ["picture", "rules", "thing", "name"]) fun _ _ _ _ _ _ us hl => match us, hl with | [_, _, _, _], _ => rfl
  have F46 : Fun K "_law_against" "_law_against" (topS 47) 602 (fdOf K 602) := fun_of (fn_at s 46 rfl rfl) (fk_ok (allB_at g14 10 rfl)).1 (fk_ok (allB_at g14 10 rfl)).2.1
  have b46 : Binds K (fdOf K 602) ["picture", "rules", "needed", "number"] [] := F46.binds (ps := ["picture", "rules", "needed", "number"]) fun _ _ _ _ _ _ us hl => match us, hl with | [_, _, _, _], _ => rfl
  have F47 : Fun K "_law_size" "_law_size" (topS 48) 609 (fdOf K 609) := fun_of (fn_at s 47 rfl rfl) (fk_ok (allB_at g14 11 rfl)).1 (fk_ok (allB_at g14 11 rfl)).2.1
  have b47 : Binds K (fdOf K 609) ["picture", "rules"] [] := F47.binds (ps := ["picture", "rules"]) fun _ _ _ _ _ _ us hl => match us, hl with | [_, _], _ => rfl
  have F48 : Fun K "_law_first" "_law_first" (topS 49) 614 (fdOf K 614) := fun_of (fn_at s 48 rfl rfl) (fk_ok (allB_at g14 12 rfl)).1 (fk_ok (allB_at g14 12 rfl)).2.1
  have b48 : Binds K (fdOf K 614) ["picture", "rules", "needed", "touches"] [] := F48.binds (ps := ["picture", "rules", "needed", "touches"]) fun _ _ _ _ _ _ us hl => match us, hl with | [_, _, _, _], _ => rfl
  have F49 : Fun K "law" "law" (topS 50) 619 (fdOf K 619) := fun_of (fn_at s 49 rfl rfl) (fk_ok (allB_at g14 13 rfl)).1 (fk_ok (allB_at g14 13 rfl)).2.1
  have b49 : Binds K (fdOf K 619) ["script"] [] := F49.binds (ps := ["script"]) fun _ _ _ _ _ _ us hl => match us, hl with | [_], _ => rfl
  exact {
    b_all := PySem.W.mg_none_of X G (eqN_ok (allB_at g0 0 rfl)),
    b_any := PySem.W.mg_none_of X G (eqN_ok (allB_at g0 1 rfl)),
    b_int := PySem.W.mg_none_of X G (eqN_ok (allB_at g0 2 rfl)),
    b_isinstance := PySem.W.mg_none_of X G (eqN_ok (allB_at g0 3 rfl)),
    b_len := PySem.W.mg_none_of X G (eqN_ok (allB_at g0 4 rfl)),
    b_list := PySem.W.mg_none_of X G (eqN_ok (allB_at g0 5 rfl)),
    b_range := PySem.W.mg_none_of X G (eqN_ok (allB_at g0 6 rfl)),
    b_sorted := PySem.W.mg_none_of X G (eqN_ok (allB_at g0 7 rfl)),
    b_str := PySem.W.mg_none_of X G (eqN_ok (allB_at g0 8 rfl)),
    b_sum := PySem.W.mg_none_of X G (eqN_ok (allB_at g0 9 rfl)),
    b_zip := PySem.W.mg_none_of X G (eqN_ok (allB_at g0 10 rfl)),
    g_IntSort := PySem.W.mg_of X G (eqR_ok (allB_at g0 11 rfl)),
    cl_IntSort := ⟨(allB_at g2 0 rfl), (allB_at g2 1 rfl), (allB_at g2 2 rfl), eqF_ok (allB_at g2 3 rfl)⟩,
    mk_IntSort := ⟨(allB_at g2 4 rfl), eqR_ok (allB_at g2 8 rfl), (fk_ok (allB_at g13 0 rfl)).2.2, (allB_at g2 5 rfl)⟩,
    na_IntSort_low := eqN_ok (allB_at g2 6 rfl),
    na_IntSort_high := eqN_ok (allB_at g2 7 rfl),
    ii_IntSort := fun H a dx fs e => .base (.ins e ⟨(allB_at g2 0 rfl), (allB_at g2 1 rfl), (allB_at g2 2 rfl), eqF_ok (allB_at g2 3 rfl)⟩ (eqF_ok (allB_at g2 9 rfl)) (eqF_ok (allB_at g12 0 rfl)) (eqB_ok (allB_at g12 1 rfl)) (eqB_ok (allB_at g2 10 rfl))),
    g_TextSort := PySem.W.mg_of X G (eqR_ok (allB_at g0 12 rfl)),
    cl_TextSort := ⟨(allB_at g3 0 rfl), (allB_at g3 1 rfl), (allB_at g3 2 rfl), eqF_ok (allB_at g3 3 rfl)⟩,
    mk_TextSort := ⟨(allB_at g3 4 rfl), eqR_ok (allB_at g3 8 rfl), (allB_at g13 3 rfl), (allB_at g3 5 rfl)⟩,
    na_TextSort_longest := eqN_ok (allB_at g3 6 rfl),
    na_TextSort_without := eqN_ok (allB_at g3 7 rfl),
    ii_TextSort := fun H a dx fs e => .base (.ins e ⟨(allB_at g3 0 rfl), (allB_at g3 1 rfl), (allB_at g3 2 rfl), eqF_ok (allB_at g3 3 rfl)⟩ (eqF_ok (allB_at g3 9 rfl)) (eqF_ok (allB_at g12 0 rfl)) (eqB_ok (allB_at g12 1 rfl)) (eqB_ok (allB_at g3 10 rfl))),
    g_RefSort := PySem.W.mg_of X G (eqR_ok (allB_at g0 13 rfl)),
    cl_RefSort := ⟨(allB_at g4 0 rfl), (allB_at g4 1 rfl), (allB_at g4 2 rfl), eqF_ok (allB_at g4 3 rfl)⟩,
    mk_RefSort := ⟨(allB_at g4 4 rfl), eqR_ok (allB_at g4 8 rfl), (fk_ok (allB_at g13 4 rfl)).2.2, (allB_at g4 5 rfl)⟩,
    na_RefSort_kinds := eqN_ok (allB_at g4 6 rfl),
    na_RefSort_rule := eqN_ok (allB_at g4 7 rfl),
    ii_RefSort := fun H a dx fs e => .base (.ins e ⟨(allB_at g4 0 rfl), (allB_at g4 1 rfl), (allB_at g4 2 rfl), eqF_ok (allB_at g4 3 rfl)⟩ (eqF_ok (allB_at g4 9 rfl)) (eqF_ok (allB_at g12 0 rfl)) (eqB_ok (allB_at g12 1 rfl)) (eqB_ok (allB_at g4 10 rfl))),
    g_ListSort := PySem.W.mg_of X G (eqR_ok (allB_at g0 14 rfl)),
    cl_ListSort := ⟨(allB_at g5 0 rfl), (allB_at g5 1 rfl), (allB_at g5 2 rfl), eqF_ok (allB_at g5 3 rfl)⟩,
    mk_ListSort := ⟨(allB_at g5 4 rfl), eqR_ok (allB_at g5 7 rfl), (fk_ok (allB_at g13 5 rfl)).2.2, (allB_at g5 5 rfl)⟩,
    na_ListSort_kinds := eqN_ok (allB_at g5 6 rfl),
    ii_ListSort := fun H a dx fs e => .base (.ins e ⟨(allB_at g5 0 rfl), (allB_at g5 1 rfl), (allB_at g5 2 rfl), eqF_ok (allB_at g5 3 rfl)⟩ (eqF_ok (allB_at g5 8 rfl)) (eqF_ok (allB_at g12 0 rfl)) (eqB_ok (allB_at g12 1 rfl)) (eqB_ok (allB_at g5 9 rfl))),
    g_Thing := PySem.W.mg_of X G (eqR_ok (allB_at g0 15 rfl)),
    cl_Thing := ⟨(allB_at g6 0 rfl), (allB_at g6 1 rfl), (allB_at g6 2 rfl), eqF_ok (allB_at g6 3 rfl)⟩,
    mk_Thing := ⟨(allB_at g6 4 rfl), eqR_ok (allB_at g6 8 rfl), (fk_ok (allB_at g13 6 rfl)).2.2, (allB_at g6 5 rfl)⟩,
    na_Thing_kind := eqN_ok (allB_at g6 6 rfl),
    na_Thing_contents := eqN_ok (allB_at g6 7 rfl),
    g_PictureSource := PySem.W.mg_of X G (eqR_ok (allB_at g0 16 rfl)),
    cl_PictureSource := ⟨(allB_at g7 0 rfl), (allB_at g7 1 rfl), (allB_at g7 2 rfl), eqF_ok (allB_at g7 3 rfl)⟩,
    mk_PictureSource := ⟨(allB_at g7 4 rfl), eqR_ok (allB_at g7 7 rfl), (fk_ok (allB_at g13 7 rfl)).2.2, (allB_at g7 5 rfl)⟩,
    na_PictureSource_things := eqN_ok (allB_at g7 6 rfl),
    me_PictureSource_thing := ⟨eqR_ok (allB_at g7 8 rfl), (fk_ok (allB_at g13 8 rfl)).2.2, (fk_ok (allB_at g13 8 rfl)).2.1⟩,
    me_PictureSource_numbers := ⟨eqR_ok (allB_at g7 9 rfl), (fk_ok (allB_at g13 9 rfl)).2.2, (fk_ok (allB_at g13 9 rfl)).2.1⟩,
    me_PictureSource_alike := ⟨eqR_ok (allB_at g7 10 rfl), (fk_ok (allB_at g13 10 rfl)).2.2, (fk_ok (allB_at g13 10 rfl)).2.1⟩,
    g_Field := PySem.W.mg_of X G (eqR_ok (allB_at g0 17 rfl)),
    cl_Field := ⟨(allB_at g8 0 rfl), (allB_at g8 1 rfl), (allB_at g8 2 rfl), eqF_ok (allB_at g8 3 rfl)⟩,
    mk_Field := ⟨(allB_at g8 4 rfl), eqR_ok (allB_at g8 9 rfl), (allB_at g13 13 rfl), (allB_at g8 5 rfl)⟩,
    na_Field_name := eqN_ok (allB_at g8 6 rfl),
    na_Field_shape := eqN_ok (allB_at g8 7 rfl),
    na_Field_needed := eqN_ok (allB_at g8 8 rfl),
    g_Kind := PySem.W.mg_of X G (eqR_ok (allB_at g0 18 rfl)),
    cl_Kind := ⟨(allB_at g9 0 rfl), (allB_at g9 1 rfl), (allB_at g9 2 rfl), eqF_ok (allB_at g9 3 rfl)⟩,
    mk_Kind := ⟨(allB_at g9 4 rfl), eqR_ok (allB_at g9 9 rfl), (fk_ok (allB_at g13 14 rfl)).2.2, (allB_at g9 5 rfl)⟩,
    na_Kind_name := eqN_ok (allB_at g9 6 rfl),
    na_Kind_fields := eqN_ok (allB_at g9 7 rfl),
    na_Kind_key_rows := eqN_ok (allB_at g9 8 rfl),
    me_Kind_field_of := ⟨eqR_ok (allB_at g9 10 rfl), (fk_ok (allB_at g13 15 rfl)).2.2, (fk_ok (allB_at g13 15 rfl)).2.1⟩,
    me_Kind_names := ⟨eqR_ok (allB_at g9 11 rfl), (fk_ok (allB_at g13 16 rfl)).2.2, (fk_ok (allB_at g13 16 rfl)).2.1⟩,
    g_Schema := PySem.W.mg_of X G (eqR_ok (allB_at g0 19 rfl)),
    cl_Schema := ⟨(allB_at g10 0 rfl), (allB_at g10 1 rfl), (allB_at g10 2 rfl), eqF_ok (allB_at g10 3 rfl)⟩,
    mk_Schema := ⟨(allB_at g10 4 rfl), eqR_ok (allB_at g10 7 rfl), (fk_ok (allB_at g13 17 rfl)).2.2, (allB_at g10 5 rfl)⟩,
    na_Schema_kinds := eqN_ok (allB_at g10 6 rfl),
    me_Schema_kind_of := ⟨eqR_ok (allB_at g10 8 rfl), (fk_ok (allB_at g13 18 rfl)).2.2, (fk_ok (allB_at g13 18 rfl)).2.1⟩,
    me_Schema_names := ⟨eqR_ok (allB_at g10 9 rfl), (fk_ok (allB_at g13 19 rfl)).2.2, (fk_ok (allB_at g13 19 rfl)).2.1⟩,
    g_Touch := PySem.W.mg_of X G (eqR_ok (allB_at g0 20 rfl)),
    cl_Touch := ⟨(allB_at g11 0 rfl), (allB_at g11 1 rfl), (allB_at g11 2 rfl), eqF_ok (allB_at g11 3 rfl)⟩,
    mk_Touch := ⟨(allB_at g11 4 rfl), eqR_ok (allB_at g11 10 rfl), (fk_ok (allB_at g13 20 rfl)).2.2, (allB_at g11 5 rfl)⟩,
    na_Touch_number := eqN_ok (allB_at g11 6 rfl),
    na_Touch_made := eqN_ok (allB_at g11 7 rfl),
    na_Touch_gone := eqN_ok (allB_at g11 8 rfl),
    na_Touch_names := eqN_ok (allB_at g11 9 rfl),
    is_IntSort_RefSort := eqB_ok (allB_at g12 2 rfl),
    is_TextSort_RefSort := eqB_ok (allB_at g12 3 rfl),
    is_RefSort_RefSort := eqB_ok (allB_at g12 4 rfl),
    is_ListSort_RefSort := eqB_ok (allB_at g12 5 rfl),
    is_IntSort_ListSort := eqB_ok (allB_at g12 6 rfl),
    is_TextSort_ListSort := eqB_ok (allB_at g12 7 rfl),
    is_RefSort_ListSort := eqB_ok (allB_at g12 8 rfl),
    is_ListSort_ListSort := eqB_ok (allB_at g12 9 rfl),
    F_IntSort___init__ := F0,
    b_IntSort___init__ := b0,
    F_TextSort___init__ := F1,
    b_TextSort___init__ := b1,
    F_RefSort___init__ := F2,
    b_RefSort___init__ := b2,
    F_ListSort___init__ := F3,
    b_ListSort___init__ := b3,
    F_Thing___init__ := F4,
    b_Thing___init__ := b4,
    F_PictureSource___init__ := F5,
    b_PictureSource___init__ := b5,
    F_PictureSource_thing := F6,
    b_PictureSource_thing := b6,
    F_PictureSource_numbers := F7,
    b_PictureSource_numbers := b7,
    F_PictureSource_alike := F8,
    b_PictureSource_alike := b8,
    F_Field___init__ := F9,
    b_Field___init__ := b9,
    F_Kind___init__ := F10,
    b_Kind___init__ := b10,
    F_Kind_field_of := F11,
    b_Kind_field_of := b11,
    F_Kind_names := F12,
    b_Kind_names := b12,
    F_Schema___init__ := F13,
    b_Schema___init__ := b13,
    F_Schema_kind_of := F14,
    b_Schema_kind_of := b14,
    F_Schema_names := F15,
    b_Schema_names := b15,
    F_Touch___init__ := F16,
    b_Touch___init__ := b16,
    F_is_reference := F17,
    b_is_reference := b17,
    g_is_reference := PySem.W.mg_of X G (eqR_ok (allB_at g0 21 rfl)),
    F_is_list := F18,
    b_is_list := b18,
    g_is_list := PySem.W.mg_of X G (eqR_ok (allB_at g0 22 rfl)),
    F_content_copy := F19,
    b_content_copy := b19,
    g_content_copy := PySem.W.mg_of X G (eqR_ok (allB_at g0 23 rfl)),
    F_told_content := F20,
    b_told_content := b20,
    g_told_content := PySem.W.mg_of X G (eqR_ok (allB_at g0 24 rfl)),
    F_is_one_of := F21,
    b_is_one_of := b21,
    g_is_one_of := PySem.W.mg_of X G (eqR_ok (allB_at g0 25 rfl)),
    F_has_amounts := F22,
    b_has_amounts := b22,
    g_has_amounts := PySem.W.mg_of X G (eqR_ok (allB_at g0 26 rfl)),
    F_needed_constraint := F23,
    b_needed_constraint := b23,
    g_needed_constraint := PySem.W.mg_of X G (eqR_ok (allB_at g0 27 rfl)),
    F_key_constraint := F24,
    b_key_constraint := b24,
    g_key_constraint := PySem.W.mg_of X G (eqR_ok (allB_at g0 28 rfl)),
    F_constraints_against := F25,
    b_constraints_against := b25,
    g_constraints_against := PySem.W.mg_of X G (eqR_ok (allB_at g0 29 rfl)),
    F_against_fields := F26,
    b_against_fields := b26,
    g_against_fields := PySem.W.mg_of X G (eqR_ok (allB_at g0 30 rfl)),
    F_told_of := F27,
    b_told_of := b27,
    g_told_of := PySem.W.mg_of X G (eqR_ok (allB_at g0 31 rfl)),
    F_has_double := F28,
    b_has_double := b28,
    g_has_double := PySem.W.mg_of X G (eqR_ok (allB_at g0 32 rfl)),
    F_first_against := F29,
    b_first_against := b29,
    g_first_against := PySem.W.mg_of X G (eqR_ok (allB_at g0 33 rfl)),
    F_picture_size := F30,
    b_picture_size := b30,
    g_picture_size := PySem.W.mg_of X G (eqR_ok (allB_at g0 34 rfl)),
    F_thing_size := F31,
    b_thing_size := b31,
    g_thing_size := PySem.W.mg_of X G (eqR_ok (allB_at g0 35 rfl)),
    F_content_size := F32,
    b_content_size := b32,
    g_content_size := PySem.W.mg_of X G (eqR_ok (allB_at g0 36 rfl)),
    F__law_cells := F33,
    b__law_cells := b33,
    g__law_cells := PySem.W.mg_of X G (eqR_ok (allB_at g0 37 rfl)),
    F__law_draw := F34,
    b__law_draw := b34,
    g__law_draw := PySem.W.mg_of X G (eqR_ok (allB_at g0 38 rfl)),
    F__law_pick := F35,
    b__law_pick := b35,
    g__law_pick := PySem.W.mg_of X G (eqR_ok (allB_at g0 39 rfl)),
    F__law_links := F36,
    b__law_links := b36,
    g__law_links := PySem.W.mg_of X G (eqR_ok (allB_at g1 0 rfl)),
    F__law_names := F37,
    b__law_names := b37,
    g__law_names := PySem.W.mg_of X G (eqR_ok (allB_at g1 1 rfl)),
    F__law_rules := F38,
    b__law_rules := b38,
    g__law_rules := PySem.W.mg_of X G (eqR_ok (allB_at g1 2 rfl)),
    F__law_schema := F39,
    b__law_schema := b39,
    g__law_schema := PySem.W.mg_of X G (eqR_ok (allB_at g1 3 rfl)),
    F__law_number := F40,
    b__law_number := b40,
    g__law_number := PySem.W.mg_of X G (eqR_ok (allB_at g1 4 rfl)),
    F__law_list := F41,
    b__law_list := b41,
    g__law_list := PySem.W.mg_of X G (eqR_ok (allB_at g1 5 rfl)),
    F__law_contents := F42,
    b__law_contents := b42,
    g__law_contents := PySem.W.mg_of X G (eqR_ok (allB_at g1 6 rfl)),
    F__law_picture := F43,
    b__law_picture := b43,
    g__law_picture := PySem.W.mg_of X G (eqR_ok (allB_at g1 7 rfl)),
    F__law_there := F44,
    b__law_there := b44,
    g__law_there := PySem.W.mg_of X G (eqR_ok (allB_at g1 8 rfl)),
    F__law_told := F45,
    b__law_told := b45,
    g__law_told := PySem.W.mg_of X G (eqR_ok (allB_at g1 9 rfl)),
    F__law_against := F46,
    b__law_against := b46,
    g__law_against := PySem.W.mg_of X G (eqR_ok (allB_at g1 10 rfl)),
    F__law_size := F47,
    b__law_size := b47,
    g__law_size := PySem.W.mg_of X G (eqR_ok (allB_at g1 11 rfl)),
    F__law_first := F48,
    b__law_first := b48,
    g__law_first := PySem.W.mg_of X G (eqR_ok (allB_at g1 12 rfl)),
    F_law := F49,
    b_law := b49,
    b1_TextSort___init__ := F1.binds1 (ps := ["self", "longest", "without"]) 2 0 (by simp) (by rfl) (fun _ _ _ _ _ _ _ us its h3 h4 => match us, its, h3, h4 with | [_, _], [_], _, _ => ⟨_, rfl, rfl⟩),
    b1_Field___init__ := F9.binds1 (ps := ["self", "name", "shape", "needed"]) 3 0 (by simp) (by rfl) (fun _ _ _ _ _ _ _ us its h3 h4 => match us, its, h3, h4 with | [_, _, _], [_], _, _ => ⟨_, rfl, rfl⟩) }
theorem law_at {w : World} {K : PySem.W.Frag} {h : Heap} {mg : Str → Option Value} (X : K.In h) (G : h.Ns mainGlobals mg) (s : SaysH HD w K) : mg "law" = some (.ref (adr K).f_law) := by
  have E : exB K = true := s.ex
  have gA : allB (eA K) = true := allB_at E 0 rfl
  have gB : allB (eB K) = true := allB_at E 1 rfl
  have gC : allB (eC K) = true := allB_at E 2 rfl
  have gP : allB (eP K) = true := allB_at E 3 rfl
  have g1 : allB (e1 K) = true := allB_at gA 1 rfl
  exact PySem.W.mg_of X G (eqR_ok (allB_at g1 13 rfl))
end
end K46
open PySem PySem.W PySem.Calls PyProof.Rows in
set_option maxRecDepth 100000 in
set_option maxHeartbeats 0 in
theorem K46.endPre (hc : PySem.W.WalkO K46.qv K46.nms (PySem.W.XL K46.qv []) (Rn.hookH K46.HD).says (PySem.W.OpenLaw.row PySem.Challenge.rw_oneheap_k46_constraints_and_sizes).toRowW (HandSHeadRun.topDef (PySem.W.OpenLaw.row PySem.Challenge.rw_oneheap_k46_constraints_and_sizes).prog 50) [] (fun f vs => PySem.call f vs)) : PySem.Challenge.rw_oneheap_k46_constraints_and_sizes.Holds := by
  w_on; o_law
  refine Ct.head_cut (SF := K46.sT6) (r := PySem.W.OpenLaw.row PySem.Challenge.rw_oneheap_k46_constraints_and_sizes) (q := K46.qv) (H := Rn.hookH K46.HD) (ob := Rn.obH K46.HD) (M := 4195) (loose := K46.nms) (d := HandSHeadRun.topDef (PySem.W.OpenLaw.row PySem.Challenge.rw_oneheap_k46_constraints_and_sizes).prog 50) (kwd := []) (Rn.obH_eq K46.HD)
    (by kernel_rfl) (fun s => by kernel_rfl) K46.cTop K46.runH (by kernel_rfl) (by kernel_rfl) (by kernel_rfl) (by rfl) (by first | assumption | decide +kernel) (by decide +kernel) ⟨rfl, rfl, rfl, rfl, rfl, by decide +kernel⟩ ?hw hc
  case hw => w_witness2
namespace Dv
open PySem PySem.Spec PyProof.Rows L2
set_option autoImplicit false
noncomputable section
/-! ### the law's own promise -/
def spTrue (K : PySem.W.Frag) : Sp := fun vs H Q _ => ∃ (a : Addr) (ns : List Int), vs = [.ref a] ∧ SqL K H a (ns.map V.int) ∧ ns.length ≤ 63 ∧ ∀ H', Q (.bl true) H'
theorem law_imp {K : PySem.W.Frag} {S : Nat → Addr} {g : Fn} (h : ∀ ns : List Int, ns.length ≤ 63 → ∃ p, g [.val (.scr (ns.map .int))] = .ok (.bl true) p) (vs : List V) (H : Hp) (Q : VK) (E : XK) (q : spTrue K vs H Q E) : spD K S false 1 g vs H Q E := by
  obtain ⟨a, ns, rfl, hS, hl, q⟩ := q
  obtain ⟨p, hp⟩ := h ns hl
  refine ⟨H, [.val (.scr (ns.map .int))], none, fun a u e => .inl e, ⟨.cons ⟨a, _, rfl, hS, ints_rep ns⟩ .nil, Nat.zero_le _, fun a e => by cases e⟩, rfl, ?_⟩
  rw [hp]
  intro G' H' f pk
  show ∀ v, Rep K S G' (.bl true) v → Q v H'
  intro v hv
  cases hv
  exact q H'
end
end Dv
namespace Dv
open PySem PySem.Spec PyProof.Rows L2
set_option autoImplicit false
noncomputable section
/-! ### runs, told by rules -/
def selB {α : Type} (b : Bool) (x y : α) : α := match b with
  | true => x
  | false => y
/-- which of the two, told apart -/
structure Sel {α : Type} (b : Bool) (x y r : α) : Prop where
  of : selB b x y = r
section
variable {env e e' e1 e2 : Dv.Env} {a b c : Ev} {ta tb : EvT} {ra : EvA} {ga : EvG'} {sa sb : EvS} {i n : Nat} {d x y : D} {xs : List D} {f : FO} {fc : FC} {bb : Bool} {g : Fn} {as : List Ag} {ags : List Ar} {p : Option D} {cs : List Nat} {s : Str} {C : Nat} {fs : List (Str × D)} {kvs : List (Key × D)} {r : Res D} {rt : Res Bool} {rs : Sr}
theorem sel_t {α : Type} {b : Bool} {x y r : α} (h : b = true) (k : x = r) : Sel b x y r := by subst h; exact ⟨k⟩
theorem sel_f {α : Type} {b : Bool} {x y r : α} (h : b = false) (k : y = r) : Sel b x y r := by subst h; exact ⟨k⟩
theorem z_set0 {s x : Sl} {r : List Sl} : (s :: r).set 0 x = x :: r := rfl
theorem z_setS {s x : Sl} {r r' : List Sl} {i : Nat} (h : r.set i x = r') : (s :: r).set (i + 1) x = s :: r' := by rw [← h]; rfl
theorem z_at0 {s : Sl} {r : List Sl} : (s :: r)[0]? = some s := rfl
theorem z_atS {s : Sl} {o : Option Sl} {r : List Sl} {i : Nat} (h : r[i]? = o) : (s :: r)[i + 1]? = o := by rw [← h]; rfl
theorem z_putP {x q : D} : putSl (.par x) q = .par q := rfl
theorem z_putB {x q : D} : putSl (.box x) q = .box q := rfl
theorem z_st0 : Dv.start 0 [] = [] := rfl
theorem z_stN {n : Nat} {e : Dv.Env} (h : Dv.start n [] = e) : Dv.start (n + 1) [] = .no :: e := by rw [← h]; rfl
theorem z_stV {n : Nat} {d : D} {as : List Ar} {e : Dv.Env} (h : Dv.start n as = e) : Dv.start (n + 1) (.val d :: as) = .val d :: e := by
  rw [← h]
  unfold Dv.start
  rw [List.map_cons, List.length_cons, Nat.add_sub_add_right]
  rfl
theorem z_stP {n : Nat} {d : D} {as : List Ar} {e : Dv.Env} (h : Dv.start n as = e) : Dv.start (n + 1) (.par d :: as) = .par d :: e := by
  rw [← h]
  unfold Dv.start
  rw [List.map_cons, List.length_cons, Nat.add_sub_add_right]
  rfl
theorem z_bor0 : borE [] = [] := rfl
theorem z_borV {d : D} {e e' : Dv.Env} (h : borE e = e') : borE (.val d :: e) = .val d :: e' := by rw [← h]; rfl
theorem z_borB {d : D} {e e' : Dv.Env} (h : borE e = e') : borE (.box d :: e) = .val d :: e' := by rw [← h]; rfl
theorem z_borP {d : D} {e e' : Dv.Env} (h : borE e = e') : borE (.par d :: e) = .val d :: e' := by rw [← h]; rfl
theorem z_borN {e e' : Dv.Env} (h : borE e = e') : borE (.no :: e) = .no :: e' := by rw [← h]; rfl
theorem z_w0 : wipeE env [] = env := rfl
theorem z_wS {v : Nat} {vs : List Nat} {e1 e2 : Dv.Env} (h : wipeE env vs = e1) (h2 : e1.set v .no = e2) : wipeE env (v :: vs) = e2 := by rw [← h2, ← h]; rfl
theorem z_v0 {d x : D} {r : List Sl} : setE (.val x :: r) 0 d = some (.val d :: r) := rfl
theorem z_n0 {d : D} {r : List Sl} : setE (.no :: r) 0 d = some (.val d :: r) := rfl
theorem z_b0 {d x : D} {r : List Sl} : setE (.box x :: r) 0 d = some (.val d :: r) := rfl
theorem z_sS {d : D} {s : Sl} {r r' : List Sl} {i : Nat} (h : setE r i d = some r') : setE (s :: r) (i + 1) d = some (s :: r') := by
  unfold setE at h ⊢
  show (match r[i]? with | some (.par _) => none | some _ => some (s :: r.set i (.val d)) | none => none) = some (s :: r')
  revert h
  cases r[i]? with
  | none => intro h; cases h
  | some x => cases x <;> first
    | (intro h; cases h; done)
    | (intro h; rw [← Option.some.inj h])
theorem r_val (h : env[i]? = some (.val d)) : xVal i env = .ok d env := by unfold xVal; rw [h]
theorem r_var (h : env[i]? = some (.val d)) : xVar i env = .ok d env := by unfold xVar; rw [h]
theorem r_varB (h : env[i]? = some (.box d)) (he : env.set i (.val d) = e') : xVar i env = .ok d e' := by subst he; unfold xVar; rw [h]
theorem r_c : xC d env = .ok d env := rfl
theorem r_op (h1 : a env = .ok x e1) (h2 : b e1 = .ok y e2) (h3 : f x y = some d) : xOp f a b env = .ok d e2 := by unfold xOp; rw [h1]; show (b e1).bind _ = _; rw [h2]; show Res.of (f x y) e2 = _; rw [h3]; rfl
theorem r_nil : xNil env = .ok [] env := rfl
theorem r_cons (h1 : a env = .ok x e1) (h2 : ra e1 = .ok xs e2) : xCons a ra env = .ok (x :: xs) e2 := by unfold xCons; rw [h1]; show (ra e1).bind _ = _; rw [h2]; rfl
theorem r_cb (h1 : ra env = .ok xs e1) (h2 : fc xs = some d) : xCB fc ra env = .ok d e1 := by unfold xCB; rw [h1]; show Res.of (fc xs) e1 = _; rw [h2]; rfl
theorem r_lst (h1 : ra env = .ok xs e1) (h2 : xs.length ≤ 1000000) : xLst ra env = .ok (.lst xs) e1 := by unfold xLst; rw [h1]; exact if_pos h2
theorem r_tup (h1 : ra env = .ok xs e1) (h2 : xs.length ≤ 1000000) : xTup ra env = .ok (.tup xs) e1 := by unfold xTup; rw [h1]; exact if_pos h2
theorem r_fld (h1 : a env = .ok (.ins C fs) e1) (h2 : C ∈ cs) (h3 : fs.lookup s = some d) : xFld cs s a env = .ok d e1 := by unfold xFld; rw [h1]; show (if C ∈ cs then Res.of (fs.lookup s) e1 else Res.no) = _; rw [if_pos h2, h3]; rfl
theorem r_test (h1 : a env = .ok (.bl bb) e1) : xTest a env = .ok bb e1 := by unfold xTest; rw [h1]; rfl
theorem r_notT (h1 : ta env = .ok bb e1) : xNotT ta env = .ok (!bb) e1 := by unfold xNotT; rw [h1]; rfl
theorem r_andT (h1 : ta env = .ok bb e1) (h2 : Sel bb (tb e1) (.ok false e1) rt) : xAndT ta tb env = rt := by unfold xAndT; rw [h1, ← h2.of]; cases bb <;> rfl
theorem r_orT (h1 : ta env = .ok bb e1) (h2 : Sel bb (.ok true e1) (tb e1) rt) : xOrT ta tb env = rt := by unfold xOrT; rw [h1, ← h2.of]; cases bb <;> rfl
theorem r_andV (h1 : a env = .ok (.bl bb) e1) (h2 : Sel bb (b e1) (.ok (.bl false) e1) r) : xAndV a b env = r := by unfold xAndV; rw [h1, ← h2.of]; cases bb <;> rfl
theorem r_if (h1 : ta env = .ok bb e1) (h2 : Sel bb (a e1) (b e1) r) : xIf ta a b env = r := by unfold xIf; rw [h1, ← h2.of]; cases bb <;> rfl
theorem r_ifS (h1 : ta env = .ok bb e1) (h2 : Sel bb (sa e1) (sb e1) rs) : xIfS ta sa sb env = rs := by unfold xIfS; rw [h1, ← h2.of]; cases bb <;> rfl
structure SeqS (r : Sr) (k : EvS) (q : Sr) : Prop where
  of : r.seq k = q
theorem r_seq (h1 : sa env = rs) {q : Sr} (h2 : SeqS rs sb q) : xSeq sa sb env = q := by unfold xSeq; rw [h1]; exact h2.of
theorem sq_nx {q : Sr} (h : sb e = q) : SeqS (.nx e) sb q := ⟨h⟩
theorem sq_rt : SeqS (.rt d e) sb (.rt d e) := ⟨rfl⟩
theorem sq_rf : SeqS (.rf d e) sb (.rf d e) := ⟨rfl⟩
theorem sq_bk : SeqS (.bk e) sb (.bk e) := ⟨rfl⟩
theorem r_nx : xNx env = .nx env := rfl
theorem r_break : xBreak env = .bk env := rfl
theorem r_set (h1 : a env = .ok d e1) (h2 : setE e1 i d = some e2) : xSet i a env = .nx e2 := by unfold xSet; rw [h1]; show (match setE e1 i d with | some e' => Sr.nx e' | none => Sr.no) = _; rw [h2]
theorem r_ret (h1 : a env = .ok d e1) : xRet a env = .rt d e1 := by unfold xRet; rw [h1]; rfl
theorem r_retV (h1 : env[i]? = some (.box d)) (he : env.set i .no = e') : xRetV i env = .rf d e' := by subst he; unfold xRetV; rw [h1]
theorem r_drop (h1 : a env = .ok d e1) : xDrop a env = .nx e1 := by unfold xDrop; rw [h1]; rfl
def boxable : Option Sl → Bool
  | some (.par _) => false
  | some _ => true
  | none => false
theorem r_box {os : Option Sl} (h1 : a env = .ok d e1) (h0 : e1[i]? = os) (h2 : boxable os = true) (he : e1.set i (.box d) = e') : xBox i a env = .nx e' := by
  subst he
  subst h0
  unfold xBox
  rw [h1]
  show (match e1[i]? with | some (.par _) => Sr.no | some _ => Sr.nx (e1.set i (.box d)) | none => Sr.no) = _
  revert h2
  cases e1[i]? with
  | none => intro h; cases h
  | some s => cases s <;> first | (intro h; cases h; done) | (intro _; rfl)
theorem r_gnil : gNil env = .ok [] env := rfl
theorem r_gval (h1 : a env = .ok x e1) (h2 : ga e1 = .ok as e2) : gVal a ga env = .ok (.v x :: as) e2 := by unfold gVal; rw [h1]; show (ga e1).bind _ = _; rw [h2]; rfl
theorem r_gslot {sl : Sl} (h0 : env[i]? = some sl) (h1 : isOwn sl = true) (h2 : ga env = .ok as e2) : gSlot i ga env = .ok (.s i :: as) e2 := by unfold gSlot; rw [h0]; show (if isOwn sl = true then _ else _) = _; rw [if_pos h1, h2]; rfl
structure CallK (l : List Nat) (g : Fn) (ags : List Ar) (e1 : Dv.Env) (r : Res D) : Prop where
  of : (match l with
    | [] => match g ags with
      | .ok d _ => Res.ok d e1
      | .ex C fs _ => .ex C fs e1
      | .no => .no
    | [i] => match e1[i]? with
      | some s => match g ags with
        | .ok d (some p) => .ok d (e1.set i (putSl s p))
        | _ => .no
      | none => .no
    | _ => .no) = r
theorem ck_v (h : g ags = .ok d p) : CallK [] g ags e1 (.ok d e1) := ⟨by dsimp only; rw [h]⟩
theorem ck_s {sl sl' : Sl} {q : D} (h0 : e1[i]? = some sl) (h : g ags = .ok d (some q)) (hp : putSl sl q = sl') (he : e1.set i sl' = e') : CallK [i] g ags e1 (.ok d e') := ⟨by subst he; subst hp; dsimp only; rw [h0]; dsimp only; rw [h]⟩
theorem r_call {d : D} {e' : Dv.Env} (h1 : ga env = .ok as e1) (h2 : as.length = n) (h4 : resv as e1 = some ags) (h5 : CallK (slotOf as) g ags e1 (.ok d e')) : xCall n g ga env = .ok d e' := by
  unfold xCall
  rw [h1]
  show (if as.length = n then callG g as e1 else Res.no) = _
  rw [if_pos h2]
  unfold callG
  rw [h4]
  have := h5.of
  dsimp only
  revert this
  cases slotOf as with
  | nil => exact id
  | cons i l =>
    cases l with
    | cons _ _ => intro h; cases h
    | nil =>
      dsimp only
      cases e1[i]? with
      | none => intro h; cases h
      | some s =>
        dsimp only
        cases g ags with
        | no => intro h; cases h
        | ex C fs p => intro h; cases h
        | ok d p => cases p with
          | none => intro h; cases h
          | some p => exact id
theorem r_make {ci : Nat} {dcs : List D} {q : D} (h1 : ra env = .ok xs e1) (h2 : xs.length + 1 + dcs.length = n) (h3 : g (.par (.ins ci []) :: (xs ++ dcs).map Ar.val) = .ok .non (some q)) : xMake ci n dcs g ra env = .ok q e1 := by
  unfold xMake
  rw [h1]
  show (if xs.length + 1 + dcs.length = n then _ else _) = _
  rw [if_pos h2, h3]
theorem r_meth {m : Str} {t : MT} {j : Nat} (h1 : a env = .ok (.ins C fs) e1) (h2 : t.at C = some (j, g)) (h3 : fs.lookup m = none) (h4 : ga e1 = .ok as e2) (h5 : (Ag.v (.ins C fs) :: as).length = n) (h6 : slotOf (Ag.v (.ins C fs) :: as) = []) (h7 : resv (.v (.ins C fs) :: as) e2 = some ags) (h8 : g ags = .ok d p) : xMeth m n t a ga env = .ok d e2 := by
  unfold xMeth
  rw [h1]
  show (match t.at C with | some (_, g) => _ | none => _) = _
  rw [h2]
  dsimp only
  rw [if_pos h3, h4]
  show (if (Ag.v (.ins C fs) :: as).length = n then callG g (.v (.ins C fs) :: as) e2 else Res.no) = _
  rw [if_pos h5]
  unfold callG
  rw [h7, h6]
  dsimp only
  rw [h8]
theorem r_dget1 {k : Key} (h1 : a env = .ok (.dct kvs) e1) (h2 : b e1 = .ok y e2) (h3 : keyD y = some k) (h4 : (valD kvs k).getD .non = d) : xDGet1 a b env = .ok d e2 := by
  unfold xDGet1
  rw [h1]
  show (b e1).bind _ = _
  rw [h2]
  show Res.of ((keyD y).map _) e2 = _
  rw [h3, ← h4]
  rfl
theorem r_isq (h1 : a env = .ok d e1) (h2 : seqD d = some xs) : iSq a env = .ok xs e1 := by unfold iSq; rw [h1]; show Res.of (seqD d) e1 = _; rw [h2]; rfl
theorem r_for {ei : EvI} {eg : Eg} (h1 : ei env = .ok xs e1) (h2 : forL eg sa xs e1 = rs) : xFor ei eg sa env = rs := by unfold xFor; rw [h1]; exact h2
theorem r_run (hs : Dv.start n ags = e') (h : sa e' = .rt d e) (hp : parOf e = p) : runF false n sa ags = .ok d p := by subst hp; subst hs; unfold runF; rw [h]; rfl
theorem r_runN (hs : Dv.start n ags = e') (h : sa e' = .nx e) (hp : parOf e = p) : runF false n sa ags = .ok .non p := by subst hp; subst hs; unfold runF; rw [h]; rfl
theorem r_runF (hs : Dv.start n ags = e') (h : sa e' = .rf d e) (hp : parOf e = p) : runF true n sa ags = .ok d p := by subst hp; subst hs; unfold runF; rw [h]; rfl
theorem r_fldS {fs' : List (Str × D)} (h1 : a env = .ok d e1) (h0 : e1[i]? = some (.par (.ins C fs))) (h2 : C ∈ cs) (h3 : fs.length ≤ 900) (hp : putD s d fs = fs') (he : e1.set i (.par (.ins C fs')) = e') : xFldS cs s i a env = .nx e' := by
  subst he
  subst hp
  unfold xFldS
  rw [h1]
  show (match e1[i]? with | some (.par (.ins C fs)) => _ | some (.box (.ins C fs)) => _ | _ => _) = _
  rw [h0]
  exact if_pos ⟨h2, h3⟩
theorem r_bor (hb : borE env = e') (h : a e' = .ok d e1) (hs : scalR d = true) : xBor a env = .ok d env := by subst hb; unfold xBor; rw [h]; exact if_pos hs
theorem r_borT (hb : borE env = e') (h : ta e' = .ok bb e1) : xBorT ta env = .ok bb env := by subst hb; unfold xBorT; rw [h]
theorem r_ownM {fm : FM} {sl sl' : Sl} {l : List D} {c c' : D} (h1 : env[i]? = some sl) (h2 : cont sl = some (.lst l)) (h3 : ra env = .ok xs e1) (h4 : e1[i]? = some sl') (h5 : cont sl' = some c) (h6 : fm c xs = some (d, c')) {sl2 : Sl} (hp : putSl sl' c' = sl2) (he : e1.set i sl2 = e') : xOwnM fm i ra env = .ok d e' := by
  subst he
  subst hp
  unfold xOwnM
  rw [h1]
  dsimp only
  rw [h2]
  dsimp only
  rw [h3]
  show (match e1[i]? with | some t => _ | none => _) = _
  rw [h4]
  dsimp only
  rw [h5]
  dsimp only
  rw [h6]
theorem r_setIx {ek ev : Ev} {t0 t : Sl} {l : List D} {j : Int} {m : Nat} (h1 : ev env = .ok d e1) (h2 : e1[i]? = some t0) (h3 : isOwn t0 = true) (h4 : ek e1 = .ok (.int j) e2) (h5 : e2[i]? = some t) (h6 : cont t = some (.lst l)) (h7 : ixN l.length j = some m) {l' : List D} (hl : l.set m d = l') {sl2 : Sl} (hp : putSl t (.lst l') = sl2) (he : e2.set i sl2 = e') : xSetIx i ek ev env = .nx e' := by
  subst he
  subst hp
  subst hl
  unfold xSetIx
  rw [h1]
  show (match e1[i]? with | some t0 => _ | none => _) = _
  rw [h2]
  dsimp only
  rw [if_pos h3, h4]
  show (match e2[i]?, D.int j with | some t, .int j => _ | _, _ => _) = _
  rw [h5]
  dsimp only
  rw [h6]
  dsimp only
  rw [h7]
theorem r_dput {ek ev : Ev} {t0 t : Sl} {k : Key} (h1 : ev env = .ok d e1) (h2 : e1[i]? = some t0) (h3 : isOwn t0 = true) (h4 : ek e1 = .ok y e2) (h5 : e2[i]? = some t) (h5' : keyD y = some k) (h6 : cont t = some (.dct kvs)) (h7 : kvs.length < 1000000) {kvs' : List (Key × D)} (hl : putKD kvs k d = kvs') {sl2 : Sl} (hp : putSl t (.dct kvs') = sl2) (he : e2.set i sl2 = e') : xDPut i ek ev env = .nx e' := by
  subst he
  subst hp
  subst hl
  unfold xDPut
  rw [h1]
  show (match e1[i]? with | some t0 => _ | none => _) = _
  rw [h2]
  dsimp only
  rw [if_pos h3, h4]
  show (match e2[i]?, keyD y with | some t, some k => _ | _, _ => _) = _
  rw [h5, h5']
  dsimp only
  rw [h6]
  dsimp only
  rw [if_pos h7]
/-! loops and comprehensions -/
theorem wipe_wipeE {vs : List Nat} : wipeE (wipeE env vs) vs = wipeE env vs := by
  refine List.ext_getElem? fun j => ?_
  rw [wipeE_at, wipeE_at, wipeE_len]
  by_cases hj : j ∈ vs
  · rw [if_pos hj, if_pos hj]
  · simp [hj]
theorem cmp_ok {eg : Eg} {vs : List Nat} (W : Dv.Env) (q : D → Bool) (h : D → D) : ∀ (ds acc : List D) (env : Dv.Env), wipeE env vs = W → acc.length + ds.length < 1000000 →
    (∀ x ∈ ds, ∃ e1 e2, eg x W = some e1 ∧ ta e1 = .ok (q x) e2 ∧ wipeE e2 vs = W ∧ (q x = true → ∃ e3, a e2 = .ok (h x) e3 ∧ wipeE e3 vs = W)) → ∃ env', cmpL eg ta a vs ds acc env = .ok (acc ++ (ds.filter q).map h) env' ∧ wipeE env' vs = W
  | [], acc, env, hw, _, _ => ⟨env, by simp [cmpL], hw⟩
  | x :: ds, acc, env, hw, hl, hx => by
    obtain ⟨e1, e2, h1, h2, h3, h4⟩ := hx x (List.mem_cons_self ..)
    have ht := fun acc env hw hl => cmp_ok W q h ds acc env hw hl fun y hy => hx y (List.mem_cons_of_mem _ hy)
    rw [List.length_cons] at hl
    have e0 : cmpL eg ta a vs (x :: ds) acc env = match eg x (wipeE env vs) with
      | none => .no
      | some e1 => match ta e1 with
        | .ok true e2 => match a e2 with
          | .ok y e3 => if acc.length < 1000000 then cmpL eg ta a vs ds (acc ++ [y]) e3 else .no
          | _ => .no
        | .ok false e2 => cmpL eg ta a vs ds acc e2
        | _ => .no := rfl
    rw [e0, hw, h1]
    dsimp only
    rw [h2]
    cases hq : q x with
    | false =>
      dsimp only
      obtain ⟨env', k1, k2⟩ := ht acc e2 h3 (by omega)
      refine ⟨env', ?_, k2⟩
      rw [k1, List.filter_cons_of_neg (by rw [hq]; decide)]
    | true =>
      dsimp only
      obtain ⟨e3, h5, h6⟩ := h4 hq
      rw [h5]
      dsimp only
      rw [if_pos (by omega)]
      obtain ⟨env', k1, k2⟩ := ht (acc ++ [h x]) e3 h6 (by simp; omega)
      refine ⟨env', ?_, k2⟩
      rw [k1, List.filter_cons_of_pos hq]
      simp
theorem r_lc {ei : EvI} {eg : Eg} {vs : List Nat} {ds acc : List D} {e' : Dv.Env} (h1 : ei env = .ok ds e1) (h2 : cmpL eg ta a vs ds [] e1 = .ok acc e') (hw : wipeE e' vs = e) : xLc ei eg ta a vs env = .ok (.lst acc) e := by
  subst hw
  unfold xLc
  rw [h1]
  show (cmpL eg ta a vs ds [] e1).bind _ = _
  rw [h2]
  rfl
theorem r_lcD {pt : Pth} {w : Wk} {eg : Eg} {vs : List Nat} {acc : List D} {e' : Dv.Env} (h1 : pt env = some (.dct kvs, e1)) (h2 : cmpL eg ta a vs (w.ds kvs) [] e1 = .ok acc e') (hw : wipeE e' vs = e) : xLcD pt w eg ta a vs env = .ok (.lst acc) e := by
  subst hw
  unfold xLcD
  rw [h1]
  show noR ((cmpL eg ta a vs (w.ds kvs) [] e1).bind _) = _
  rw [h2]
  rfl
end
section
variable {env e e' e1 e2 e3 : Dv.Env} {a : Ev} {ta : EvT} {ra : EvA} {sb : EvS} {i : Nat} {d x y : D} {xs ds acc acc' : List D} {bb : Bool} {eg : Eg} {vs : List Nat} {r : Res (List D)} {rs q : Sr} {j k : Int}
theorem r_yes : xYes env = .ok true env := rfl
theorem cmp_nil : cmpL eg ta a vs [] acc env = .ok acc env := rfl
theorem cmp_cons (hw : wipeE env vs = e) (h1 : eg x e = some e1) (h2 : ta e1 = .ok bb e2) (h3 : Sel bb (match a e2 with | .ok y e3 => if acc.length < 1000000 then cmpL eg ta a vs xs (acc ++ [y]) e3 else .no | _ => .no) (cmpL eg ta a vs xs acc e2) r) : cmpL eg ta a vs (x :: xs) acc env = r := by
  have e0 : cmpL eg ta a vs (x :: xs) acc env = match eg x (wipeE env vs) with
      | none => .no
      | some e1 => match ta e1 with
        | .ok true e2 => match a e2 with
          | .ok y e3 => if acc.length < 1000000 then cmpL eg ta a vs xs (acc ++ [y]) e3 else .no
          | _ => .no
        | .ok false e2 => cmpL eg ta a vs xs acc e2
        | _ => .no := rfl
  subst hw
  rw [e0, h1]
  dsimp only
  rw [h2, ← h3.of]
  cases bb <;> rfl
theorem z_app0 : [] ++ [y] = [y] := rfl
theorem z_appS (h : acc ++ [y] = acc') : (x :: acc) ++ [y] = x :: acc' := by rw [← h]; rfl
theorem cmp_el (h1 : a e2 = .ok y e3) (h2 : acc.length < 1000000) (ha : acc ++ [y] = acc') (h3 : cmpL eg ta a vs xs acc' e3 = r) : (match a e2 with | .ok y e3 => if acc.length < 1000000 then cmpL eg ta a vs xs (acc ++ [y]) e3 else .no | _ => .no) = r := by
  subst ha
  rw [h1]
  dsimp only
  rw [if_pos h2, h3]
theorem z_pd0 {f : Str} {v : D} : putD f v [] = [(f, v)] := rfl
theorem z_pdS {f k : Str} {v w : D} {r r' : List (Str × D)} (hne : k ≠ f) (h : putD f v r = r') : putD f v ((k, w) :: r) = (k, w) :: r' := by
  rw [← h]
  show (if k = f then (k, v) :: r else (k, w) :: putD f v r) = _
  rw [if_neg hne]
theorem z_pk0 {k : Key} {v : D} : putKD [] k v = [(k, v)] := rfl
theorem z_pkS {k k' : Key} {v v' : D} {l l' : List (Key × D)} (hne : k' ≠ k) (h : putKD l k v = l') : putKD ((k', v') :: l) k v = (k', v') :: l' := by
  rw [← h]
  unfold putKD
  have e1 : decide (k' = k) = false := decide_eq_false hne
  simp only [List.any_cons, e1, Bool.false_or, List.map_cons, if_neg hne, List.cons_append]
  split <;> rfl
theorem dcmp_nil {ek : Ev} {acc : List (Key × D)} : dcmpL eg ta ek a vs [] acc env = .ok acc env := rfl
theorem dcmp_cons {ek : Ev} {acc acc' : List (Key × D)} {r : Res (List (Key × D))} {e4 : Dv.Env} {k : Key} {z : D} (hw : wipeE env vs = e) (h1 : eg x e = some e1) (h2 : ta e1 = .ok true e2) (h3 : ek e2 = .ok y e3) (h4 : a e3 = .ok z e4) (h5 : keyD y = some k) (h6 : acc.length < 1000000) (ha : putKD acc k z = acc') (h7 : dcmpL eg ta ek a vs xs acc' e4 = r) : dcmpL eg ta ek a vs (x :: xs) acc env = r := by
  have e0 : dcmpL eg ta ek a vs (x :: xs) acc env = match eg x (wipeE env vs) with
      | none => .no
      | some e1 => match ta e1 with
        | .ok true e2 => match ek e2 with
          | .ok y e3 => match a e3 with
            | .ok z e4 => match keyD y with
              | some k => if acc.length < 1000000 then dcmpL eg ta ek a vs xs (putKD acc k z) e4 else .no
              | none => .no
            | _ => .no
          | _ => .no
        | .ok false e2 => dcmpL eg ta ek a vs xs acc e2
        | _ => .no := rfl
  subst hw
  subst ha
  rw [e0, h1]
  dsimp only
  rw [h2]
  dsimp only
  rw [h3]
  dsimp only
  rw [h4]
  dsimp only
  rw [h5]
  dsimp only
  rw [if_pos h6, h7]
theorem r_dcD {pt : Pth} {w : Wk} {ek : Ev} {kvs acc : List (Key × D)} (h1 : pt env = some (.dct kvs, e1)) (h2 : dcmpL eg ta ek a vs (w.ds kvs) [] e1 = .ok acc e') (hw : wipeE e' vs = e) : xDcD pt w eg ta ek a vs env = .ok (.dct acc) e := by
  subst hw
  unfold xDcD
  rw [h1]
  show noR ((dcmpL eg ta ek a vs (w.ds kvs) [] e1).bind _) = _
  rw [h2]
  rfl
theorem r_dnew : xDNew env = .ok (.dct []) env := rfl
theorem z_tup2 {b c : Eg} {x y : D} (h1 : b x env = some e1) (h2 : c y e1 = some e2) : yTup 2 (yCons b (yCons c yNil)) (.tup [x, y]) env = some e2 := by
  show (if [x, y].length = 2 then (match b x env with | some e => (match c y e with | some e => some e | none => none) | none => none) else none) = _
  rw [if_pos (show [x, y].length = 2 from rfl), h1]
  dsimp only
  rw [h2]
structure ForK (eg : Eg) (sb : EvS) (xs : List D) (rs q : Sr) : Prop where
  of : (match rs with | .nx e2 => forL eg sb xs e2 | .ct e2 => forL eg sb xs e2 | .bk e2 => .nx e2 | r => r) = q
theorem for_nil : forL eg sb [] env = .nx env := rfl
theorem for_cons (h1 : eg x env = some e1) (h2 : sb e1 = rs) (h3 : ForK eg sb xs rs q) : forL eg sb (x :: xs) env = q := by
  have e0 : forL eg sb (x :: xs) env = match eg x env with
    | none => .no
    | some e1 => match sb e1 with
      | .nx e2 => forL eg sb xs e2
      | .ct e2 => forL eg sb xs e2
      | .bk e2 => .nx e2
      | r => r := rfl
  rw [e0, h1]
  dsimp only
  rw [h2]
  exact h3.of
theorem fk_nx (h : forL eg sb xs e = q) : ForK eg sb xs (.nx e) q := ⟨h⟩
theorem fk_bk : ForK eg sb xs (.bk e) (.nx e) := ⟨rfl⟩
theorem fk_rt : ForK eg sb xs (.rt d e) (.rt d e) := ⟨rfl⟩
theorem r_rg1 (h1 : ra env = .ok [.int j] e1) (h2 : -(2 ^ 62) ≤ j ∧ j < 2 ^ 62) : iRg1 ra env = .ok (rngD 0 j.toNat) e1 := by unfold iRg1; rw [h1]; exact if_pos h2
theorem r_rg2 (h1 : ra env = .ok [.int j, .int k] e1) (h2 : -(2 ^ 62) ≤ j ∧ j < 2 ^ 62 ∧ -(2 ^ 62) ≤ k ∧ k < 2 ^ 62) : iRg2 ra env = .ok (rngD j (k - j).toNat) e1 := by unfold iRg2; rw [h1]; exact if_pos h2
def isPar : Sl → Bool
  | .par _ => true
  | _ => false
theorem z_f0 {d : D} {s : Sl} {r : List Sl} (hf : isPar s = false) : setE (s :: r) 0 d = some (.val d :: r) := by
  cases s <;> first
    | (cases hf; done)
    | rfl
theorem z_name {d : D} (h : setE env i d = some e) : yName i d env = some e := h
theorem setE_at {s : Sl} (h : env[i]? = some s) (hf : isPar s = false) : setE env i d = some (env.set i (.val d)) := by
  unfold setE
  rw [h]
  cases s <;> first
    | (cases hf; done)
    | rfl
end
theorem ix0 {x : D} {r : List D} : oIx (.lst (x :: r)) (.int 0) = some x := by
  show atI (x :: r) 0 = some x
  unfold atI ixN
  rw [if_pos (by decide), if_pos (by rw [List.length_cons]; omega)]
  rfl
theorem ixn0 {x : D} {r : List D} : ixN (x :: r).length 0 = some 0 := by
  unfold ixN
  rw [if_pos (by decide), if_pos (by rw [List.length_cons]; omega)]
  rfl
theorem pop0 {x : D} {r : List D} : mPopAt (.lst (x :: r)) [.int 0] = some (x, .lst r) := rfl
theorem z_setS4 {s0 s1 s2 s3 x : Sl} {r r' : List Sl} {i : Nat} (h : r.set i x = r') : (s0 :: s1 :: s2 :: s3 :: r).set (i + 4) x = s0 :: s1 :: s2 :: s3 :: r' := by rw [← h]; rfl
theorem z_atS4 {s0 s1 s2 s3 : Sl} {o : Option Sl} {r : List Sl} {i : Nat} (h : r[i]? = o) : (s0 :: s1 :: s2 :: s3 :: r)[i + 4]? = o := by rw [← h]; rfl
theorem z_stN4 {n : Nat} {e : Dv.Env} (h : Dv.start n [] = e) : Dv.start (n + 4) [] = .no :: .no :: .no :: .no :: e := by rw [← h]; rfl
theorem z_sS4 {d : D} {s0 s1 s2 s3 : Sl} {r r' : List Sl} {i : Nat} (h : setE r i d = some r') : setE (s0 :: s1 :: s2 :: s3 :: r) (i + 4) d = some (s0 :: s1 :: s2 :: s3 :: r') := z_sS (i := i + 3) (z_sS (i := i + 2) (z_sS (i := i + 1) (z_sS h)))
end
end Dv
section
open Dv
local macro_rules
  | `(tactic| exists $ts,*) => do
    let mut alts : Lean.TSyntaxArray `tactic := #[]
    for t in ts.getElems do alts := alts.push (← `(tactic| exact $t))
    let r ← `(tactic| first
      | with_reducible exact r_c | with_reducible exact r_nil | with_reducible exact r_gnil | with_reducible exact r_nx | with_reducible exact r_break | with_reducible exact sq_rt | with_reducible exact sq_rf | with_reducible exact sq_bk | with_reducible exact r_yes | with_reducible exact cmp_nil | with_reducible exact for_nil | with_reducible exact fk_bk | with_reducible exact fk_rt | with_reducible exact z_putP | with_reducible exact z_putB | with_reducible exact z_st0 | with_reducible exact z_bor0 | with_reducible exact z_w0 | with_reducible exact z_set0 | with_reducible exact z_v0 | with_reducible exact z_n0 | with_reducible exact z_b0 | with_reducible exact z_at0 | with_reducible exact z_app0 | with_reducible exact z_pk0 | with_reducible exact z_pd0 | with_reducible exact dcmp_nil | with_reducible exact r_dnew
      | ((with_reducible apply r_val); rfl) | ((with_reducible apply r_var); rfl) | ((with_reducible apply r_varB); rfl)
      | with_reducible apply r_op | with_reducible apply r_cons | with_reducible apply r_cb | with_reducible apply r_lst | with_reducible apply r_tup | with_reducible apply r_fld | with_reducible apply r_test | with_reducible apply r_notT | with_reducible apply r_andT | with_reducible apply r_orT | with_reducible apply r_andV | with_reducible apply r_if | with_reducible apply r_ifS | with_reducible apply r_seq | with_reducible apply sq_nx | with_reducible apply r_set | with_reducible apply r_ret | with_reducible apply r_retV | with_reducible apply r_drop | with_reducible apply r_box | with_reducible apply r_gval | with_reducible apply r_gslot | with_reducible apply r_call | with_reducible apply r_make | with_reducible apply r_meth | with_reducible apply r_dget1 | with_reducible apply r_isq | with_reducible apply r_for | with_reducible apply r_bor | with_reducible apply r_borT | with_reducible apply r_fldS | with_reducible apply r_ownM | with_reducible apply r_setIx | with_reducible apply r_dput | with_reducible apply r_run | with_reducible apply r_runN | with_reducible apply r_runF | with_reducible apply cmp_el | with_reducible apply fk_nx | with_reducible apply r_lc | with_reducible apply r_lcD | with_reducible apply r_rg1 | with_reducible apply r_rg2 | with_reducible apply z_name | with_reducible apply z_setS4 | with_reducible apply z_setS | with_reducible apply z_atS4 | with_reducible apply z_atS | with_reducible apply z_stN4 | with_reducible apply z_stN | with_reducible apply z_stV | with_reducible apply z_stP | with_reducible apply z_borV | with_reducible apply z_borB | with_reducible apply z_borP | with_reducible apply z_borN | with_reducible apply z_wS | with_reducible apply z_sS4 | with_reducible apply z_sS | with_reducible apply z_pkS | with_reducible apply z_pdS | with_reducible apply r_dcD | with_reducible apply z_tup2 | with_reducible apply z_f0 | with_reducible apply z_appS
      | ((with_reducible apply sel_t); (first | assumption | rfl)) | ((with_reducible apply sel_f); (first | assumption | rfl))
      | apply ck_v | apply ck_s | apply cmp_cons | apply for_cons | apply dcmp_cons | exact sq_rt | exact sq_rf | exact fk_rt)
    let rest ← `(tactic| first | assumption | rfl | decide | exact Nat.le_of_ble_eq_true rfl)
    let alts2 := alts ++ #[r] ++ #[rest]
    `(tactic| repeat' (first $[| $alts2:tactic]*))
namespace K46L
open PySem PySem.Spec PyProof.Rows L2 Dv K46
set_option autoImplicit false
noncomputable section
/-! draws -/
def Dr (l : List Int) : Prop := l ≠ [] ∧ ∀ n ∈ l, 0 ≤ n
theorem modE {x b : Int} (hb : b ≠ 0) : oMod (.int x) (.int b) = some (.int (x.fmod b)) := by
  show (if decide (b ≠ 0) = true then some (D.int (x.fmod b)) else none) = _
  rw [if_pos (decide_eq_true hb)]
theorem fdvE {x b : Int} (hb : b ≠ 0) (hb2 : b.natAbs < 1073741824) : oFdv (.int x) (.int b) = some (.int (x.fdiv b)) := by
  show (if decide (b ≠ 0 ∧ b.natAbs < 1073741824) = true then some (D.int (x.fdiv b)) else none) = _
  rw [if_pos (decide_eq_true ⟨hb, hb2⟩)]
theorem draw1 {x b : Int} {r : List Int} (hx : x ≠ 0 ∨ r = []) (hb : b ≠ 0) (hb2 : b.natAbs < 1073741824) : d__law_draw [.par (.lst ((x :: r).map .int)), .val (.int b)] = .ok (.int (x.fmod b)) (some (.lst ((x.fdiv b :: r).map .int))) := by
  unfold d__law_draw b__law_draw
  by_cases hz : x = 0
  · have h0 : decide (x = 0) = true := decide_eq_true hz
    have hr : r = [] := hx.resolve_left (fun h => h hz)
    subst hr
    (exists ix0, modE hb, fdvE hb hb2, ixn0)
  · have h0 : decide (x = 0) = false := decide_eq_false hz
    (exists ix0, modE hb, fdvE hb hb2, ixn0)
theorem draw2 {b y : Int} {r : List Int} (hb : b ≠ 0) (hb2 : b.natAbs < 1073741824) : d__law_draw [.par (.lst ((0 :: y :: r).map .int)), .val (.int b)] = .ok (.int (y.fmod b)) (some (.lst ((y.fdiv b :: r).map .int))) := by
  have h1 : decide ((1 : Int) < (((0 :: y :: r).map D.int).length : Nat)) = true := decide_eq_true (by simp; omega)
  unfold d__law_draw b__law_draw
  (exists ix0, modE hb, fdvE hb hb2, ixn0)
theorem draw_ok {l : List Int} (h : Dr l) (b : Int) (hb : 1 ≤ b) (hb2 : b < 1000) : ∃ (v : Int) (l' : List Int), d__law_draw [.par (.lst (l.map .int)), .val (.int b)] = .ok (.int v) (some (.lst (l'.map .int))) ∧ 0 ≤ v ∧ v < b ∧ Dr l' := by
  have b0 : b ≠ 0 := by omega
  have b1 : b.natAbs < 1073741824 := by omega
  have key : ∀ (x : Int) (r : List Int), 0 ≤ x → (∀ n ∈ r, 0 ≤ n) → 0 ≤ x.fmod b ∧ x.fmod b < b ∧ Dr (x.fdiv b :: r) := fun x r hx hr => ⟨Int.fmod_nonneg_of_pos x (by omega), Int.fmod_lt_of_pos x (by omega), fun e => (by cases e), fun n hn => by
    rcases List.mem_cons.mp hn with rfl | hn
    · exact Int.fdiv_nonneg hx (by omega)
    · exact hr n hn⟩
  obtain ⟨h0, h1⟩ := h
  match l, h0, h1 with
  | [x], _, h1 => exact ⟨_, _, draw1 (.inr rfl) b0 b1, key x [] (h1 x (List.mem_cons_self ..)) fun n hn => by cases hn⟩
  | x :: y :: r, _, h1 =>
    by_cases hx : x = 0
    · subst hx
      exact ⟨_, _, draw2 b0 b1, key y r (h1 y (by simp)) fun n hn => h1 n (by simp [hn])⟩
    · exact ⟨_, _, draw1 (.inl hx) b0 b1, key x (y :: r) (h1 x (List.mem_cons_self ..)) fun n hn => h1 n (List.mem_cons_of_mem _ hn)⟩
theorem ixE {row : List D} {v : Int} (h0 : 0 ≤ v) (h1 : v < row.length) : ∃ d, d ∈ row ∧ oIx (.lst row) (.int v) = some d := by
  have hv : v.toNat < row.length := by omega
  refine ⟨row[v.toNat], List.getElem_mem hv, ?_⟩
  show atI row v = _
  unfold atI ixN
  rw [if_pos h0, if_pos h1]
  show row[v.toNat]? = _
  simp [hv]
theorem pick_ok {l : List Int} (h : Dr l) (row : List D) (h1 : 1 ≤ row.length) (h2 : row.length < 1000) : ∃ (d : D) (l' : List Int), d__law_pick [.par (.lst (l.map .int)), .val (.lst row)] = .ok d (some (.lst (l'.map .int))) ∧ d ∈ row ∧ Dr l' := by
  obtain ⟨v, l', e, v0, v1, hd⟩ := draw_ok h (row.length : Nat) (by omega) (by omega)
  obtain ⟨d, hm, hx⟩ := ixE v0 v1
  refine ⟨d, l', ?_, hm, hd⟩
  unfold d__law_pick b__law_pick
  (exists e, hx)
theorem number_ok {l : List Int} (h : Dr l) : ∃ (z : Option Int) (l' : List Int), d__law_number [.par (.lst (l.map .int))] = .ok (match z with | some k => .int k | none => .non) (some (.lst (l'.map .int))) ∧ Dr l' := by
  obtain ⟨v, l', e, v0, v1, hd⟩ := draw_ok h 10 (by omega) (by omega)
  unfold d__law_number b__law_number
  by_cases hv : v = 0
  · have h0 : decide (v = 0) = true := decide_eq_true hv
    exact ⟨none, l', by (exists e), hd⟩
  · have h0 : decide (v = 0) = false := decide_eq_false hv
    exact ⟨some v, l', by (exists e), hd⟩
theorem rules_ok {l : List Int} (h : Dr l) : ∃ (a b c : Str) (l' : List Int), d__law_rules [.par (.lst (l.map .int))] = .ok (.lst [.str a, .str b, .str c]) (some (.lst (l'.map .int))) ∧ Dr l' ∧ a ≠ "list" ∧ b ≠ "list" ∧ c ≠ "list" := by
  have mem : ∀ d ∈ [D.str "clears", D.str "refuses", D.str "takes"], ∃ s : Str, d = .str s ∧ s ≠ "list" := fun d hd => by
    simp at hd
    rcases hd with rfl | rfl | rfl <;> exact ⟨_, rfl, by decide⟩
  obtain ⟨d1, l1, e1, m1, h1⟩ := pick_ok h [D.str "clears", D.str "refuses", D.str "takes"] (by decide) (by decide)
  obtain ⟨d2, l2, e2, m2, h2⟩ := pick_ok h1 [D.str "clears", D.str "refuses", D.str "takes"] (by decide) (by decide)
  obtain ⟨d3, l3, e3, m3, h3⟩ := pick_ok h2 [D.str "clears", D.str "refuses", D.str "takes"] (by decide) (by decide)
  obtain ⟨a, rfl, n1⟩ := mem _ m1
  obtain ⟨b, rfl, n2⟩ := mem _ m2
  obtain ⟨c, rfl, n3⟩ := mem _ m3
  refine ⟨a, b, c, l3, ?_, h3, n1, n2, n3⟩
  unfold d__law_rules b__law_rules
  (exists e1, e2, e3)
theorem appI {ks : List Int} {v : Int} (h : ks.length < 1000000) : mApp (.lst (ks.map .int)) [.int v] = some (.non, .lst ((ks ++ [v]).map .int)) := by
  show (if (ks.map D.int).length < 1000000 then some (D.non, D.lst (ks.map D.int ++ [D.int v])) else none) = _
  rw [if_pos (by rw [List.length_map]; exact h), List.map_append]
  rfl
theorem eqI {a b : Int} : scalD (.int a) (.int b) = some (decide (a = b)) := rfl
theorem anyI (v : Int) : ∀ ks : List Int, anyEq (.int v) (ks.map .int) = some (decide (v ∈ ks))
  | [] => by simp [anyEq]
  | k :: ks => by
    have := anyI v ks
    rw [List.map_cons]
    unfold anyEq
    rw [this]
    by_cases h : v = k
    · simp [eqI, h, flatD]
    · have h' : ¬ k = v := fun e => h e.symm
      simp [eqI, h, h', flatD]
end
end K46L
namespace K46L
open PySem PySem.Spec PyProof.Rows L2 Dv K46
set_option autoImplicit false
noncomputable section

abbrev Ls (l : List Int) : D := .lst (l.map .int)
theorem notinI (v : Int) (ks : List Int) : oOr (oIn true) (oInD true) (.int v) (Ls ks) = some (.bl (!decide (v ∈ ks))) := by
  unfold oOr oIn
  show (match (match flatD (.int v), anyEq (.int v) (ks.map D.int) with | true, some b => some (D.bl (if true = true then !b else b)) | _, _ => none) with | some d => some d | none => _) = _
  rw [anyI]
  rfl
theorem inI (v : Int) (ks : List Int) : oOr (oIn false) (oInD false) (.int v) (Ls ks) = some (.bl (decide (v ∈ ks))) := by
  unfold oOr oIn
  show (match (match flatD (.int v), anyEq (.int v) (ks.map D.int) with | true, some b => some (D.bl (if false = true then !b else b)) | _, _ => none) with | some d => some d | none => _) = _
  rw [anyI]
  rfl
def bodyL : EvS := (xSeq (xSet 3 (xOp oAdd (xC (.int 1)) (xCall 2 d__law_draw (gSlot 0 (gVal (xC (.int 9)) gNil)))))
 (xIfS (xBorT (xTest (xOp (oOr (oIn true) (oInD true)) (xVal 3) (xVal 1))))
 (xDrop (xOwnM mApp 1 (xCons (xVal 3) xNil)))
 xNx))
theorem addI {a b : Int} : oAdd (.int a) (.int b) = some (.int (a + b)) := rfl
theorem list_loop : ∀ (xs l ks : List Int) (s2 s3 : Sl), isPar s2 = false → isPar s3 = false → Dr l → ks.length + xs.length < 1000 → ∃ (l' ks' : List Int) (e' : Dv.Env), forL (yName 2) bodyL (xs.map .int) [.par (Ls l), .box (Ls ks), s2, s3] = .nx (.par (Ls l') :: .box (Ls ks') :: e') ∧ Dr l' ∧ ks'.length ≤ ks.length + xs.length
  | [], l, ks, s2, s3, _, _, h, hl => ⟨l, ks, _, rfl, h, Nat.le_refl _⟩
  | x :: xs, l, ks, s2, s3, f2, f3, h, hl => by
    obtain ⟨v, l1, e, v0, v1, h1⟩ := draw_ok h 9 (by omega) (by omega)
    rw [List.length_cons] at hl
    by_cases hm : 1 + v ∈ ks
    · obtain ⟨l', ks', e', k1, k2, k3⟩ := list_loop xs l1 ks (.val (.int x)) (.val (.int (1 + v))) rfl rfl h1 (by omega)
      refine ⟨l', ks', e', ?_, k2, by rw [List.length_cons]; omega⟩
      have hb : (!decide (1 + v ∈ ks)) = false := by simp [hm]
      have n1 := notinI (1 + v) ks
      show forL (yName 2) bodyL (.int x :: xs.map .int) _ = _
      refine for_cons (e1 := [.par (Ls l), .box (Ls ks), .val (.int x), s3]) (by (exists trivial)) (rs := .nx [.par (Ls l1), .box (Ls ks), .val (.int x), .val (.int (1 + v))]) ?_ (fk_nx k1)
      unfold bodyL
      (exists e, addI, n1)
    · obtain ⟨l', ks', e', k1, k2, k3⟩ := list_loop xs l1 (ks ++ [1 + v]) (.val (.int x)) (.val (.int (1 + v))) rfl rfl h1 (by rw [List.length_append]; simp; omega)
      refine ⟨l', ks', e', ?_, k2, by rw [List.length_append] at k3; simp at k3; rw [List.length_cons]; omega⟩
      have hb : (!decide (1 + v ∈ ks)) = true := by simp [hm]
      have n1 := notinI (1 + v) ks
      have a1 := appI (v := 1 + v) (show ks.length < 1000000 by omega)
      show forL (yName 2) bodyL (.int x :: xs.map .int) _ = _
      refine for_cons (e1 := [.par (Ls l), .box (Ls ks), .val (.int x), s3]) (by (exists trivial)) (rs := .nx [.par (Ls l1), .box (Ls (ks ++ [1 + v])), .val (.int x), .val (.int (1 + v))]) ?_ (fk_nx k1)
      unfold bodyL
      (exists e, addI, n1, a1)
theorem rng0 (n : Nat) : ∃ xs : List Int, rngD 0 n = xs.map .int ∧ xs.length = n := ⟨(List.range n).map fun (k : Nat) => (0 : Int) + (k : Int), by simp [rngD], by simp⟩
theorem list_ok {l : List Int} (h : Dr l) : ∃ (ks l' : List Int), d__law_list [.par (Ls l)] = .ok (Ls ks) (some (Ls l')) ∧ Dr l' ∧ ks.length ≤ 4 := by
  obtain ⟨v, l1, e, v0, v1, h1⟩ := draw_ok h 5 (by omega) (by omega)
  obtain ⟨xs, hx, hl⟩ := rng0 v.toNat
  obtain ⟨l', ks', e', k1, k2, k3⟩ := list_loop xs l1 [] .no .no rfl rfl h1 (by simp; omega)
  refine ⟨ks', l', ?_, k2, by simp at k3; omega⟩
  have rg : iRg1 (xCons (xCall 2 d__law_draw (gSlot 0 (gVal (xC (.int 5)) gNil))) xNil) [.par (Ls l), .box (.lst []), .no, .no] = .ok (xs.map .int) [.par (Ls l1), .box (.lst []), .no, .no] := by
    rw [← hx]
    exact r_rg1 (by (exists e)) ⟨by omega, by omega⟩
  unfold d__law_list b__law_list
  have k1 : forL (yName 2) bodyL (xs.map .int) [.par (Ls l1), .box (.lst []), .no, .no] = .nx (.par (Ls l') :: .box (Ls ks') :: e') := k1
  unfold bodyL at k1
  (exists rg, k1)
end
end K46L
namespace K46L
open PySem PySem.Spec PyProof.Rows L2 Dv K46
set_option autoImplicit false
noncomputable section


abbrev oi : Option Int → D
  | some k => .int k
  | none => .non
abbrev os : Option Str → D
  | some k => .str k
  | none => .non
def od : Option Int → PyData
  | some k => .int k
  | none => .none
def osd : Option Str → PyData
  | some k => .str k
  | none => .none
def slen : Option Str → Nat
  | some s => s.length
  | none => 0
def okS (y : Option Str) : Prop := (∀ x : Option Int, SeqAt.shaped (.list [od x, osd y]) = true) ∧ slen y ≤ 1000
inductive Th where
  | A (x : Option Int) (y : Option Str) (z : Option Int) (ks : List Int)
  | B (p q : Option Int) (ks : List Int)
def Th.kd : Th → Str
  | .A .. => "A"
  | .B .. => "B"
def Th.ks : Th → List Int
  | .A _ _ _ ks => ks
  | .B _ _ ks => ks
def okT : Th → Prop
  | .A _ y _ ks => ks.length ≤ 4 ∧ okS y
  | .B _ _ ks => ks.length ≤ 4
theorem okS_none : okS none := ⟨fun x => by cases x <;> rfl, by decide⟩
theorem okS_m1 : okS (some "") := ⟨fun x => by
  cases x with
  | none => decide +kernel
  | some k => exact (show SeqAt.shaped (.list [od (some 0), osd (some "")]) = true by decide +kernel), by decide⟩
theorem okS_m2 : okS (some "b") := ⟨fun x => by
  cases x with
  | none => decide +kernel
  | some k => exact (show SeqAt.shaped (.list [od (some 0), osd (some "b")]) = true by decide +kernel), by decide⟩
theorem okS_m3 : okS (some "ab") := ⟨fun x => by
  cases x with
  | none => decide +kernel
  | some k => exact (show SeqAt.shaped (.list [od (some 0), osd (some "ab")]) = true by decide +kernel), by decide⟩
def Th.cont : Th → List (L2.Key × D)
  | .A x y z ks => [(.inr "a", oi x), (.inr "t", os y), (.inr "r", oi z), (.inr "l", Ls ks)]
  | .B p q ks => [(.inr "p", oi p), (.inr "q", oi q), (.inr "m", Ls ks)]
def Th.d (t : Th) : D := .ins 4 [("kind", .str t.kd), ("contents", .dct t.cont)]
theorem numb_ok {l : List Int} (h : Dr l) : ∃ (z : Option Int) (l' : List Int), d__law_number [.par (Ls l)] = .ok (oi z) (some (Ls l')) ∧ Dr l' := by
  obtain ⟨z, l', e, h'⟩ := number_ok h
  exact ⟨z, l', by rw [e] <;> (cases z <;> rfl), h'⟩
theorem conA_ok {l : List Int} (h : Dr l) : ∃ (x : Option Int) (y : Option Str) (z : Option Int) (ks l' : List Int), d__law_contents [.par (Ls l), .val (.str "A")] = .ok (.dct (Th.A x y z ks).cont) (some (Ls l')) ∧ Dr l' ∧ ks.length ≤ 4 ∧ okS y := by
  obtain ⟨d1, l1, e1, m1, h1⟩ := pick_ok h [.non, .int 0, .int 1, .int 2, .int 9] (by decide) (by decide)
  have hx : ∃ x, d1 = oi x := by
    simp at m1
    rcases m1 with rfl | rfl | rfl | rfl | rfl
    · exact ⟨none, rfl⟩
    · exact ⟨some 0, rfl⟩
    · exact ⟨some 1, rfl⟩
    · exact ⟨some 2, rfl⟩
    · exact ⟨some 9, rfl⟩
  obtain ⟨x, rfl⟩ := hx
  obtain ⟨d2, l2, e2, m2, h2⟩ := pick_ok h1 [.non, .str "", .str "b", .str "ab"] (by decide) (by decide)
  have hy : ∃ x, d2 = os x ∧ okS x := by
    simp at m2
    rcases m2 with rfl | rfl | rfl | rfl
    · exact ⟨none, rfl, okS_none⟩
    · exact ⟨some _, rfl, okS_m1⟩
    · exact ⟨some _, rfl, okS_m2⟩
    · exact ⟨some _, rfl, okS_m3⟩
  obtain ⟨y, rfl, oy⟩ := hy
  obtain ⟨z, l3, e3, h3⟩ := numb_ok h2
  obtain ⟨ks, l4, e4, h4, k4⟩ := list_ok h3
  refine ⟨x, y, z, ks, l4, ?_, h4, k4, oy⟩
  unfold d__law_contents b__law_contents Th.cont
  (exists e1, e2, e3, e4)
theorem conB_ok {l : List Int} (h : Dr l) : ∃ (p q : Option Int) (ks l' : List Int), d__law_contents [.par (Ls l), .val (.str "B")] = .ok (.dct (Th.B p q ks).cont) (some (Ls l')) ∧ Dr l' ∧ ks.length ≤ 4 := by
  obtain ⟨p, l1, e1, h1⟩ := numb_ok h
  obtain ⟨q, l3, e3, h3⟩ := numb_ok h1
  obtain ⟨ks, l4, e4, h4, k4⟩ := list_ok h3
  refine ⟨p, q, ks, l4, ?_, h4, k4⟩
  unfold d__law_contents b__law_contents Th.cont
  (exists e1, e3, e4)
theorem cc_oi (x : Option Int) : d_content_copy [.val (oi x)] = .ok (oi x) none := by
  unfold d_content_copy b_content_copy
  cases x <;> (exists trivial)
theorem cc_os (x : Option Str) : d_content_copy [.val (os x)] = .ok (os x) none := by
  unfold d_content_copy b_content_copy
  cases x <;> (exists trivial)
theorem cc_ls (x : List Int) : d_content_copy [.val (Ls x)] = .ok (Ls x) none := by
  unfold d_content_copy b_content_copy
  (exists trivial)
theorem init_ok (t : Th) : d_Thing___init__ [.par (.ins 4 []), .val (.str t.kd), .val (.dct t.cont)] = .ok .non (some t.d) := by
  cases t with
  | A x y z ks =>
    have c1 := cc_oi x
    have c2 := cc_os y
    have c3 := cc_oi z
    have c4 := cc_ls ks
    unfold d_Thing___init__ b_Thing___init__ Th.d Th.cont Th.kd
    apply r_runN
    (exists c1, c2, c3, c4)
  | B p q ks =>
    have c1 := cc_oi p
    have c3 := cc_oi q
    have c4 := cc_ls ks
    unfold d_Thing___init__ b_Thing___init__ Th.d Th.cont Th.kd
    apply r_runN
    (exists c1, c3, c4)

abbrev Pic := List (Int × Th)
def picK (P : Pic) : List (L2.Key × D) := P.map fun p => (.inl p.1, p.2.d)
def putP (P : Pic) (k : Int) (t : Th) : Pic := if (P.any fun p => decide (p.1 = k)) = true then P.map (fun p => if p.1 = k then (p.1, t) else p) else P ++ [(k, t)]
theorem putP_d (P : Pic) (k : Int) (t : Th) : putKD (picK P) (.inl k) t.d = picK (putP P k t) := by
  have hk : ∀ j : Int, ((.inl j : L2.Key) = .inl k) ↔ j = k := fun j => ⟨fun e => by cases e; rfl, fun e => by rw [e]⟩
  unfold putKD putP picK
  have e1 : ((P.map fun p => ((.inl p.1 : L2.Key), p.2.d)).any fun kv => decide (kv.1 = .inl k)) = P.any fun p => decide (p.1 = k) := by
    rw [List.any_map]
    congr 1
    funext p
    simp only [Function.comp]
    exact decide_eq_decide.mpr (hk p.1)
  rw [e1]
  split
  · rw [List.map_map, List.map_map]
    refine List.map_congr_left fun p _ => ?_
    simp only [Function.comp]
    by_cases h : p.1 = k
    · rw [if_pos ((hk p.1).mpr h), if_pos h]
    · rw [if_neg (fun e => h ((hk p.1).mp e)), if_neg h]
  · rw [List.map_append]
    rfl
def Good (P : Pic) : Prop := (P.map (·.1)).Nodup ∧ ∀ p ∈ P, okT p.2
theorem putP_good {P : Pic} {k : Int} {t : Th} (h : Good P) (ht : okT t) : Good (putP P k t) ∧ (putP P k t).length ≤ P.length + 1 := by
  unfold putP
  split
  · refine ⟨⟨?_, fun p hp => ?_⟩, by rw [List.length_map]; omega⟩
    · rw [List.map_map, List.map_congr_left (g := fun p : Int × Th => p.1) fun p _ => by
        simp only [Function.comp]
        split <;> rfl]
      exact h.1
    · obtain ⟨q, hq, rfl⟩ := List.mem_map.mp hp
      split
      · exact ht
      · exact h.2 q hq
  · rename_i hn
    refine ⟨⟨?_, fun p hp => ?_⟩, by rw [List.length_append]; simp⟩
    · rw [List.map_append]
      refine List.nodup_append.mpr ⟨h.1, by simp, fun a ha b hb e => ?_⟩
      simp at hb
      subst hb
      subst e
      obtain ⟨q, hq, e⟩ := List.mem_map.mp ha
      exact hn (List.any_eq_true.mpr ⟨q, hq, decide_eq_true e⟩)
    · rcases List.mem_append.mp hp with hp | hp
      · exact h.2 p hp
      · simp at hp
        subst hp
        exact ht
def bodyP : EvS := (xSeq (xSet 3 (xOp oAdd (xC (.int 1)) (xCall 2 d__law_draw (gSlot 0 (gVal (xC (.int 9)) gNil)))))
 (xSeq (xSet 4 (xCall 2 d__law_pick (gSlot 0 (gVal (xLst (xCons (xC (.str "A")) (xCons (xC (.str "B")) xNil))) gNil))))
 (xDPut 1 (xVal 3) (xMake 4 3 [] d_Thing___init__ (xCons (xVal 4) (xCons (xCall 2 d__law_contents (gSlot 0 (gVal (xVal 4) gNil))) xNil))))))
theorem thing_ok {l : List Int} (h : Dr l) : ∃ (t : Th) (l1 l' : List Int), d__law_pick [.par (Ls l), .val (.lst [.str "A", .str "B"])] = .ok (.str t.kd) (some (Ls l1)) ∧ d__law_contents [.par (Ls l1), .val (.str t.kd)] = .ok (.dct t.cont) (some (Ls l')) ∧ Dr l' ∧ okT t := by
  obtain ⟨d1, l1, e1, m1, h1⟩ := pick_ok h [.str "A", .str "B"] (by decide) (by decide)
  simp at m1
  rcases m1 with rfl | rfl
  · obtain ⟨x, y, z, ks, l', e2, h2, k⟩ := conA_ok h1
    exact ⟨.A x y z ks, l1, l', e1, e2, h2, k⟩
  · obtain ⟨p, q, ks, l', e2, h2, k⟩ := conB_ok h1
    exact ⟨.B p q ks, l1, l', e1, e2, h2, k⟩
theorem pic_loop : ∀ (xs l : List Int) (P : Pic) (s2 s3 s4 : Sl), isPar s2 = false → isPar s3 = false → isPar s4 = false → Dr l → Good P → P.length + xs.length < 1000 → ∃ (l' : List Int) (P' : Pic) (e' : Dv.Env), forL (yName 2) bodyP (xs.map .int) [.par (Ls l), .box (.dct (picK P)), s2, s3, s4] = .nx (.par (Ls l') :: .box (.dct (picK P')) :: e') ∧ Dr l' ∧ Good P' ∧ P'.length ≤ P.length + xs.length
  | [], l, P, s2, s3, s4, _, _, _, h, g, hl => ⟨l, P, _, rfl, h, g, Nat.le_refl _⟩
  | x :: xs, l, P, s2, s3, s4, f2, f3, f4, h, g, hl => by
    obtain ⟨v, l1, e, v0, v1, h1⟩ := draw_ok h 9 (by omega) (by omega)
    obtain ⟨t, l2, l3, e2, e3, h3, kt⟩ := thing_ok h1
    rw [List.length_cons] at hl
    obtain ⟨g2, n2⟩ := putP_good (k := 1 + v) g kt
    obtain ⟨l', P', e', k1, k2, k3, k4⟩ := pic_loop xs l3 (putP P (1 + v) t) (.val (.int x)) (.val (.int (1 + v))) (.val (.str t.kd)) rfl rfl rfl h3 g2 (by omega)
    refine ⟨l', P', e', ?_, k2, k3, by rw [List.length_cons]; omega⟩
    have i1 := init_ok t
    have p1 := putP_d P (1 + v) t
    have p2 : (picK P).length < 1000000 := by unfold picK; rw [List.length_map]; omega
    show forL (yName 2) bodyP (.int x :: xs.map .int) _ = _
    refine for_cons (e1 := [.par (Ls l), .box (.dct (picK P)), .val (.int x), s3, s4]) (by (exists trivial)) (rs := .nx [.par (Ls l3), .box (.dct (picK (putP P (1 + v) t))), .val (.int x), .val (.int (1 + v)), .val (.str t.kd)]) ?_ (fk_nx k1)
    unfold bodyP
    (exists e, addI, e2, e3, i1, p1)
theorem pic_ok {l : List Int} (h : Dr l) : ∃ (P : Pic) (l' : List Int), d__law_picture [.par (Ls l)] = .ok (.dct (picK P)) (some (Ls l')) ∧ Dr l' ∧ Good P ∧ P.length ≤ 7 := by
  obtain ⟨v, l1, e, v0, v1, h1⟩ := draw_ok h 8 (by omega) (by omega)
  obtain ⟨xs, hx, hl⟩ := rng0 v.toNat
  obtain ⟨l', P', e', k1, k2, k3, k4⟩ := pic_loop xs l1 [] .no .no .no rfl rfl rfl h1 ⟨by simp, by simp⟩ (by simp; omega)
  refine ⟨P', l', ?_, k2, k3, by simp at k4; omega⟩
  have rg : iRg1 (xCons (xCall 2 d__law_draw (gSlot 0 (gVal (xC (.int 8)) Dv.gNil))) xNil) [.par (Ls l), .box (.dct []), .no, .no, .no] = .ok (xs.map .int) [.par (Ls l1), .box (.dct []), .no, .no, .no] := by
    rw [← hx]
    exact r_rg1 (by (exists e)) ⟨by omega, by omega⟩
  have k1 : forL (yName 2) bodyP (xs.map .int) [.par (Ls l1), .box (.dct []), .no, .no, .no] = .nx (.par (Ls l') :: .box (.dct (picK P')) :: e') := k1
  unfold bodyP at k1
  unfold d__law_picture b__law_picture
  (exists rg, k1)
end
end K46L
namespace K46L
open PySem PySem.Spec PyProof.Rows L2 Dv K46
set_option autoImplicit false
noncomputable section


theorem mulR {i j : Int} (h : -(2 ^ 64) < j ∧ j < 2 ^ 64) : oMul (.int i) (.int j) = some (.int (i * j)) := by
  show (if cMul i j = true then some (D.int (i * j)) else none) = _
  have : cMul i j = true := by unfold cMul; rw [decide_eq_true h, Bool.or_true]
  rw [if_pos this]
theorem mulL {i j : Int} (h : -(2 ^ 64) < i ∧ i < 2 ^ 64) : oMul (.int i) (.int j) = some (.int (i * j)) := by
  show (if cMul i j = true then some (D.int (i * j)) else none) = _
  have : cMul i j = true := by unfold cMul; rw [decide_eq_true h, Bool.true_or]
  rw [if_pos this]
theorem ixS {row : List Int} {v : Int} (h0 : 0 ≤ v) (h1 : v < row.length) : ∃ d, oIx (.scr (row.map .int)) (.int v) = some (.int d) := by
  have hv : v.toNat < row.length := by omega
  refine ⟨row[v.toNat], ?_⟩
  show atI (row.map D.int) v = _
  unfold atI ixN
  rw [if_pos h0, if_pos (by rw [List.length_map]; exact h1)]
  show (row.map D.int)[v.toNat]? = _
  simp [hv]
theorem lenS {row : List Int} : fLen [.scr (row.map .int)] = some (.int (row.length : Nat)) := by
  show some (D.int ((row.map D.int).length : Nat)) = _
  rw [List.length_map]
theorem intE {v : Int} : fInt [.int v] = some (.int v) := rfl
theorem ltE {a b : Int} : oLt (.int a) (.int b) = some (.bl (decide (a < b))) := rfl
theorem subE {a b : Int} : oSub (.int a) (.int b) = some (.int (a - b)) := rfl
def bodyC : EvS := (xSeq (xSet 4 (xOp oAdd (xOp oMul (xC (.int 11)) (xVal 3)) (xC (.int 5))))
 (xSeq (xIfS (xTest (xOp oLt (xVal 3) (xCB fLen (xCons (xVal 0) xNil))))
 (xSeq (xSet 4 (xCB fInt (xCons (xOp oIx (xVal 0) (xVal 3)) xNil)))
 (xIfS (xTest (xOp oLt (xVal 4) (xC (.int 0))))
 (xSet 4 (xOp oSub (xC (.int 1)) (xOp oMul (xC (.int 2)) (xVal 4))))
 xNx))
 xNx)
 (xSeq (xIfS (xTest (xOp oLt (xVal 4) (xC (.int 1000000000))))
 (xSeq (xSet 4 (xOp oMod (xCB fInt (xCons (xOp oAdd (xOp oAdd (xOp oMul (xCB fInt (xCons (xVal 4) xNil)) (xC (.int 48271))) (xOp oMul (xC (.int 17)) (xVal 3))) (xC (.int 3))) xNil)) (xC (.int 2147483647))))
 (xSet 4 (xOp oMod (xCB fInt (xCons (xOp oAdd (xOp oMul (xCB fInt (xCons (xVal 4) xNil)) (xC (.int 2862933555777941757))) (xC (.int 3037000493))) xNil)) (xC (.int 18446744073709551557)))))
 xNx)
 (xDrop (xOwnM mApp 2 (xCons (xVal 4) xNil))))))
theorem cell_ok (ns acc : List Int) (k : Int) (s4 : Sl) (f4 : isPar s4 = false) (hk : 0 ≤ k) (ha : ∀ n ∈ acc, 0 ≤ n) (hl : acc.length < 1000) : ∃ (c : Int) (s : Sl), bodyC [.val (.scr (ns.map .int)), .val (.int 40), .box (Ls acc), .val (.int k), s4] = .nx [.val (.scr (ns.map .int)), .val (.int 40), .box (Ls (acc ++ [c])), .val (.int k), .val (.int c)] ∧ 0 ≤ c := by
  have m1 : ∀ j : Int, oMul (.int 11) (.int j) = some (.int (11 * j)) := fun j => mulL (by decide)
  have m2 : ∀ j : Int, oMul (.int 2) (.int j) = some (.int (2 * j)) := fun j => mulL (by decide)
  have m3 : ∀ j : Int, oMul (.int 17) (.int j) = some (.int (17 * j)) := fun j => mulL (by decide)
  have m4 : ∀ j : Int, oMul (.int j) (.int 48271) = some (.int (j * 48271)) := fun j => mulR (by decide)
  have m5 : ∀ j : Int, oMul (.int j) (.int 2862933555777941757) = some (.int (j * 2862933555777941757)) := fun j => mulR (by decide)
  have q1 : ∀ j : Int, oMod (.int j) (.int 2147483647) = some (.int (j.fmod 2147483647)) := fun j => modE (by decide)
  have q2 : ∀ j : Int, oMod (.int j) (.int 18446744073709551557) = some (.int (j.fmod 18446744073709551557)) := fun j => modE (by decide)
  have fin : ∀ c1 : Int, 0 ≤ c1 → ∀ s : Sl, isPar s = false → ∃ c, (xSeq (xIfS (xTest (xOp oLt (xVal 4) (xC (.int 1000000000))))
 (xSeq (xSet 4 (xOp oMod (xCB fInt (xCons (xOp oAdd (xOp oAdd (xOp oMul (xCB fInt (xCons (xVal 4) xNil)) (xC (.int 48271))) (xOp oMul (xC (.int 17)) (xVal 3))) (xC (.int 3))) xNil)) (xC (.int 2147483647))))
 (xSet 4 (xOp oMod (xCB fInt (xCons (xOp oAdd (xOp oMul (xCB fInt (xCons (xVal 4) xNil)) (xC (.int 2862933555777941757))) (xC (.int 3037000493))) xNil)) (xC (.int 18446744073709551557)))))
 xNx)
 (xDrop (xOwnM mApp 2 (xCons (xVal 4) xNil)))) [.val (.scr (ns.map .int)), .val (.int 40), .box (Ls acc), .val (.int k), .val (.int c1)] = .nx [.val (.scr (ns.map .int)), .val (.int 40), .box (Ls (acc ++ [c])), .val (.int k), .val (.int c)] ∧ 0 ≤ c := by
    intro c1 h1 s _
    by_cases hc : c1 < 1000000000
    · have b : decide (c1 < 1000000000) = true := decide_eq_true hc
      refine ⟨(((c1 * 48271 + 17 * k + 3).fmod 2147483647) * 2862933555777941757 + 3037000493).fmod 18446744073709551557, ?_, Int.fmod_nonneg_of_pos _ (by decide)⟩
      have a1 := appI (v := (((c1 * 48271 + 17 * k + 3).fmod 2147483647) * 2862933555777941757 + 3037000493).fmod 18446744073709551557) (show acc.length < 1000000 by omega)
      (exists ltE, intE, m3 _, m4 _, m5 _, q1 _, q2 _, addI, a1)
    · have b : decide (c1 < 1000000000) = false := decide_eq_false hc
      refine ⟨c1, ?_, h1⟩
      have a1 := appI (v := c1) (show acc.length < 1000000 by omega)
      (exists ltE, a1)
  by_cases h1 : k < ns.length
  · have b1 : decide (k < (ns.length : Nat)) = true := decide_eq_true h1
    obtain ⟨v, hv⟩ := ixS hk h1
    by_cases h2 : v < 0
    · have b2 : decide (v < 0) = true := decide_eq_true h2
      obtain ⟨c, e, hc⟩ := fin (1 - 2 * v) (by omega) s4 f4
      refine ⟨c, s4, ?_, hc⟩
      unfold bodyC
      (exists e, lenS, ltE, intE, m1 _, m2 _, addI, hv, subE)
    · have b2 : decide (v < 0) = false := decide_eq_false h2
      obtain ⟨c, e, hc⟩ := fin v (by omega) s4 f4
      refine ⟨c, s4, ?_, hc⟩
      unfold bodyC
      (exists e, lenS, ltE, intE, m1 _, m2 _, addI, hv, subE)
  · have b1 : decide (k < (ns.length : Nat)) = false := decide_eq_false h1
    obtain ⟨c, e, hc⟩ := fin (11 * k + 5) (by omega) s4 f4
    refine ⟨c, s4, ?_, hc⟩
    unfold bodyC
    (exists e, lenS, ltE, intE, m1 _, m2 _, addI, subE)
theorem cells_loop (ns : List Int) : ∀ (xs acc : List Int) (s3 s4 : Sl), isPar s3 = false → isPar s4 = false → (∀ x ∈ xs, 0 ≤ x) → (∀ n ∈ acc, 0 ≤ n) → acc.length + xs.length < 1000 → ∃ (l : List Int) (e' : Dv.Env), forL (yName 3) bodyC (xs.map .int) [.val (.scr (ns.map .int)), .val (.int 40), .box (Ls acc), s3, s4] = .nx (.val (.scr (ns.map .int)) :: .val (.int 40) :: .box (Ls l) :: e') ∧ (∀ n ∈ l, 0 ≤ n) ∧ l.length = acc.length + xs.length
  | [], acc, s3, s4, _, _, _, ha, _ => ⟨acc, _, rfl, ha, rfl⟩
  | x :: xs, acc, s3, s4, f3, f4, hx, ha, hl => by
    rw [List.length_cons] at hl
    obtain ⟨c, _, e, hc⟩ := cell_ok ns acc x s4 f4 (hx x (List.mem_cons_self ..)) ha (by omega)
    obtain ⟨l, e', k1, k2, k3⟩ := cells_loop ns xs (acc ++ [c]) (.val (.int x)) (.val (.int c)) rfl rfl (fun y hy => hx y (List.mem_cons_of_mem _ hy)) (fun n hn => by
      rcases List.mem_append.mp hn with hn | hn
      · exact ha n hn
      · simp at hn; omega) (by rw [List.length_append]; simp; omega)
    refine ⟨l, e', ?_, k2, by rw [k3, List.length_append]; simp; omega⟩
    show forL (yName 3) bodyC (.int x :: xs.map .int) _ = _
    exact for_cons (e1 := [.val (.scr (ns.map .int)), .val (.int 40), .box (Ls acc), .val (.int x), s4]) (by (exists trivial)) e (fk_nx k1)
theorem rng0' (n : Nat) : ∃ xs : List Int, rngD 0 n = xs.map .int ∧ xs.length = n ∧ ∀ x ∈ xs, 0 ≤ x := ⟨(List.range n).map fun (k : Nat) => (0 : Int) + (k : Int), by simp [rngD], by simp, fun x hx => by
  obtain ⟨k, _, rfl⟩ := List.mem_map.mp hx
  omega⟩
theorem cells_ok (ns : List Int) : ∃ (l : List Int) (p : Option D), d__law_cells [.val (.scr (ns.map .int)), .val (.int 40)] = .ok (Ls l) p ∧ Dr l := by
  obtain ⟨xs, hx, hl, h0⟩ := rng0' 40
  obtain ⟨l, e', k1, k2, k3⟩ := cells_loop ns xs [] .no .no rfl rfl h0 (by simp) (by simp; omega)
  refine ⟨l, parOf (Sl.val (D.scr (List.map D.int ns)) :: Sl.val (D.int 40) :: Sl.no :: e'), ?_, fun e => by rw [e] at k3; simp at k3; omega, k2⟩
  have k1 : forL (yName 3) bodyC (xs.map .int) [.val (.scr (ns.map .int)), .val (.int 40), .box (.lst []), .no, .no] = .nx (.val (.scr (ns.map .int)) :: .val (.int 40) :: .box (Ls l) :: e') := k1
  have rg : iRg1 (xCons (xVal 1) xNil) [.val (.scr (ns.map .int)), .val (.int 40), .box (.lst []), .no, .no] = .ok (xs.map .int) [.val (.scr (ns.map .int)), .val (.int 40), .box (.lst []), .no, .no] := by
    rw [← hx]
    exact r_rg1 (j := 40) (by (exists trivial)) (by decide)
  unfold bodyC at k1
  unfold d__law_cells b__law_cells
  (exists rg, k1)
end
end K46L
namespace K46L
open PySem PySem.Spec PyProof.Rows L2 Dv K46
set_option autoImplicit false
noncomputable section


/-! the schema -/
theorem i_Int (a b : D) : d_IntSort___init__ [.par (.ins 0 []), .val a, .val b] = .ok .non (some (.ins 0 [("low", a), ("high", b)])) := by
  unfold d_IntSort___init__ b_IntSort___init__
  apply r_runN
  (exists trivial)
theorem i_Text (a b : D) : d_TextSort___init__ [.par (.ins 1 []), .val a, .val b] = .ok .non (some (.ins 1 [("longest", a), ("without", b)])) := by
  unfold d_TextSort___init__ b_TextSort___init__
  apply r_runN
  (exists trivial)
theorem i_Ref (a : List D) (b : D) : d_RefSort___init__ [.par (.ins 2 []), .val (.lst a), .val b] = .ok .non (some (.ins 2 [("kinds", .lst a), ("rule", b)])) := by
  unfold d_RefSort___init__ b_RefSort___init__
  apply r_runN
  (exists trivial)
theorem i_List (a : List D) : d_ListSort___init__ [.par (.ins 3 []), .val (.lst a)] = .ok .non (some (.ins 3 [("kinds", .lst a)])) := by
  unfold d_ListSort___init__ b_ListSort___init__
  apply r_runN
  (exists trivial)
theorem i_Field (a b c : D) : d_Field___init__ [.par (.ins 6 []), .val a, .val b, .val c] = .ok .non (some (.ins 6 [("name", a), ("shape", b), ("needed", c)])) := by
  unfold d_Field___init__ b_Field___init__
  apply r_runN
  (exists trivial)
theorem i_Kind (a : D) (b c : List D) : d_Kind___init__ [.par (.ins 7 []), .val a, .val (.lst b), .val (.lst [.lst c])] = .ok .non (some (.ins 7 [("name", a), ("fields", .lst b), ("key_rows", .lst [.lst c])])) := by
  unfold d_Kind___init__ b_Kind___init__
  apply r_runN
  (exists trivial)
theorem i_Schema (b : List D) : d_Schema___init__ [.par (.ins 8 []), .val (.lst b)] = .ok .non (some (.ins 8 [("kinds", .lst b)])) := by
  unfold d_Schema___init__ b_Schema___init__
  apply r_runN
  (exists trivial)
theorem i_Src (b : D) : d_PictureSource___init__ [.par (.ins 5 []), .val b] = .ok .non (some (.ins 5 [("things", b)])) := by
  unfold d_PictureSource___init__ b_PictureSource___init__
  apply r_runN
  (exists trivial)
abbrev fldD (n : Str) (s : D) (nd : Bool) : D := .ins 6 [("name", .str n), ("shape", s), ("needed", .bl nd)]
abbrev shI : D := .ins 0 [("low", .int 0), ("high", .int 9)]
abbrev shT : D := .ins 1 [("longest", .int 4), ("without", .non)]
abbrev shR (ks : List Str) (r : Str) : D := .ins 2 [("kinds", .lst (ks.map .str)), ("rule", .str r)]
abbrev shL (ks : List Str) : D := .ins 3 [("kinds", .lst (ks.map .str))]
abbrev kA (a : Str) (nd : Bool) : D := .ins 7 [("name", .str "A"), ("fields", .lst [fldD "a" shI nd, fldD "t" shT false, fldD "r" (shR ["A", "B"] a) false, fldD "l" (shL ["A"]) false]), ("key_rows", .lst [.lst [.str "a", .str "t"]])]
abbrev kB (b c : Str) (nd : Bool) : D := .ins 7 [("name", .str "B"), ("fields", .lst [fldD "p" (shR ["A"] b) nd, fldD "q" (shR ["B"] c) false, fldD "m" (shL ["A", "B"]) false]), ("key_rows", .lst [.lst [.str "q"]])]
abbrev schD (a b c : Str) (nd : Bool) : D := .ins 8 [("kinds", .lst [kA a nd, kB b c nd])]
abbrev rlsD (a b c : Str) : D := .lst [.str a, .str b, .str c]
theorem ixR0 {a b c : Str} : oIx (rlsD a b c) (.int 0) = some (.str a) := rfl
theorem ixR1 {a b c : Str} : oIx (rlsD a b c) (.int 1) = some (.str b) := rfl
theorem ixR2 {a b c : Str} : oIx (rlsD a b c) (.int 2) = some (.str c) := rfl
theorem schema_ok (a b c : Str) (nd : Bool) : d__law_schema [.val (rlsD a b c), .val (.bl nd)] = .ok (schD a b c nd) none := by
  unfold d__law_schema b__law_schema
  (exists i_Int _ _, i_Text _ _, i_Ref _ _, i_List _, i_Field _ _ _, i_Kind _ _ _, i_Schema _, ixR0, ixR1, ixR2)
end
end K46L
namespace K46L
open PySem PySem.Spec PyProof.Rows L2 Dv K46
set_option autoImplicit false
noncomputable section


def look : Pic → Int → Option Th
  | [], _ => none
  | p :: P, k => if p.1 = k then some p.2 else look P k
theorem look_d : ∀ (P : Pic) (k : Int), valD (picK P) (.inl k) = (look P k).map Th.d
  | [], _ => rfl
  | p :: P, k => by
    have ih := look_d P k
    show (if (.inl p.1 : L2.Key) = .inl k then some p.2.d else valD (picK P) (.inl k)) = (if p.1 = k then some p.2 else look P k).map Th.d
    by_cases h : p.1 = k
    · rw [if_pos (by rw [h]), if_pos h]; rfl
    · rw [if_neg (fun e => h (by cases e; rfl)), if_neg h, ih]
abbrev picD (P : Pic) : D := .dct (picK P)
abbrev srcD (P : Pic) : D := .ins 5 [("things", picD P)]
def there (P : Pic) (ks : List Str) (v : Option Int) : Bool := match v with
  | none => false
  | some k => match look P k with
    | none => false
    | some t => decide (t.kd ∈ ks)
theorem anyS (v : Str) : ∀ ks : List Str, anyEq (.str v) (ks.map .str) = some (decide (v ∈ ks))
  | [] => by simp [anyEq]
  | k :: ks => by
    have := anyS v ks
    have e1 : scalD (.str k) (.str v) = some (decide (k = v)) := rfl
    rw [List.map_cons]
    unfold anyEq
    rw [this, e1]
    by_cases h : v = k
    · simp [h, flatD]
    · have h' : ¬ k = v := fun e => h e.symm
      simp [h, h', flatD]
abbrev Ss (l : List Str) : D := .lst (l.map .str)
theorem inS (v : Str) (ks : List Str) : oOr (oIn false) (oInD false) (.str v) (Ss ks) = some (.bl (decide (v ∈ ks))) := by
  unfold oOr oIn
  show (match (match flatD (.str v), anyEq (.str v) (ks.map D.str) with | true, some b => some (D.bl (if false = true then !b else b)) | _, _ => none) with | some d => some d | none => _) = _
  rw [anyS]
  rfl
theorem dgetP (P : Pic) (k : Int) : oDGet (picD P) (.int k) = (look P k).map Th.d := look_d P k
theorem dinP (P : Pic) (k : Int) : oDIn false (.int k) (picD P) = some (.bl (look P k).isSome) := by
  show some (D.bl ((valD (picK P) (.inl k)).isSome != false)) = _
  rw [look_d]
  cases look P k <;> rfl
theorem thereL (P : Pic) (ks : List Str) (v : Option Int) : d__law_there [.val (picD P), .val (Ss ks), .val (oi v)] = .ok (.bl (there P ks v)) none := by
  cases v with
  | none =>
    unfold d__law_there b__law_there
    (exists trivial)
  | some k =>
    have h1 := dinP P k
    have h2 := dgetP P k
    cases h : look P k with
    | none =>
      have ht : there P ks (some k) = false := by simp [there, h]
      rw [h] at h1 h2
      have h1 : oDIn false (.int k) (picD P) = some (.bl false) := h1
      rw [ht]
      unfold d__law_there b__law_there
      (exists h1)
    | some t =>
      have ht : there P ks (some k) = decide (t.kd ∈ ks) := by simp [there, h]
      rw [h] at h1 h2
      have h1 : oDIn false (.int k) (picD P) = some (.bl true) := h1
      have h2 : oDGet (picD P) (.int k) = some (.ins 4 [("kind", .str t.kd), ("contents", .dct t.cont)]) := h2
      have h3 := inS t.kd ks
      rw [ht]
      unfold d__law_there b__law_there
      (exists h1, h2, h3)
theorem thingP (P : Pic) (k : Int) : d_PictureSource_thing [.val (srcD P), .val (.int k)] = .ok (((look P k).map Th.d).getD .non) none := by
  unfold d_PictureSource_thing b_PictureSource_thing
  have h : (valD (picK P) (.inl k)).getD .non = ((look P k).map Th.d).getD .non := by rw [look_d]
  (exists h)
theorem oneP (P : Pic) (ks : List Str) (k : Int) : d_is_one_of [.val (srcD P), .val (.int k), .val (Ss ks)] = .ok (.bl (there P ks (some k))) none := by
  have h0 := thingP P k
  cases h : look P k with
  | none =>
    have ht : there P ks (some k) = false := by simp [there, h]
    rw [h] at h0
    have h0 : d_PictureSource_thing [.val (srcD P), .val (.int k)] = .ok .non none := h0
    rw [ht]
    unfold d_is_one_of b_is_one_of
    (exists h0)
  | some t =>
    have ht : there P ks (some k) = decide (t.kd ∈ ks) := by simp [there, h]
    rw [h] at h0
    have h0 : d_PictureSource_thing [.val (srcD P), .val (.int k)] = .ok (.ins 4 [("kind", .str t.kd), ("contents", .dct t.cont)]) none := h0
    have h3 := inS t.kd ks
    rw [ht]
    unfold d_is_one_of b_is_one_of
    (exists h0, h3)
/-! what is told -/
def Th.get (P : Pic) : Th → Str → D
  | .A x y z ks, n => if n = "a" then oi x else if n = "t" then os y else if n = "r" then (if there P ["A", "B"] z then oi z else .non) else Ls (ks.filter fun k => there P ["A"] (some k))
  | .B p q ks, n => if n = "p" then (if there P ["A"] p then oi p else .non) else if n = "q" then (if there P ["B"] q then oi q else .non) else Ls (ks.filter fun k => there P ["A", "B"] (some k))
theorem cmp_ints {i : Nat} {ta : EvT} {W env : Dv.Env} (b : Int → Bool) (ks : List Int) (hw : wipeE env [i] = W) (hl : ks.length < 1000000) (hx : ∀ k ∈ ks, ∃ e1 e2, yName i (.int k) W = some e1 ∧ ta e1 = .ok (b k) e2 ∧ wipeE e2 [i] = W ∧ xVal i e2 = .ok (.int k) e2) : ∃ env', cmpL (yName i) ta (xVal i) [i] (ks.map .int) [] env = .ok ((ks.filter b).map .int) env' ∧ wipeE env' [i] = W := by
  obtain ⟨env', h1, h2⟩ := cmp_ok (ta := ta) (a := xVal i) (eg := yName i) W (fun d => match d with | .int k => b k | _ => false) (fun d => d) (ks.map .int) [] env hw (by simpa using hl) (fun x hm => by
    obtain ⟨k, hk, rfl⟩ := List.mem_map.mp hm
    obtain ⟨e1, e2, a1, a2, a3, a4⟩ := hx k hk
    exact ⟨e1, e2, a1, a2, a3, fun _ => ⟨e2, a4, a3⟩⟩)
  refine ⟨env', ?_, h2⟩
  rw [h1, List.nil_append, List.filter_map, List.map_map]
  rfl
abbrev TgL (P : Pic) (a b c : Str) (t : Th) (n : Str) : Prop := d__law_told [.val (picD P), .val (rlsD a b c), .val t.d, .val (.str n)] = .ok (t.get P n) none
theorem linksA (a b c : Str) : d__law_links [.val (.str "A"), .val (rlsD a b c)] = .ok (.lst [.tup [.str "r", Ss ["A", "B"], .str a], .tup [.str "l", Ss ["A"], .str "list"]]) none := by
  unfold d__law_links b__law_links
  (exists ixR0, ixR1, ixR2)
theorem linksB (a b c : Str) : d__law_links [.val (.str "B"), .val (rlsD a b c)] = .ok (.lst [.tup [.str "p", Ss ["A"], .str b], .tup [.str "q", Ss ["B"], .str c], .tup [.str "m", Ss ["A", "B"], .str "list"]]) none := by
  unfold d__law_links b__law_links
  (exists ixR0, ixR1, ixR2)
end
end K46L
namespace K46L
open PySem PySem.Spec PyProof.Rows L2 Dv K46
set_option autoImplicit false
noncomputable section

theorem tl_A_a (P : Pic) (a b c : Str) (na : a ≠ "list") (nb : b ≠ "list") (nc : c ≠ "list") (x : Option Int) (y : Option Str) (z : Option Int) (ks : List Int) : TgL P a b c (Th.A x y z ks) "a" := by
  have lk := linksA a b c
  have hg : Th.get P (Th.A x y z ks) "a" = oi x := rfl
  unfold TgL d__law_told b__law_told
  rw [hg]
  (exists lk)
theorem tl_A_t (P : Pic) (a b c : Str) (na : a ≠ "list") (nb : b ≠ "list") (nc : c ≠ "list") (x : Option Int) (y : Option Str) (z : Option Int) (ks : List Int) : TgL P a b c (Th.A x y z ks) "t" := by
  have lk := linksA a b c
  have hg : Th.get P (Th.A x y z ks) "t" = os y := rfl
  unfold TgL d__law_told b__law_told
  rw [hg]
  (exists lk)
theorem tl_A_r (P : Pic) (a b c : Str) (na : a ≠ "list") (nb : b ≠ "list") (nc : c ≠ "list") (x : Option Int) (y : Option Str) (z : Option Int) (ks : List Int) : TgL P a b c (Th.A x y z ks) "r" := by
  have da : decide (a = "list") = false := decide_eq_false na
  have db : decide (b = "list") = false := decide_eq_false nb
  have dc : decide (c = "list") = false := decide_eq_false nc
  have lk := linksA a b c
  have th := thereL P ["A", "B"] z
  have hg : Th.get P (Th.A x y z ks) "r" = if there P ["A", "B"] z then oi z else .non := rfl
  unfold TgL d__law_told b__law_told
  rw [hg]
  cases hz : there P ["A", "B"] z with
  | true =>
    rw [hz] at th
    rw [if_pos rfl]
    (exists lk, th)
  | false =>
    rw [hz] at th
    rw [if_neg (by decide)]
    (exists lk, th)
theorem tl_A_l (P : Pic) (a b c : Str) (na : a ≠ "list") (nb : b ≠ "list") (nc : c ≠ "list") (x : Option Int) (y : Option Str) (z : Option Int) (ks : List Int) (hl : ks.length ≤ 4) : TgL P a b c (Th.A x y z ks) "l" := by
  have da : decide (a = "list") = false := decide_eq_false na
  have db : decide (b = "list") = false := decide_eq_false nb
  have dc : decide (c = "list") = false := decide_eq_false nc
  have lk := linksA a b c
  obtain ⟨env', k1, k2⟩ := cmp_ints (i := 5) (ta := xTest (xCall 3 d__law_there (gVal (xVal 0) (gVal (xOp oIx (xVal 4) (xC (.int 1))) (gVal (xVal 5) Dv.gNil))))) (env := [.val (picD P), .val (rlsD a b c), .val (Th.d (Th.A x y z ks)), .val (.str "l"), .val (.tup [.str "l", Ss ["A"], .str "list"]), .no]) (fun k => there P ["A"] (some k)) ks rfl (by omega) (fun k _ => ⟨[.val (picD P), .val (rlsD a b c), .val (Th.d (Th.A x y z ks)), .val (.str "l"), .val (.tup [.str "l", Ss ["A"], .str "list"]), .val (.int k)], [.val (picD P), .val (rlsD a b c), .val (Th.d (Th.A x y z ks)), .val (.str "l"), .val (.tup [.str "l", Ss ["A"], .str "list"]), .val (.int k)], by (exists trivial), by (exists thereL P ["A"] (some k)), rfl, by (exists trivial)⟩)
  have hg : Th.get P (Th.A x y z ks) "l" = Ls (ks.filter fun k => there P ["A"] (some k)) := rfl
  unfold TgL d__law_told b__law_told
  rw [hg]
  (exists lk, k1)
theorem tl_B_p (P : Pic) (a b c : Str) (na : a ≠ "list") (nb : b ≠ "list") (nc : c ≠ "list") (p q : Option Int) (ks : List Int) : TgL P a b c (Th.B p q ks) "p" := by
  have da : decide (a = "list") = false := decide_eq_false na
  have db : decide (b = "list") = false := decide_eq_false nb
  have dc : decide (c = "list") = false := decide_eq_false nc
  have lk := linksB a b c
  have th := thereL P ["A"] p
  have hg : Th.get P (Th.B p q ks) "p" = if there P ["A"] p then oi p else .non := rfl
  unfold TgL d__law_told b__law_told
  rw [hg]
  cases hz : there P ["A"] p with
  | true =>
    rw [hz] at th
    rw [if_pos rfl]
    (exists lk, th)
  | false =>
    rw [hz] at th
    rw [if_neg (by decide)]
    (exists lk, th)
theorem tl_B_q (P : Pic) (a b c : Str) (na : a ≠ "list") (nb : b ≠ "list") (nc : c ≠ "list") (p q : Option Int) (ks : List Int) : TgL P a b c (Th.B p q ks) "q" := by
  have da : decide (a = "list") = false := decide_eq_false na
  have db : decide (b = "list") = false := decide_eq_false nb
  have dc : decide (c = "list") = false := decide_eq_false nc
  have lk := linksB a b c
  have th := thereL P ["B"] q
  have hg : Th.get P (Th.B p q ks) "q" = if there P ["B"] q then oi q else .non := rfl
  unfold TgL d__law_told b__law_told
  rw [hg]
  cases hz : there P ["B"] q with
  | true =>
    rw [hz] at th
    rw [if_pos rfl]
    (exists lk, th)
  | false =>
    rw [hz] at th
    rw [if_neg (by decide)]
    (exists lk, th)
theorem tl_B_m (P : Pic) (a b c : Str) (na : a ≠ "list") (nb : b ≠ "list") (nc : c ≠ "list") (p q : Option Int) (ks : List Int) (hl : ks.length ≤ 4) : TgL P a b c (Th.B p q ks) "m" := by
  have da : decide (a = "list") = false := decide_eq_false na
  have db : decide (b = "list") = false := decide_eq_false nb
  have dc : decide (c = "list") = false := decide_eq_false nc
  have lk := linksB a b c
  obtain ⟨env', k1, k2⟩ := cmp_ints (i := 5) (ta := xTest (xCall 3 d__law_there (gVal (xVal 0) (gVal (xOp oIx (xVal 4) (xC (.int 1))) (gVal (xVal 5) Dv.gNil))))) (env := [.val (picD P), .val (rlsD a b c), .val (Th.d (Th.B p q ks)), .val (.str "m"), .val (.tup [.str "m", Ss ["A", "B"], .str "list"]), .no]) (fun k => there P ["A", "B"] (some k)) ks rfl (by omega) (fun k _ => ⟨[.val (picD P), .val (rlsD a b c), .val (Th.d (Th.B p q ks)), .val (.str "m"), .val (.tup [.str "m", Ss ["A", "B"], .str "list"]), .val (.int k)], [.val (picD P), .val (rlsD a b c), .val (Th.d (Th.B p q ks)), .val (.str "m"), .val (.tup [.str "m", Ss ["A", "B"], .str "list"]), .val (.int k)], by (exists trivial), by (exists thereL P ["A", "B"] (some k)), rfl, by (exists trivial)⟩)
  have hg : Th.get P (Th.B p q ks) "m" = Ls (ks.filter fun k => there P ["A", "B"] (some k)) := rfl
  unfold TgL d__law_told b__law_told
  rw [hg]
  (exists lk, k1)
end
end K46L
namespace K46L
open PySem PySem.Spec PyProof.Rows L2 Dv K46
set_option autoImplicit false
noncomputable section


theorem isl_I : d_is_list [.val shI] = .ok (.bl false) none := by unfold d_is_list b_is_list; (exists trivial)
theorem isl_T : d_is_list [.val shT] = .ok (.bl false) none := by unfold d_is_list b_is_list; (exists trivial)
theorem isl_R (ks : List Str) (r : Str) : d_is_list [.val (shR ks r)] = .ok (.bl false) none := by unfold d_is_list b_is_list; (exists trivial)
theorem isl_L (ks : List Str) : d_is_list [.val (shL ks)] = .ok (.bl true) none := by unfold d_is_list b_is_list; (exists trivial)
theorem isr_I : d_is_reference [.val shI] = .ok (.bl false) none := by unfold d_is_reference b_is_reference; (exists trivial)
theorem isr_T : d_is_reference [.val shT] = .ok (.bl false) none := by unfold d_is_reference b_is_reference; (exists trivial)
theorem isr_R (ks : List Str) (r : Str) : d_is_reference [.val (shR ks r)] = .ok (.bl true) none := by unfold d_is_reference b_is_reference; (exists trivial)
theorem tc_I (P : Pic) (n : Str) (nd : Bool) (d : D) : d_told_content [.val (srcD P), .val (fldD n shI nd), .val d] = .ok d none := by
  unfold d_told_content b_told_content
  (exists isl_I, isr_I)
theorem tc_T (P : Pic) (n : Str) (nd : Bool) (d : D) : d_told_content [.val (srcD P), .val (fldD n shT nd), .val d] = .ok d none := by
  unfold d_told_content b_told_content
  (exists isl_T, isr_T)
theorem tc_R (P : Pic) (n : Str) (nd : Bool) (ks : List Str) (r : Str) (z : Option Int) : d_told_content [.val (srcD P), .val (fldD n (shR ks r) nd), .val (oi z)] = .ok (if there P ks z then oi z else .non) none := by
  have h1 := isl_R ks r
  have h2 := isr_R ks r
  unfold d_told_content b_told_content
  cases z with
  | none =>
    have : there P ks none = false := rfl
    rw [this, if_neg (by decide)]
    (exists h1, h2)
  | some k =>
    have h3 := oneP P ks k
    cases hz : there P ks (some k) with
    | true =>
      rw [hz] at h3
      rw [if_pos rfl]
      (exists h1, h2, h3)
    | false =>
      rw [hz] at h3
      rw [if_neg (by decide)]
      (exists h1, h2, h3)
theorem tc_L (P : Pic) (n : Str) (nd : Bool) (ks : List Str) (l : List Int) (hl : l.length ≤ 4) : d_told_content [.val (srcD P), .val (fldD n (shL ks) nd), .val (Ls l)] = .ok (Ls (l.filter fun k => there P ks (some k))) none := by
  have h1 := isl_L ks
  obtain ⟨env', k1, k2⟩ := cmp_ints (i := 3) (ta := xTest (xCall 3 d_is_one_of (gVal (xVal 0) (gVal (xVal 3) (gVal (xFld fc_kinds "kinds" (xFld fc_shape "shape" (xVal 1))) Dv.gNil))))) (env := [.val (srcD P), .val (fldD n (shL ks) nd), .val (Ls l), .no]) (fun k => there P ks (some k)) l rfl (by omega) (fun k _ => ⟨[.val (srcD P), .val (fldD n (shL ks) nd), .val (Ls l), .val (.int k)], [.val (srcD P), .val (fldD n (shL ks) nd), .val (Ls l), .val (.int k)], by (exists trivial), by (exists oneP P ks k), rfl, by (exists trivial)⟩)
  unfold d_told_content b_told_content
  (exists h1, k1)
theorem fo_A_a (a b c : Str) (nd : Bool) : d_Kind_field_of [.val (kA a nd), .val (.str "a")] = .ok (fldD "a" shI nd) none := by
  unfold d_Kind_field_of b_Kind_field_of
  (exists trivial)
theorem fo_A_t (a b c : Str) (nd : Bool) : d_Kind_field_of [.val (kA a nd), .val (.str "t")] = .ok (fldD "t" shT false) none := by
  unfold d_Kind_field_of b_Kind_field_of
  (exists trivial)
theorem fo_A_r (a b c : Str) (nd : Bool) : d_Kind_field_of [.val (kA a nd), .val (.str "r")] = .ok (fldD "r" (shR ["A", "B"] a) false) none := by
  unfold d_Kind_field_of b_Kind_field_of
  (exists trivial)
theorem fo_A_l (a b c : Str) (nd : Bool) : d_Kind_field_of [.val (kA a nd), .val (.str "l")] = .ok (fldD "l" (shL ["A"]) false) none := by
  unfold d_Kind_field_of b_Kind_field_of
  (exists trivial)
theorem fo_B_p (a b c : Str) (nd : Bool) : d_Kind_field_of [.val (kB b c nd), .val (.str "p")] = .ok (fldD "p" (shR ["A"] b) nd) none := by
  unfold d_Kind_field_of b_Kind_field_of
  (exists trivial)
theorem fo_B_q (a b c : Str) (nd : Bool) : d_Kind_field_of [.val (kB b c nd), .val (.str "q")] = .ok (fldD "q" (shR ["B"] c) false) none := by
  unfold d_Kind_field_of b_Kind_field_of
  (exists trivial)
theorem fo_B_m (a b c : Str) (nd : Bool) : d_Kind_field_of [.val (kB b c nd), .val (.str "m")] = .ok (fldD "m" (shL ["A", "B"]) false) none := by
  unfold d_Kind_field_of b_Kind_field_of
  (exists trivial)
theorem tp_A_a (P : Pic) (a b c : Str) (nd : Bool) (k : Int) (x : Option Int) (y : Option Str) (z : Option Int) (ks : List Int) (hl : ks.length ≤ 4) (h : look P k = some (Th.A x y z ks)) : d_told_of [.val (srcD P), .val (kA a nd), .val (.int k), .val (.str "a")] = .ok (Th.get P (Th.A x y z ks) "a") none := by
  have h1 := fo_A_a a b c nd
  have h2 := thingP P k
  rw [h] at h2
  have h2 : d_PictureSource_thing [.val (srcD P), .val (.int k)] = .ok (Th.d (Th.A x y z ks)) none := h2
  have h3 := tc_I P "a" nd (oi x)
  unfold d_told_of b_told_of
  (exists h1, h2, h3)
theorem tp_A_t (P : Pic) (a b c : Str) (nd : Bool) (k : Int) (x : Option Int) (y : Option Str) (z : Option Int) (ks : List Int) (hl : ks.length ≤ 4) (h : look P k = some (Th.A x y z ks)) : d_told_of [.val (srcD P), .val (kA a nd), .val (.int k), .val (.str "t")] = .ok (Th.get P (Th.A x y z ks) "t") none := by
  have h1 := fo_A_t a b c nd
  have h2 := thingP P k
  rw [h] at h2
  have h2 : d_PictureSource_thing [.val (srcD P), .val (.int k)] = .ok (Th.d (Th.A x y z ks)) none := h2
  have h3 := tc_T P "t" false (os y)
  unfold d_told_of b_told_of
  (exists h1, h2, h3)
theorem tp_A_r (P : Pic) (a b c : Str) (nd : Bool) (k : Int) (x : Option Int) (y : Option Str) (z : Option Int) (ks : List Int) (hl : ks.length ≤ 4) (h : look P k = some (Th.A x y z ks)) : d_told_of [.val (srcD P), .val (kA a nd), .val (.int k), .val (.str "r")] = .ok (Th.get P (Th.A x y z ks) "r") none := by
  have h1 := fo_A_r a b c nd
  have h2 := thingP P k
  rw [h] at h2
  have h2 : d_PictureSource_thing [.val (srcD P), .val (.int k)] = .ok (Th.d (Th.A x y z ks)) none := h2
  have h3 := tc_R P "r" false ["A", "B"] a z
  unfold d_told_of b_told_of
  (exists h1, h2, h3)
theorem tp_A_l (P : Pic) (a b c : Str) (nd : Bool) (k : Int) (x : Option Int) (y : Option Str) (z : Option Int) (ks : List Int) (hl : ks.length ≤ 4) (h : look P k = some (Th.A x y z ks)) : d_told_of [.val (srcD P), .val (kA a nd), .val (.int k), .val (.str "l")] = .ok (Th.get P (Th.A x y z ks) "l") none := by
  have h1 := fo_A_l a b c nd
  have h2 := thingP P k
  rw [h] at h2
  have h2 : d_PictureSource_thing [.val (srcD P), .val (.int k)] = .ok (Th.d (Th.A x y z ks)) none := h2
  have h3 := tc_L P "l" false ["A"] ks hl
  unfold d_told_of b_told_of
  (exists h1, h2, h3)
theorem tp_B_p (P : Pic) (a b c : Str) (nd : Bool) (k : Int) (p q : Option Int) (ks : List Int) (hl : ks.length ≤ 4) (h : look P k = some (Th.B p q ks)) : d_told_of [.val (srcD P), .val (kB b c nd), .val (.int k), .val (.str "p")] = .ok (Th.get P (Th.B p q ks) "p") none := by
  have h1 := fo_B_p a b c nd
  have h2 := thingP P k
  rw [h] at h2
  have h2 : d_PictureSource_thing [.val (srcD P), .val (.int k)] = .ok (Th.d (Th.B p q ks)) none := h2
  have h3 := tc_R P "p" nd ["A"] b p
  unfold d_told_of b_told_of
  (exists h1, h2, h3)
theorem tp_B_q (P : Pic) (a b c : Str) (nd : Bool) (k : Int) (p q : Option Int) (ks : List Int) (hl : ks.length ≤ 4) (h : look P k = some (Th.B p q ks)) : d_told_of [.val (srcD P), .val (kB b c nd), .val (.int k), .val (.str "q")] = .ok (Th.get P (Th.B p q ks) "q") none := by
  have h1 := fo_B_q a b c nd
  have h2 := thingP P k
  rw [h] at h2
  have h2 : d_PictureSource_thing [.val (srcD P), .val (.int k)] = .ok (Th.d (Th.B p q ks)) none := h2
  have h3 := tc_R P "q" false ["B"] c q
  unfold d_told_of b_told_of
  (exists h1, h2, h3)
theorem tp_B_m (P : Pic) (a b c : Str) (nd : Bool) (k : Int) (p q : Option Int) (ks : List Int) (hl : ks.length ≤ 4) (h : look P k = some (Th.B p q ks)) : d_told_of [.val (srcD P), .val (kB b c nd), .val (.int k), .val (.str "m")] = .ok (Th.get P (Th.B p q ks) "m") none := by
  have h1 := fo_B_m a b c nd
  have h2 := thingP P k
  rw [h] at h2
  have h2 : d_PictureSource_thing [.val (srcD P), .val (.int k)] = .ok (Th.d (Th.B p q ks)) none := h2
  have h3 := tc_L P "m" false ["A", "B"] ks hl
  unfold d_told_of b_told_of
  (exists h1, h2, h3)
end
end K46L
namespace K46L
open PySem PySem.Spec PyProof.Rows L2 Dv K46
set_option autoImplicit false
noncomputable section


theorem eqO (x y : Option Int) : oEq (oi x) (oi y) = some (.bl (decide (x = y))) := by
  cases x with
  | none => cases y with
    | none => rfl
    | some b => rfl
  | some a => cases y with
    | none => rfl
    | some b =>
      show some (D.bl (decide (a = b))) = _
      by_cases h : a = b <;> simp [h]
theorem eqT (x y : Option Str) : oEq (os x) (os y) = some (.bl (decide (x = y))) := by
  cases x with
  | none => cases y with
    | none => rfl
    | some b => rfl
  | some a => cases y with
    | none => rfl
    | some b =>
      show some (D.bl (decide (a = b))) = _
      by_cases h : a = b <;> simp [h]
/-- the thing's raw values are these -/
def Th.raw : Th → Th → Bool
  | .A x y _ _, .A x' y' _ _ => decide (x = x') && (decide (y = y') && true)
  | .B _ q _, .B _ q' _ => decide (q = q') && true
  | _, _ => false
def Th.rows : Th → List D
  | .A .. => [.str "a", .str "t"]
  | .B .. => [.str "q"]
def Th.vals : Th → List D
  | .A x y _ _ => [oi x, os y]
  | .B _ q _ => [oi q]
theorem and_eq {a b : Bool} {α : Type} (f : Bool → α) : (match a with | true => f b | false => f false) = f (a && b) := by cases a <;> rfl
theorem allB2 (a b : Bool) : fAll [.lst [.bl a, .bl b]] = some (.bl (a && (b && true))) := rfl
theorem allB1 (a : Bool) : fAll [.lst [.bl a]] = some (.bl (a && true)) := rfl
theorem amountsA (x x' : Option Int) (y y' : Option Str) (z : Option Int) (ks : List Int) : d_has_amounts [.val (Th.d (.A x y z ks)), .val (.lst [.str "a", .str "t"]), .val (.lst [oi x', os y'])] = .ok (.bl (decide (x = x') && (decide (y = y') && true))) none := by
  have h1 := eqO x x'
  have h2 := eqT y y'
  have zp : iZp (xCons (xVal 1) (xCons (xVal 2) xNil)) [.val (Th.d (.A x y z ks)), .val (.lst [.str "a", .str "t"]), .val (.lst [oi x', os y']), .no, .no] = .ok [.tup [.str "a", oi x'], .tup [.str "t", os y']] [.val (Th.d (.A x y z ks)), .val (.lst [.str "a", .str "t"]), .val (.lst [oi x', os y']), .no, .no] := rfl
  have e := allB2 (decide (x = x')) (decide (y = y'))
  unfold d_has_amounts b_has_amounts
  (exists zp, h1, h2, e)
theorem amountsB (p q q' : Option Int) (ks : List Int) : d_has_amounts [.val (Th.d (.B p q ks)), .val (.lst [.str "q"]), .val (.lst [oi q'])] = .ok (.bl (decide (q = q') && true)) none := by
  have h1 := eqO q q'
  have zp : iZp (xCons (xVal 1) (xCons (xVal 2) xNil)) [.val (Th.d (.B p q ks)), .val (.lst [.str "q"]), .val (.lst [oi q']), .no, .no] = .ok [.tup [.str "q", oi q']] [.val (Th.d (.B p q ks)), .val (.lst [.str "q"]), .val (.lst [oi q']), .no, .no] := rfl
  have e := allB1 (decide (q = q'))
  unfold d_has_amounts b_has_amounts
  (exists zp, h1, e)
theorem strE {a b : Str} : oEq (.str a) (.str b) = some (.bl (decide (a = b))) := rfl
theorem intL_map : ∀ ns : List Int, intL (ns.map .int) = some ns
  | [] => rfl
  | n :: r => by
    show (intL (r.map .int)).map (n :: ·) = _
    rw [intL_map r]
    rfl
def keysOf (P : Pic) (kd : Str) : List Int := (P.filter fun p => decide (p.2.kd = kd)).map (·.1)
theorem numbersP (P : Pic) (kd : Str) (hP : P.length ≤ 7) : d_PictureSource_numbers [.val (srcD P), .val (.str kd)] = .ok (Ls (sortI (keysOf P kd))) none := by
  obtain ⟨env', k1, k2⟩ := cmp_ok (ta := xTest (xOp oEq (xFld fc_kind "kind" (xVal 3)) (xVal 1))) (a := xVal 2) (eg := yTup 2 (yCons (yName 2) (yCons (yName 3) yNil))) (vs := [2, 3]) [.val (srcD P), .val (.str kd), .no, .no]
    (fun d => match d with | .tup [_, .ins _ [(_, .str s), _]] => decide (s = kd) | _ => false) (fun d => match d with | .tup [k, _] => k | _ => .non) (Wk.items.ds (picK P)) [] [.val (srcD P), .val (.str kd), .no, .no] rfl (by simp [Wk.ds, picK]; omega) (fun x hx => by
      simp only [Wk.ds, picK, List.map_map, List.mem_map] at hx
      obtain ⟨p, _, rfl⟩ := hx
      exact ⟨[.val (srcD P), .val (.str kd), .val (.int p.1), .val p.2.d], [.val (srcD P), .val (.str kd), .val (.int p.1), .val p.2.d], by (exists trivial), by (exists strE), rfl, fun _ => ⟨[.val (srcD P), .val (.str kd), .val (.int p.1), .val p.2.d], by (exists trivial), rfl⟩⟩)
  have hs : fSorted [.lst ([] ++ ((Wk.items.ds (picK P)).filter fun d => match d with | .tup [_, .ins _ [(_, .str s), _]] => decide (s = kd) | _ => false).map fun d => match d with | .tup [k, _] => k | _ => .non)] = some (Ls (sortI (keysOf P kd))) := by
    have : ([] ++ ((Wk.items.ds (picK P)).filter fun d => match d with | .tup [_, .ins _ [(_, .str s), _]] => decide (s = kd) | _ => false).map fun d => match d with | .tup [k, _] => k | _ => .non) = (keysOf P kd).map D.int := by
      simp only [Wk.ds, picK, keysOf, List.nil_append, List.map_map, List.filter_map]
      rfl
    rw [this]
    show (intL ((keysOf P kd).map D.int)).map _ = _
    rw [intL_map]
    rfl
  have pt : pFld fc_things "things" (pSlot 0) [.val (srcD P), .val (.str kd), .no, .no] = some (.dct (picK P), [.val (srcD P), .val (.str kd), .no, .no]) := rfl
  unfold d_PictureSource_numbers b_PictureSource_numbers
  (exists pt, k1, hs)
end
end K46L
namespace K46L
open PySem PySem.Spec PyProof.Rows L2 Dv K46
set_option autoImplicit false
noncomputable section


theorem look_of : ∀ {P : Pic} {k : Int} {t : Th}, (P.map (·.1)).Nodup → (k, t) ∈ P → look P k = some t
  | [], k, t, _, h => by cases h
  | p :: P, k, t, nd, h => by
    rw [List.map_cons, List.nodup_cons] at nd
    unfold look
    rcases List.mem_cons.mp h with rfl | h
    · rw [if_pos rfl]
    · rw [if_neg (fun e => nd.1 (by rw [e]; exact List.mem_map.mpr ⟨_, h, rfl⟩))]
      exact look_of nd.2 h
theorem look_mem : ∀ {P : Pic} {k : Int} {t : Th}, look P k = some t → (k, t) ∈ P
  | [], k, t, h => by cases h
  | p :: P, k, t, h => by
    unfold look at h
    split at h
    · rename_i e
      cases h
      rw [← e]
      exact List.mem_cons_self ..
    · exact List.mem_cons_of_mem _ (look_mem h)
theorem keysOf_mem {P : Pic} {kd : Str} {k : Int} : k ∈ keysOf P kd ↔ ∃ t, (k, t) ∈ P ∧ t.kd = kd := by
  unfold keysOf
  rw [List.mem_map]
  constructor
  · rintro ⟨p, hp, rfl⟩
    rw [List.mem_filter] at hp
    exact ⟨p.2, hp.1, of_decide_eq_true hp.2⟩
  · rintro ⟨t, ht, e⟩
    exact ⟨(k, t), List.mem_filter.mpr ⟨ht, decide_eq_true e⟩, rfl⟩
theorem kd_ne : (Th.kd (.A none none none []) : Str) ≠ Th.kd (.B none none []) := by decide
theorem amts (t' t : Th) (h : t'.kd = t.kd) : d_has_amounts [.val t'.d, .val (.lst t.rows), .val (.lst t.vals)] = .ok (.bl (t'.raw t)) none := by
  cases t' with
  | A x y z ks => cases t with
    | A x' y' z' ks' => exact amountsA x x' y y' z ks
    | B p q ks' => exact (kd_ne h).elim
  | B p q ks => cases t with
    | A x' y' z' ks' => exact (kd_ne h.symm).elim
    | B p' q' ks' => exact amountsB p q q' ks
def hit (P : Pic) (t : Th) (k : Int) : Bool := match look P k with
  | some t' => t'.raw t
  | none => false
theorem keysOf_len (P : Pic) (kd : Str) : (sortI (keysOf P kd)).length ≤ P.length := by
  rw [(sortI_perm _).length_eq]
  unfold keysOf
  rw [List.length_map]
  exact List.length_filter_le _ _
theorem alikeP (P : Pic) (t : Th) (g : Good P) (hP : P.length ≤ 7) : d_PictureSource_alike [.val (srcD P), .val (.str t.kd), .val (.lst t.rows), .val (.lst t.vals)] = .ok (Ls ((sortI (keysOf P t.kd)).filter (hit P t))) none := by
  have hn := numbersP P t.kd hP
  obtain ⟨env', k1, k2⟩ := cmp_ints (i := 4) (ta := xTest (xCall 3 d_has_amounts (gVal (xOp oDGet (xFld fc_things "things" (xVal 0)) (xVal 4)) (gVal (xVal 2) (gVal (xVal 3) Dv.gNil))))) (env := [.val (srcD P), .val (.str t.kd), .val (.lst t.rows), .val (.lst t.vals), .no]) (hit P t) (sortI (keysOf P t.kd)) rfl (by have := keysOf_len P t.kd; omega) (fun k hk => by
    obtain ⟨t', ht, e⟩ := keysOf_mem.mp ((sortI_perm _).mem_iff.mp hk)
    have hl := look_of g.1 ht
    have hh : hit P t k = t'.raw t := by unfold hit; rw [hl]
    have hg := dgetP P k
    rw [hl] at hg
    have hg : oDGet (picD P) (.int k) = some t'.d := hg
    have ha := amts t' t e
    refine ⟨[.val (srcD P), .val (.str t.kd), .val (.lst t.rows), .val (.lst t.vals), .val (.int k)], [.val (srcD P), .val (.str t.kd), .val (.lst t.rows), .val (.lst t.vals), .val (.int k)], by (exists trivial), ?_, rfl, by (exists trivial)⟩
    rw [hh]
    (exists hg, ha))
  unfold d_PictureSource_alike b_PictureSource_alike
  (exists hn, k1)
theorem neI {a b : Int} : oNe (.int a) (.int b) = some (.bl (!decide (a = b))) := rfl
theorem blL_map : ∀ ns : List Bool, blL (ns.map .bl) = some ns
  | [] => rfl
  | n :: r => by
    show (blL (r.map .bl)).map (n :: ·) = _
    rw [blL_map r]
    rfl
theorem anyNe {env e : Dv.Env} (k : Int) (l : List Int) (h : e = wipeE env [6]) (h2 : e[2]? = some (.val (.int k))) (h6 : ∃ s, e[6]? = some s ∧ isPar s = false) (hl : l.length < 1000) : ∃ env' L, cmpL (yName 6) xYes (xOp oNe (xVal 6) (xVal 2)) [6] (l.map .int) [] env = .ok L env' ∧ wipeE env' [6] = e ∧ fAny [.lst L] = some (.bl (l.any fun j => !decide (j = k))) := by
  obtain ⟨s, hs, hf⟩ := h6
  have hlen : 6 < e.length := by
    rcases Nat.lt_or_ge 6 e.length with h | h
    · exact h
    · rw [List.getElem?_eq_none_iff.mpr h] at hs; cases hs
  obtain ⟨env', k1, k2⟩ := cmp_ok (ta := xYes) (a := xOp oNe (xVal 6) (xVal 2)) (eg := yName 6) (vs := [6]) e (fun _ => true) (fun d => match d with | .int j => .bl (!decide (j = k)) | _ => .non) (l.map .int) [] env h.symm (by simp; omega) (fun x hx => by
    obtain ⟨j, _, rfl⟩ := List.mem_map.mp hx
    have h6' : (e.set 6 (.val (.int j)))[6]? = some (.val (.int j)) := by rw [List.getElem?_set_self hlen]
    have h2' : (e.set 6 (.val (.int j)))[2]? = some (.val (.int k)) := by rw [List.getElem?_set_ne (by decide)]; exact h2
    have hw : wipeE (e.set 6 (.val (.int j))) [6] = e := by
      show (e.set 6 (.val (.int j))).set 6 .no = e
      rw [List.set_set, h]
      show (env.set 6 .no).set 6 .no = env.set 6 .no
      rw [List.set_set]
    exact ⟨e.set 6 (.val (.int j)), e.set 6 (.val (.int j)), setE_at hs hf, rfl, hw, fun _ => ⟨_, r_op (r_val h6') (r_val h2') neI, hw⟩⟩)
  refine ⟨env', _, k1, k2, ?_⟩
  have : ([] ++ ((l.map D.int).filter fun _ => true).map fun d => match d with | .int j => D.bl (!decide (j = k)) | _ => .non) = (l.map fun j => !decide (j = k)).map .bl := by
    rw [List.nil_append, List.filter_eq_self.mpr (fun _ _ => rfl), List.map_map, List.map_map]
    rfl
  rw [this]
  show (blL _).map _ = _
  rw [blL_map]
  show some (D.bl (((l.map fun j => !decide (j = k))).any id)) = _
  rw [List.any_map]
  rfl
end
end K46L
namespace K46L
open PySem PySem.Spec PyProof.Rows L2 Dv K46
set_option autoImplicit false
noncomputable section


theorem nonin (d : D) (h : (∃ x, d = oi x) ∨ ∃ y, d = os y) : scalD d .non = some (isNon d) ∧ flatD d = true := by
  rcases h with ⟨x, rfl⟩ | ⟨x, rfl⟩ <;> cases x <;> exact ⟨rfl, rfl⟩
theorem nonin1 (a : D) (ha : (∃ x, a = oi x) ∨ ∃ y, a = os y) : oOr (oIn false) (oInD false) .non (.lst [a]) = some (.bl (isNon a)) := by
  obtain ⟨h1, h2⟩ := nonin a ha
  have e : anyEq .non [a] = some (isNon a) := by
    show (match flatD a, scalD a .non, some false with | true, some b, some r => some (b || r) | _, _, _ => none) = _
    rw [h1, h2]
    show some (isNon a || false) = _
    rw [Bool.or_false]
  unfold oOr oIn
  show (match (match flatD .non, anyEq .non [a] with | true, some b => some (D.bl (if false = true then !b else b)) | _, _ => none) with | some d => some d | none => _) = _
  rw [e]
  rfl
theorem nonin2 (a b : D) (ha : (∃ x, a = oi x) ∨ ∃ y, a = os y) (hb : (∃ x, b = oi x) ∨ ∃ y, b = os y) : oOr (oIn false) (oInD false) .non (.lst [a, b]) = some (.bl (isNon a || isNon b)) := by
  obtain ⟨h1, h2⟩ := nonin a ha
  obtain ⟨h3, h4⟩ := nonin b hb
  have e : anyEq .non [a, b] = some (isNon a || isNon b) := by
    show (match flatD a, scalD a .non, (match flatD b, scalD b .non, some false with | true, some b, some r => some (b || r) | _, _, _ => none) with | true, some b, some r => some (b || r) | _, _, _ => none) = _
    rw [h1, h2, h3, h4]
    show some (isNon a || (isNon b || false)) = _
    rw [Bool.or_false]
  unfold oOr oIn
  show (match (match flatD .non, anyEq .non [a, b] with | true, some b => some (D.bl (if false = true then !b else b)) | _, _ => none) with | some d => some d | none => _) = _
  rw [e]
  rfl
/-- there is another with the same key -/
def same (P : Pic) (t : Th) (k : Int) : Bool := ((sortI (keysOf P t.kd)).filter (hit P t)).any fun j => !decide (j = k)
def dbl (P : Pic) (k : Int) : Th → Bool
  | .A x y z ks => !(isNon (oi x) || isNon (os y)) && same P (.A x y z ks) k
  | .B p q ks => there P ["B"] q && same P (.B p q ks) k
theorem nameA {a : Str} {nd : Bool} : (List.lookup ("name" : Str) [(("name" : Str), D.str "A")]) = some (.str "A") := rfl
theorem doubleA (P : Pic) (a b c : Str) (nd : Bool) (k : Int) (x : Option Int) (y : Option Str) (z : Option Int) (ks : List Int) (hl : ks.length ≤ 4) (h : look P k = some (.A x y z ks)) (g : Good P) (hP : P.length ≤ 7) : d_has_double [.val (srcD P), .val (kA a nd), .val (.int k), .val (.lst [.str "a", .str "t"])] = .ok (.bl (dbl P k (.A x y z ks))) none := by
  have t1 := tp_A_a P a b c nd k x y z ks hl h
  have t2 := tp_A_t P a b c nd k x y z ks hl h
  have t1 : d_told_of [.val (srcD P), .val (kA a nd), .val (.int k), .val (.str "a")] = .ok (oi x) none := t1
  have t2 : d_told_of [.val (srcD P), .val (kA a nd), .val (.int k), .val (.str "t")] = .ok (os y) none := t2
  have n := nonin2 (oi x) (os y) (.inl ⟨x, rfl⟩) (.inr ⟨y, rfl⟩)
  cases hn : isNon (oi x) || isNon (os y) with
  | true =>
    have hd : dbl P k (.A x y z ks) = false := by
      show (!(Dv.isNon (oi x) || Dv.isNon (os y)) && same P (.A x y z ks) k) = _
      rw [hn]
      rfl
    rw [hd]
    rw [hn] at n
    unfold d_has_double b_has_double
    (exists t1, t2, n)
  | false =>
    have hd : dbl P k (.A x y z ks) = same P (.A x y z ks) k := by
      show (!(Dv.isNon (oi x) || Dv.isNon (os y)) && same P (.A x y z ks) k) = _
      rw [hn]
      rfl
    rw [hd]
    rw [hn] at n
    have al : d_PictureSource_alike [.val (srcD P), .val (.str "A"), .val (.lst [.str "a", .str "t"]), .val (.lst [oi x, os y])] = _ := alikeP P (.A x y z ks) g hP
    obtain ⟨env', L, k1, k2, k3⟩ := anyNe (env := [.val (srcD P), .val (kA a nd), .val (.int k), .val (.lst [.str "a", .str "t"]), .val (.lst [oi x, os y]), .no, .no]) (e := [.val (srcD P), .val (kA a nd), .val (.int k), .val (.lst [.str "a", .str "t"]), .val (.lst [oi x, os y]), .no, .no]) k ((sortI (keysOf P (Th.kd (.A x y z ks)))).filter (hit P (.A x y z ks))) rfl rfl ⟨_, rfl, rfl⟩ (by
      have h1 := keysOf_len P (Th.kd (.A x y z ks))
      have h2 := List.length_filter_le (hit P (.A x y z ks)) (sortI (keysOf P (Th.kd (.A x y z ks))))
      omega)
    unfold d_has_double b_has_double
    (exists t1, t2, n, al, k1, k3)
theorem doubleB (P : Pic) (a b c : Str) (nd : Bool) (k : Int) (p q : Option Int) (ks : List Int) (hl : ks.length ≤ 4) (h : look P k = some (.B p q ks)) (g : Good P) (hP : P.length ≤ 7) : d_has_double [.val (srcD P), .val (kB b c nd), .val (.int k), .val (.lst [.str "q"])] = .ok (.bl (dbl P k (.B p q ks))) none := by
  have t1 := tp_B_q P a b c nd k p q ks hl h
  cases hq : there P ["B"] q with
  | false =>
    have t1 : d_told_of [.val (srcD P), .val (kB b c nd), .val (.int k), .val (.str "q")] = .ok .non none := by
      rw [t1]
      show FRes.ok (if there P ["B"] q = true then oi q else .non) none = _
      rw [hq]
      rfl
    have n := nonin1 .non (.inl ⟨none, rfl⟩)
    have n : oOr (oIn false) (oInD false) .non (.lst [.non]) = some (.bl true) := n
    have hd : dbl P k (.B p q ks) = false := by
      show (there P ["B"] q && same P (.B p q ks) k) = _
      rw [hq]
      rfl
    rw [hd]
    unfold d_has_double b_has_double
    (exists t1, n)
  | true =>
    have t1 : d_told_of [.val (srcD P), .val (kB b c nd), .val (.int k), .val (.str "q")] = .ok (oi q) none := by
      rw [t1]
      show FRes.ok (if there P ["B"] q = true then oi q else .non) none = _
      rw [hq]
      rfl
    have hn : isNon (oi q) = false := by
      cases q with
      | none => cases hq
      | some j => rfl
    have n := nonin1 (oi q) (.inl ⟨q, rfl⟩)
    rw [hn] at n
    have hd : dbl P k (.B p q ks) = same P (.B p q ks) k := by
      show (there P ["B"] q && same P (.B p q ks) k) = _
      rw [hq]
      rfl
    rw [hd]
    have al : d_PictureSource_alike [.val (srcD P), .val (.str "B"), .val (.lst [.str "q"]), .val (.lst [oi q])] = _ := alikeP P (.B p q ks) g hP
    obtain ⟨env', L, k1, k2, k3⟩ := anyNe (env := [.val (srcD P), .val (kB b c nd), .val (.int k), .val (.lst [.str "q"]), .val (.lst [oi q]), .no, .no]) (e := [.val (srcD P), .val (kB b c nd), .val (.int k), .val (.lst [.str "q"]), .val (.lst [oi q]), .no, .no]) k ((sortI (keysOf P (Th.kd (.B p q ks)))).filter (hit P (.B p q ks))) rfl rfl ⟨_, rfl, rfl⟩ (by
      have h1 := keysOf_len P (Th.kd (.B p q ks))
      have h2 := List.length_filter_le (hit P (.B p q ks)) (sortI (keysOf P (Th.kd (.B p q ks))))
      omega)
    unfold d_has_double b_has_double
    (exists t1, n, al, k1, k3)
end
end K46L
namespace K46L
open PySem PySem.Spec PyProof.Rows L2 Dv K46
set_option autoImplicit false
noncomputable section


theorem kof_A (a b c : Str) (nd : Bool) : d_Schema_kind_of [.val (schD a b c nd), .val (.str "A")] = .ok (kA a nd) none := by
  unfold d_Schema_kind_of b_Schema_kind_of
  (exists trivial)
theorem kof_B (a b c : Str) (nd : Bool) : d_Schema_kind_of [.val (schD a b c nd), .val (.str "B")] = .ok (kB b c nd) none := by
  unfold d_Schema_kind_of b_Schema_kind_of
  (exists trivial)
theorem nms_A (a : Str) (nd : Bool) : d_Kind_names [.val (kA a nd)] = .ok (Ss ["a", "t", "r", "l"]) none := by
  unfold d_Kind_names b_Kind_names
  (exists trivial)
theorem nms_B (b c : Str) (nd : Bool) : d_Kind_names [.val (kB b c nd)] = .ok (Ss ["p", "q", "m"]) none := by
  unfold d_Kind_names b_Kind_names
  (exists trivial)
theorem isE (d : D) : oIs d .non = some (.bl (Dv.isNon d)) := rfl
theorem needA : d_needed_constraint [.val (.str "A"), .val (.str "a")] = .ok (.str "A.a needed") none := by
  unfold d_needed_constraint b_needed_constraint xJoined jCons jNil xFmt
  apply r_run
  (exists trivial)
theorem needB : d_needed_constraint [.val (.str "B"), .val (.str "p")] = .ok (.str "B.p needed") none := by
  unfold d_needed_constraint b_needed_constraint xJoined jCons jNil xFmt
  apply r_run
  (exists trivial)
theorem keyA : d_key_constraint [.val (.str "A"), .val (.lst [.str "a", .str "t"])] = .ok (.str "A key a, t") none := by
  unfold d_key_constraint b_key_constraint xJoined jCons jNil xFmt xJoin
  apply r_run
  (exists trivial)
theorem keyB : d_key_constraint [.val (.str "B"), .val (.lst [.str "q"])] = .ok (.str "B key q") none := by
  unfold d_key_constraint b_key_constraint xJoined jCons jNil xFmt xJoin
  apply r_run
  (exists trivial)
theorem anyB2 (a b : Bool) : fAny [.lst [.bl a, .bl b]] = some (.bl (a || (b || false))) := rfl
theorem anyB1 (a : Bool) : fAny [.lst [.bl a]] = some (.bl (a || false)) := rfl
def t1 (b : Bool) (s : Str) : List D := if b = true then [.str s] else []
/-- what the program tells against an object, of the fields ns -/
def agn (P : Pic) (nd : Bool) (k : Int) (ns : List Str) : Th → List D
  | .A x y z ks => t1 (nd && (decide (("a" : Str) ∈ ns) && Dv.isNon (oi x))) "A.a needed" ++ t1 ((decide (("a" : Str) ∈ ns) || decide (("t" : Str) ∈ ns)) && dbl P k (.A x y z ks)) "A key a, t"
  | .B p q ks => t1 (nd && (decide (("p" : Str) ∈ ns) && Dv.isNon (if there P ["A"] p then oi p else .non))) "B.p needed" ++ t1 (decide (("q" : Str) ∈ ns) && dbl P k (.B p q ks)) "B key q"

def body1 : EvS := (xIfS (xAndT (xTest (xFld fc_needed "needed" (xVal 7))) (xAndT (xTest (xOp (oOr (oIn false) (oInD false)) (xFld fc_name "name" (xVal 7)) (xVal 3))) (xTest (xOp oIs (xCall 4 d_told_of (gVal (xVal 4) (gVal (xVal 5) (gVal (xVal 2) (gVal (xFld fc_name "name" (xVal 7)) gNil))))) (xC .non)))))
 (xDrop (xOwnM mApp 6 (xCons (xCall 2 d_needed_constraint (gVal (xFld fc_name "name" (xVal 5)) (gVal (xFld fc_name "name" (xVal 7)) gNil))) xNil)))
 xNx)
def body2 : EvS := (xIfS (xAndT (xTest (xCB fAny (xCons (xLc (iSq (xVal 8)) (yName 9) xYes (xOp (oOr (oIn false) (oInD false)) (xVal 9) (xVal 3)) [9]) xNil))) (xTest (xCall 4 d_has_double (gVal (xVal 4) (gVal (xVal 5) (gVal (xVal 2) (gVal (xVal 8) gNil)))))))
 (xDrop (xOwnM mApp 6 (xCons (xCall 2 d_key_constraint (gVal (xFld fc_name "name" (xVal 5)) (gVal (xVal 8) gNil))) xNil)))
 xNx)
theorem appD {l : List D} {x : D} (h : l.length < 1000000) : mApp (.lst l) [x] = some (.non, .lst (l ++ [x])) := by
  show (if l.length < 1000000 then some (D.non, D.lst (l ++ [x])) else none) = _
  rw [if_pos h]
theorem t1_len (b : Bool) (s : Str) : (t1 b s).length ≤ 1 := by unfold t1; split <;> simp
theorem f1A (P : Pic) (S0 : D) (a : Str) (nd : Bool) (k : Int) (ns : List Str) (v : D) (tt : d_told_of [.val (srcD P), .val (kA a nd), .val (.int k), .val (.str "a")] = .ok v none) : forL (yName 7) body1 [fldD "a" shI nd, fldD "t" shT false, fldD "r" (shR ["A", "B"] a) false, fldD "l" (shL ["A"]) false] [.val S0, .val (picD P), .val (.int k), .val (Ss ns), .val (srcD P), .val (kA a nd), .box (.lst []), .no, .no, .no] = .nx [.val S0, .val (picD P), .val (.int k), .val (Ss ns), .val (srcD P), .val (kA a nd), .box (.lst (t1 (nd && (decide (("a" : Str) ∈ ns) && Dv.isNon v)) "A.a needed")), .val (fldD "l" (shL ["A"]) false), .no, .no] := by
  have i1 := inS "a" ns
  have ie := isE v
  have n1 := needA
  generalize decide (("a" : Str) ∈ ns) = B1 at i1 ⊢
  generalize Dv.isNon v = B3 at ie ⊢
  have st : body1 [.val S0, .val (picD P), .val (.int k), .val (Ss ns), .val (srcD P), .val (kA a nd), .box (.lst []), .val (fldD "a" shI nd), .no, .no] = .nx [.val S0, .val (picD P), .val (.int k), .val (Ss ns), .val (srcD P), .val (kA a nd), .box (.lst (t1 (nd && (B1 && B3)) "A.a needed")), .val (fldD "a" shI nd), .no, .no] := by
    unfold body1
    cases nd with
    | false => (exists trivial)
    | true => cases B1 with
      | false => (exists i1)
      | true => cases B3 <;> (exists i1, tt, ie, n1)
  have y7 : yName 7 (fldD "a" shI nd) [.val S0, .val (picD P), .val (.int k), .val (Ss ns), .val (srcD P), .val (kA a nd), .box (.lst []), .no, .no, .no] = some [.val S0, .val (picD P), .val (.int k), .val (Ss ns), .val (srcD P), .val (kA a nd), .box (.lst []), .val (fldD "a" shI nd), .no, .no] := by (exists trivial)
  refine for_cons y7 st (fk_nx ?_)
  generalize t1 (nd && (B1 && B3)) "A.a needed" = L0
  unfold body1
  (exists trivial)
theorem f1B (P : Pic) (S0 : D) (b c : Str) (nd : Bool) (k : Int) (ns : List Str) (v : D) (tt : d_told_of [.val (srcD P), .val (kB b c nd), .val (.int k), .val (.str "p")] = .ok v none) : forL (yName 7) body1 [fldD "p" (shR ["A"] b) nd, fldD "q" (shR ["B"] c) false, fldD "m" (shL ["A", "B"]) false] [.val S0, .val (picD P), .val (.int k), .val (Ss ns), .val (srcD P), .val (kB b c nd), .box (.lst []), .no, .no, .no] = .nx [.val S0, .val (picD P), .val (.int k), .val (Ss ns), .val (srcD P), .val (kB b c nd), .box (.lst (t1 (nd && (decide (("p" : Str) ∈ ns) && Dv.isNon v)) "B.p needed")), .val (fldD "m" (shL ["A", "B"]) false), .no, .no] := by
  have i1 := inS "p" ns
  have ie := isE v
  have n1 := needB
  generalize decide (("p" : Str) ∈ ns) = B1 at i1 ⊢
  generalize Dv.isNon v = B3 at ie ⊢
  have st : body1 [.val S0, .val (picD P), .val (.int k), .val (Ss ns), .val (srcD P), .val (kB b c nd), .box (.lst []), .val (fldD "p" (shR ["A"] b) nd), .no, .no] = .nx [.val S0, .val (picD P), .val (.int k), .val (Ss ns), .val (srcD P), .val (kB b c nd), .box (.lst (t1 (nd && (B1 && B3)) "B.p needed")), .val (fldD "p" (shR ["A"] b) nd), .no, .no] := by
    unfold body1
    cases nd with
    | false => (exists trivial)
    | true => cases B1 with
      | false => (exists i1)
      | true => cases B3 <;> (exists i1, tt, ie, n1)
  have y7 : yName 7 (fldD "p" (shR ["A"] b) nd) [.val S0, .val (picD P), .val (.int k), .val (Ss ns), .val (srcD P), .val (kB b c nd), .box (.lst []), .no, .no, .no] = some [.val S0, .val (picD P), .val (.int k), .val (Ss ns), .val (srcD P), .val (kB b c nd), .box (.lst []), .val (fldD "p" (shR ["A"] b) nd), .no, .no] := by (exists trivial)
  refine for_cons y7 st (fk_nx ?_)
  generalize t1 (nd && (B1 && B3)) "B.p needed" = L0
  unfold body1
  (exists trivial)
theorem f2A (P : Pic) (S0 F : D) (a : Str) (nd : Bool) (k : Int) (ns : List Str) (l : List D) (hl : l.length ≤ 1) (d1 : Bool) (db : d_has_double [.val (srcD P), .val (kA a nd), .val (.int k), .val (.lst [.str "a", .str "t"])] = .ok (.bl d1) none) : forL (yName 8) body2 [.lst [.str "a", .str "t"]] [.val S0, .val (picD P), .val (.int k), .val (Ss ns), .val (srcD P), .val (kA a nd), .box (.lst l), .val F, .no, .no] = .nx [.val S0, .val (picD P), .val (.int k), .val (Ss ns), .val (srcD P), .val (kA a nd), .box (.lst (l ++ t1 ((decide (("a" : Str) ∈ ns) || decide (("t" : Str) ∈ ns)) && d1) "A key a, t")), .val F, .val (.lst [.str "a", .str "t"]), .no] := by
  have i1 := inS "a" ns
  have i2 := inS "t" ns
  have an := anyB2 (decide (("a" : Str) ∈ ns)) (decide (("t" : Str) ∈ ns))
  rw [Bool.or_false] at an
  generalize decide (("a" : Str) ∈ ns) = B1 at i1 an ⊢
  generalize decide (("t" : Str) ∈ ns) = B2 at i2 an ⊢
  generalize (B1 || B2) = A1 at an ⊢
  have n2 := keyA
  have ap := appD (l := l) (x := .str "A key a, t") (by omega)
  unfold body2
  cases A1 with
  | false =>
    rw [show l ++ t1 (false && d1) "A key a, t" = l from List.append_nil l]
    (exists i1, i2, an)
  | true => cases d1 with
    | false =>
      rw [show l ++ t1 (true && false) "A key a, t" = l from List.append_nil l]
      (exists i1, i2, an, db)
    | true =>
      rw [show l ++ t1 (true && true) "A key a, t" = l ++ [.str "A key a, t"] from rfl]
      (exists i1, i2, an, db, n2, ap)
theorem f2B (P : Pic) (S0 F : D) (b c : Str) (nd : Bool) (k : Int) (ns : List Str) (l : List D) (hl : l.length ≤ 1) (d1 : Bool) (db : d_has_double [.val (srcD P), .val (kB b c nd), .val (.int k), .val (.lst [.str "q"])] = .ok (.bl d1) none) : forL (yName 8) body2 [.lst [.str "q"]] [.val S0, .val (picD P), .val (.int k), .val (Ss ns), .val (srcD P), .val (kB b c nd), .box (.lst l), .val F, .no, .no] = .nx [.val S0, .val (picD P), .val (.int k), .val (Ss ns), .val (srcD P), .val (kB b c nd), .box (.lst (l ++ t1 (decide (("q" : Str) ∈ ns) && d1) "B key q")), .val F, .val (.lst [.str "q"]), .no] := by
  have i1 := inS "q" ns
  have an := anyB1 (decide (("q" : Str) ∈ ns))
  rw [Bool.or_false] at an
  generalize decide (("q" : Str) ∈ ns) = B1 at i1 an ⊢
  have n2 := keyB
  have ap := appD (l := l) (x := .str "B key q") (by omega)
  unfold body2
  cases B1 with
  | false =>
    rw [show l ++ t1 (false && d1) "B key q" = l from List.append_nil l]
    (exists i1, an)
  | true => cases d1 with
    | false =>
      rw [show l ++ t1 (true && false) "B key q" = l from List.append_nil l]
      (exists i1, an, db)
    | true =>
      rw [show l ++ t1 (true && true) "B key q" = l ++ [.str "B key q"] from rfl]
      (exists i1, an, db, n2, ap)
end
end K46L
namespace K46L
open PySem PySem.Spec PyProof.Rows L2 Dv K46
theorem eqv1 (x y : Option Int) : PyData.eqv (od x) (od y) = decide (x = y) := by
  cases x with
  | none => cases y <;> rfl
  | some a => cases y with
    | none => rfl
    | some b =>
      show PyData.eqv (.int a) (.int b) = _
      by_cases h : a = b <;> simp [PyData.eqv, h]
theorem eqv2 (x y : Option Str) : PyData.eqv (osd x) (osd y) = decide (x = y) := by
  cases x with
  | none => cases y <;> rfl
  | some a => cases y with
    | none => rfl
    | some b =>
      show PyData.eqv (.str a) (.str b) = _
      by_cases h : a = b <;> simp [PyData.eqv, h]
theorem eqL1 (x y : Option Int) : oEq (.lst [oi x]) (.lst [oi y]) = some (.bl (decide (x = y) && true)) := by
  have e : oEq (.lst [oi x]) (.lst [oi y]) = (if SeqAt.shaped (.list [od x]) = true ∧ SeqAt.shaped (.list [od y]) = true then some (PyData.eqv (.list [od x]) (.list [od y])) else none).map D.bl := by cases x <;> cases y <;> rfl
  have s : ∀ x, SeqAt.shaped (.list [od x]) = true := fun x => by cases x <;> rfl
  rw [e, if_pos ⟨s x, s y⟩]
  show some (D.bl (PyData.eqv (od x) (od y) && true)) = _
  rw [eqv1]
theorem eqL2 (x y : Option Int) (z w : Option Str) (hz : SeqAt.shaped (.list [od x, osd z]) = true) (hw : SeqAt.shaped (.list [od y, osd w]) = true) : oEq (.lst [oi x, os z]) (.lst [oi y, os w]) = some (.bl (decide (x = y) && (decide (z = w) && true))) := by
  have e : oEq (.lst [oi x, os z]) (.lst [oi y, os w]) = (if SeqAt.shaped (.list [od x, osd z]) = true ∧ SeqAt.shaped (.list [od y, osd w]) = true then some (PyData.eqv (.list [od x, osd z]) (.list [od y, osd w])) else none).map D.bl := by cases x <;> cases y <;> cases z <;> cases w <;> rfl
  rw [e, if_pos ⟨hz, hw⟩]
  show some (D.bl (PyData.eqv (od x) (od y) && (PyData.eqv (osd z) (osd w) && true))) = _
  rw [eqv1, eqv2]
end K46L
namespace K46L
open PySem PySem.Spec PyProof.Rows L2 Dv K46
set_option autoImplicit false
noncomputable section

theorem agnA (P : Pic) (a b c : Str) (nd : Bool) (k : Int) (x : Option Int) (y : Option Str) (z : Option Int) (ks : List Int) (hl : ks.length ≤ 4) (h : look P k = some (Th.A x y z ks)) (g : Good P) (hP : P.length ≤ 7) (ns : List Str) : d_against_fields [.val (schD a b c nd), .val (picD P), .val (.int k), .val (Ss ns)] = .ok (.lst (agn P nd k ns (Th.A x y z ks))) none := by
  have k1 := kof_A a b c nd
  have hg := dgetP P k
  rw [h] at hg
  have hg : oDGet (picD P) (.int k) = some (Th.d (Th.A x y z ks)) := hg
  have s1 := i_Src (picD P)
  have tt : d_told_of [.val (srcD P), .val (kA a nd), .val (.int k), .val (.str "a")] = .ok (oi x) none := tp_A_a P a b c nd k x y z ks hl h
  have db := doubleA P a b c nd k x y z ks hl h g hP
  have l1 := f1A P (schD a b c nd) a nd k ns (oi x) tt
  have l2 := f2A P (schD a b c nd) (fldD "l" (shL ["A"]) false) a nd k ns (t1 (nd && (decide (("a" : Str) ∈ ns) && Dv.isNon (oi x))) "A.a needed") (t1_len _ _) _ db
  unfold body1 at l1
  unfold body2 at l2
  unfold d_against_fields b_against_fields
  (exists k1, hg, s1, l1, l2)
theorem agnB (P : Pic) (a b c : Str) (nd : Bool) (k : Int) (p q : Option Int) (ks : List Int) (hl : ks.length ≤ 4) (h : look P k = some (Th.B p q ks)) (g : Good P) (hP : P.length ≤ 7) (ns : List Str) : d_against_fields [.val (schD a b c nd), .val (picD P), .val (.int k), .val (Ss ns)] = .ok (.lst (agn P nd k ns (Th.B p q ks))) none := by
  have k1 := kof_B a b c nd
  have hg := dgetP P k
  rw [h] at hg
  have hg : oDGet (picD P) (.int k) = some (Th.d (Th.B p q ks)) := hg
  have s1 := i_Src (picD P)
  have tt : d_told_of [.val (srcD P), .val (kB b c nd), .val (.int k), .val (.str "p")] = .ok (if there P ["A"] p then oi p else .non) none := tp_B_p P a b c nd k p q ks hl h
  have db := doubleB P a b c nd k p q ks hl h g hP
  have l1 := f1B P (schD a b c nd) b c nd k ns (if there P ["A"] p then oi p else .non) tt
  have l2 := f2B P (schD a b c nd) (fldD "m" (shL ["A", "B"]) false) b c nd k ns (t1 (nd && (decide (("p" : Str) ∈ ns) && Dv.isNon (if there P ["A"] p then oi p else .non))) "B.p needed") (t1_len _ _) _ db
  unfold body1 at l1
  unfold body2 at l2
  unfold d_against_fields b_against_fields
  (exists k1, hg, s1, l1, l2)
theorem conAg_A (P : Pic) (a b c : Str) (nd : Bool) (k : Int) (x : Option Int) (y : Option Str) (z : Option Int) (ks : List Int) (hl : ks.length ≤ 4) (h : look P k = some (.A x y z ks)) (g : Good P) (hP : P.length ≤ 7) : d_constraints_against [.val (schD a b c nd), .val (picD P), .val (.int k)] = .ok (.lst (agn P nd k ["a", "t", "r", "l"] (.A x y z ks))) none := by
  have k1 := kof_A a b c nd
  have hg := dgetP P k
  rw [h] at hg
  have hg : oDGet (picD P) (.int k) = some (Th.d (.A x y z ks)) := hg
  have n1 := nms_A a nd
  have ag := agnA P a b c nd k x y z ks hl h g hP ["a", "t", "r", "l"]
  unfold d_constraints_against b_constraints_against
  (exists k1, hg, n1, ag)
theorem conAg_B (P : Pic) (a b c : Str) (nd : Bool) (k : Int) (p q : Option Int) (ks : List Int) (hl : ks.length ≤ 4) (h : look P k = some (.B p q ks)) (g : Good P) (hP : P.length ≤ 7) : d_constraints_against [.val (schD a b c nd), .val (picD P), .val (.int k)] = .ok (.lst (agn P nd k ["p", "q", "m"] (.B p q ks))) none := by
  have k1 := kof_B a b c nd
  have hg := dgetP P k
  rw [h] at hg
  have hg : oDGet (picD P) (.int k) = some (Th.d (.B p q ks)) := hg
  have n1 := nms_B b c nd
  have ag := agnB P a b c nd k p q ks hl h g hP ["p", "q", "m"]
  unfold d_constraints_against b_constraints_against
  (exists k1, hg, n1, ag)
end
end K46L
namespace K46L
open PySem PySem.Spec PyProof.Rows L2 Dv K46
set_option autoImplicit false
noncomputable section

theorem r_forD {pt : Pth} {w : Wk} {eg : Eg} {sb : EvS} {env e1 e : Dv.Env} {kvs : List (L2.Key × D)} (h1 : pt env = some (.dct kvs, e1)) (h2 : forL eg sb (w.ds kvs) e1 = .nx e) : xForD pt w eg sb env = .nx e := by
  unfold xForD
  rw [h1]
  show noEx (forL eg sb (w.ds kvs) e1) = _
  rw [h2]
  rfl
theorem keysP (P : Pic) : Wk.keys.ds (picK P) = P.map fun p => .int p.1 := by
  show ((P.map fun p => ((.inl p.1 : L2.Key), p.2.d)).map fun kv => kD kv.1) = _
  rw [List.map_map]
  rfl
theorem nonni1 (a : D) (ha : (∃ x, a = oi x) ∨ ∃ y, a = os y) : oOr (oIn true) (oInD true) .non (.lst [a]) = some (.bl (!Dv.isNon a)) := by
  obtain ⟨h1, h2⟩ := nonin a ha
  have e : anyEq .non [a] = some (Dv.isNon a) := by
    show (match flatD a, scalD a .non, some false with | true, some b, some r => some (b || r) | _, _, _ => none) = _
    rw [h1, h2]
    show some (Dv.isNon a || false) = _
    rw [Bool.or_false]
  unfold oOr oIn
  show (match (match flatD .non, anyEq .non [a] with | true, some b => some (D.bl (if true = true then !b else b)) | _, _ => none) with | some d => some d | none => _) = _
  rw [e]
  rfl
theorem nonni2 (a b : D) (ha : (∃ x, a = oi x) ∨ ∃ y, a = os y) (hb : (∃ x, b = oi x) ∨ ∃ y, b = os y) : oOr (oIn true) (oInD true) .non (.lst [a, b]) = some (.bl (!(Dv.isNon a || Dv.isNon b))) := by
  obtain ⟨h1, h2⟩ := nonin a ha
  obtain ⟨h3, h4⟩ := nonin b hb
  have e : anyEq .non [a, b] = some (Dv.isNon a || Dv.isNon b) := by
    show (match flatD a, scalD a .non, (match flatD b, scalD b .non, some false with | true, some b, some r => some (b || r) | _, _, _ => none) with | true, some b, some r => some (b || r) | _, _, _ => none) = _
    rw [h1, h2, h3, h4]
    show some (Dv.isNon a || (Dv.isNon b || false)) = _
    rw [Bool.or_false]
  unfold oOr oIn
  show (match (match flatD .non, anyEq .non [a, b] with | true, some b => some (D.bl (if true = true then !b else b)) | _, _ => none) with | some d => some d | none => _) = _
  rw [e]
  rfl
def crit (P : Pic) (k : Int) (t : Th) (p : Int × Th) : Bool := match t with
  | .A x y z ks => !decide (p.1 = k) && (decide (p.2.kd = "A") && (!(Dv.isNon (oi x) || Dv.isNon (os y)) && p.2.raw (.A x y z ks)))
  | .B p' q ks => !decide (p.1 = k) && (decide (p.2.kd = "B") && (there P ["B"] q && p.2.raw (.B p' q ks)))
theorem raw_kd {t t' : Th} (h : t'.raw t = true) : t'.kd = t.kd := by
  cases t <;> cases t' <;> first | rfl | cases h
theorem crit_any (P : Pic) (k : Int) (t : Th) (g : Good P) : P.any (crit P k t) = dbl P k t := by
  have key : ∀ c : Bool, (∀ p : Int × Th, crit P k t p = (!decide (p.1 = k) && (decide (p.2.kd = t.kd) && (c && p.2.raw t)))) → dbl P k t = (c && same P t k) → P.any (crit P k t) = dbl P k t := fun c h1 h2 => by
    rw [h2]
    rw [Bool.eq_iff_iff]
    rw [Bool.and_eq_true]
    unfold same
    rw [List.any_eq_true, List.any_eq_true]
    constructor
    · rintro ⟨p, hp, hc⟩
      rw [h1] at hc
      simp only [Bool.and_eq_true] at hc
      obtain ⟨c1, c2, c3, c4⟩ := hc
      refine ⟨c3, p.1, List.mem_filter.mpr ⟨(sortI_perm _).mem_iff.mpr (keysOf_mem.mpr ⟨p.2, hp, of_decide_eq_true c2⟩), ?_⟩, c1⟩
      unfold hit
      rw [look_of g.1 hp]
      exact c4
    · rintro ⟨c3, j, hj, c1⟩
      obtain ⟨hj, hh⟩ := List.mem_filter.mp hj
      obtain ⟨t', ht', e⟩ := keysOf_mem.mp ((sortI_perm _).mem_iff.mp hj)
      unfold hit at hh
      rw [look_of g.1 ht'] at hh
      refine ⟨(j, t'), ht', ?_⟩
      rw [h1]
      simp only [Bool.and_eq_true]
      exact ⟨c1, decide_eq_true e, c3, hh⟩
  cases t with
  | A x y z ks => exact key (!(Dv.isNon (oi x) || Dv.isNon (os y))) (fun p => rfl) rfl
  | B p q ks => exact key (there P ["B"] q) (fun p => rfl) rfl
def bodyLA : EvS := (xIfS (xAndT (xTest (xOp oNe (xVal 9) (xVal 3))) (xAndT (xTest (xOp oEq (xFld fc_kind "kind" (xOp oDGet (xVal 0) (xVal 9))) (xFld fc_kind "kind" (xVal 4)))) (xTest (xOp (oOr (oIn true) (oInD true)) (xC .non) (xVar 8)))))
 (xIfS (xTest (xOp oEq (xLc (iSq (xVal 7)) (yName 10) xYes (xCall 4 d__law_told (gVal (xVal 0) (gVal (xVal 1) (gVal (xOp oDGet (xVal 0) (xVal 9)) (gVal (xVal 10) Dv.gNil))))) [10]) (xVar 8)))
 (xSeq (xDrop (xOwnM mApp 5 (xCons (xTup (xCons (xOp oAdd (xOp oAdd (xFld fc_kind "kind" (xVal 4)) (xC (.str " key "))) (xJoin (xC (.str ", ")) (xVal 7))) (xCons (xVal 7) xNil))) xNil)))
 xBreak)
 xNx)
 xNx)
abbrev enA (P : Pic) (a b c : Str) (nd : Bool) (k : Int) (t : Th) (l : List D) (s8 s9 s10 : Sl) : Dv.Env := [.val (picD P), .val (rlsD a b c), .val (.bl nd), .val (.int k), .val t.d, .box (.lst l), .val (.str "a"), .val (.lst [.str "a", .str "t"]), s8, s9, s10]
abbrev enB (P : Pic) (a b c : Str) (nd : Bool) (k : Int) (t : Th) (l : List D) (s8 s9 s10 : Sl) : Dv.Env := [.val (picD P), .val (rlsD a b c), .val (.bl nd), .val (.int k), .val t.d, .box (.lst l), .val (.str "p"), .val (.lst [.str "q"]), s8, s9, s10]
def ktA : D := .tup [.str "A key a, t", .lst [.str "a", .str "t"]]
def ktB : D := .tup [.str "B key q", .lst [.str "q"]]
abbrev duA (x : Option Int) (y : Option Str) : D := .lst [oi x, os y]
theorem addS {a b c : Str} (h : a ++ b = c) (h2 : a.length + b.length ≤ 1000000) : oAdd (.str a) (.str b) = some (.str c) := by
  rw [← h]
  first
    | rfl
    | exact if_pos h2
theorem kA1 : oAdd (.str "A") (.str " key ") = some (.str "A key ") := by first | rfl | decide | exact addS rfl (by decide)
theorem kA2 : oAdd (.str "A key ") (.str "a, t") = some (.str "A key a, t") := by first | rfl | decide | exact addS rfl (by decide)
theorem kB1 : oAdd (.str "B") (.str " key ") = some (.str "B key ") := by first | rfl | decide | exact addS rfl (by decide)
theorem kB2 : oAdd (.str "B key ") (.str "q") = some (.str "B key q") := by first | rfl | decide | exact addS rfl (by decide)
theorem jnA {env : Dv.Env} (h : env[7]? = some (.val (.lst [.str "a", .str "t"]))) : xJoin (xC (.str ", ")) (xVal 7) env = .ok (.str "a, t") env := by
  have e : xVal 7 env = .ok (.lst [.str "a", .str "t"]) env := r_val h
  unfold xJoin
  show ((xVal 7) env).bind _ = _
  rw [e]
  rfl
theorem jnB {env : Dv.Env} (h : env[7]? = some (.val (.lst [.str "q"]))) : xJoin (xC (.str ", ")) (xVal 7) env = .ok (.str "q") env := by
  have e : xVal 7 env = .ok (.lst [.str "q"]) env := r_val h
  unfold xJoin
  show ((xVal 7) env).bind _ = _
  rw [e]
  rfl
theorem kdAA : oEq (.str "A") (.str "A") = some (.bl true) := rfl
theorem kdBA : oEq (.str "B") (.str "A") = some (.bl false) := rfl
theorem kdAB : oEq (.str "A") (.str "B") = some (.bl false) := rfl
theorem kdBB : oEq (.str "B") (.str "B") = some (.bl true) := rfl
end
end K46L
namespace K46L
open PySem PySem.Spec PyProof.Rows L2 Dv K46
set_option autoImplicit false
noncomputable section

structure Du (due : D) (s8 : Sl) : Prop where
  h : s8 = .box due ∨ s8 = .val due
theorem xv8A {P : Pic} {a b c : Str} {nd : Bool} {k : Int} {t : Th} {l : List D} {s8 s9 s10 : Sl} {due : D} (h8 : Du due s8) : xVar 8 (enA P a b c nd k t l s8 s9 s10) = .ok due (enA P a b c nd k t l (.val due) s9 s10) := by rcases h8.h with rfl | rfl <;> rfl
theorem xv8B {P : Pic} {a b c : Str} {nd : Bool} {k : Int} {t : Th} {l : List D} {s8 s9 s10 : Sl} {due : D} (h8 : Du due s8) : xVar 8 (enB P a b c nd k t l s8 s9 s10) = .ok due (enB P a b c nd k t l (.val due) s9 s10) := by rcases h8.h with rfl | rfl <;> rfl
theorem kdB0 : decide ((Th.kd (.B none none []) : Str) = "A") = false := by decide
theorem kdA0 : decide ((Th.kd (.A none none none []) : Str) = "A") = true := by decide
theorem strKA (s : Str) : oEq (.str s) (.str "A") = some (.bl (decide (s = "A"))) := rfl
theorem stepA (P : Pic) (a b c : Str) (na : a ≠ "list") (nb : b ≠ "list") (nc : c ≠ "list") (nd : Bool) (k : Int) (x : Option Int) (y : Option Str) (z : Option Int) (ks : List Int) (oy : okS y) (l : List D) (hl : l.length ≤ 1) (j : Int) (t' : Th) (ht : look P j = some t') (ot : okT t') (s8 s10 : Sl) (h8 : Du (duA x y) s8) (h10 : isPar s10 = false) : ∃ s8' s10', Du (duA x y) s8' ∧ isPar s10' = false ∧ bodyLA (enA P a b c nd k (.A x y z ks) l s8 (.val (.int j)) s10) = if crit P k (.A x y z ks) (j, t') = true then .bk (enA P a b c nd k (.A x y z ks) (l ++ [ktA]) s8' (.val (.int j)) s10') else .nx (enA P a b c nd k (.A x y z ks) l s8' (.val (.int j)) s10') := by
  have n1 : oNe (.int j) (.int k) = some (.bl (!decide (j = k))) := neI
  have hg := dgetP P j
  rw [ht] at hg
  have hg : oDGet (picD P) (.int j) = some t'.d := hg
  have nn := nonni2 (oi x) (os y) (.inl ⟨x, rfl⟩) (.inr ⟨y, rfl⟩)
  have hc : crit P k (.A x y z ks) (j, t') = (!decide (j = k) && (decide (t'.kd = "A") && (!(Dv.isNon (oi x) || Dv.isNon (os y)) && t'.raw (.A x y z ks)))) := rfl
  rw [hc]
  generalize hB1 : decide (j = k) = B1 at n1 ⊢
  generalize (Dv.isNon (oi x) || Dv.isNon (os y)) = B2 at nn ⊢
  cases B1 with
  | true =>
    refine ⟨s8, s10, h8, h10, ?_⟩
    rw [if_neg (by simp)]
    have n1 : oNe (.int j) (.int k) = some (.bl false) := n1
    unfold bodyLA
    (exists n1)
  | false =>
    have n1 : oNe (.int j) (.int k) = some (.bl true) := n1
    cases t' with
    | B p q ks' =>
      refine ⟨s8, s10, h8, h10, ?_⟩
      have k0 : decide ((Th.B p q ks').kd = ("A" : Str)) = false := kdB0
      have k1 : oEq (.str (Th.B p q ks').kd) (.str (Th.A x y z ks).kd) = some (.bl false) := kdBA
      rw [if_neg (by rw [k0]; simp)]
      unfold bodyLA
      (exists n1, hg, k1)
    | A x' y' z' ks' =>
      have k0 : decide ((Th.A x' y' z' ks').kd = ("A" : Str)) = true := kdA0
      have k1 : oEq (.str (Th.A x' y' z' ks').kd) (.str (Th.A x y z ks).kd) = some (.bl true) := kdAA
      rw [k0]
      cases B2 with
      | true =>
        have nn : oOr (oIn true) (oInD true) .non (.lst [oi x, os y]) = some (.bl false) := nn
        refine ⟨.val (duA x y), s10, ⟨.inr rfl⟩, h10, ?_⟩
        rw [if_neg (by simp)]
        have xv := xv8A (P := P) (a := a) (b := b) (c := c) (nd := nd) (k := k) (t := (.A x y z ks)) (l := l) (s9 := .val (.int j)) (s10 := s10) h8
        unfold bodyLA
        (exists n1, hg, k1, nn, xv)
      | false =>
        have nn : oOr (oIn true) (oInD true) .non (.lst [oi x, os y]) = some (.bl true) := nn
        have t1 : d__law_told [.val (picD P), .val (rlsD a b c), .val (Th.A x' y' z' ks').d, .val (.str "a")] = .ok (oi x') none := tl_A_a P a b c na nb nc x' y' z' ks'
        have t2 : d__law_told [.val (picD P), .val (rlsD a b c), .val (Th.A x' y' z' ks').d, .val (.str "t")] = .ok (os y') none := tl_A_t P a b c na nb nc x' y' z' ks'
        have e := eqL2 x' x y' y (ot.2.1 x') (oy.1 x)
        have hr : (Th.A x' y' z' ks').raw (.A x y z ks) = (decide (x' = x) && (decide (y' = y) && true)) := rfl
        rw [hr]
        generalize (decide (x' = x) && (decide (y' = y) && true)) = B3 at e ⊢
        refine ⟨.val (duA x y), .no, ⟨.inr rfl⟩, rfl, ?_⟩
        cases B3 with
        | false =>
          rw [if_neg (by simp)]
          have xv := xv8A (P := P) (a := a) (b := b) (c := c) (nd := nd) (k := k) (t := (.A x y z ks)) (l := l) (s9 := .val (.int j)) (s10 := s10) h8
          unfold bodyLA
          (exists n1, hg, k1, nn, t1, t2, e, xv)
        | true =>
          have ap := appD (l := l) (x := ktA) (by omega)
          have ap : mApp (.lst l) [.tup [.str "A key a, t", .lst [.str "a", .str "t"]]] = some (.non, .lst (l ++ [ktA])) := ap
          rw [if_pos (by simp)]
          have kk : oAdd (.str (Th.A x y z ks).kd) (.str " key ") = some (.str "A key ") := kA1
          have k2 := kA2
          have jn := jnA (env := enA P a b c nd k (.A x y z ks) l (.val (duA x y)) (.val (.int j)) .no) rfl
          have xv := xv8A (P := P) (a := a) (b := b) (c := c) (nd := nd) (k := k) (t := (.A x y z ks)) (l := l) (s9 := .val (.int j)) (s10 := s10) h8
          unfold bodyLA
          (exists n1, hg, k1, nn, t1, t2, e, ap, kk, k2, jn, xv)
end
end K46L
namespace K46L
open PySem PySem.Spec PyProof.Rows L2 Dv K46
set_option autoImplicit false
noncomputable section

theorem tlB_q (P : Pic) (a b c : Str) (na : a ≠ "list") (nb : b ≠ "list") (nc : c ≠ "list") (p q : Option Int) (ks : List Int) (v : Option Int) (hv : (if there P ["B"] q = true then oi q else .non) = oi v) : d__law_told [.val (picD P), .val (rlsD a b c), .val (Th.B p q ks).d, .val (.str "q")] = .ok (oi v) none := by
  rw [← hv]
  exact tl_B_q P a b c na nb nc p q ks
theorem toldQ (P : Pic) (q q' : Option Int) (hq : there P ["B"] q = true) : ∃ v, (if there P ["B"] q' = true then oi q' else .non) = oi v ∧ decide (v = q) = decide (q' = q) := by
  cases h : there P ["B"] q' with
  | true => exact ⟨q', rfl, rfl⟩
  | false =>
    refine ⟨none, rfl, ?_⟩
    have h1 : ¬ (none = q) := fun e => by subst e; cases hq
    have h2 : ¬ (q' = q) := fun e => by subst e; rw [hq] at h; cases h
    rw [decide_eq_false h1, decide_eq_false h2]
abbrev duB (q : Option Int) : D := .lst [oi q]
theorem stepB (P : Pic) (a b c : Str) (na : a ≠ "list") (nb : b ≠ "list") (nc : c ≠ "list") (nd : Bool) (k : Int) (p q u : Option Int) (ks : List Int) (hu : (if there P ["B"] q = true then oi q else .non) = oi u) (l : List D) (hl : l.length ≤ 1) (j : Int) (t' : Th) (ht : look P j = some t') (s8 s10 : Sl) (h8 : Du (duB u) s8) (h10 : isPar s10 = false) : ∃ s8' s10', Du (duB u) s8' ∧ isPar s10' = false ∧ bodyLA (enB P a b c nd k (.B p q ks) l s8 (.val (.int j)) s10) = if crit P k (.B p q ks) (j, t') = true then .bk (enB P a b c nd k (.B p q ks) (l ++ [ktB]) s8' (.val (.int j)) s10') else .nx (enB P a b c nd k (.B p q ks) l s8' (.val (.int j)) s10') := by
  have n1 : oNe (.int j) (.int k) = some (.bl (!decide (j = k))) := neI
  have hg := dgetP P j
  rw [ht] at hg
  have hg : oDGet (picD P) (.int j) = some t'.d := hg
  have nn := nonni1 (oi u) (.inl ⟨u, rfl⟩)
  have hc : crit P k (.B p q ks) (j, t') = (!decide (j = k) && (decide (t'.kd = "B") && (there P ["B"] q && t'.raw (.B p q ks)))) := rfl
  rw [hc]
  generalize hB1 : decide (j = k) = B1 at n1 ⊢
  have hN : Dv.isNon (oi u) = !there P ["B"] q := by
    rw [← hu]
    cases hq : there P ["B"] q with
    | false => rfl
    | true => cases q with
      | none => cases hq
      | some _ => rfl
  cases B1 with
  | true =>
    refine ⟨s8, s10, h8, h10, ?_⟩
    rw [if_neg (by simp)]
    have n1 : oNe (.int j) (.int k) = some (.bl false) := n1
    unfold bodyLA
    (exists n1)
  | false =>
    have n1 : oNe (.int j) (.int k) = some (.bl true) := n1
    cases t' with
    | A x' y' z' ks' =>
      refine ⟨s8, s10, h8, h10, ?_⟩
      have k0 : decide ((Th.A x' y' z' ks').kd = ("B" : Str)) = false := show decide ((Th.kd (.A none none none []) : Str) = "B") = false by decide
      have k1 : oEq (.str (Th.A x' y' z' ks').kd) (.str (Th.B p q ks).kd) = some (.bl false) := kdAB
      rw [if_neg (by rw [k0]; simp)]
      unfold bodyLA
      (exists n1, hg, k1)
    | B p' q' ks' =>
      have k0 : decide ((Th.B p' q' ks').kd = ("B" : Str)) = true := show decide ((Th.kd (.B none none []) : Str) = "B") = true by decide
      have k1 : oEq (.str (Th.B p' q' ks').kd) (.str (Th.B p q ks).kd) = some (.bl true) := kdBB
      rw [k0]
      cases hq : there P ["B"] q with
      | false =>
        rw [hN, hq] at nn
        have nn : oOr (oIn true) (oInD true) .non (.lst [oi u]) = some (.bl false) := nn
        refine ⟨.val (duB u), s10, ⟨.inr rfl⟩, h10, ?_⟩
        rw [if_neg (by simp)]
        have xv := xv8B (P := P) (a := a) (b := b) (c := c) (nd := nd) (k := k) (t := (.B p q ks)) (l := l) (s9 := .val (.int j)) (s10 := s10) h8
        unfold bodyLA
        (exists n1, hg, k1, nn, xv)
      | true =>
        rw [hN, hq] at nn
        have nn : oOr (oIn true) (oInD true) .non (.lst [oi u]) = some (.bl true) := nn
        have huq : u = q := by
          rw [hq, if_pos rfl] at hu
          cases u <;> cases q <;> first | rfl | (cases hu; rfl) | cases hu
        obtain ⟨v, hv, hd⟩ := toldQ P q q' hq
        have t1 := tlB_q P a b c na nb nc p' q' ks' v hv
        have e : oEq (.lst [oi v]) (.lst [oi u]) = some (.bl (decide (q' = q) && true)) := by
          rw [eqL1 v u, huq, hd]
        have hr : (Th.B p' q' ks').raw (.B p q ks) = (decide (q' = q) && true) := rfl
        rw [hr]
        generalize (decide (q' = q) && true) = B3 at e ⊢
        refine ⟨.val (duB u), .no, ⟨.inr rfl⟩, rfl, ?_⟩
        cases B3 with
        | false =>
          rw [if_neg (by simp)]
          have xv := xv8B (P := P) (a := a) (b := b) (c := c) (nd := nd) (k := k) (t := (.B p q ks)) (l := l) (s9 := .val (.int j)) (s10 := s10) h8
          unfold bodyLA
          (exists n1, hg, k1, nn, t1, e, xv)
        | true =>
          have ap := appD (l := l) (x := ktB) (by omega)
          have ap : mApp (.lst l) [.tup [.str "B key q", .lst [.str "q"]]] = some (.non, .lst (l ++ [ktB])) := ap
          rw [if_pos (by simp)]
          have kk : oAdd (.str (Th.B p q ks).kd) (.str " key ") = some (.str "B key ") := kB1
          have k2 := kB2
          have jn := jnB (env := enB P a b c nd k (.B p q ks) l (.val (duB u)) (.val (.int j)) .no) rfl
          have xv := xv8B (P := P) (a := a) (b := b) (c := c) (nd := nd) (k := k) (t := (.B p q ks)) (l := l) (s9 := .val (.int j)) (s10 := s10) h8
          unfold bodyLA
          (exists n1, hg, k1, nn, t1, e, ap, kk, k2, jn, xv)
end
end K46L
namespace K46L
open PySem PySem.Spec PyProof.Rows L2 Dv K46
set_option autoImplicit false
noncomputable section

theorem du_par {d : D} {s : Sl} (h : Du d s) : isPar s = false := by rcases h.h with rfl | rfl <;> rfl
theorem parc {s : Sl} {r : Dv.Env} (h : isPar s = false) : parOf (s :: r) = parOf r := by cases s <;> first | rfl | cases h
theorem par3 {d0 d1 d2 d3 d4 d5 d6 d7 : D} {r8 r9 r10 : Sl} (h8 : isPar r8 = false) (h9 : isPar r9 = false) (h10 : isPar r10 = false) : parOf [.val d0, .val d1, .val d2, .val d3, .val d4, .val d5, .val d6, .val d7, r8, r9, r10] = none := by
  show parOf [r8, r9, r10] = none
  rw [parc h8, parc h9, parc h10]
  rfl
theorem z9 {P : Pic} {a b c : Str} {nd : Bool} {k : Int} {t : Th} {l : List D} {s8 s9 s10 : Sl} {d : D} (h : isPar s9 = false) : yName 9 d (enA P a b c nd k t l s8 s9 s10) = some (enA P a b c nd k t l s8 (.val d) s10) := by
  refine z_name ?_
  rw [setE_at (s := s9) rfl h]
  rfl
theorem z9B {P : Pic} {a b c : Str} {nd : Bool} {k : Int} {t : Th} {l : List D} {s8 s9 s10 : Sl} {d : D} (h : isPar s9 = false) : yName 9 d (enB P a b c nd k t l s8 s9 s10) = some (enB P a b c nd k t l s8 (.val d) s10) := by
  refine z_name ?_
  rw [setE_at (s := s9) rfl h]
  rfl
def t2 (b : Bool) (d : D) : List D := if b = true then [d] else []
theorem loopA (P : Pic) (a b c : Str) (na : a ≠ "list") (nb : b ≠ "list") (nc : c ≠ "list") (nd : Bool) (k : Int) (x : Option Int) (y : Option Str) (z : Option Int) (ks : List Int) (oy : okS y) (g : Good P) (l : List D) (hl : l.length ≤ 1) : ∀ (Q : Pic) (hQ : ∀ p ∈ Q, p ∈ P) (s8 s9 s10 : Sl) (h8 : Du (duA x y) s8) (h9 : isPar s9 = false) (h10 : isPar s10 = false), ∃ s8' s9' s10', forL (yName 9) bodyLA (Q.map fun p => .int p.1) (enA P a b c nd k (.A x y z ks) l s8 s9 s10) = .nx (enA P a b c nd k (.A x y z ks) (l ++ t2 (Q.any (crit P k (.A x y z ks))) ktA) s8' s9' s10') ∧ isPar s8' = false ∧ isPar s9' = false ∧ isPar s10' = false
  | [], _, s8, s9, s10, h8, h9, h10 => ⟨s8, s9, s10, by rw [show l ++ t2 (List.any [] (crit P k (.A x y z ks))) ktA = l from List.append_nil l]; rfl, du_par h8, h9, h10⟩
  | p :: Q, hQ, s8, s9, s10, h8, h9, h10 => by
    have hp := hQ p (List.mem_cons_self ..)
    obtain ⟨j, t'⟩ := p
    obtain ⟨s8', s10', d8, d10, e⟩ := stepA P a b c na nb nc nd k x y z ks oy l hl j t' (look_of g.1 hp) (g.2 _ hp) s8 s10 h8 h10
    rw [List.any_cons]
    rw [List.map_cons]
    cases hc : crit P k (.A x y z ks) (j, t') with
    | true =>
      rw [if_pos hc] at e
      exact ⟨s8', .val (.int j), s10', for_cons (z9 h9) e fk_bk, du_par d8, rfl, d10⟩
    | false =>
      rw [if_neg (by rw [hc]; decide)] at e
      obtain ⟨r8, r9, r10, ih, i8⟩ := loopA P a b c na nb nc nd k x y z ks oy g l hl Q (fun p h => hQ p (List.mem_cons_of_mem _ h)) s8' (.val (.int j)) s10' d8 rfl d10
      rw [Bool.false_or]
      exact ⟨r8, r9, r10, for_cons (z9 h9) e (fk_nx ih), i8⟩
theorem loopB (P : Pic) (a b c : Str) (na : a ≠ "list") (nb : b ≠ "list") (nc : c ≠ "list") (nd : Bool) (k : Int) (p q u : Option Int) (ks : List Int) (hu : (if there P ["B"] q = true then oi q else .non) = oi u) (g : Good P) (l : List D) (hl : l.length ≤ 1) : ∀ (Q : Pic) (hQ : ∀ p ∈ Q, p ∈ P) (s8 s9 s10 : Sl) (h8 : Du (duB u) s8) (h9 : isPar s9 = false) (h10 : isPar s10 = false), ∃ s8' s9' s10', forL (yName 9) bodyLA (Q.map fun p => .int p.1) (enB P a b c nd k (.B p q ks) l s8 s9 s10) = .nx (enB P a b c nd k (.B p q ks) (l ++ t2 (Q.any (crit P k (.B p q ks))) ktB) s8' s9' s10') ∧ isPar s8' = false ∧ isPar s9' = false ∧ isPar s10' = false
  | [], _, s8, s9, s10, h8, h9, h10 => ⟨s8, s9, s10, by rw [show l ++ t2 (List.any [] (crit P k (.B p q ks))) ktB = l from List.append_nil l]; rfl, du_par h8, h9, h10⟩
  | p' :: Q, hQ, s8, s9, s10, h8, h9, h10 => by
    have hp := hQ p' (List.mem_cons_self ..)
    obtain ⟨j, t'⟩ := p'
    obtain ⟨s8', s10', d8, d10, e⟩ := stepB P a b c na nb nc nd k p q u ks hu l hl j t' (look_of g.1 hp) s8 s10 h8 h10
    rw [List.any_cons]
    rw [List.map_cons]
    cases hc : crit P k (.B p q ks) (j, t') with
    | true =>
      rw [if_pos hc] at e
      exact ⟨s8', .val (.int j), s10', for_cons (z9B h9) e fk_bk, du_par d8, rfl, d10⟩
    | false =>
      rw [if_neg (by rw [hc]; decide)] at e
      obtain ⟨r8, r9, r10, ih, i8⟩ := loopB P a b c na nb nc nd k p q u ks hu g l hl Q (fun p h => hQ p (List.mem_cons_of_mem _ h)) s8' (.val (.int j)) s10' d8 rfl d10
      rw [Bool.false_or]
      exact ⟨r8, r9, r10, for_cons (z9B h9) e (fk_nx ih), i8⟩
/-- what the law tells against an object: texts with the names -/
def lagn (P : Pic) (nd : Bool) (k : Int) : Th → List D
  | .A x y z ks => t2 (nd && Dv.isNon (oi x)) (.tup [.str "A.a needed", .lst [.str "a"]]) ++ t2 (dbl P k (.A x y z ks)) ktA
  | .B p q ks => t2 (nd && Dv.isNon (if there P ["A"] p = true then oi p else .non)) (.tup [.str "B.p needed", .lst [.str "p"]]) ++ t2 (dbl P k (.B p q ks)) ktB
theorem t2_len (b : Bool) (s : D) : (t2 b s).length ≤ 1 := by unfold t2; split <;> simp
theorem nA1 : oAdd (.str "A") (.str ".") = some (.str "A.") := by first | rfl | decide
theorem nA2 : oAdd (.str "A.") (.str "a") = some (.str "A.a") := by first | rfl | decide
theorem nA3 : oAdd (.str "A.a") (.str " needed") = some (.str "A.a needed") := by first | rfl | decide
theorem nB1 : oAdd (.str "B") (.str ".") = some (.str "B.") := by first | rfl | decide
theorem nB2 : oAdd (.str "B.") (.str "p") = some (.str "B.p") := by first | rfl | decide
theorem nB3 : oAdd (.str "B.p") (.str " needed") = some (.str "B.p needed") := by first | rfl | decide
def stmt6 : EvS := (xIfS (xAndT (xTest (xVal 2)) (xTest (xOp oIs (xCall 4 d__law_told (gVal (xVal 0) (gVal (xVal 1) (gVal (xVal 4) (gVal (xVal 6) Dv.gNil))))) (xC .non))))
 (xDrop (xOwnM mApp 5 (xCons (xTup (xCons (xOp oAdd (xOp oAdd (xOp oAdd (xFld fc_kind "kind" (xVal 4)) (xC (.str "."))) (xVal 6)) (xC (.str " needed"))) (xCons (xLst (xCons (xVal 6) xNil)) xNil))) xNil)))
 xNx)
theorem lawAg_A (P : Pic) (a b c : Str) (na : a ≠ "list") (nb : b ≠ "list") (nc : c ≠ "list") (nd : Bool) (k : Int) (x : Option Int) (y : Option Str) (z : Option Int) (ks : List Int) (h : look P k = some (.A x y z ks)) (g : Good P) : d__law_against [.val (picD P), .val (rlsD a b c), .val (.bl nd), .val (.int k)] = .ok (.lst (lagn P nd k (.A x y z ks))) none := by
  have hg := dgetP P k
  rw [h] at hg
  have hg : oDGet (picD P) (.int k) = some (Th.d (.A x y z ks)) := hg
  have k1 : oEq (.str (Th.A x y z ks).kd) (.str "A") = some (.bl true) := kdAA
  have t1 : d__law_told [.val (picD P), .val (rlsD a b c), .val (Th.A x y z ks).d, .val (.str "a")] = .ok (oi x) none := tl_A_a P a b c na nb nc x y z ks
  have t2' : d__law_told [.val (picD P), .val (rlsD a b c), .val (Th.A x y z ks).d, .val (.str "t")] = .ok (os y) none := tl_A_t P a b c na nb nc x y z ks
  have oy := (g.2 _ (look_mem h)).2
  have ie := isE (oi x)
  have hl := t2_len (nd && Dv.isNon (oi x)) (.tup [.str "A.a needed", .lst [.str "a"]])
  obtain ⟨r8, r9, r10, lp, i8, i9, i10⟩ := loopA P a b c na nb nc nd k x y z ks oy g (t2 (nd && Dv.isNon (oi x)) (.tup [.str "A.a needed", .lst [.str "a"]])) hl P (fun p h => h) (.box (duA x y)) .no .no ⟨.inl rfl⟩ rfl rfl
  rw [crit_any P k _ g, ← keysP] at lp
  have fd := r_forD (pt := pSlot 0) (w := .keys) (sb := bodyLA) (eg := yName 9) (env := enA P a b c nd k (.A x y z ks) (t2 (nd && Dv.isNon (oi x)) (.tup [.str "A.a needed", .lst [.str "a"]])) (.box (duA x y)) .no .no) rfl lp
  unfold bodyLA at fd
  rw [show lagn P nd k (.A x y z ks) = t2 (nd && Dv.isNon (oi x)) (.tup [.str "A.a needed", .lst [.str "a"]]) ++ t2 (dbl P k (.A x y z ks)) ktA from rfl]
  have q1 : oAdd (.str (Th.A x y z ks).kd) (.str ".") = some (.str "A.") := nA1
  have q2 := nA2
  have q3 := nA3
  generalize Dv.isNon (oi x) = B1 at ie fd ⊢
  have po := fun d0 d1 d2 d3 d4 d5 d6 d7 => par3 (d0 := d0) (d1 := d1) (d2 := d2) (d3 := d3) (d4 := d4) (d5 := d5) (d6 := d6) (d7 := d7) i8 i9 i10
  have s6 : stmt6 (enA P a b c nd k (.A x y z ks) [] .no .no .no) = .nx (enA P a b c nd k (.A x y z ks) (t2 (nd && B1) (.tup [.str "A.a needed", .lst [.str "a"]])) .no .no .no) := by
    unfold stmt6
    cases nd with
    | false => (exists trivial)
    | true => cases B1 with
      | false => (exists t1, ie)
      | true => (exists t1, ie, q1, q2, q3)
  unfold stmt6 at s6
  unfold d__law_against b__law_against
  (exists s6, hg, k1, t1, t2', fd, po _ _ _ _ _ _ _ _)
theorem lawAg_B (P : Pic) (a b c : Str) (na : a ≠ "list") (nb : b ≠ "list") (nc : c ≠ "list") (nd : Bool) (k : Int) (p q : Option Int) (ks : List Int) (h : look P k = some (.B p q ks)) (g : Good P) : d__law_against [.val (picD P), .val (rlsD a b c), .val (.bl nd), .val (.int k)] = .ok (.lst (lagn P nd k (.B p q ks))) none := by
  have hg := dgetP P k
  rw [h] at hg
  have hg : oDGet (picD P) (.int k) = some (Th.d (.B p q ks)) := hg
  have k1 : oEq (.str (Th.B p q ks).kd) (.str "A") = some (.bl false) := kdBA
  have hu : ∃ u, (if there P ["B"] q = true then oi q else .non) = oi u := by
    cases there P ["B"] q with
    | true => exact ⟨q, rfl⟩
    | false => exact ⟨none, rfl⟩
  obtain ⟨u, hu⟩ := hu
  have t1 : d__law_told [.val (picD P), .val (rlsD a b c), .val (Th.B p q ks).d, .val (.str "p")] = .ok (if there P ["A"] p = true then oi p else .non) none := tl_B_p P a b c na nb nc p q ks
  have t2' := tlB_q P a b c na nb nc p q ks u hu
  have ie := isE (if there P ["A"] p = true then oi p else .non)
  have hl := t2_len (nd && Dv.isNon (if there P ["A"] p = true then oi p else .non)) (.tup [.str "B.p needed", .lst [.str "p"]])
  obtain ⟨r8, r9, r10, lp, i8, i9, i10⟩ := loopB P a b c na nb nc nd k p q u ks hu g (t2 (nd && Dv.isNon (if there P ["A"] p = true then oi p else .non)) (.tup [.str "B.p needed", .lst [.str "p"]])) hl P (fun p h => h) (.box (duB u)) .no .no ⟨.inl rfl⟩ rfl rfl
  rw [crit_any P k _ g, ← keysP] at lp
  have fd := r_forD (pt := pSlot 0) (w := .keys) (sb := bodyLA) (eg := yName 9) (env := enB P a b c nd k (.B p q ks) (t2 (nd && Dv.isNon (if there P ["A"] p = true then oi p else .non)) (.tup [.str "B.p needed", .lst [.str "p"]])) (.box (duB u)) .no .no) rfl lp
  unfold bodyLA at fd
  rw [show lagn P nd k (.B p q ks) = t2 (nd && Dv.isNon (if there P ["A"] p = true then oi p else .non)) (.tup [.str "B.p needed", .lst [.str "p"]]) ++ t2 (dbl P k (.B p q ks)) ktB from rfl]
  have q1 : oAdd (.str (Th.B p q ks).kd) (.str ".") = some (.str "B.") := nB1
  have q2 := nB2
  have q3 := nB3
  generalize Dv.isNon (if there P ["A"] p = true then oi p else .non) = B1 at ie fd ⊢
  generalize (if there P ["A"] p = true then oi p else .non) = V at t1 ie ⊢
  have po := fun d0 d1 d2 d3 d4 d5 d6 d7 => par3 (d0 := d0) (d1 := d1) (d2 := d2) (d3 := d3) (d4 := d4) (d5 := d5) (d6 := d6) (d7 := d7) i8 i9 i10
  have s6 : stmt6 (enB P a b c nd k (.B p q ks) [] .no .no .no) = .nx (enB P a b c nd k (.B p q ks) (t2 (nd && B1) (.tup [.str "B.p needed", .lst [.str "p"]])) .no .no .no) := by
    unfold stmt6
    cases nd with
    | false => (exists trivial)
    | true => cases B1 with
      | false => (exists t1, ie)
      | true => (exists t1, ie, q1, q2, q3)
  unfold stmt6 at s6
  unfold d__law_against b__law_against
  (exists s6, hg, k1, t1, t2', fd, po _ _ _ _ _ _ _ _)
end
end K46L
namespace K46L
open PySem PySem.Spec PyProof.Rows L2 Dv K46
set_option autoImplicit false
noncomputable section

structure Tc where
  n : Int
  m : Bool
  ns : List Str
def Tc.d (t : Tc) : D := .ins 9 [("number", .int t.n), ("made", .bl t.m), ("gone", .bl false), ("names", Ss t.ns)]
theorem i_Touch (n : Int) (m : Bool) (ns : List Str) : d_Touch___init__ [.par (.ins 9 []), .val (.int n), .val (.bl m), .val (.bl false), .val (Ss ns)] = .ok .non (some (Tc.d ⟨n, m, ns⟩)) := by
  unfold d_Touch___init__ b_Touch___init__
  apply r_runN
  (exists trivial)
theorem agn_allA (P : Pic) (nd : Bool) (k : Int) (x : Option Int) (y : Option Str) (z : Option Int) (ks : List Int) : agn P nd k ["a", "t", "r", "l"] (.A x y z ks) = t1 (nd && Dv.isNon (oi x)) "A.a needed" ++ t1 (dbl P k (.A x y z ks)) "A key a, t" := by
  have e1 : decide (("a" : Str) ∈ (["a", "t", "r", "l"] : List Str)) = true := by decide
  show t1 (nd && (decide (("a" : Str) ∈ (["a", "t", "r", "l"] : List Str)) && Dv.isNon (oi x))) "A.a needed" ++ t1 ((decide (("a" : Str) ∈ (["a", "t", "r", "l"] : List Str)) || decide (("t" : Str) ∈ (["a", "t", "r", "l"] : List Str))) && dbl P k (.A x y z ks)) "A key a, t" = _
  rw [e1]
  simp
theorem agn_allB (P : Pic) (nd : Bool) (k : Int) (p q : Option Int) (ks : List Int) : agn P nd k ["p", "q", "m"] (.B p q ks) = t1 (nd && Dv.isNon (if there P ["A"] p then oi p else .non)) "B.p needed" ++ t1 (dbl P k (.B p q ks)) "B key q" := by
  have e1 : decide (("p" : Str) ∈ (["p", "q", "m"] : List Str)) = true := by decide
  have e2 : decide (("q" : Str) ∈ (["p", "q", "m"] : List Str)) = true := by decide
  show t1 (nd && (decide (("p" : Str) ∈ (["p", "q", "m"] : List Str)) && Dv.isNon (if there P ["A"] p then oi p else .non))) "B.p needed" ++ t1 (decide (("q" : Str) ∈ (["p", "q", "m"] : List Str)) && dbl P k (.B p q ks)) "B key q" = _
  rw [e1, e2]
  simp
def two (b1 b2 : Bool) (s1 s2 : Str) : Option Str := if b1 = true then some s1 else if b2 = true then some s2 else none
/-- what stands first against a touched object -/
def fone (P : Pic) (nd : Bool) (t : Tc) : Option Str := match look P t.n with
  | none => none
  | some (.A x y z ks) => two ((nd && Dv.isNon (oi x)) && (t.m || decide (("a" : Str) ∈ t.ns))) (dbl P t.n (.A x y z ks) && (t.m || (decide (("a" : Str) ∈ t.ns) || decide (("t" : Str) ∈ t.ns)))) "A.a needed" "A key a, t"
  | some (.B p q ks) => two ((nd && Dv.isNon (if there P ["A"] p then oi p else .non)) && (t.m || decide (("p" : Str) ∈ t.ns))) (dbl P t.n (.B p q ks) && (t.m || decide (("q" : Str) ∈ t.ns))) "B.p needed" "B key q"
def fall (P : Pic) (nd : Bool) : List Tc → D
  | [] => .non
  | t :: r => match fone P nd t with
    | some s => .tup [.int t.n, .str s]
    | none => fall P nd r
def bodyF : EvS := (xIfS (xTest (xOp (oDIn false) (xFld fc_number "number" (xVal 3)) (xVal 1)))
 (xSeq (xSet 4 (xIf (xTest (xFld fc_made "made" (xVal 3))) (xMeth "names" 1 [(7, 28, d_Kind_names), (8, 31, d_Schema_names)] (xMeth "kind_of" 2 [(8, 30, d_Schema_kind_of)] (xVal 0) (gVal (xFld fc_kind "kind" (xOp oDGet (xVal 1) (xFld fc_number "number" (xVal 3)))) Dv.gNil)) Dv.gNil) (xFld fc_names "names" (xVal 3))))
 (xSeq (xSet 5 (xCall 4 d_against_fields (gVal (xVal 0) (gVal (xVal 1) (gVal (xFld fc_number "number" (xVal 3)) (gVal (xVal 4) Dv.gNil))))))
 (xIfS (xTest (xOp oGt (xCB fLen (xCons (xVal 5) xNil)) (xC (.int 0))))
 (xRet (xTup (xCons (xFld fc_number "number" (xVal 3)) (xCons (xOp oIx (xVal 5) (xC (.int 0))) xNil))))
 xNx)))
 xNx)
abbrev enF (S0 : D) (P : Pic) (tl : D) (t : Tc) (s4 s5 : Sl) : Dv.Env := [.val S0, .val (picD P), .val tl, .val t.d, s4, s5]
def stepR (o : Option Str) (n : Int) (e : Dv.Env) : Sr := match o with
  | some s => .rt (.tup [.int n, .str s]) e
  | none => .nx e
theorem two_t1 (b1 b2 : Bool) (s1 s2 : Str) : (t1 b1 s1 ++ t1 b2 s2 = [] ∧ two b1 b2 s1 s2 = none) ∨ ∃ s r, t1 b1 s1 ++ t1 b2 s2 = .str s :: r ∧ r.length ≤ 1 ∧ two b1 b2 s1 s2 = some s := by
  cases b1 with
  | true => exact .inr ⟨s1, t1 b2 s2, rfl, t1_len _ _, rfl⟩
  | false => cases b2 with
    | true => exact .inr ⟨s2, [], rfl, by simp, rfl⟩
    | false => exact .inl ⟨rfl, rfl⟩
theorem len0 : fLen [.lst []] = some (.int 0) := rfl
theorem lenSS {x : D} {r : List D} : fLen [.lst (x :: r)] = some (.int (r.length + 1 : Nat)) := rfl
theorem gt0 {n : Nat} : oGt (.int (n + 1 : Nat)) (.int 0) = some (.bl true) := by
  show some (D.bl (decide ((0 : Int) < ((n + 1 : Nat) : Int)))) = _
  rw [decide_eq_true (by omega)]
theorem gt00 : oGt (.int 0) (.int 0) = some (.bl false) := rfl
theorem fnone {P : Pic} {nd : Bool} {t : Tc} (h : look P t.n = none) : fone P nd t = none := by unfold fone; rw [h]
abbrev nmE : Ev := xIf (xTest (xFld fc_made "made" (xVal 3))) (xMeth "names" 1 [(7, 28, d_Kind_names), (8, 31, d_Schema_names)] (xMeth "kind_of" 2 [(8, 30, d_Schema_kind_of)] (xVal 0) (gVal (xFld fc_kind "kind" (xOp oDGet (xVal 1) (xFld fc_number "number" (xVal 3)))) Dv.gNil)) Dv.gNil) (xFld fc_names "names" (xVal 3))
/-- the step, once the object's fields are told -/
theorem tail_step (S0 : D) (P : Pic) (tl : D) (t : Tc) (nsD : List Str) (b1 b2 : Bool) (s1 s2 : Str) (o : Option Str) (ho : two b1 b2 s1 s2 = o) (L : List D) (hL : L = t1 b1 s1 ++ t1 b2 s2) (din : oDIn false (.int t.n) (picD P) = some (.bl true)) (s4 s5 : Sl) (h4 : isPar s4 = false) (h5 : isPar s5 = false)
    (nm : nmE (enF S0 P tl t s4 s5) = .ok (Ss nsD) (enF S0 P tl t s4 s5))
    (ag : d_against_fields [.val S0, .val (picD P), .val (.int t.n), .val (Ss nsD)] = .ok (.lst L) none) : ∃ s4' s5', isPar s4' = false ∧ isPar s5' = false ∧ bodyF (enF S0 P tl t s4 s5) = stepR o t.n (enF S0 P tl t s4' s5') := by
  refine ⟨.val (Ss nsD), .val (.lst L), rfl, rfl, ?_⟩
  unfold nmE at nm
  subst ho
  rcases two_t1 b1 b2 s1 s2 with ⟨e1, e2⟩ | ⟨s, r, e1, hr, e2⟩
  · rw [e1] at hL
    subst hL
    rw [e2]
    have l0 := len0
    have g0 := gt00
    show _ = Sr.nx _
    unfold bodyF
    (exists din, nm, ag, l0, g0)
  · rw [e1] at hL
    subst hL
    rw [e2]
    have l0 : fLen [.lst (.str s :: r)] = _ := lenSS
    have g0 := gt0 (n := r.length)
    have x0 : oIx (.lst (.str s :: r)) (.int 0) = some (.str s) := ix0
    show _ = Sr.rt _ _
    unfold bodyF
    (exists din, nm, ag, l0, g0, x0)
theorem stepF (P : Pic) (a b c : Str) (nd : Bool) (g : Good P) (hP : P.length ≤ 7) (tl : D) (t : Tc) (s4 s5 : Sl) (h4 : isPar s4 = false) (h5 : isPar s5 = false) : ∃ s4' s5', isPar s4' = false ∧ isPar s5' = false ∧ bodyF (enF (schD a b c nd) P tl t s4 s5) = stepR (fone P nd t) t.n (enF (schD a b c nd) P tl t s4' s5') := by
  have din := dinP P t.n
  have hg := dgetP P t.n
  cases hl : look P t.n with
  | none =>
    rw [hl] at din
    have din : oDIn false (.int t.n) (picD P) = some (.bl false) := din
    refine ⟨s4, s5, h4, h5, ?_⟩
    rw [fnone hl]
    show _ = Sr.nx _
    unfold bodyF
    (exists din)
  | some th =>
    rw [hl] at din hg
    have din : oDIn false (.int t.n) (picD P) = some (.bl true) := din
    have hg : oDGet (picD P) (.int t.n) = some th.d := hg
    obtain ⟨n, m, ns⟩ := t
    have hl : look P n = some th := hl
    have hg : oDGet (picD P) (.int n) = some th.d := hg
    cases th with
    | A x y z ks =>
      have hf : fone P nd ⟨n, m, ns⟩ = two ((nd && Dv.isNon (oi x)) && (m || decide (("a" : Str) ∈ ns))) (dbl P n (.A x y z ks) && (m || (decide (("a" : Str) ∈ ns) || decide (("t" : Str) ∈ ns)))) "A.a needed" "A key a, t" := by
        unfold fone
        rw [show look P (Tc.mk n m ns).n = some (Th.A x y z ks) from hl]
      have ag := agnA P a b c nd n x y z ks (g.2 _ (look_mem hl)).1 hl g hP
      have k1 := kof_A a b c nd
      have n1 := nms_A a nd
      rw [hf]
      cases m with
      | true =>
        have ag := ag ["a", "t", "r", "l"]
        rw [agn_allA] at ag
        refine tail_step (schD a b c nd) P tl ⟨n, true, ns⟩ ["a", "t", "r", "l"] (nd && Dv.isNon (oi x)) (dbl P n (.A x y z ks)) _ _ _ (by simp) _ rfl din s4 s5 h4 h5 ?_ ag
        unfold nmE
        (exists hg, k1, n1)
      | false =>
        have ag := ag ns
        refine tail_step (schD a b c nd) P tl ⟨n, false, ns⟩ ns (nd && (decide (("a" : Str) ∈ ns) && Dv.isNon (oi x))) ((decide (("a" : Str) ∈ ns) || decide (("t" : Str) ∈ ns)) && dbl P n (.A x y z ks)) _ _ _ ?_ _ rfl din s4 s5 h4 h5 ?_ ag
        · rw [Bool.and_comm (decide _) (Dv.isNon _), Bool.and_comm _ (dbl _ _ _), Bool.and_assoc]
          rfl
        · unfold nmE
          (exists trivial)
    | B p q ks =>
      have hf : fone P nd ⟨n, m, ns⟩ = two ((nd && Dv.isNon (if there P ["A"] p then oi p else .non)) && (m || decide (("p" : Str) ∈ ns))) (dbl P n (.B p q ks) && (m || decide (("q" : Str) ∈ ns))) "B.p needed" "B key q" := by
        unfold fone
        rw [show look P (Tc.mk n m ns).n = some (Th.B p q ks) from hl]
      have ag := agnB P a b c nd n p q ks (g.2 _ (look_mem hl)) hl g hP
      have k1 := kof_B a b c nd
      have n1 := nms_B b c nd
      rw [hf]
      cases m with
      | true =>
        have ag := ag ["p", "q", "m"]
        rw [agn_allB] at ag
        refine tail_step (schD a b c nd) P tl ⟨n, true, ns⟩ ["p", "q", "m"] (nd && Dv.isNon (if there P ["A"] p then oi p else .non)) (dbl P n (.B p q ks)) _ _ _ (by simp) _ rfl din s4 s5 h4 h5 ?_ ag
        unfold nmE
        (exists hg, k1, n1)
      | false =>
        have ag := ag ns
        refine tail_step (schD a b c nd) P tl ⟨n, false, ns⟩ ns (nd && (decide (("p" : Str) ∈ ns) && Dv.isNon (if there P ["A"] p then oi p else .non))) (decide (("q" : Str) ∈ ns) && dbl P n (.B p q ks)) _ _ _ ?_ _ rfl din s4 s5 h4 h5 ?_ ag
        · rw [Bool.and_comm (decide _) (Dv.isNon _), Bool.and_comm _ (dbl _ _ _), Bool.and_assoc]
          rfl
        · unfold nmE
          (exists trivial)
theorem loopF (P : Pic) (a b c : Str) (nd : Bool) (g : Good P) (hP : P.length ≤ 7) (tl : D) : ∀ (ts : List Tc) (s3 s4 s5 : Sl) (h3 : isPar s3 = false) (h4 : isPar s4 = false) (h5 : isPar s5 = false), ∃ s3' s4' s5', isPar s3' = false ∧ isPar s4' = false ∧ isPar s5' = false ∧ (forL (yName 3) bodyF (ts.map Tc.d) [.val (schD a b c nd), .val (picD P), .val tl, s3, s4, s5] = .rt (fall P nd ts) [.val (schD a b c nd), .val (picD P), .val tl, s3', s4', s5'] ∨ (fall P nd ts = .non ∧ forL (yName 3) bodyF (ts.map Tc.d) [.val (schD a b c nd), .val (picD P), .val tl, s3, s4, s5] = .nx [.val (schD a b c nd), .val (picD P), .val tl, s3', s4', s5']))
  | [], s3, s4, s5, h3, h4, h5 => ⟨s3, s4, s5, h3, h4, h5, .inr ⟨rfl, rfl⟩⟩
  | t :: ts, s3, s4, s5, h3, h4, h5 => by
    obtain ⟨s4', s5', i4, i5, e⟩ := stepF P a b c nd g hP tl t s4 s5 h4 h5
    have y3 : yName 3 t.d [.val (schD a b c nd), .val (picD P), .val tl, s3, s4, s5] = some (enF (schD a b c nd) P tl t s4 s5) := by
      refine z_name ?_
      rw [setE_at (s := s3) rfl h3]
      rfl
    rw [List.map_cons]
    cases ho : fone P nd t with
    | some s =>
      rw [ho] at e
      refine ⟨.val t.d, s4', s5', rfl, i4, i5, .inl ?_⟩
      have hf : fall P nd (t :: ts) = .tup [.int t.n, .str s] := by
        show (match fone P nd t with | some s => D.tup [.int t.n, .str s] | none => fall P nd ts) = _
        rw [ho]
      rw [hf]
      exact for_cons y3 e fk_rt
    | none =>
      rw [ho] at e
      obtain ⟨r3, r4, r5, j3, j4, j5, ih⟩ := loopF P a b c nd g hP tl ts (.val t.d) s4' s5' rfl i4 i5
      have hf : fall P nd (t :: ts) = fall P nd ts := by
        show (match fone P nd t with | some s => D.tup [.int t.n, .str s] | none => fall P nd ts) = _
        rw [ho]
      rw [hf]
      refine ⟨r3, r4, r5, j3, j4, j5, ?_⟩
      rcases ih with ih | ⟨i1, ih⟩
      · exact .inl (for_cons y3 e (fk_nx ih))
      · exact .inr ⟨i1, for_cons y3 e (fk_nx ih)⟩
theorem par6 {d0 d1 d2 : D} {r8 r9 r10 : Sl} (h8 : isPar r8 = false) (h9 : isPar r9 = false) (h10 : isPar r10 = false) : parOf [.val d0, .val d1, .val d2, r8, r9, r10] = none := by
  show parOf [r8, r9, r10] = none
  rw [parc h8, parc h9, parc h10]
  rfl
theorem firstP (P : Pic) (a b c : Str) (nd : Bool) (g : Good P) (hP : P.length ≤ 7) (ts : List Tc) : d_first_against [.val (schD a b c nd), .val (picD P), .val (.lst (ts.map Tc.d))] = .ok (fall P nd ts) none := by
  obtain ⟨r3, r4, r5, j3, j4, j5, ih⟩ := loopF P a b c nd g hP (.lst (ts.map Tc.d)) ts .no .no .no rfl rfl rfl
  have po := par6 (d0 := schD a b c nd) (d1 := picD P) (d2 := .lst (ts.map Tc.d)) j3 j4 j5
  unfold bodyF at ih
  unfold d_first_against b_first_against
  rcases ih with ih | ⟨i1, ih⟩
  · (exists ih, po)
  · rw [i1]
    (exists ih, po)
end
end K46L
namespace K46L
open PySem PySem.Spec PyProof.Rows L2 Dv K46
set_option autoImplicit false
noncomputable section

def inn (ns names : List Str) : Bool := names.any fun x => decide (x ∈ ns)
def bodyI : EvS := (xIfS (xOrT (xTest (xFld fc_made "made" (xVal 4))) (xTest (xOp oGt (xCB fLen (xCons (xLc (iSq (xVal 6)) (yName 7) (xTest (xOp (oOr (oIn false) (oInD false)) (xVal 7) (xFld fc_names "names" (xVal 4)))) (xVal 7) [7]) xNil)) (xC (.int 0)))))
 (xRet (xTup (xCons (xFld fc_number "number" (xVal 4)) (xCons (xVal 5) xNil))))
 xNx)
def bodyG : EvS := (xIfS (xTest (xOp (oDIn false) (xFld fc_number "number" (xVal 4)) (xVal 0)))
 (xFor (iSq (xCall 4 d__law_against (gVal (xVal 0) (gVal (xVal 1) (gVal (xVal 2) (gVal (xFld fc_number "number" (xVal 4)) Dv.gNil)))))) (yTup 2 (yCons (yName 5) (yCons (yName 6) yNil))) bodyI)
 xNx)
abbrev enG (P : Pic) (R : D) (nd : Bool) (tl : D) (t : Tc) (s5 s6 s7 : Sl) : Dv.Env := [.val (picD P), .val R, .val (.bl nd), .val tl, .val t.d, s5, s6, s7]
theorem cmpN (P : Pic) (R : D) (nd : Bool) (tl : D) (t : Tc) (s : Str) (names : List Str) (hl : names.length < 1000) (s7 : Sl) : ∃ env', cmpL (yName 7) (xTest (xOp (oOr (oIn false) (oInD false)) (xVal 7) (xFld fc_names "names" (xVal 4)))) (xVal 7) [7] (names.map .str) [] (enG P R nd tl t (.val (.str s)) (.val (Ss names)) s7) = .ok ((names.filter fun x => decide (x ∈ t.ns)).map .str) env' ∧ wipeE env' [7] = enG P R nd tl t (.val (.str s)) (.val (Ss names)) .no := by
  obtain ⟨env', h1, h2⟩ := cmp_ok (ta := xTest (xOp (oOr (oIn false) (oInD false)) (xVal 7) (xFld fc_names "names" (xVal 4)))) (a := xVal 7) (eg := yName 7) (vs := [7]) (enG P R nd tl t (.val (.str s)) (.val (Ss names)) .no) (fun d => match d with | .str k => decide (k ∈ t.ns) | _ => false) (fun d => d) (names.map .str) [] (enG P R nd tl t (.val (.str s)) (.val (Ss names)) s7) rfl (by simp; omega) (fun x hx => by
    obtain ⟨k, _, rfl⟩ := List.mem_map.mp hx
    have i := inS k t.ns
    exact ⟨enG P R nd tl t (.val (.str s)) (.val (Ss names)) (.val (.str k)), enG P R nd tl t (.val (.str s)) (.val (Ss names)) (.val (.str k)), by (exists trivial), by (exists i), rfl, fun _ => ⟨enG P R nd tl t (.val (.str s)) (.val (Ss names)) (.val (.str k)), by (exists trivial), rfl⟩⟩)
  refine ⟨env', ?_, h2⟩
  rw [h1, List.nil_append, List.filter_map, List.map_map]
  rfl
theorem lenG (names ns : List Str) : ∃ n : Nat, fLen [.lst ((names.filter fun x => decide (x ∈ ns)).map .str)] = some (.int n) ∧ oGt (.int n) (.int 0) = some (.bl (inn ns names)) := by
  refine ⟨(names.filter fun x => decide (x ∈ ns)).length, ?_, ?_⟩
  · show some (D.int ((List.map D.str _).length : Nat)) = _
    rw [List.length_map]
  · show some (D.bl (decide ((0 : Int) < (((names.filter fun x => decide (x ∈ ns)).length : Nat) : Int)))) = _
    have : decide ((0 : Int) < (((names.filter fun x => decide (x ∈ ns)).length : Nat) : Int)) = inn ns names := by
      rw [Bool.eq_iff_iff, decide_eq_true_iff]
      unfold inn
      rw [List.any_eq_true]
      constructor
      · intro h
        have h : 0 < (names.filter fun x => decide (x ∈ ns)).length := by omega
        obtain ⟨x, hx⟩ := List.exists_mem_of_length_pos h
        exact ⟨x, (List.mem_filter.mp hx).1, (List.mem_filter.mp hx).2⟩
      · rintro ⟨x, h1, h2⟩
        have := List.length_pos_of_mem (l := names.filter fun x => decide (x ∈ ns)) (a := x) (List.mem_filter.mpr ⟨h1, h2⟩)
        omega
    rw [this]
theorem stepI (P : Pic) (R : D) (nd : Bool) (tl : D) (t : Tc) (s : Str) (names : List Str) (hl : names.length < 1000) (s7 : Sl) (h7 : isPar s7 = false) : ∃ s7', isPar s7' = false ∧ bodyI (enG P R nd tl t (.val (.str s)) (.val (Ss names)) s7) = stepR (if (t.m || inn t.ns names) = true then some s else none) t.n (enG P R nd tl t (.val (.str s)) (.val (Ss names)) s7') := by
  obtain ⟨n, m, ns⟩ := t
  cases m with
  | true =>
    refine ⟨s7, h7, ?_⟩
    show _ = Sr.rt _ _
    unfold bodyI
    (exists trivial)
  | false =>
    obtain ⟨env', c1, c2⟩ := cmpN P R nd tl ⟨n, false, ns⟩ s names hl s7
    obtain ⟨k, l1, l2⟩ := lenG names ns
    refine ⟨.no, rfl, ?_⟩
    show _ = stepR (if (inn ns names) = true then some s else none) n _
    have c1 : cmpL (yName 7) (xTest (xOp (oOr (oIn false) (oInD false)) (xVal 7) (xFld fc_names "names" (xVal 4)))) (xVal 7) [7] (names.map .str) [] (enG P R nd tl ⟨n, false, ns⟩ (.val (.str s)) (.val (Ss names)) s7) = .ok ((names.filter fun x => decide (x ∈ ns)).map .str) env' := c1
    generalize inn ns names = B at l2 ⊢
    unfold bodyI
    cases B with
    | true =>
      show _ = Sr.rt _ _
      (exists c1, c2, l1, l2)
    | false =>
      show _ = Sr.nx _
      (exists c1, c2, l1, l2)
def tp (s : Str) (names : List Str) : D := .tup [.str s, Ss names]
theorem yI (P : Pic) (R : D) (nd : Bool) (tl : D) (t : Tc) (s : Str) (names : List Str) (s5 s6 s7 : Sl) (h5 : isPar s5 = false) (h6 : isPar s6 = false) : yTup 2 (yCons (yName 5) (yCons (yName 6) yNil)) (tp s names) (enG P R nd tl t s5 s6 s7) = some (enG P R nd tl t (.val (.str s)) (.val (Ss names)) s7) := by
  unfold tp
  refine z_tup2 (e1 := enG P R nd tl t (.val (.str s)) s6 s7) ?_ ?_
  · refine z_name ?_
    rw [setE_at (s := s5) rfl h5]
    rfl
  · refine z_name ?_
    rw [setE_at (s := s6) rfl h6]
    rfl
theorem loopI (P : Pic) (R : D) (nd : Bool) (tl : D) (t : Tc) (b1 b2 : Bool) (s1 s2 : Str) (n1 n2 : List Str) (l1 : n1.length < 1000) (l2 : n2.length < 1000) (s5 s6 s7 : Sl) (h5 : isPar s5 = false) (h6 : isPar s6 = false) (h7 : isPar s7 = false) : ∃ s5' s6' s7', isPar s5' = false ∧ isPar s6' = false ∧ isPar s7' = false ∧ forL (yTup 2 (yCons (yName 5) (yCons (yName 6) yNil))) bodyI (t2 b1 (tp s1 n1) ++ t2 b2 (tp s2 n2)) (enG P R nd tl t s5 s6 s7) = stepR (two (b1 && (t.m || inn t.ns n1)) (b2 && (t.m || inn t.ns n2)) s1 s2) t.n (enG P R nd tl t s5' s6' s7') := by
  have second : ∀ (s5 s6 s7 : Sl), isPar s5 = false → isPar s6 = false → isPar s7 = false → ∃ s5' s6' s7', isPar s5' = false ∧ isPar s6' = false ∧ isPar s7' = false ∧ forL (yTup 2 (yCons (yName 5) (yCons (yName 6) yNil))) bodyI (t2 b2 (tp s2 n2)) (enG P R nd tl t s5 s6 s7) = stepR (if (b2 && (t.m || inn t.ns n2)) = true then some s2 else none) t.n (enG P R nd tl t s5' s6' s7') := fun s5 s6 s7 h5 h6 h7 => by
    cases b2 with
    | false => exact ⟨s5, s6, s7, h5, h6, h7, rfl⟩
    | true =>
      obtain ⟨s7', i7, e⟩ := stepI P R nd tl t s2 n2 l2 s7 h7
      refine ⟨.val (.str s2), .val (Ss n2), s7', rfl, rfl, i7, ?_⟩
      rw [Bool.true_and]
      show forL _ _ [tp s2 n2] _ = _
      cases hb : (t.m || inn t.ns n2) with
      | true =>
        rw [hb] at e
        exact for_cons (yI P R nd tl t s2 n2 s5 s6 s7 h5 h6) e fk_rt
      | false =>
        rw [hb] at e
        exact for_cons (yI P R nd tl t s2 n2 s5 s6 s7 h5 h6) e (fk_nx for_nil)
  cases b1 with
  | false =>
    obtain ⟨s5', s6', s7', i5, i6, i7, e⟩ := second s5 s6 s7 h5 h6 h7
    refine ⟨s5', s6', s7', i5, i6, i7, ?_⟩
    rw [Bool.false_and]
    exact e
  | true =>
    obtain ⟨s7', i7, e⟩ := stepI P R nd tl t s1 n1 l1 s7 h7
    rw [Bool.true_and]
    show ∃ s5' s6' s7', _ ∧ _ ∧ _ ∧ forL _ _ (tp s1 n1 :: t2 b2 (tp s2 n2)) _ = _
    cases hb : (t.m || inn t.ns n1) with
    | true =>
      rw [hb] at e
      exact ⟨.val (.str s1), .val (Ss n1), s7', rfl, rfl, i7, for_cons (yI P R nd tl t s1 n1 s5 s6 s7 h5 h6) e fk_rt⟩
    | false =>
      rw [hb] at e
      obtain ⟨r5, r6, r7, j5, j6, j7, e'⟩ := second (.val (.str s1)) (.val (Ss n1)) s7' rfl rfl i7
      exact ⟨r5, r6, r7, j5, j6, j7, for_cons (yI P R nd tl t s1 n1 s5 s6 s7 h5 h6) e (fk_nx e')⟩
theorem inn1 (ns : List Str) (x : Str) : inn ns [x] = decide (x ∈ ns) := by simp [inn]
theorem inn2 (ns : List Str) (x y : Str) : inn ns [x, y] = (decide (x ∈ ns) || decide (y ∈ ns)) := by simp [inn]
theorem stepG (P : Pic) (a b c : Str) (na : a ≠ "list") (nb : b ≠ "list") (nc : c ≠ "list") (nd : Bool) (g : Good P) (tl : D) (t : Tc) (s5 s6 s7 : Sl) (h5 : isPar s5 = false) (h6 : isPar s6 = false) (h7 : isPar s7 = false) : ∃ s5' s6' s7', isPar s5' = false ∧ isPar s6' = false ∧ isPar s7' = false ∧ bodyG (enG P (rlsD a b c) nd tl t s5 s6 s7) = stepR (fone P nd t) t.n (enG P (rlsD a b c) nd tl t s5' s6' s7') := by
  have din := dinP P t.n
  cases hl : look P t.n with
  | none =>
    rw [hl] at din
    have din : oDIn false (.int t.n) (picD P) = some (.bl false) := din
    refine ⟨s5, s6, s7, h5, h6, h7, ?_⟩
    rw [fnone hl]
    show _ = Sr.nx _
    unfold bodyG
    (exists din)
  | some th =>
    rw [hl] at din
    have din : oDIn false (.int t.n) (picD P) = some (.bl true) := din
    cases th with
    | A x y z ks =>
      have hf : fone P nd t = two ((nd && Dv.isNon (oi x)) && (t.m || inn t.ns ["a"])) (dbl P t.n (.A x y z ks) && (t.m || inn t.ns ["a", "t"])) "A.a needed" "A key a, t" := by
        unfold fone
        rw [hl, inn1, inn2]
      have la := lawAg_A P a b c na nb nc nd t.n x y z ks hl g
      obtain ⟨r5, r6, r7, j5, j6, j7, e⟩ := loopI P (rlsD a b c) nd tl t (nd && Dv.isNon (oi x)) (dbl P t.n (.A x y z ks)) "A.a needed" "A key a, t" ["a"] ["a", "t"] (by simp) (by simp) s5 s6 s7 h5 h6 h7
      rw [← hf] at e
      have e : forL (yTup 2 (yCons (yName 5) (yCons (yName 6) yNil))) bodyI (lagn P nd t.n (.A x y z ks)) (enG P (rlsD a b c) nd tl t s5 s6 s7) = stepR (fone P nd t) t.n (enG P (rlsD a b c) nd tl t r5 r6 r7) := e
      refine ⟨r5, r6, r7, j5, j6, j7, ?_⟩
      rw [← e]
      unfold bodyG
      (exists din, la)
    | B p q ks =>
      have hf : fone P nd t = two ((nd && Dv.isNon (if there P ["A"] p then oi p else .non)) && (t.m || inn t.ns ["p"])) (dbl P t.n (.B p q ks) && (t.m || inn t.ns ["q"])) "B.p needed" "B key q" := by
        unfold fone
        rw [hl, inn1, inn1]
      have la := lawAg_B P a b c na nb nc nd t.n p q ks hl g
      obtain ⟨r5, r6, r7, j5, j6, j7, e⟩ := loopI P (rlsD a b c) nd tl t (nd && Dv.isNon (if there P ["A"] p then oi p else .non)) (dbl P t.n (.B p q ks)) "B.p needed" "B key q" ["p"] ["q"] (by simp) (by simp) s5 s6 s7 h5 h6 h7
      rw [← hf] at e
      have e : forL (yTup 2 (yCons (yName 5) (yCons (yName 6) yNil))) bodyI (lagn P nd t.n (.B p q ks)) (enG P (rlsD a b c) nd tl t s5 s6 s7) = stepR (fone P nd t) t.n (enG P (rlsD a b c) nd tl t r5 r6 r7) := e
      refine ⟨r5, r6, r7, j5, j6, j7, ?_⟩
      rw [← e]
      unfold bodyG
      (exists din, la)
theorem loopG (P : Pic) (a b c : Str) (na : a ≠ "list") (nb : b ≠ "list") (nc : c ≠ "list") (nd : Bool) (g : Good P) (tl : D) : ∀ (ts : List Tc) (s4 s5 s6 s7 : Sl) (h4 : isPar s4 = false) (h5 : isPar s5 = false) (h6 : isPar s6 = false) (h7 : isPar s7 = false), ∃ s4' s5' s6' s7', isPar s4' = false ∧ isPar s5' = false ∧ isPar s6' = false ∧ isPar s7' = false ∧ (forL (yName 4) bodyG (ts.map Tc.d) [.val (picD P), .val (rlsD a b c), .val (.bl nd), .val tl, s4, s5, s6, s7] = .rt (fall P nd ts) [.val (picD P), .val (rlsD a b c), .val (.bl nd), .val tl, s4', s5', s6', s7'] ∨ (fall P nd ts = .non ∧ forL (yName 4) bodyG (ts.map Tc.d) [.val (picD P), .val (rlsD a b c), .val (.bl nd), .val tl, s4, s5, s6, s7] = .nx [.val (picD P), .val (rlsD a b c), .val (.bl nd), .val tl, s4', s5', s6', s7']))
  | [], s4, s5, s6, s7, h4, h5, h6, h7 => ⟨s4, s5, s6, s7, h4, h5, h6, h7, .inr ⟨rfl, rfl⟩⟩
  | t :: ts, s4, s5, s6, s7, h4, h5, h6, h7 => by
    obtain ⟨s5', s6', s7', i5, i6, i7, e⟩ := stepG P a b c na nb nc nd g tl t s5 s6 s7 h5 h6 h7
    have y3 : yName 4 t.d [.val (picD P), .val (rlsD a b c), .val (.bl nd), .val tl, s4, s5, s6, s7] = some (enG P (rlsD a b c) nd tl t s5 s6 s7) := by
      refine z_name ?_
      rw [setE_at (s := s4) rfl h4]
      rfl
    rw [List.map_cons]
    cases ho : fone P nd t with
    | some s =>
      rw [ho] at e
      refine ⟨.val t.d, s5', s6', s7', rfl, i5, i6, i7, .inl ?_⟩
      have hf : fall P nd (t :: ts) = .tup [.int t.n, .str s] := by
        show (match fone P nd t with | some s => D.tup [.int t.n, .str s] | none => fall P nd ts) = _
        rw [ho]
      rw [hf]
      exact for_cons y3 e fk_rt
    | none =>
      rw [ho] at e
      obtain ⟨r3, r4, r5, r6, j3, j4, j5, j6, ih⟩ := loopG P a b c na nb nc nd g tl ts (.val t.d) s5' s6' s7' rfl i5 i6 i7
      have hf : fall P nd (t :: ts) = fall P nd ts := by
        show (match fone P nd t with | some s => D.tup [.int t.n, .str s] | none => fall P nd ts) = _
        rw [ho]
      rw [hf]
      refine ⟨r3, r4, r5, r6, j3, j4, j5, j6, ?_⟩
      rcases ih with ih | ⟨i1, ih⟩
      · exact .inl (for_cons y3 e (fk_nx ih))
      · exact .inr ⟨i1, for_cons y3 e (fk_nx ih)⟩
theorem par8 {d0 d1 d2 d3 : D} {r7 r8 r9 r10 : Sl} (h7 : isPar r7 = false) (h8 : isPar r8 = false) (h9 : isPar r9 = false) (h10 : isPar r10 = false) : parOf [.val d0, .val d1, .val d2, .val d3, r7, r8, r9, r10] = none := by
  show parOf [r7, r8, r9, r10] = none
  rw [parc h7, parc h8, parc h9, parc h10]
  rfl
theorem firstL (P : Pic) (a b c : Str) (na : a ≠ "list") (nb : b ≠ "list") (nc : c ≠ "list") (nd : Bool) (g : Good P) (ts : List Tc) : d__law_first [.val (picD P), .val (rlsD a b c), .val (.bl nd), .val (.lst (ts.map Tc.d))] = .ok (fall P nd ts) none := by
  obtain ⟨r3, r4, r5, r6, j3, j4, j5, j6, ih⟩ := loopG P a b c na nb nc nd g (.lst (ts.map Tc.d)) ts .no .no .no .no rfl rfl rfl rfl
  have po := par8 (d0 := picD P) (d1 := rlsD a b c) (d2 := .bl nd) (d3 := .lst (ts.map Tc.d)) j3 j4 j5 j6
  unfold bodyG bodyI at ih
  unfold d__law_first b__law_first
  rcases ih with ih | ⟨i1, ih⟩
  · (exists ih, po)
  · rw [i1]
    (exists ih, po)
end
end K46L
namespace K46L
open PySem PySem.Spec PyProof.Rows L2 Dv K46
set_option autoImplicit false
noncomputable section

theorem isI (x : Option Int) : fIs isOO isOB isBT [oi x, .ty "str"] = some (.bl false) := by cases x <;> rfl
theorem isIl (x : Option Int) : fIs isOO isOB isBT [oi x, .ty "list"] = some (.bl false) := by cases x <;> rfl
theorem isT0 : fIs isOO isOB isBT [.non, .ty "str"] = some (.bl false) := rfl
theorem isT0l : fIs isOO isOB isBT [.non, .ty "list"] = some (.bl false) := rfl
theorem isT1 {s : Str} : fIs isOO isOB isBT [.str s, .ty "str"] = some (.bl true) := rfl
theorem isL1 {l : List Int} : fIs isOO isOB isBT [Ls l, .ty "str"] = some (.bl false) := rfl
theorem isL2 {l : List Int} : fIs isOO isOB isBT [Ls l, .ty "list"] = some (.bl true) := rfl
theorem lnT {s : Str} (h : s.length ≤ 1000) : fLen [.str s] = some (.int (s.length : Nat)) := if_pos (by omega)
theorem lnL {l : List Int} : fLen [Ls l] = some (.int (l.length : Nat)) := by
  show some (D.int ((List.map D.int l).length : Nat)) = _
  rw [List.length_map]
/-! the program's -/
theorem cs_I (P : Pic) (n : Str) (nd : Bool) (x : Option Int) : d_content_size [.val (srcD P), .val (fldD n shI nd), .val (oi x)] = .ok (.int 1) none := by
  have h1 := isl_I
  have h2 := isI x
  unfold d_content_size b_content_size
  (exists h1, h2)
theorem cs_R (P : Pic) (n : Str) (nd : Bool) (ks : List Str) (r : Str) (x : Option Int) : d_content_size [.val (srcD P), .val (fldD n (shR ks r) nd), .val (oi x)] = .ok (.int 1) none := by
  have h1 := isl_R ks r
  have h2 := isI x
  unfold d_content_size b_content_size
  (exists h1, h2)
theorem cs_T (P : Pic) (n : Str) (nd : Bool) (y : Option Str) (hy : slen y ≤ 1000) : d_content_size [.val (srcD P), .val (fldD n shT nd), .val (os y)] = .ok (.int (1 + (slen y : Nat))) none := by
  have h1 := isl_T
  unfold d_content_size b_content_size
  cases y with
  | none =>
    have h2 := isT0
    show _ = FRes.ok (.int 1) none
    (exists h1, h2)
  | some s =>
    have h2 := isT1 (s := s)
    have h3 := lnT (s := s) hy
    have h4 := addI (a := 1) (b := (s.length : Nat))
    show _ = FRes.ok (.int (1 + (s.length : Nat))) none
    (exists h1, h2, h3, h4)
theorem cs_L (P : Pic) (n : Str) (nd : Bool) (ks : List Str) (l : List Int) (hl : l.length ≤ 4) : d_content_size [.val (srcD P), .val (fldD n (shL ks) nd), .val (Ls l)] = .ok (.int (1 + ((l.filter fun k => there P ks (some k)).length : Nat))) none := by
  have h1 := isl_L ks
  have h2 := tc_L P n nd ks l hl
  have h3 := lnL (l := l.filter fun k => there P ks (some k))
  have h4 := addI (a := 1) (b := ((l.filter fun k => there P ks (some k)).length : Nat))
  unfold d_content_size b_content_size
  (exists h1, h2, h3, h4)
def thSize (P : Pic) : Th → Int
  | .A x y z ks => 1 + (1 + ((1 + (slen y : Nat)) + (1 + ((1 + ((ks.filter fun k => there P ["A"] (some k)).length : Nat)) + 0))))
  | .B p q ks => 1 + (1 + (1 + ((1 + ((ks.filter fun k => there P ["A", "B"] (some k)).length : Nat)) + 0)))
theorem sum4 {a b c d : Int} : fSum [.lst [.int a, .int b, .int c, .int d]] = some (.int (a + (b + (c + (d + 0))))) := rfl
theorem sum3 {b c d : Int} : fSum [.lst [.int b, .int c, .int d]] = some (.int (b + (c + (d + 0)))) := rfl
theorem kofA' (a b c : Str) (nd : Bool) : d_Schema_kind_of [.val (schD a b c nd), .val (.str "A")] = .ok (kA a nd) none := kof_A a b c nd
theorem ts_A (P : Pic) (a b c : Str) (nd : Bool) (x : Option Int) (y : Option Str) (z : Option Int) (ks : List Int) (o : okT (.A x y z ks)) : d_thing_size [.val (schD a b c nd), .val (srcD P), .val (Th.A x y z ks).d] = .ok (.int (thSize P (.A x y z ks))) none := by
  have k1 : d_Schema_kind_of [.val (schD a b c nd), .val (.str (Th.A x y z ks).kd)] = .ok (kA a nd) none := kof_A a b c nd
  have h1 := cs_I P "a" nd x
  have h2 := cs_T P "t" false y o.2.2
  have h3 := cs_R P "r" false ["A", "B"] a z
  have h4 := cs_L P "l" false ["A"] ks o.1
  have sm := sum4 (a := 1) (b := 1 + (slen y : Nat)) (c := 1) (d := 1 + ((ks.filter fun k => there P ["A"] (some k)).length : Nat))
  have ad := addI (a := 1) (b := 1 + ((1 + (slen y : Nat)) + (1 + ((1 + ((ks.filter fun k => there P ["A"] (some k)).length : Nat)) + 0))))
  unfold d_thing_size b_thing_size
  show _ = FRes.ok (.int (1 + (1 + ((1 + (slen y : Nat)) + (1 + ((1 + ((ks.filter fun k => there P ["A"] (some k)).length : Nat)) + 0)))))) none
  (exists k1, h1, h2, h3, h4, sm, ad)
theorem ts_B (P : Pic) (a b c : Str) (nd : Bool) (p q : Option Int) (ks : List Int) (o : okT (.B p q ks)) : d_thing_size [.val (schD a b c nd), .val (srcD P), .val (Th.B p q ks).d] = .ok (.int (thSize P (.B p q ks))) none := by
  have k1 : d_Schema_kind_of [.val (schD a b c nd), .val (.str (Th.B p q ks).kd)] = .ok (kB b c nd) none := kof_B a b c nd
  have h1 := cs_R P "p" nd ["A"] b p
  have h2 := cs_R P "q" false ["B"] c q
  have h4 := cs_L P "m" false ["A", "B"] ks o
  have sm := sum3 (b := 1) (c := 1) (d := 1 + ((ks.filter fun k => there P ["A", "B"] (some k)).length : Nat))
  have ad := addI (a := 1) (b := 1 + (1 + ((1 + ((ks.filter fun k => there P ["A", "B"] (some k)).length : Nat)) + 0)))
  unfold d_thing_size b_thing_size
  show _ = FRes.ok (.int (1 + (1 + (1 + ((1 + ((ks.filter fun k => there P ["A", "B"] (some k)).length : Nat)) + 0))))) none
  (exists k1, h1, h2, h4, sm, ad)
theorem ts_any (P : Pic) (a b c : Str) (nd : Bool) (t : Th) (o : okT t) : d_thing_size [.val (schD a b c nd), .val (srcD P), .val t.d] = .ok (.int (thSize P t)) none := by
  cases t with
  | A x y z ks => exact ts_A P a b c nd x y z ks o
  | B p q ks => exact ts_B P a b c nd p q ks o
def picSz (P : Pic) : Pic → Int
  | [] => 0
  | p :: Q => thSize P p.2 + picSz P Q
theorem cmp_mem {ta : EvT} {a : Ev} {eg : Eg} {vs : List Nat} {α : Type} (W : Dv.Env) (f : α → D) (h : α → D) : ∀ (L : List α) (acc : List D) (env : Dv.Env), wipeE env vs = W → acc.length + L.length < 1000000 →
    (∀ x ∈ L, ∃ e1 e2 e3, eg (f x) W = some e1 ∧ ta e1 = .ok true e2 ∧ a e2 = .ok (h x) e3 ∧ wipeE e3 vs = W) → ∃ env', cmpL eg ta a vs (L.map f) acc env = .ok (acc ++ L.map h) env' ∧ wipeE env' vs = W
  | [], acc, env, hw, _, _ => ⟨env, by simp [cmpL], hw⟩
  | x :: L, acc, env, hw, hl, hx => by
    obtain ⟨e1, e2, e3, h1, h2, h3, h4⟩ := hx x (List.mem_cons_self ..)
    rw [List.length_cons] at hl
    obtain ⟨env', k1, k2⟩ := cmp_mem W f h L (acc ++ [h x]) e3 h4 (by simp; omega) fun y hy => hx y (List.mem_cons_of_mem _ hy)
    refine ⟨env', ?_, k2⟩
    rw [List.map_cons]
    have e := cmp_cons (acc := acc) (a := a) (xs := L.map f) (r := .ok (acc ++ (x :: L).map h) env') hw h1 h2 (sel_t rfl (cmp_el h3 (by omega) rfl (by rw [k1]; simp)))
    exact e
theorem sz_sum (P : Pic) : ∀ Q : Pic, intL (Q.map fun p => .int (thSize P p.2)) = some (Q.map fun p => thSize P p.2) ∧ (Q.map fun p => thSize P p.2).sum = picSz P Q
  | [] => ⟨rfl, rfl⟩
  | p :: Q => by
    obtain ⟨h1, h2⟩ := sz_sum P Q
    refine ⟨?_, ?_⟩
    · show (intL (Q.map fun p => .int (thSize P p.2))).map (thSize P p.2 :: ·) = _
      rw [h1]
      rfl
    · rw [List.map_cons, List.sum_cons, h2]
      rfl
theorem pSizeP (P : Pic) (a b c : Str) (nd : Bool) (g : Good P) (hP : P.length ≤ 7) : d_picture_size [.val (schD a b c nd), .val (picD P)] = .ok (.int (picSz P P)) none := by
  have s1 := i_Src (picD P)
  obtain ⟨env', c1, c2⟩ := cmp_mem (ta := xYes) (a := xCall 3 d_thing_size (gVal (xVal 0) (gVal (xVal 2) (gVal (xVal 3) Dv.gNil)))) (eg := yName 3) (vs := [3]) [.val (schD a b c nd), .val (picD P), .val (srcD P), .no] (fun p : Int × Th => p.2.d) (fun p => .int (thSize P p.2)) P [] [.val (schD a b c nd), .val (picD P), .val (srcD P), .no] rfl (by simp; omega) (fun p hp => by
    have t := ts_any P a b c nd p.2 (g.2 p hp)
    exact ⟨[.val (schD a b c nd), .val (picD P), .val (srcD P), .val p.2.d], [.val (schD a b c nd), .val (picD P), .val (srcD P), .val p.2.d], [.val (schD a b c nd), .val (picD P), .val (srcD P), .val p.2.d], by (exists trivial), by (exists trivial), by (exists t), rfl⟩)
  have vs : Wk.vals.ds (picK P) = P.map fun p => p.2.d := by
    show ((P.map fun p => ((.inl p.1 : L2.Key), p.2.d)).map fun kv => kv.2) = _
    rw [List.map_map]
    rfl
  rw [← vs, List.nil_append] at c1
  have sm : fSum [.lst (P.map fun p => .int (thSize P p.2))] = some (.int (picSz P P)) := by
    obtain ⟨h1, h2⟩ := sz_sum P P
    show (intL (P.map fun p => .int (thSize P p.2))).map (fun ns => D.int ns.sum) = _
    rw [h1]
    show some (D.int (List.sum _)) = _
    rw [h2]
  have ps : pSlot 1 [.val (schD a b c nd), .val (picD P), .val (srcD P), .no] = some (.dct (picK P), [.val (schD a b c nd), .val (picD P), .val (srcD P), .no]) := rfl
  unfold d_picture_size b_picture_size
  (exists s1, ps, c1, sm)
end
end K46L
namespace K46L
open PySem PySem.Spec PyProof.Rows L2 Dv K46
set_option autoImplicit false
noncomputable section

theorem nmL_A : d__law_names [.val (.str "A")] = .ok (Ss ["a", "t", "r", "l"]) none := by
  unfold d__law_names b__law_names
  (exists trivial)
theorem nmL_B : d__law_names [.val (.str "B")] = .ok (Ss ["p", "q", "m"]) none := by
  unfold d__law_names b__law_names
  (exists trivial)
def bodyZ : EvS := (xSeq (xSet 2 (xOp oAdd (xVal 2) (xC (.int 1))))
 (xFor (iSq (xCall 1 d__law_names (gVal (xFld fc_kind "kind" (xOp oDGet (xVal 0) (xVal 3))) Dv.gNil))) (yName 4)
 (xSeq (xSet 5 (xCall 4 d__law_told (gVal (xVal 0) (gVal (xVal 1) (gVal (xOp oDGet (xVal 0) (xVal 3)) (gVal (xVal 4) Dv.gNil))))))
 (xSeq (xSet 2 (xOp oAdd (xVal 2) (xC (.int 1))))
 (xIfS (xOrT (xTest (xCB (fIs isOO isOB isBT) (xCons (xVal 5) (xCons (xC (.ty "str")) xNil)))) (xTest (xCB (fIs isOO isOB isBT) (xCons (xVal 5) (xCons (xC (.ty "list")) xNil)))))
 (xSet 2 (xOp oAdd (xVal 2) (xCB fLen (xCons (xVal 5) xNil))))
 xNx)))))
abbrev enZ (P : Pic) (R : D) (tot : Int) (s3 s4 s5 : Sl) : Dv.Env := [.val (picD P), .val R, .val (.int tot), s3, s4, s5]
theorem refO (P : Pic) (ks : List Str) (z : Option Int) : ∃ u, (if there P ks z = true then oi z else .non) = oi u := by
  cases there P ks z with
  | true => exact ⟨z, rfl⟩
  | false => exact ⟨none, rfl⟩
def bodyW : EvS := (xSeq (xSet 5 (xCall 4 d__law_told (gVal (xVal 0) (gVal (xVal 1) (gVal (xOp oDGet (xVal 0) (xVal 3)) (gVal (xVal 4) Dv.gNil))))))
 (xSeq (xSet 2 (xOp oAdd (xVal 2) (xC (.int 1))))
 (xIfS (xOrT (xTest (xCB (fIs isOO isOB isBT) (xCons (xVal 5) (xCons (xC (.ty "str")) xNil)))) (xTest (xCB (fIs isOO isOB isBT) (xCons (xVal 5) (xCons (xC (.ty "list")) xNil)))))
 (xSet 2 (xOp oAdd (xVal 2) (xCB fLen (xCons (xVal 5) xNil))))
 xNx)))
theorem nameZ (P : Pic) (R : D) (tot j : Int) (td v : D) (n : Str) (s5 : Sl) (h5 : isPar s5 = false) (hg : oDGet (picD P) (.int j) = some td) (ht : d__law_told [.val (picD P), .val R, .val td, .val (.str n)] = .ok v none) (k : Int) (bS bL : Bool) (i1 : fIs isOO isOB isBT [v, .ty "str"] = some (.bl bS)) (i2 : fIs isOO isOB isBT [v, .ty "list"] = some (.bl bL)) (hk : (bS || bL) = true → fLen [v] = some (.int k)) (hz : (bS || bL) = false → k = 0) : bodyW (enZ P R tot (.val (.int j)) (.val (.str n)) s5) = .nx (enZ P R (tot + 1 + k) (.val (.int j)) (.val (.str n)) (.val v)) := by
  unfold bodyW
  cases bS with
  | true =>
    have l := hk rfl
    (exists hg, ht, i1, l, addI)
  | false => cases bL with
    | true =>
      have l := hk rfl
      (exists hg, ht, i1, i2, l, addI)
    | false =>
      rw [hz rfl, Int.add_zero]
      (exists hg, ht, i1, i2, addI)
theorem yZ (P : Pic) (R : D) (tot : Int) (s3 s4 s5 : Sl) (n : Str) (h4 : isPar s4 = false) : yName 4 (.str n) (enZ P R tot s3 s4 s5) = some (enZ P R tot s3 (.val (.str n)) s5) := by
  refine z_name ?_
  rw [setE_at (s := s4) rfl h4]
  rfl
theorem stepZ (P : Pic) (a b c : Str) (na : a ≠ "list") (nb : b ≠ "list") (nc : c ≠ "list") (j tot : Int) (t : Th) (ht : look P j = some t) (o : okT t) (s4 s5 : Sl) (h4 : isPar s4 = false) (h5 : isPar s5 = false) : ∃ s4' s5', isPar s4' = false ∧ isPar s5' = false ∧ bodyZ (enZ P (rlsD a b c) tot (.val (.int j)) s4 s5) = .nx (enZ P (rlsD a b c) (tot + thSize P t) (.val (.int j)) s4' s5') := by
  have hg := dgetP P j
  rw [ht] at hg
  have hg : oDGet (picD P) (.int j) = some t.d := hg
  cases t with
  | A x y z ks =>
    have n1 : d__law_names [.val (.str (Th.A x y z ks).kd)] = _ := nmL_A
    have t1 : d__law_told [.val (picD P), .val (rlsD a b c), .val (Th.A x y z ks).d, .val (.str "a")] = .ok (oi x) none := tl_A_a P a b c na nb nc x y z ks
    have t2 : d__law_told [.val (picD P), .val (rlsD a b c), .val (Th.A x y z ks).d, .val (.str "t")] = .ok (os y) none := tl_A_t P a b c na nb nc x y z ks
    have t3 : d__law_told [.val (picD P), .val (rlsD a b c), .val (Th.A x y z ks).d, .val (.str "r")] = .ok (if there P ["A", "B"] z = true then oi z else .non) none := tl_A_r P a b c na nb nc x y z ks
    have t4 : d__law_told [.val (picD P), .val (rlsD a b c), .val (Th.A x y z ks).d, .val (.str "l")] = .ok (Ls (ks.filter fun k => there P ["A"] (some k))) none := tl_A_l P a b c na nb nc x y z ks o.1
    obtain ⟨u, hu⟩ := refO P ["A", "B"] z
    rw [hu] at t3
    refine ⟨.val (.str "l"), .val (Ls (ks.filter fun k => there P ["A"] (some k))), rfl, rfl, ?_⟩
    have isY : ∃ bS : Bool, fIs isOO isOB isBT [os y, .ty "str"] = some (.bl bS) ∧ fIs isOO isOB isBT [os y, .ty "list"] = some (.bl false) ∧ ((bS || false) = true → fLen [os y] = some (.int (slen y : Nat))) ∧ ((bS || false) = false → ((slen y : Nat) : Int) = 0) := by
      cases y with
      | none => exact ⟨false, rfl, rfl, (fun h => by cases h), fun _ => rfl⟩
      | some s => exact ⟨true, rfl, rfl, (fun _ => lnT o.2.2), fun h => by cases h⟩
    obtain ⟨bS, y1, y2, y3, y4⟩ := isY
    have w1 := fun s5 h5 => nameZ P (rlsD a b c) (tot + 1) j _ _ "a" s5 h5 hg t1 0 false false (isI x) (isIl x) (fun h => by cases h) fun _ => rfl
    have w2 := fun s5 h5 => nameZ P (rlsD a b c) (tot + 1 + 1 + 0) j _ _ "t" s5 h5 hg t2 (slen y : Nat) bS false y1 y2 y3 y4
    have w3 := fun s5 h5 => nameZ P (rlsD a b c) (tot + 1 + 1 + 0 + 1 + (slen y : Nat)) j _ _ "r" s5 h5 hg t3 0 false false (isI u) (isIl u) (fun h => by cases h) fun _ => rfl
    have w4 := fun s5 h5 => nameZ P (rlsD a b c) (tot + 1 + 1 + 0 + 1 + (slen y : Nat) + 1 + 0) j _ _ "l" s5 h5 hg t4 ((ks.filter fun k => there P ["A"] (some k)).length : Nat) false true isL1 isL2 (fun _ => lnL) fun h => by cases h
    have lp : forL (yName 4) bodyW [.str "a", .str "t", .str "r", .str "l"] (enZ P (rlsD a b c) (tot + 1) (.val (.int j)) s4 s5) = .nx (enZ P (rlsD a b c) (tot + 1 + 1 + 0 + 1 + (slen y : Nat) + 1 + 0 + 1 + ((ks.filter fun k => there P ["A"] (some k)).length : Nat)) (.val (.int j)) (.val (.str "l")) (.val (Ls (ks.filter fun k => there P ["A"] (some k))))) :=
      for_cons (yZ _ _ _ _ _ _ _ h4) (w1 _ h5) (fk_nx (for_cons (yZ _ _ _ _ _ _ _ rfl) (w2 _ rfl) (fk_nx (for_cons (yZ _ _ _ _ _ _ _ rfl) (w3 _ rfl) (fk_nx (for_cons (yZ _ _ _ _ _ _ _ rfl) (w4 _ rfl) (fk_nx for_nil)))))))
    rw [show tot + thSize P (.A x y z ks) = tot + 1 + 1 + 0 + 1 + (slen y : Nat) + 1 + 0 + 1 + ((ks.filter fun k => there P ["A"] (some k)).length : Nat) by
      show tot + (1 + (1 + ((1 + (slen y : Nat)) + (1 + ((1 + ((ks.filter fun k => there P ["A"] (some k)).length : Nat)) + 0))))) = _
      omega]
    unfold bodyW at lp
    unfold bodyZ
    (exists n1, hg, lp, addI)
  | B p q ks =>
    have n1 : d__law_names [.val (.str (Th.B p q ks).kd)] = _ := nmL_B
    have t1 : d__law_told [.val (picD P), .val (rlsD a b c), .val (Th.B p q ks).d, .val (.str "p")] = .ok (if there P ["A"] p = true then oi p else .non) none := tl_B_p P a b c na nb nc p q ks
    have t2 : d__law_told [.val (picD P), .val (rlsD a b c), .val (Th.B p q ks).d, .val (.str "q")] = .ok (if there P ["B"] q = true then oi q else .non) none := tl_B_q P a b c na nb nc p q ks
    have t4 : d__law_told [.val (picD P), .val (rlsD a b c), .val (Th.B p q ks).d, .val (.str "m")] = .ok (Ls (ks.filter fun k => there P ["A", "B"] (some k))) none := tl_B_m P a b c na nb nc p q ks o
    obtain ⟨u, hu⟩ := refO P ["A"] p
    obtain ⟨w, hw⟩ := refO P ["B"] q
    rw [hu] at t1
    rw [hw] at t2
    refine ⟨.val (.str "m"), .val (Ls (ks.filter fun k => there P ["A", "B"] (some k))), rfl, rfl, ?_⟩
    have w1 := fun s5 h5 => nameZ P (rlsD a b c) (tot + 1) j _ _ "p" s5 h5 hg t1 0 false false (isI u) (isIl u) (fun h => by cases h) fun _ => rfl
    have w2 := fun s5 h5 => nameZ P (rlsD a b c) (tot + 1 + 1 + 0) j _ _ "q" s5 h5 hg t2 0 false false (isI w) (isIl w) (fun h => by cases h) fun _ => rfl
    have w4 := fun s5 h5 => nameZ P (rlsD a b c) (tot + 1 + 1 + 0 + 1 + 0) j _ _ "m" s5 h5 hg t4 ((ks.filter fun k => there P ["A", "B"] (some k)).length : Nat) false true isL1 isL2 (fun _ => lnL) fun h => by cases h
    have lp : forL (yName 4) bodyW [.str "p", .str "q", .str "m"] (enZ P (rlsD a b c) (tot + 1) (.val (.int j)) s4 s5) = .nx (enZ P (rlsD a b c) (tot + 1 + 1 + 0 + 1 + 0 + 1 + ((ks.filter fun k => there P ["A", "B"] (some k)).length : Nat)) (.val (.int j)) (.val (.str "m")) (.val (Ls (ks.filter fun k => there P ["A", "B"] (some k))))) :=
      for_cons (yZ _ _ _ _ _ _ _ h4) (w1 _ h5) (fk_nx (for_cons (yZ _ _ _ _ _ _ _ rfl) (w2 _ rfl) (fk_nx (for_cons (yZ _ _ _ _ _ _ _ rfl) (w4 _ rfl) (fk_nx for_nil)))))
    rw [show tot + thSize P (.B p q ks) = tot + 1 + 1 + 0 + 1 + 0 + 1 + ((ks.filter fun k => there P ["A", "B"] (some k)).length : Nat) by
      show tot + (1 + (1 + (1 + ((1 + ((ks.filter fun k => there P ["A", "B"] (some k)).length : Nat)) + 0)))) = _
      omega]
    unfold bodyW at lp
    unfold bodyZ
    (exists n1, hg, lp, addI)
theorem loopZ (P : Pic) (a b c : Str) (na : a ≠ "list") (nb : b ≠ "list") (nc : c ≠ "list") (g : Good P) : ∀ (Q : Pic) (hQ : ∀ p ∈ Q, p ∈ P) (tot : Int) (s3 s4 s5 : Sl) (h3 : isPar s3 = false) (h4 : isPar s4 = false) (h5 : isPar s5 = false), ∃ s3' s4' s5', isPar s3' = false ∧ isPar s4' = false ∧ isPar s5' = false ∧ forL (yName 3) bodyZ (Q.map fun p => .int p.1) (enZ P (rlsD a b c) tot s3 s4 s5) = .nx (enZ P (rlsD a b c) (tot + picSz P Q) s3' s4' s5')
  | [], _, tot, s3, s4, s5, h3, h4, h5 => ⟨s3, s4, s5, h3, h4, h5, by rw [show tot + picSz P [] = tot from Int.add_zero tot]; rfl⟩
  | p :: Q, hQ, tot, s3, s4, s5, h3, h4, h5 => by
    have hp := hQ p (List.mem_cons_self ..)
    obtain ⟨r4, r5, i4, i5, e⟩ := stepZ P a b c na nb nc p.1 tot p.2 (look_of g.1 hp) (g.2 _ hp) s4 s5 h4 h5
    obtain ⟨q3, q4, q5, j3, j4, j5, ih⟩ := loopZ P a b c na nb nc g Q (fun p h => hQ p (List.mem_cons_of_mem _ h)) (tot + thSize P p.2) (.val (.int p.1)) r4 r5 rfl i4 i5
    refine ⟨q3, q4, q5, j3, j4, j5, ?_⟩
    rw [show tot + picSz P (p :: Q) = tot + thSize P p.2 + picSz P Q by
      show tot + (thSize P p.2 + picSz P Q) = _
      omega]
    have y3 : yName 3 (.int p.1) (enZ P (rlsD a b c) tot s3 s4 s5) = some (enZ P (rlsD a b c) tot (.val (.int p.1)) s4 s5) := by
      refine z_name ?_
      rw [setE_at (s := s3) rfl h3]
      rfl
    rw [List.map_cons]
    exact for_cons y3 e (fk_nx ih)
theorem lSizeP (P : Pic) (a b c : Str) (na : a ≠ "list") (nb : b ≠ "list") (nc : c ≠ "list") (g : Good P) : d__law_size [.val (picD P), .val (rlsD a b c)] = .ok (.int (picSz P P)) none := by
  obtain ⟨q3, q4, q5, j3, j4, j5, lp⟩ := loopZ P a b c na nb nc g P (fun p h => h) 0 .no .no .no rfl rfl rfl
  rw [← keysP, Int.zero_add] at lp
  have fd := r_forD (pt := pSlot 0) (w := .keys) (sb := bodyZ) (eg := yName 3) (env := enZ P (rlsD a b c) 0 .no .no .no) rfl lp
  have po : parOf (enZ P (rlsD a b c) (picSz P P) q3 q4 q5) = none := by
    show parOf [q3, q4, q5] = none
    cases q3 <;> cases q4 <;> cases q5 <;> first | rfl | (cases j3; done) | (cases j4; done) | (cases j5; done)
  unfold bodyZ at fd
  unfold d__law_size b__law_size
  (exists fd, po)
end
end K46L
namespace K46L
open PySem PySem.Spec PyProof.Rows L2 Dv K46
set_option autoImplicit false
noncomputable section

theorem ne_of {x : D} {a : PyData} (h1 : scalD x x = none) (h2 : dat x = some a) (h3 : SeqAt.shaped a = true) (h4 : PyData.eqv a a = true) : oNe x x = some (.bl false) := by
  unfold oNe eqD
  rw [h1]
  dsimp only
  rw [h2]
  dsimp only
  rw [if_pos ⟨h3, h3⟩, h4]
  rfl
theorem ne0 : oNe (.lst []) (.lst []) = some (.bl false) := ne_of (a := .list []) rfl rfl (by decide +kernel) (by decide +kernel)
theorem neA1 : oNe (.lst [.str "A.a needed"]) (.lst [.str "A.a needed"]) = some (.bl false) := ne_of (a := .list [.str "A.a needed"]) rfl rfl (by decide +kernel) (by decide +kernel)
theorem neA2 : oNe (.lst [.str "A key a, t"]) (.lst [.str "A key a, t"]) = some (.bl false) := ne_of (a := .list [.str "A key a, t"]) rfl rfl (by decide +kernel) (by decide +kernel)
theorem neA3 : oNe (.lst [.str "A.a needed", .str "A key a, t"]) (.lst [.str "A.a needed", .str "A key a, t"]) = some (.bl false) := ne_of (a := .list [.str "A.a needed", .str "A key a, t"]) rfl rfl (by decide +kernel) (by decide +kernel)
theorem neB1 : oNe (.lst [.str "B.p needed"]) (.lst [.str "B.p needed"]) = some (.bl false) := ne_of (a := .list [.str "B.p needed"]) rfl rfl (by decide +kernel) (by decide +kernel)
theorem neB2 : oNe (.lst [.str "B key q"]) (.lst [.str "B key q"]) = some (.bl false) := ne_of (a := .list [.str "B key q"]) rfl rfl (by decide +kernel) (by decide +kernel)
theorem neB3 : oNe (.lst [.str "B.p needed", .str "B key q"]) (.lst [.str "B.p needed", .str "B key q"]) = some (.bl false) := ne_of (a := .list [.str "B.p needed", .str "B key q"]) rfl rfl (by decide +kernel) (by decide +kernel)
theorem neA (b1 b2 : Bool) : oNe (.lst (t1 b1 "A.a needed" ++ t1 b2 "A key a, t")) (.lst (t1 b1 "A.a needed" ++ t1 b2 "A key a, t")) = some (.bl false) := by
  cases b1 with
  | true => cases b2 with
    | true => exact neA3
    | false => exact neA1
  | false => cases b2 with
    | true => exact neA2
    | false => exact ne0
theorem neB (b1 b2 : Bool) : oNe (.lst (t1 b1 "B.p needed" ++ t1 b2 "B key q")) (.lst (t1 b1 "B.p needed" ++ t1 b2 "B key q")) = some (.bl false) := by
  cases b1 with
  | true => cases b2 with
    | true => exact neB3
    | false => exact neB1
  | false => cases b2 with
    | true => exact neB2
    | false => exact ne0
def four (s : Str) : Prop := s = "A.a needed" ∨ s = "A key a, t" ∨ s = "B.p needed" ∨ s = "B key q"
theorem two_four {b1 b2 : Bool} {s1 s2 s : Str} (h1 : four s1) (h2 : four s2) (h : two b1 b2 s1 s2 = some s) : four s := by
  unfold two at h
  split at h
  · cases h; exact h1
  · split at h
    · cases h; exact h2
    · cases h
theorem fone_four {P : Pic} {nd : Bool} {t : Tc} {s : Str} (h : fone P nd t = some s) : four s := by
  unfold fone at h
  split at h
  · cases h
  · exact two_four (.inl rfl) (.inr (.inl rfl)) h
  · exact two_four (.inr (.inr (.inl rfl))) (.inr (.inr (.inr rfl))) h
theorem fall_val (P : Pic) (nd : Bool) : ∀ ts, fall P nd ts = .non ∨ ∃ n s, four s ∧ fall P nd ts = .tup [.int n, .str s]
  | [] => .inl rfl
  | t :: ts => by
    cases ho : fone P nd t with
    | some s =>
      have hf : fall P nd (t :: ts) = .tup [.int t.n, .str s] := by
        show (match fone P nd t with | some s => D.tup [.int t.n, .str s] | none => fall P nd ts) = _
        rw [ho]
      exact .inr ⟨t.n, s, fone_four ho, hf⟩
    | none =>
      have hf : fall P nd (t :: ts) = fall P nd ts := by
        show (match fone P nd t with | some s => D.tup [.int t.n, .str s] | none => fall P nd ts) = _
        rw [ho]
      rw [hf]
      exact fall_val P nd ts
theorem eqvT (n : Int) (s : Str) (h : PyData.eqv (.tuple [.int 0, .str s]) (.tuple [.int 0, .str s]) = true) : PyData.eqv (.tuple [.int n, .str s]) (.tuple [.int n, .str s]) = true := by
  have e : PyData.eqv (.int n) (.int n) = true := by simp [PyData.eqv]
  have e2 : PyData.eqv (.tuple [.int n, .str s]) (.tuple [.int n, .str s]) = (PyData.eqv (.int n) (.int n) && (PyData.eqv (.str s) (.str s) && true)) := rfl
  have e3 : PyData.eqv (.tuple [.int 0, .str s]) (.tuple [.int 0, .str s]) = (PyData.eqv (.int 0) (.int 0) && (PyData.eqv (.str s) (.str s) && true)) := rfl
  rw [e2, e]
  rw [e3] at h
  simp only [Bool.and_eq_true] at h ⊢
  exact ⟨trivial, h.2⟩
theorem neT (n : Int) (s : Str) (h : four s) : oNe (.tup [.int n, .str s]) (.tup [.int n, .str s]) = some (.bl false) := by
  rcases h with rfl | rfl | rfl | rfl
  · exact ne_of (a := .tuple [.int n, .str "A.a needed"]) rfl rfl (show SeqAt.shaped (.tuple [.int 0, .str "A.a needed"]) = true by decide +kernel) (eqvT n _ (by decide +kernel))
  · exact ne_of (a := .tuple [.int n, .str "A key a, t"]) rfl rfl (show SeqAt.shaped (.tuple [.int 0, .str "A key a, t"]) = true by decide +kernel) (eqvT n _ (by decide +kernel))
  · exact ne_of (a := .tuple [.int n, .str "B.p needed"]) rfl rfl (show SeqAt.shaped (.tuple [.int 0, .str "B.p needed"]) = true by decide +kernel) (eqvT n _ (by decide +kernel))
  · exact ne_of (a := .tuple [.int n, .str "B key q"]) rfl rfl (show SeqAt.shaped (.tuple [.int 0, .str "B key q"]) = true by decide +kernel) (eqvT n _ (by decide +kernel))
theorem neF (P : Pic) (nd : Bool) (ts : List Tc) : oNe (fall P nd ts) (fall P nd ts) = some (.bl false) := by
  rcases fall_val P nd ts with h | ⟨n, s, h4, h⟩
  · rw [h]; rfl
  · rw [h]; exact neT n s h4
/-! the first loop of the law -/
def bodyN : EvS := (xSeq (xBox 7 (xLc (iSq (xCall 4 d__law_against (gVal (xVal 5) (gVal (xVal 2) (gVal (xVal 3) (gVal (xVal 6) Dv.gNil)))))) (yName 11) xYes (xOp oIx (xVal 11) (xC (.int 0))) [11]))
 (xIfS (xTest (xOp oNe (xCall 3 d_constraints_against (gVal (xVal 4) (gVal (xVal 5) (gVal (xVal 6) Dv.gNil)))) (xVar 7)))
 (xRet (xC (.bl false)))
 xNx))
abbrev enN (sc : D) (l : List Int) (R : D) (nd : Bool) (S0 : D) (P : Pic) (s6 s7 s11 : Sl) : Dv.Env := [.val sc, .box (Ls l), .val R, .val (.bl nd), .val S0, .val (picD P), s6, s7, .no, .no, .no, s11, .no]
theorem ixT {x : D} {r : List D} : oIx (.tup (x :: r)) (.int 0) = some x := by
  show atI (x :: r) 0 = some x
  unfold atI ixN
  rw [if_pos (by decide), if_pos (by rw [List.length_cons]; omega)]
  rfl
theorem cmpH (sc : D) (l : List Int) (R : D) (nd : Bool) (S0 : D) (P : Pic) (s6 s7 : Sl) (b1 b2 : Bool) (s1 s2 : Str) (n1 n2 : List Str) : ∃ env', cmpL (yName 11) xYes (xOp oIx (xVal 11) (xC (.int 0))) [11] (t2 b1 (tp s1 n1) ++ t2 b2 (tp s2 n2)) [] (enN sc l R nd S0 P s6 s7 .no) = .ok (t1 b1 s1 ++ t1 b2 s2) env' ∧ wipeE env' [11] = enN sc l R nd S0 P s6 s7 .no := by
  have x1 : oIx (tp s1 n1) (.int 0) = some (.str s1) := ixT
  have x2 : oIx (tp s2 n2) (.int 0) = some (.str s2) := ixT
  cases b1 with
  | true => cases b2 with
    | true =>
      refine ⟨enN sc l R nd S0 P s6 s7 (.val (tp s2 n2)), ?_, rfl⟩
      show cmpL _ _ _ _ [tp s1 n1, tp s2 n2] [] _ = .ok [.str s1, .str s2] _
      (exists x1, x2)
    | false =>
      refine ⟨enN sc l R nd S0 P s6 s7 (.val (tp s1 n1)), ?_, rfl⟩
      show cmpL _ _ _ _ [tp s1 n1] [] _ = .ok [.str s1] _
      (exists x1)
  | false => cases b2 with
    | true =>
      refine ⟨enN sc l R nd S0 P s6 s7 (.val (tp s2 n2)), ?_, rfl⟩
      show cmpL _ _ _ _ [tp s2 n2] [] _ = .ok [.str s2] _
      (exists x2)
    | false => exact ⟨enN sc l R nd S0 P s6 s7 .no, rfl, rfl⟩
structure NV (s : Sl) : Prop where
  h : s = .no ∨ ∃ d, s = .val d
theorem nv_par {s : Sl} (h : NV s) : isPar s = false := by rcases h.h with rfl | ⟨d, rfl⟩ <;> rfl
theorem nv_box {s : Sl} (h : NV s) : boxable (some s) = true := by rcases h.h with rfl | ⟨d, rfl⟩ <;> rfl
theorem stepN (sc : D) (l : List Int) (P : Pic) (a b c : Str) (na : a ≠ "list") (nb : b ≠ "list") (nc : c ≠ "list") (nd : Bool) (g : Good P) (hP : P.length ≤ 7) (k : Int) (t : Th) (ht : look P k = some t) (s7 : Sl) (h7 : NV s7) : ∃ s7', NV s7' ∧ bodyN (enN sc l (rlsD a b c) nd (schD a b c nd) P (.val (.int k)) s7 .no) = .nx (enN sc l (rlsD a b c) nd (schD a b c nd) P (.val (.int k)) s7' .no) := by
  have bx := nv_box h7
  have ot := g.2 _ (look_mem ht)
  cases t with
  | A x y z ks =>
    have la : d__law_against [.val (picD P), .val (rlsD a b c), .val (.bl nd), .val (.int k)] = .ok (.lst (t2 (nd && Dv.isNon (oi x)) (tp "A.a needed" ["a"]) ++ t2 (dbl P k (.A x y z ks)) (tp "A key a, t" ["a", "t"]))) none := lawAg_A P a b c na nb nc nd k x y z ks ht g
    have ca := conAg_A P a b c nd k x y z ks ot.1 ht g hP
    rw [agn_allA] at ca
    obtain ⟨env', c1, c2⟩ := cmpH sc l (rlsD a b c) nd (schD a b c nd) P (.val (.int k)) s7 (nd && Dv.isNon (oi x)) (dbl P k (.A x y z ks)) "A.a needed" "A key a, t" ["a"] ["a", "t"]
    have ne := neA (nd && Dv.isNon (oi x)) (dbl P k (.A x y z ks))
    refine ⟨.val (.lst (t1 (nd && Dv.isNon (oi x)) "A.a needed" ++ t1 (dbl P k (.A x y z ks)) "A key a, t")), ⟨.inr ⟨_, rfl⟩⟩, ?_⟩
    generalize t1 (nd && Dv.isNon (oi x)) "A.a needed" ++ t1 (dbl P k (.A x y z ks)) "A key a, t" = L at c1 ca ne ⊢
    generalize t2 (nd && Dv.isNon (oi x)) (tp "A.a needed" ["a"]) ++ t2 (dbl P k (.A x y z ks)) (tp "A key a, t" ["a", "t"]) = M at c1 la
    unfold bodyN
    (exists la, ca, c1, c2, ne, bx)
  | B p q ks =>
    have la : d__law_against [.val (picD P), .val (rlsD a b c), .val (.bl nd), .val (.int k)] = .ok (.lst (t2 (nd && Dv.isNon (if there P ["A"] p = true then oi p else .non)) (tp "B.p needed" ["p"]) ++ t2 (dbl P k (.B p q ks)) (tp "B key q" ["q"]))) none := lawAg_B P a b c na nb nc nd k p q ks ht g
    have ca := conAg_B P a b c nd k p q ks ot ht g hP
    rw [agn_allB] at ca
    obtain ⟨env', c1, c2⟩ := cmpH sc l (rlsD a b c) nd (schD a b c nd) P (.val (.int k)) s7 (nd && Dv.isNon (if there P ["A"] p = true then oi p else .non)) (dbl P k (.B p q ks)) "B.p needed" "B key q" ["p"] ["q"]
    have ne := neB (nd && Dv.isNon (if there P ["A"] p = true then oi p else .non)) (dbl P k (.B p q ks))
    refine ⟨.val (.lst (t1 (nd && Dv.isNon (if there P ["A"] p = true then oi p else .non)) "B.p needed" ++ t1 (dbl P k (.B p q ks)) "B key q")), ⟨.inr ⟨_, rfl⟩⟩, ?_⟩
    generalize t1 (nd && Dv.isNon (if there P ["A"] p = true then oi p else .non)) "B.p needed" ++ t1 (dbl P k (.B p q ks)) "B key q" = L at c1 ca ne ⊢
    generalize t2 (nd && Dv.isNon (if there P ["A"] p = true then oi p else .non)) (tp "B.p needed" ["p"]) ++ t2 (dbl P k (.B p q ks)) (tp "B key q" ["q"]) = M at c1 la
    unfold bodyN
    (exists la, ca, c1, c2, ne, bx)
theorem loopN (sc : D) (l : List Int) (P : Pic) (a b c : Str) (na : a ≠ "list") (nb : b ≠ "list") (nc : c ≠ "list") (nd : Bool) (g : Good P) (hP : P.length ≤ 7) : ∀ (Q : List Int) (hQ : ∀ k ∈ Q, ∃ t, look P k = some t) (s6 s7 : Sl) (h6 : NV s6) (h7 : NV s7), ∃ s6' s7', NV s6' ∧ NV s7' ∧ forL (yName 6) bodyN (Q.map .int) (enN sc l (rlsD a b c) nd (schD a b c nd) P s6 s7 .no) = .nx (enN sc l (rlsD a b c) nd (schD a b c nd) P s6' s7' .no)
  | [], _, s6, s7, h6, h7 => ⟨s6, s7, h6, h7, rfl⟩
  | k :: Q, hQ, s6, s7, h6, h7 => by
    obtain ⟨t, ht⟩ := hQ k (List.mem_cons_self ..)
    obtain ⟨r7, i7, e⟩ := stepN sc l P a b c na nb nc nd g hP k t ht s7 h7
    obtain ⟨q6, q7, j6, j7, ih⟩ := loopN sc l P a b c na nb nc nd g hP Q (fun k h => hQ k (List.mem_cons_of_mem _ h)) (.val (.int k)) r7 ⟨.inr ⟨_, rfl⟩⟩ i7
    have y6 : yName 6 (.int k) (enN sc l (rlsD a b c) nd (schD a b c nd) P s6 s7 .no) = some (enN sc l (rlsD a b c) nd (schD a b c nd) P (.val (.int k)) s7 .no) := by
      refine z_name ?_
      rw [setE_at (s := s6) rfl (nv_par h6)]
      rfl
    exact ⟨q6, q7, j6, j7, for_cons y6 e (fk_nx ih)⟩
theorem keysL (P : Pic) : fListD [picD P] = some (Ls (P.map (·.1))) := by
  show some (D.lst ((P.map fun p => ((.inl p.1 : L2.Key), p.2.d)).map fun kv => kD kv.1)) = _
  rw [List.map_map]
  show _ = some (D.lst ((P.map (·.1)).map D.int))
  rw [List.map_map]
  rfl
theorem sortL (L : List Int) : fSorted [Ls L] = some (Ls (sortI L)) := by
  show (intL (L.map D.int)).map (fun ns => D.lst ((sortI ns).map D.int)) = _
  rw [intL_map]
  rfl
theorem keys_look (P : Pic) (g : Good P) : ∀ k ∈ sortI (P.map (·.1)), ∃ t, look P k = some t := fun k hk => by
  obtain ⟨p, hp, rfl⟩ := List.mem_map.mp ((sortI_perm _).mem_iff.mp hk)
  exact ⟨p.2, look_of g.1 hp⟩
end
end K46L
namespace K46L
open PySem PySem.Spec PyProof.Rows L2 Dv K46
set_option autoImplicit false
noncomputable section

theorem eqZ {v w : Int} : oEq (.int v) (.int w) = some (.bl (decide (v = w))) := rfl
abbrev enT (sc : D) (l : List Int) (R : D) (nd : Bool) (S0 : D) (P : Pic) (s6 s7 : Sl) (ts : List Tc) (s9 s12 : Sl) : Dv.Env := [.val sc, .box (Ls l), .val R, .val (.bl nd), .val S0, .val (picD P), s6, s7, .box (.lst (ts.map Tc.d)), s9, .no, .no, s12]
theorem cmpT (sc R : D) (nd : Bool) (S0 : D) (P : Pic) (s6 s7 : Sl) (ts : List Tc) (s9 : Sl) : ∀ (names acc : List Str) (l : List Int) (s12 : Sl), Dr l → acc.length + names.length < 1000 → ∃ (l' : List Int) (res : List Str) (s12' : Sl), cmpL (yName 12) (xTest (xOp oEq (xCall 2 d__law_draw (gSlot 1 (gVal (xC (.int 2)) Dv.gNil))) (xC (.int 0)))) (xVal 12) [12] (names.map .str) (acc.map .str) (enT sc l R nd S0 P s6 s7 ts s9 s12) = .ok (res.map .str) (enT sc l' R nd S0 P s6 s7 ts s9 s12') ∧ Dr l'
  | [], acc, l, s12, h, _ => ⟨l, acc, s12, rfl, h⟩
  | x :: names, acc, l, s12, h, hl => by
    rw [List.length_cons] at hl
    obtain ⟨v, l1, e, v0, v1, h1⟩ := draw_ok h 2 (by omega) (by omega)
    have hw : wipeE (enT sc l R nd S0 P s6 s7 ts s9 s12) [12] = enT sc l R nd S0 P s6 s7 ts s9 .no := rfl
    have y : yName 12 (.str x) (enT sc l R nd S0 P s6 s7 ts s9 .no) = some (enT sc l R nd S0 P s6 s7 ts s9 (.val (.str x))) := by (exists trivial)
    have q : oEq (.int v) (.int 0) = some (.bl (decide (v = 0))) := eqZ
    have tt : xTest (xOp oEq (xCall 2 d__law_draw (gSlot 1 (gVal (xC (.int 2)) Dv.gNil))) (xC (.int 0))) (enT sc l R nd S0 P s6 s7 ts s9 (.val (.str x))) = .ok (decide (v = 0)) (enT sc l1 R nd S0 P s6 s7 ts s9 (.val (.str x))) := by (exists e, q)
    cases hv : decide (v = 0) with
    | true =>
      rw [hv] at tt
      obtain ⟨l2, res, s, k1, k2⟩ := cmpT sc R nd S0 P s6 s7 ts s9 names (acc ++ [x]) l1 (.val (.str x)) h1 (by rw [List.length_append]; simp; omega)
      refine ⟨l2, res, s, ?_, k2⟩
      rw [List.map_cons]
      have el : xVal 12 (enT sc l1 R nd S0 P s6 s7 ts s9 (.val (.str x))) = .ok (.str x) (enT sc l1 R nd S0 P s6 s7 ts s9 (.val (.str x))) := by (exists trivial)
      exact cmp_cons hw y tt (sel_t rfl (cmp_el el (by rw [List.length_map]; omega) (by rw [List.map_append]; rfl) k1))
    | false =>
      rw [hv] at tt
      obtain ⟨l2, res, s, k1, k2⟩ := cmpT sc R nd S0 P s6 s7 ts s9 names acc l1 (.val (.str x)) h1 (by omega)
      refine ⟨l2, res, s, ?_, k2⟩
      rw [List.map_cons]
      exact cmp_cons hw y tt (sel_f rfl k1)
def bodyT : EvS := (xIfS (xAndT (xTest (xOp oEq (xCall 2 d__law_draw (gSlot 1 (gVal (xC (.int 2)) Dv.gNil))) (xC (.int 0)))) (xBorT (xTest (xOp oLt (xCB fLen (xCons (xVal 8) xNil)) (xC (.int 4))))))
 (xSeq (xSet 9 (xLst xNil))
 (xSeq (xIfS (xTest (xOp (oDIn false) (xVal 6) (xVal 5)))
 (xBox 9 (xLc (iSq (xCall 1 d__law_names (gVal (xFld fc_kind "kind" (xOp oDGet (xVal 5) (xVal 6))) Dv.gNil))) (yName 12) (xTest (xOp oEq (xCall 2 d__law_draw (gSlot 1 (gVal (xC (.int 2)) Dv.gNil))) (xC (.int 0)))) (xVal 12) [12]))
 xNx)
 (xDrop (xOwnM mApp 8 (xCons (xMake 9 5 [] d_Touch___init__ (xCons (xVal 6) (xCons (xOp oEq (xCall 2 d__law_draw (gSlot 1 (gVal (xC (.int 4)) Dv.gNil))) (xC (.int 0))) (xCons (xC (.bl false)) (xCons (xVar 9) xNil))))) xNil)))))
 xNx)
theorem nmT (t : Th) : ∃ names : List Str, names.length < 10 ∧ d__law_names [.val (.str t.kd)] = .ok (Ss names) none := by
  cases t with
  | A x y z ks => exact ⟨["a", "t", "r", "l"], by simp, nmL_A⟩
  | B p q ks => exact ⟨["p", "q", "m"], by simp, nmL_B⟩
theorem lenTs (ts : List Tc) : fLen [.lst (ts.map Tc.d)] = some (.int (ts.length : Nat)) := by
  show some (D.int ((List.map Tc.d ts).length : Nat)) = _
  rw [List.length_map]
theorem appT (ts : List Tc) (t : Tc) (h : ts.length < 1000) : mApp (.lst (ts.map Tc.d)) [t.d] = some (.non, .lst ((ts ++ [t]).map Tc.d)) := by
  rw [appD (by rw [List.length_map]; omega), List.map_append]
  rfl
theorem stepT (sc : D) (P : Pic) (R : D) (nd : Bool) (S0 : D) (k : Int) (l : List Int) (h : Dr l) (ts : List Tc) (hl : ts.length ≤ 4) (s7 s9 : Sl) (h7 : NV s7) (h9 : NV s9) : ∃ (l' : List Int) (ts' : List Tc) (s9' : Sl), Dr l' ∧ NV s9' ∧ ts'.length ≤ 4 ∧ bodyT (enT sc l R nd S0 P (.val (.int k)) s7 ts s9 .no) = .nx (enT sc l' R nd S0 P (.val (.int k)) s7 ts' s9' .no) := by
  obtain ⟨v, l1, e, v0, v1, h1⟩ := draw_ok h 2 (by omega) (by omega)
  have q : oEq (.int v) (.int 0) = some (.bl (decide (v = 0))) := eqZ
  have p9 := nv_par h9
  cases hv : decide (v = 0) with
  | false =>
    rw [hv] at q
    refine ⟨l1, ts, s9, h1, h9, hl, ?_⟩
    unfold bodyT
    (exists e, q)
  | true =>
    rw [hv] at q
    have hb : borE (enT sc l1 R nd S0 P (.val (.int k)) s7 ts s9 .no) = [.val sc, .val (Ls l1), .val R, .val (.bl nd), .val S0, .val (picD P), .val (.int k), s7, .val (.lst (ts.map Tc.d)), s9, .no, .no, .no] := by
      rcases h7.h with rfl | ⟨d, rfl⟩ <;> rcases h9.h with rfl | ⟨d', rfl⟩ <;> rfl
    have ln := lenTs ts
    have lt : oLt (.int (ts.length : Nat)) (.int 4) = some (.bl (decide (((ts.length : Nat) : Int) < 4))) := ltE
    have bt : xBorT (xTest (xOp oLt (xCB fLen (xCons (xVal 8) xNil)) (xC (.int 4)))) (enT sc l1 R nd S0 P (.val (.int k)) s7 ts s9 .no) = .ok (decide (((ts.length : Nat) : Int) < 4)) (enT sc l1 R nd S0 P (.val (.int k)) s7 ts s9 .no) := by
      refine r_borT hb (e1 := [.val sc, .val (Ls l1), .val R, .val (.bl nd), .val S0, .val (picD P), .val (.int k), s7, .val (.lst (ts.map Tc.d)), s9, .no, .no, .no]) ?_
      (exists ln, lt)
    cases hd : decide (((ts.length : Nat) : Int) < 4) with
    | false =>
      rw [hd] at bt
      refine ⟨l1, ts, s9, h1, h9, hl, ?_⟩
      unfold bodyT
      (exists e, q, bt)
    | true =>
      rw [hd] at bt
      have hlt : ts.length < 4 := by have := of_decide_eq_true hd; omega
      have din := dinP P k
      have hg := dgetP P k
      cases ht : look P k with
      | none =>
        rw [ht] at din
        have din : oDIn false (.int k) (picD P) = some (.bl false) := din
        obtain ⟨w, l2, e2, w0, w1, h2⟩ := draw_ok h1 4 (by omega) (by omega)
        have q2 : oEq (.int w) (.int 0) = some (.bl (decide (w = 0))) := eqZ
        have it : d_Touch___init__ [.par (.ins 9 []), .val (.int k), .val (.bl (decide (w = 0))), .val (.bl false), .val (.lst [])] = .ok .non (some (Tc.d ⟨k, decide (w = 0), []⟩)) := i_Touch k (decide (w = 0)) []
        have ap := appT ts ⟨k, decide (w = 0), []⟩ (by omega)
        generalize decide (w = 0) = B at q2 it ap
        refine ⟨l2, ts ++ [⟨k, B, []⟩], .val (.lst []), h2, ⟨.inr ⟨_, rfl⟩⟩, by rw [List.length_append]; simp; omega, ?_⟩
        unfold bodyT
        (exists e, q, bt, din, e2, q2, it, ap)
      | some t =>
        rw [ht] at din hg
        have din : oDIn false (.int k) (picD P) = some (.bl true) := din
        have hg : oDGet (picD P) (.int k) = some (.ins 4 [("kind", .str t.kd), ("contents", .dct t.cont)]) := hg
        obtain ⟨names, nl, nm⟩ := nmT t
        obtain ⟨l2, res, s12, c1, h2⟩ := cmpT sc R nd S0 P (.val (.int k)) s7 ts (.val (.lst [])) names [] l1 .no h1 (by simp; omega)
        have c2 : wipeE (enT sc l2 R nd S0 P (.val (.int k)) s7 ts (.val (.lst [])) s12) [12] = enT sc l2 R nd S0 P (.val (.int k)) s7 ts (.val (.lst [])) .no := rfl
        have c1 : cmpL (yName 12) (xTest (xOp oEq (xCall 2 d__law_draw (gSlot 1 (gVal (xC (.int 2)) Dv.gNil))) (xC (.int 0)))) (xVal 12) [12] (names.map .str) [] (enT sc l1 R nd S0 P (.val (.int k)) s7 ts (.val (.lst [])) .no) = .ok (res.map .str) (enT sc l2 R nd S0 P (.val (.int k)) s7 ts (.val (.lst [])) s12) := c1
        obtain ⟨w, l3, e3, w0, w1, h3⟩ := draw_ok h2 4 (by omega) (by omega)
        have q2 : oEq (.int w) (.int 0) = some (.bl (decide (w = 0))) := eqZ
        have it := i_Touch k (decide (w = 0)) res
        have ap := appT ts ⟨k, decide (w = 0), res⟩ (by omega)
        generalize decide (w = 0) = B at q2 it ap
        refine ⟨l3, ts ++ [⟨k, B, res⟩], .val (Ss res), h3, ⟨.inr ⟨_, rfl⟩⟩, by rw [List.length_append]; simp; omega, ?_⟩
        unfold bodyT
        (exists e, q, bt, din, hg, nm, c1, c2, e3, q2, it, ap)
theorem loopT (sc : D) (P : Pic) (R : D) (nd : Bool) (S0 : D) : ∀ (xs l : List Int) (h : Dr l) (ts : List Tc) (hl : ts.length ≤ 4) (s6 s7 s9 : Sl) (h6 : NV s6) (h7 : NV s7) (h9 : NV s9), ∃ (l' : List Int) (ts' : List Tc) (s6' s9' : Sl), Dr l' ∧ NV s6' ∧ NV s9' ∧ ts'.length ≤ 4 ∧ forL (yName 6) bodyT (xs.map .int) (enT sc l R nd S0 P s6 s7 ts s9 .no) = .nx (enT sc l' R nd S0 P s6' s7 ts' s9' .no)
  | [], l, h, ts, hl, s6, s7, s9, h6, h7, h9 => ⟨l, ts, s6, s9, h, h6, h9, hl, rfl⟩
  | x :: xs, l, h, ts, hl, s6, s7, s9, h6, h7, h9 => by
    obtain ⟨l1, ts1, r9, i1, i9, il, e⟩ := stepT sc P R nd S0 x l h ts hl s7 s9 h7 h9
    obtain ⟨l2, ts2, q6, q9, j1, j6, j9, jl, ih⟩ := loopT sc P R nd S0 xs l1 i1 ts1 il (.val (.int x)) s7 r9 ⟨.inr ⟨_, rfl⟩⟩ h7 i9
    have y6 : yName 6 (.int x) (enT sc l R nd S0 P s6 s7 ts s9 .no) = some (enT sc l R nd S0 P (.val (.int x)) s7 ts s9 .no) := by
      refine z_name ?_
      rw [setE_at (s := s6) rfl (nv_par h6)]
      rfl
    refine ⟨l2, ts2, q6, q9, j1, j6, j9, jl, ?_⟩
    rw [List.map_cons]
    exact for_cons y6 e (fk_nx ih)
theorem rng19 : ∃ xs : List Int, rngD 1 9 = xs.map .int := ⟨(List.range 9).map fun (k : Nat) => (1 : Int) + (k : Int), by
  unfold rngD
  rw [List.map_map]
  rfl⟩
theorem law_true (ns : List Int) (h : ns.length ≤ 63) : ∃ p, d_law [.val (.scr (ns.map .int))] = .ok (.bl true) p := by
  obtain ⟨l0, p0, e0, h0⟩ := cells_ok ns
  obtain ⟨a, b, c, l1, e1, h1, na, nb, nc⟩ := rules_ok h0
  obtain ⟨v, l2, e2, v0, v1, h2⟩ := draw_ok h1 2 (by omega) (by omega)
  have q2 : oEq (.int v) (.int 0) = some (.bl (decide (v = 0))) := eqZ
  generalize decide (v = 0) = nd at q2
  have e3 := schema_ok a b c nd
  obtain ⟨P, l3, e4, h3, g, hP⟩ := pic_ok h2
  have kl := keysL P
  have sl := sortL (P.map (·.1))
  obtain ⟨s6, s7, i6, i7, f1⟩ := loopN (.scr (ns.map .int)) l3 P a b c na nb nc nd g hP (sortI (P.map (·.1))) (keys_look P g) .no .no ⟨.inl rfl⟩ ⟨.inl rfl⟩
  obtain ⟨xs, hx⟩ := rng19
  obtain ⟨l4, ts, r6, r9, h4, j6, j9, jl, f2⟩ := loopT (.scr (ns.map .int)) P (rlsD a b c) nd (schD a b c nd) xs l3 h3 [] (by simp) s6 s7 .no i6 i7 ⟨.inl rfl⟩
  have rg : iRg2 (xCons (xC (.int 1)) (xCons (xC (.int 10)) xNil)) (enT (.scr (ns.map .int)) l3 (rlsD a b c) nd (schD a b c nd) P s6 s7 [] .no .no) = .ok (xs.map .int) (enT (.scr (ns.map .int)) l3 (rlsD a b c) nd (schD a b c nd) P s6 s7 [] .no .no) := by
    have r := r_rg2 (j := 1) (k := 10) (ra := xCons (xC (.int 1)) (xCons (xC (.int 10)) xNil)) (env := enT (.scr (ns.map .int)) l3 (rlsD a b c) nd (schD a b c nd) P s6 s7 [] .no .no) (e1 := enT (.scr (ns.map .int)) l3 (rlsD a b c) nd (schD a b c nd) P s6 s7 [] .no .no) (by (exists trivial)) (by omega)
    rw [show ((10 : Int) - 1).toNat = 9 from rfl, hx] at r
    exact r
  have fp := firstP P a b c nd g hP ts
  have fl := firstL P a b c na nb nc nd g ts
  have nf := neF P nd ts
  have sp := pSizeP P a b c nd g hP
  have sq := lSizeP P a b c na nb nc g
  have ii : fIs isOO isOB isBT [.int (picSz P P), .ty "int"] = some (.bl true) := rfl
  have qe : oEq (.int (picSz P P)) (.int (picSz P P)) = some (.bl true) := by rw [eqZ, decide_eq_true rfl]
  have b8 : boxable (some Sl.no) = true := rfl
  unfold bodyN at f1
  unfold bodyT at f2
  refine ⟨parOf [.val (.scr (ns.map .int)), .box (Ls l4), .val (rlsD a b c), .val (.bl nd), .val (schD a b c nd), .val (picD P), r6, s7, .val (.lst (ts.map Tc.d)), r9, .val (.int (picSz P P)), .no, .no], ?_⟩
  unfold d_law b_law
  refine r_run (e' := [.val (.scr (ns.map .int)), .no, .no, .no, .no, .no, .no, .no, .no, .no, .no, .no, .no]) rfl (e := [.val (.scr (ns.map .int)), .box (Ls l4), .val (rlsD a b c), .val (.bl nd), .val (schD a b c nd), .val (picD P), r6, s7, .val (.lst (ts.map Tc.d)), r9, .val (.int (picSz P P)), .no, .no]) ?_ rfl
  refine r_seq (rs := .nx [.val (.scr (ns.map .int)), .box (Ls l0), .no, .no, .no, .no, .no, .no, .no, .no, .no, .no, .no]) ?_ (sq_nx ?_)
  · (exists e0)
  refine r_seq (rs := .nx [.val (.scr (ns.map .int)), .box (Ls l1), .val (rlsD a b c), .no, .no, .no, .no, .no, .no, .no, .no, .no, .no]) ?_ (sq_nx ?_)
  · (exists e1)
  refine r_seq (rs := .nx [.val (.scr (ns.map .int)), .box (Ls l2), .val (rlsD a b c), .val (.bl nd), .no, .no, .no, .no, .no, .no, .no, .no, .no]) ?_ (sq_nx ?_)
  · (exists e2, q2)
  refine r_seq (rs := .nx [.val (.scr (ns.map .int)), .box (Ls l2), .val (rlsD a b c), .val (.bl nd), .val (schD a b c nd), .no, .no, .no, .no, .no, .no, .no, .no]) ?_ (sq_nx ?_)
  · (exists e3)
  refine r_seq (rs := .nx (enN (.scr (ns.map .int)) l3 (rlsD a b c) nd (schD a b c nd) P .no .no .no)) ?_ (sq_nx ?_)
  · (exists e4)
  refine r_seq (rs := .nx (enN (.scr (ns.map .int)) l3 (rlsD a b c) nd (schD a b c nd) P s6 s7 .no)) ?_ (sq_nx ?_)
  · refine r_for (xs := (sortI (P.map (·.1))).map .int) (e1 := enN (.scr (ns.map .int)) l3 (rlsD a b c) nd (schD a b c nd) P .no .no .no) ?_ f1
    (exists kl, sl)
  refine r_seq (rs := .nx (enT (.scr (ns.map .int)) l3 (rlsD a b c) nd (schD a b c nd) P s6 s7 [] .no .no)) ?_ (sq_nx ?_)
  · (exists b8)
  refine r_seq (rs := .nx (enT (.scr (ns.map .int)) l4 (rlsD a b c) nd (schD a b c nd) P r6 s7 ts r9 .no)) ?_ (sq_nx ?_)
  · exact r_for rg f2
  refine r_seq (rs := .nx [.val (.scr (ns.map .int)), .box (Ls l4), .val (rlsD a b c), .val (.bl nd), .val (schD a b c nd), .val (picD P), r6, s7, .val (.lst (ts.map Tc.d)), r9, .no, .no, .no]) ?_ (sq_nx ?_)
  · (exists fp, fl, nf)
  refine r_seq (rs := .nx [.val (.scr (ns.map .int)), .box (Ls l4), .val (rlsD a b c), .val (.bl nd), .val (schD a b c nd), .val (picD P), r6, s7, .val (.lst (ts.map Tc.d)), r9, .val (.int (picSz P P)), .no, .no]) ?_ (sq_nx ?_)
  · (exists sp)
  · (exists sq, ii, qe)
end
end K46L
end
namespace K46L
open PySem PySem.Spec PyProof.Rows L2 Dv K46
set_option autoImplicit false
noncomputable section
abbrev spLaw := Dv.spTrue
theorem ok_law {P : Program} {w : World} {K : PySem.W.Frag} {mg : Str → Option Value} {base : Heap} {A : Ad} (T : Txt K mg A) : FnOk P w K mg base CX0 8 A.f_law A.fd_law ["script"] (spLaw K) := (K46.ok_law T).imp fun vs H Q E h => Dv.law_imp law_true vs H Q E h
end
end K46L
open PySem PySem.W PySem.Calls PyProof.Rows in
set_option maxRecDepth 100000 in
set_option maxHeartbeats 0 in
theorem PySem.Challenge.cw_oneheap_k46_constraints_and_sizes_holds : PySem.Challenge.rw_oneheap_k46_constraints_and_sizes.Holds := by
  refine K46.endPre ?_
  refine L2.walk_ofE (l := PySem.Challenge.rw_oneheap_k46_constraints_and_sizes) (n := 63) (k := 8) (x := "script") (CX := L2.CX0) rfl (by decide) (by kernel_rfl) ⟨rfl, by decide, by decide⟩ ?F (fun _ _ _ _ z => z)
  intro w mg fa h Y G hmg0
  obtain ⟨K, KX, c⟩ := Y
  have hmg : mg ("law" : PySem.Str) = some (.ref fa) := by
    have e : (HandSHeadRun.topDef (PySem.W.OpenLaw.row PySem.Challenge.rw_oneheap_k46_constraints_and_sizes).prog 50).name = ("law" : PySem.Str) := by kernel_rfl
    rw [← e]
    exact hmg0
  have T := K46.mk_txt (w := w) KX G c
  have e := hmg.symm.trans (K46.law_at KX G c)
  cases e
  refine ⟨K, (K46.adr K).fd_law, K46L.spLaw K, KX, fun s u => ?_, fun H a ns hl _ hS => ⟨a, ns, rfl, hS, hl, fun _ => rfl⟩, fun base _ _ => K46L.ok_law T⟩
  obtain ⟨_, _, _, _, _, _, _, _, _, e, _⟩ := T.F_law.ex
  rw [e]
  exact .of_eq rfl
