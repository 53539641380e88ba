import PyProof.Rows.All
import Wide.All
import OpenK.AllK
import Wide.FinOn
import HandS.ForMost
import HandS.Codes
import HandS.Exc
import HandS.ExcOwn
import HandS.ExcInit
import HandS.ExcField
import HandS.ExcIs
import HandS.WordsExc
import HandS.IsInst
import KE.KExcIs
import HandS.More
import HandS.Iter
import HandS.DictComp
import HandS.Star
import HandS.FStr
import HandS.Comp
import HandS.CallLocal
import HandS.Defaults
import HandS.Conv
import HandS.Wide
import HandS.Zip
import HandS.Flow
import HandS.SortInts
import HandS.NoneIn
import HandS.Deep
import HandS.Text
import KE.KStateDown
import HandS.Head0
import HandS.Head1
import HandS.Head2
import HandS.HeadEnd
import HandS.HeadHook1
import HandS.HeadHook2
import HandS.HeadHook3
import HandS.HeadHook4
import PySem.Challenge.RW_oneheap_k16_nearest_integers
import KE.KEqSeq
set_option Elab.async false
set_option linter.all false
set_option maxRecDepth 100000
set_option maxHeartbeats 0
namespace Dv
open PySem PySem.Spec PyProof.Rows L2
set_option autoImplicit false
noncomputable section
/-! ### values as trees -/
inductive D where
  | non | bl (b : Bool) | int (i : Int) | str (s : Str) | st (k : Nat) | ty (n : String)
  | lst (xs : List D) | scr (xs : List D) | tup (xs : List D) | dct (kvs : List (Key × D)) | ins (C : Nat) (fs : List (Str × D))

/-- G is held in H; its dicts may be locked -/
def Inn (G H : Hp) : Prop := ∀ a u, G a = some u → H a = some u ∨ ∃ o kvs, u = .dK kvs ∧ H a = some (.frz o u)

section
variable (K : PySem.W.Frag) (S : Nat → Addr)
mutual
def Rep (G : Hp) : D → V → Prop
  | .non, v => v = .non
  | .bl b, v => v = .bl b
  | .int i, v => v = .int i
  | .str s, v => v = .str s
  | .st k, v => v = .ref (S k)
  | .ty n, v => v = .ty n
  | .lst xs, v => ∃ a vs, v = .ref a ∧ G a = some (.lst vs) ∧ RepL G xs vs
  | .scr xs, v => ∃ a vs, v = .ref a ∧ SqL K G a vs ∧ RepL G xs vs
  | .tup xs, v => ∃ a vs, v = .ref a ∧ SqT K G a vs ∧ RepL G xs vs
  | .dct kvs, v => ∃ a ws, v = .ref a ∧ G a = some (.dK ws) ∧ RepK G kvs ws
  | .ins C fs, v => ∃ a dx ws, v = .ref a ∧ G a = some (.ins (S C) dx ws) ∧ RepF G fs ws
def RepL (G : Hp) : List D → List V → Prop
  | [], vs => vs = []
  | x :: xs, vs => ∃ v ws, vs = v :: ws ∧ Rep G x v ∧ RepL G xs ws
def RepK (G : Hp) : List (Key × D) → List (Key × V) → Prop
  | [], vs => vs = []
  | x :: xs, vs => ∃ v ws, vs = (x.1, v) :: ws ∧ Rep G x.2 v ∧ RepK G xs ws
def RepF (G : Hp) : List (Str × D) → List (Str × V) → Prop
  | [], vs => vs = []
  | x :: xs, vs => ∃ v ws, vs = (x.1, v) :: ws ∧ Rep G x.2 v ∧ RepF G xs ws
end
/-- an object of one's own: its content -/
def RepO (G : Hp) : D → HO → Prop
  | .lst xs, o => ∃ vs, o = .lst vs ∧ RepL K S G xs vs
  | .dct kvs, o => ∃ ws, o = .dK ws ∧ RepK K S G kvs ws
  | .ins C fs, o => ∃ dx ws, o = .ins (S C) dx ws ∧ RepF K S G fs ws
  | _, _ => False
end
section
variable {K : PySem.W.Frag} {S : Nat → Addr}
mutual
theorem Rep.mono {G G' : Hp} (h : Same G G') : ∀ {d : D} {v : V}, Rep K S G d v → Rep K S G' d v
  | .non, _, r => r
  | .bl _, _, r => r
  | .int _, _, r => r
  | .str _, _, r => r
  | .st _, _, r => r
  | .ty _, _, r => r
  | .lst xs, _, ⟨a, vs, e, q, r⟩ => ⟨a, vs, e, h _ _ q, RepL.mono h r⟩
  | .scr xs, _, ⟨a, vs, e, q, r⟩ => ⟨a, vs, e, h.seq q, RepL.mono h r⟩
  | .tup xs, _, ⟨a, vs, e, q, r⟩ => ⟨a, vs, e, q.elim (fun q => .inl (q.elim (fun q => .inl (h _ _ q)) fun ⟨o, q⟩ => .inr ⟨o, h _ _ q⟩)) .inr, RepL.mono h r⟩
  | .dct kvs, _, ⟨a, ws, e, q, r⟩ => ⟨a, ws, e, h _ _ q, RepK.mono h r⟩
  | .ins C fs, _, ⟨a, dx, ws, e, q, r⟩ => ⟨a, dx, ws, e, h _ _ q, RepF.mono h r⟩
theorem RepL.mono {G G' : Hp} (h : Same G G') : ∀ {d : List D} {v : List V}, RepL K S G d v → RepL K S G' d v
  | [], _, r => r
  | x :: xs, _, ⟨v, ws, e, q, r⟩ => ⟨v, ws, e, Rep.mono h q, RepL.mono h r⟩
theorem RepK.mono {G G' : Hp} (h : Same G G') : ∀ {d : List (Key × D)} {v : List (Key × V)}, RepK K S G d v → RepK K S G' d v
  | [], _, r => r
  | x :: xs, _, ⟨v, ws, e, q, r⟩ => ⟨v, ws, e, Rep.mono h q, RepK.mono h r⟩
theorem RepF.mono {G G' : Hp} (h : Same G G') : ∀ {d : List (Str × D)} {v : List (Str × V)}, RepF K S G d v → RepF K S G' d v
  | [], _, r => r
  | x :: xs, _, ⟨v, ws, e, q, r⟩ => ⟨v, ws, e, Rep.mono h q, RepF.mono h r⟩
end
theorem RepO.mono {G G' : Hp} (h : Same G G') : ∀ {d : D} {o : HO}, RepO K S G d o → RepO K S G' d o
  | .lst xs, _, ⟨vs, e, r⟩ => ⟨vs, e, r.mono h⟩
  | .dct kvs, _, ⟨ws, e, r⟩ => ⟨ws, e, r.mono h⟩
  | .ins C fs, _, ⟨dx, ws, e, r⟩ => ⟨dx, ws, e, r.mono h⟩
theorem RepL.iff {G : Hp} : ∀ {xs : List D} {vs : List V}, RepL K S G xs vs ↔ Paired (Rep K S G) xs vs
  | [], vs => ⟨fun h => by cases h; exact .nil, fun h => by cases h; rfl⟩
  | x :: xs, vs => ⟨fun ⟨v, ws, e, q, r⟩ => by subst e; exact .cons q (RepL.iff.mp r), fun h => by
      cases h with
      | cons q r => exact ⟨_, _, rfl, q, RepL.iff.mpr r⟩⟩
theorem RepL.nil {G : Hp} : RepL K S G [] [] := rfl
theorem RepL.cons {G : Hp} {x : D} {v : V} {xs : List D} {vs : List V} (q : Rep K S G x v) (r : RepL K S G xs vs) : RepL K S G (x :: xs) (v :: vs) := ⟨v, vs, rfl, q, r⟩
theorem RepL.length {G : Hp} {xs : List D} {vs : List V} (h : RepL K S G xs vs) : xs.length = vs.length := Paired.length (RepL.iff.mp h)
theorem RepL.app {G : Hp} : ∀ {xs ys : List D} {vs ws : List V}, RepL K S G xs vs → RepL K S G ys ws → RepL K S G (xs ++ ys) (vs ++ ws)
  | [], _, _, _, r, q => by cases r; exact q
  | x :: xs, ys, _, ws, ⟨v, us, e, q, r⟩, q2 => by subst e; exact ⟨v, us ++ ws, rfl, q, r.app q2⟩
theorem RepL.get {G : Hp} : ∀ {xs : List D} {vs : List V} {i : Nat} {x : D}, RepL K S G xs vs → xs[i]? = some x → ∃ v, vs[i]? = some v ∧ Rep K S G x v
  | [], _, _, _, _, e => by simp at e
  | x :: xs, _, 0, y, ⟨v, ws, e, q, r⟩, h => by subst e; simp at h; subst h; exact ⟨v, rfl, q⟩
  | x :: xs, _, i + 1, y, ⟨v, ws, e, q, r⟩, h => by
    subst e
    obtain ⟨u, h1, h2⟩ := r.get (i := i) (x := y) (by simpa using h)
    exact ⟨u, by simpa using h1, h2⟩
theorem RepL.one {G : Hp} {x : D} {vs : List V} (h : RepL K S G [x] vs) : ∃ v, vs = [v] ∧ Rep K S G x v := by
  obtain ⟨v, ws, rfl, q, r⟩ := h
  cases r
  exact ⟨v, rfl, q⟩
theorem RepL.two {G : Hp} {x y : D} {vs : List V} (h : RepL K S G [x, y] vs) : ∃ v w, vs = [v, w] ∧ Rep K S G x v ∧ Rep K S G y w := by
  obtain ⟨v, ws, rfl, q, r⟩ := h
  obtain ⟨w, ws', rfl, q2, r⟩ := r
  cases r
  exact ⟨v, w, rfl, q, q2⟩
theorem RepL.take {G : Hp} : ∀ {xs : List D} {vs : List V} (n : Nat), RepL K S G xs vs → RepL K S G (xs.take n) (vs.take n)
  | _, _, 0, _ => rfl
  | [], _, n + 1, r => by cases r; rfl
  | x :: xs, _, n + 1, ⟨v, ws, e, q, r⟩ => by subst e; exact ⟨v, _, rfl, q, r.take n⟩
theorem RepL.drop {G : Hp} : ∀ {xs : List D} {vs : List V} (n : Nat), RepL K S G xs vs → RepL K S G (xs.drop n) (vs.drop n)
  | _, _, 0, r => r
  | [], _, n + 1, r => by cases r; rfl
  | x :: xs, _, n + 1, ⟨v, ws, e, q, r⟩ => by subst e; exact r.drop n
/-! Inn -/
theorem Inn.seq {G H : Hp} {a : Addr} {xs : List V} (e : Inn G H) (h : SqL K G a xs) : SqL K H a xs := by
  rcases h with (h | ⟨o, h⟩) | h
  · rcases e _ _ h with q | ⟨_, _, q, _⟩
    · exact .inl (.inl q)
    · cases q
  · rcases e _ _ h with q | ⟨_, _, q, _⟩
    · exact .inl (.inr ⟨o, q⟩)
    · cases q
  · exact .inr h
theorem Inn.tup {G H : Hp} {a : Addr} {xs : List V} (e : Inn G H) (h : SqT K G a xs) : SqT K H a xs := by
  rcases h with (h | ⟨o, h⟩) | h
  · rcases e _ _ h with q | ⟨_, _, q, _⟩
    · exact .inl (.inl q)
    · cases q
  · rcases e _ _ h with q | ⟨_, _, q, _⟩
    · exact .inl (.inr ⟨o, q⟩)
    · cases q
  · exact .inr h
theorem Inn.lst {G H : Hp} {a : Addr} {xs : List V} (e : Inn G H) (h : G a = some (.lst xs)) : H a = some (.lst xs) := by
  rcases e _ _ h with q | ⟨_, _, q, _⟩
  · exact q
  · cases q
theorem Inn.dct {G H : Hp} {a : Addr} {ws : List (Key × V)} (e : Inn G H) (h : Rd G a (.dK ws)) : Rd H a (.dK ws) := by
  rcases h with h | ⟨o, h⟩
  · rcases e _ _ h with q | ⟨o, _, q, q2⟩
    · exact .inl q
    · exact .inr ⟨o, q2⟩
  · rcases e _ _ h with q | ⟨_, _, q, _⟩
    · exact .inr ⟨o, q⟩
    · cases q
theorem Inn.ins {G H : Hp} {a C dx : Addr} {ws : List (Str × V)} (e : Inn G H) (h : G a = some (.ins C dx ws)) : H a = some (.ins C dx ws) := by
  rcases e _ _ h with q | ⟨_, _, q, _⟩
  · exact q
  · cases q
theorem Inn.some {G H : Hp} {a : Addr} (e : Inn G H) (h : H a = none) : G a = none := by
  cases q : G a with
  | none => rfl
  | some u =>
    rcases e _ _ q with q | ⟨_, _, _, q⟩
    · rw [h] at q; cases q
    · rw [h] at q; cases q
theorem Inn.up {G H H' : Hp} (e : Inn G H) (s : Same H H') : Inn G H' := fun a u h => (e a u h).elim (fun q => .inl (s _ _ q)) fun ⟨o, kvs, q1, q2⟩ => .inr ⟨o, kvs, q1, s _ _ q2⟩
/-- things are only added -/
structure Ex (G H G' H' : Hp) : Prop where
  g : Same G G'
  h : Same H H'
  inn : Inn G' H'
  new : ∀ a, G' a ≠ none → G a = none → H a = none
theorem Ex.refl {G H : Hp} (i : Inn G H) : Ex G H G H := ⟨.refl _, .refl _, i, fun _ h e => (h e).elim⟩
theorem Ex.trans {G H G1 H1 G2 H2 : Hp} (a : Ex G H G1 H1) (b : Ex G1 H1 G2 H2) : Ex G H G2 H2 := ⟨a.g.trans b.g, a.h.trans b.h, b.inn, fun x h e => by
  by_cases q : G1 x = none
  · have := b.new x h q
    exact a.h.free this
  · exact a.new x q e⟩
theorem same_upd {H : Hp} {p : Addr} {o : HO} (h : H p = none) : Same H (upd H p o) := fun b u e => by rw [upd_ne (ne_of_none e h)]; exact e
theorem Ex.new1 {G H : Hp} {p : Addr} {o : HO} (i : Inn G H) (hp : H p = none) : Ex G H (upd G p o) (upd H p o) := ⟨same_upd (i.some hp), same_upd hp, fun a u e => by
  by_cases h : a = p
  · subst h; rw [upd_same] at e ⊢; exact .inl e
  · rw [upd_ne h] at e ⊢; exact i a u e, fun a h e => by
  by_cases q : a = p
  · subst q; exact hp
  · rw [upd_ne q] at h; exact (h e).elim⟩
theorem Ex.skip {G H : Hp} {p : Addr} {o : HO} (i : Inn G H) (hp : H p = none) : Ex G H G (upd H p o) := ⟨.refl _, same_upd hp, i.up (same_upd hp), fun a h e => (h e).elim⟩
theorem Ex.same {G H H' : Hp} (i : Inn G H) (s : Same H H') : Ex G H G H' := ⟨.refl _, s, i.up s, fun a h e => (h e).elim⟩
end
/-! ### slots, the state of a def -/
inductive Sl where
  | no | val (d : D) | box (d : D) | par (d : D)
abbrev Env := List Sl
structure Base where
  G : Hp
  H : Hp
  r : Option Addr
abbrev Lk := List (Addr × HO)
structure Ste (B : Base) (L : Lk) (G H : Hp) : Prop where
  g0 : Same B.G G
  inn : Inn G H
  new : ∀ a, G a ≠ none → B.G a = none → B.H a = none
  keep : ∀ a o, B.H a = some o → B.r ≠ some a → (∀ p ∈ L, p.1 ≠ a) → H a = some o
  lock : ∀ p ∈ L, H p.1 = some p.2
  par : ∀ a, B.r = some a → G a = none ∧ H a ≠ none ∧ B.H a ≠ none ∧ ∀ p ∈ L, p.1 ≠ a
  out : ∀ p ∈ L, (∀ o u, p.2 ≠ .frz o u) → G p.1 = none
section
variable (K : PySem.W.Frag) (S : Nat → Addr)
def SlOk (B : Base) (G H : Hp) : Sl → Option V → Prop
  | .no, _ => True
  | .val d, x => ∃ v, x = some v ∧ Rep K S G d v
  | .box d, x => ∃ a o, x = some (V.ref a) ∧ G a = none ∧ B.H a = none ∧ H a = some o ∧ RepO K S G d o
  | .par d, x => ∃ a o, x = some (V.ref a) ∧ B.r = some a ∧ H a = some o ∧ RepO K S G d o
def isOwn : Sl → Bool
  | .box _ => true
  | .par _ => true
  | _ => false
structure Rel (B : Base) (L : Lk) (G H : Hp) (env : Env) (σ : L2.St) : Prop where
  at_ : Paired (SlOk K S B G H) env σ
  nd : ∀ (i j : Nat) (s t : Sl) (a : Addr), i ≠ j → env[i]? = some s → env[j]? = some t → isOwn s = true → isOwn t = true → σ[i]? = some (some (V.ref a)) → σ[j]? ≠ some (some (V.ref a))
  nl : ∀ (i : Nat) (s : Sl) (a : Addr), env[i]? = some s → isOwn s = true → σ[i]? = some (some (V.ref a)) → ∀ p ∈ L, p.1 ≠ a
end
section
variable {K : PySem.W.Frag} {S : Nat → Addr} {B : Base} {L : Lk} {G H G' H' : Hp} {env : Env} {σ : L2.St}
theorem Ste.free (s : Ste B L G H) {a : Addr} (h : H a = none) : B.H a = none := by
  cases q : B.H a with
  | none => rfl
  | some o =>
    by_cases hl : ∃ p ∈ L, p.1 = a
    · obtain ⟨p, hp, e⟩ := hl
      have := s.lock p hp
      rw [e, h] at this
      cases this
    · by_cases hr : B.r = some a
      · exact ((s.par a hr).2.1 h).elim
      · have := s.keep a o q hr fun p hp e => hl ⟨p, hp, e⟩
        rw [h] at this
        cases this
theorem Ste.ex (s : Ste B L G H) (x : Ex G H G' H') : Ste B L G' H' where
  g0 := s.g0.trans x.g
  inn := x.inn
  new := fun a h e => by
    by_cases q : G a = none
    · exact s.free (x.new a h q)
    · exact s.new a q e
  keep := fun a o e r l => x.h _ _ (s.keep a o e r l)
  lock := fun p hp => x.h _ _ (s.lock p hp)
  par := fun a r => by
    obtain ⟨h1, h2, h4, h3⟩ := s.par a r
    refine ⟨?_, fun e => h2 (x.h.free e), h4, h3⟩
    cases q : G' a with
    | none => rfl
    | some o => exact (h2 (x.new a (by rw [q]; intro e; cases e) h1)).elim
  out := fun p hp hf => by
    have h1 := s.out p hp hf
    cases q : G' p.1 with
    | none => rfl
    | some o =>
      have := x.new p.1 (by rw [q]; intro e; cases e) h1
      rw [s.lock p hp] at this
      cases this
theorem SlOk.ex (x : Ex G H G' H') {s : Sl} {o : Option V} (h : SlOk K S B G H s o) : SlOk K S B G' H' s o := by
  cases s with
  | no => trivial
  | val d =>
    obtain ⟨v, e, r⟩ := h
    exact ⟨v, e, r.mono x.g⟩
  | box d =>
    obtain ⟨a, o, e, g, b, e2, r⟩ := h
    refine ⟨a, o, e, ?_, b, x.h _ _ e2, r.mono x.g⟩
    cases q : G' a with
    | none => rfl
    | some u =>
      have := x.new a (by rw [q]; intro e; cases e) g
      rw [e2] at this
      cases this
  | par d =>
    obtain ⟨a, o, e, b, e2, r⟩ := h
    exact ⟨a, o, e, b, x.h _ _ e2, r.mono x.g⟩
theorem Rel.ex (r : Rel K S B L G H env σ) (x : Ex G H G' H') : Rel K S B L G' H' env σ := ⟨L2.Paired.mapP r.at_ fun _ _ q => q.ex x, r.nd, r.nl⟩
theorem paired_get {α γ : Type} {F : α → γ → Prop} : ∀ {l : List α} {m : List γ} {i : Nat} {a : α}, Paired F l m → l[i]? = some a → ∃ b, m[i]? = some b ∧ F a b
  | _, _, _, _, .nil, e => by simp at e
  | _, _, 0, _, .cons r _, e => by simp at e; subst e; exact ⟨_, rfl, r⟩
  | _, _, i + 1, a, .cons _ t, e => by
    obtain ⟨u, h1, h2⟩ := paired_get (i := i) (a := a) t (by simpa using e)
    exact ⟨u, by simpa using h1, h2⟩
theorem paired_set {α γ : Type} {F : α → γ → Prop} {a : α} {b : γ} (h : F a b) : ∀ {l : List α} {m : List γ} (i : Nat), Paired F l m → Paired F (l.set i a) (m.set i b)
  | _, _, _, .nil => .nil
  | _, _, 0, .cons _ t => .cons h t
  | _, _, i + 1, .cons q t => .cons q (paired_set h i t)
theorem paired_len {α γ : Type} {F : α → γ → Prop} {l : List α} {m : List γ} (p : Paired F l m) : l.length = m.length := Paired.length p
theorem paired_of {α γ : Type} {F : α → γ → Prop} : ∀ {l : List α} {m : List γ}, l.length = m.length → (∀ (i : Nat) a b, l[i]? = some a → m[i]? = some b → F a b) → Paired F l m
  | [], [], _, _ => .nil
  | a :: l, b :: m, e, h => .cons (h 0 a b rfl rfl) (paired_of (by simpa using e) fun i x y h1 h2 => h (i + 1) x y (by simpa using h1) (by simpa using h2))
end
/-! ### outcomes -/
inductive Res (α : Type) where
  | ok (a : α) (e : Env)
  | ex (C : Nat) (fs : List (Str × D)) (e : Env)
  | no
def Res.bind {α β : Type} (r : Res α) (k : α → Env → Res β) : Res β := match r with
  | .ok a e => k a e
  | .ex C fs e => .ex C fs e
  | .no => .no
def Res.of {α : Type} (o : Option α) (e : Env) : Res α := match o with
  | some a => .ok a e
  | none => .no
section
variable (K : PySem.W.Frag) (S : Nat → Addr) (E : XK)
def XD (G H : Hp) (fs : List (Str × D)) (od : Option Addr) : Prop := (fs = [] ∧ od = none) ∨ ∃ dd ws, od = some dd ∧ H dd = some (.xd ws) ∧ RepF K S G fs ws
def Post {α : Type} (B : Base) (L : Lk) (σ : L2.St) (G : Hp) (P : Hp → Hp → α → Env → Prop) : Res α → Prop
  | .ok a env => ∀ G' H', Same G G' → Ste B L G' H' → Rel K S B L G' H' env σ → P G' H' a env
  | .ex C fs env => ∀ od G' H', Same G G' → Ste B L G' H' → Rel K S B L G' H' env σ → XD K S G' H' fs od → E (Value.ref (S C)) od H'
  | .no => False
end
section
variable {K : PySem.W.Frag} {S : Nat → Addr} {E : XK} {B : Base} {L : Lk} {G G1 H G' H' : Hp} {env : Env} {σ : L2.St} {α β : Type} {r : Res α} {P P' : Hp → Hp → α → Env → Prop}
theorem Post.imp (h : Post K S E B L σ G P r) (f : ∀ G' H' a e, Same G G' → Ste B L G' H' → Rel K S B L G' H' e σ → P G' H' a e → P' G' H' a e) : Post K S E B L σ G P' r := by
  cases r with
  | ok a e => exact fun G' H' s st rl => f _ _ _ _ s st rl (h G' H' s st rl)
  | ex C fs e => exact h
  | no => exact h
theorem Post.up (h : Post K S E B L σ G P r) (s : Same G G1) : Post K S E B L σ G1 P r := by
  cases r with
  | ok a e => exact fun G' H' s' => h G' H' (s.trans s')
  | ex C fs e => exact fun od G' H' s' => h od G' H' (s.trans s')
  | no => exact h
theorem Post.bind {k : α → Env → Res β} {P : Hp → Hp → β → Env → Prop} (h : Post K S E B L σ G P (r.bind k)) : Post K S E B L σ G (fun G' H' a e => Post K S E B L σ G' P (k a e)) r := by
  cases r with
  | ok a e => exact fun G' H' s st rl => Post.up h s
  | ex C fs e => exact h
  | no => exact h
/-- bind, with what is known behind the first -/
theorem Post.then {k : α → Env → Res β} {P : Hp → Hp → β → Env → Prop} (h : Post K S E B L σ G P (r.bind k)) (f : ∀ G' H' a e, Same G G' → Ste B L G' H' → Rel K S B L G' H' e σ → Post K S E B L σ G' P (k a e) → P' G' H' a e) : Post K S E B L σ G P' r := (Post.bind h).imp f
theorem Post.of {o : Option α} {e : Env} (h : Post K S E B L σ G P (.of o e)) (st : Ste B L G H) (rl : Rel K S B L G H e σ) : ∃ a, o = some a ∧ ∀ G' H', Ex G H G' H' → P G' H' a e := by
  cases o with
  | none => exact h.elim
  | some a => exact ⟨a, rfl, fun G' H' x => h G' H' x.g (st.ex x) (rl.ex x)⟩
end
abbrev Ev := Env → Res D
abbrev EvT := Env → Res Bool
section
variable (K : PySem.W.Frag) (S : Nat → Addr) (E : XK)
def Tx {α γ : Type} (R : Hp → L2.St → α → γ → Prop) (f : Env → Res α) : L2.St → Hp → (γ → Hp → Prop) → Prop := fun σ H Q =>
  ∃ (B : Base) (L : Lk) (G : Hp) (env : Env), Ste B L G H ∧ Rel K S B L G H env σ ∧ Post K S E B L σ G (fun G' H' a _ => ∀ v, R G' σ a v → Q v H') (f env)
abbrev TD (f : Ev) : TE := Tx K S E (fun G _ d v => Rep K S G d v) f
abbrev TB (f : EvT) : TT := Tx K S E (fun _ _ b c => b = c) f
/-- the value is an object of one's own -/
def TF (f : Ev) : TE := fun σ H Q =>
  ∃ (B : Base) (L : Lk) (G : Hp) (env : Env), Ste B L G H ∧ Rel K S B L G H env σ ∧ Post K S E B L σ G (fun G' H' d e => ∀ a o, G' a = none → B.H a = none → H' a = some o → (∀ (i : Nat) (s : Sl), e[i]? = some s → isOwn s = true → σ[i]? ≠ some (some (V.ref a))) → (∀ p ∈ L, p.1 ≠ a) → RepO K S G' d o → Q (.ref a) H') (f env)
end
section
variable {K : PySem.W.Frag} {S : Nat → Addr} {X : Cx} {E : XK}
abbrev QE (S : Nat → Addr) (X : Cx) (E : XK) (e : Expr) (f : Ev) : Prop := PE X e (TD X.K S E f)
abbrev QF (S : Nat → Addr) (X : Cx) (E : XK) (e : Expr) (f : Ev) : Prop := PE X e (TF X.K S E f)
abbrev QT (S : Nat → Addr) (X : Cx) (E : XK) (e : Expr) (f : EvT) : Prop := PT X e (TB X.K S E f)
abbrev QW (S : Nat → Addr) (X : Cx) (E : XK) (e : Expr) (f : EvT) : Prop := PW X e (TB X.K S E f)
theorem pe_of {e : Expr} {t u : TE} (p : PE X e t) (h : ∀ σ H Q, u σ H Q → t σ H Q) : PE X e u := ⟨fun pins s σ H Q I q => p.run pins s σ H Q I (h σ H Q q)⟩
theorem pt_of {e : Expr} {t u : TT} (p : PT X e t) (h : ∀ σ H Q, u σ H Q → t σ H Q) : PT X e u := ⟨fun pins s σ H Q I q => p.run pins s σ H Q I (h σ H Q q)⟩
theorem pw_of {e : Expr} {t u : TT} (p : PW X e t) (h : ∀ σ H Q, u σ H Q → t σ H Q) : PW X e u := ⟨fun w pins s σ H Q I q => p.run w pins s σ H Q I (h σ H Q q)⟩
theorem pa_of {es : List Expr} {t u : TA} (p : PA X es t) (h : ∀ σ H Q, u σ H Q → t σ H Q) : PA X es u := ⟨fun pos pins s σ H Q I q => p.run pos pins s σ H Q I (h σ H Q q)⟩
theorem ps_of {st : Stmt} {t u : TS} (p : PS X st t) (h : ∀ D σ H, u D σ H → t D σ H) : PS X st u := ⟨fun pins s σ H D I q => p.run pins s σ H D I (h D σ H q)⟩
theorem pss_of {st : List Stmt} {t u : TS} (p : PSs X st t) (h : ∀ D σ H, u D σ H → t D σ H) : PSs X st u := ⟨fun pins s σ H D I q => p.run pins s σ H D I (h D σ H q)⟩
/-- an object of one's own becomes a value for ever -/
theorem freeze {B : Base} {L : Lk} {G H : Hp} {env : Env} {σ : L2.St} {a : Addr} {o : HO} {d : D} (st : Ste B L G H) (rl : Rel K S B L G H env σ) (ga : G a = none) (ba : B.H a = none) (ha : H a = some o) (hn : ∀ (i : Nat) (s : Sl), env[i]? = some s → isOwn s = true → σ[i]? ≠ some (some (V.ref a))) (hl : ∀ p ∈ L, p.1 ≠ a) (r : RepO K S G d o) :
    Same G (upd G a o) ∧ Ste B L (upd G a o) H ∧ Rel K S B L (upd G a o) H env σ ∧ Rep K S (upd G a o) d (.ref a) := by
  have sm : Same G (upd G a o) := same_upd ga
  refine ⟨sm, ⟨st.g0.trans sm, fun b u e => ?_, fun b h e => ?_, st.keep, st.lock, fun b e => ?_, fun p hp hf => by rw [upd_ne (hl p hp)]; exact st.out p hp hf⟩, ⟨?_, rl.nd, rl.nl⟩, ?_⟩
  · by_cases hb : b = a
    · subst hb; rw [upd_same] at e; cases e; exact .inl ha
    · rw [upd_ne hb] at e; exact st.inn _ _ e
  · by_cases hb : b = a
    · subst hb; exact ba
    · rw [upd_ne hb] at h; exact st.new b h e
  · obtain ⟨h1, h2, h4, h3⟩ := st.par b e
    refine ⟨?_, h2, h4, h3⟩
    by_cases hb : b = a
    · subst hb; exact (h4 ba).elim
    · rw [upd_ne hb]; exact h1
  · refine paired_of (paired_len rl.at_) fun i s x h1 h2 => ?_
    obtain ⟨x', h3, q⟩ := paired_get rl.at_ h1
    rw [h2] at h3
    cases h3
    cases s with
    | no => trivial
    | val d' =>
      obtain ⟨v, e, r'⟩ := q
      exact ⟨v, e, r'.mono sm⟩
    | box d' =>
      obtain ⟨b, o', e, g, bb, e2, r'⟩ := q
      refine ⟨b, o', e, ?_, bb, e2, r'.mono sm⟩
      rw [upd_ne]
      · exact g
      · intro eb
        subst eb
        exact hn i _ h1 rfl (by rw [h2, e])
    | par d' =>
      obtain ⟨b, o', e, bb, e2, r'⟩ := q
      exact ⟨b, o', e, bb, e2, r'.mono sm⟩
  · cases d with
    | lst xs =>
      obtain ⟨vs, rfl, q⟩ := r
      exact ⟨a, vs, rfl, upd_same, q.mono sm⟩
    | dct kvs =>
      obtain ⟨ws, rfl, q⟩ := r
      exact ⟨a, ws, rfl, upd_same, q.mono sm⟩
    | ins C fs =>
      obtain ⟨dx, ws, rfl, q⟩ := r
      exact ⟨a, dx, ws, rfl, upd_same, q.mono sm⟩
    | _ => exact r.elim
/-- what is one's own is a value -/
theorem q_fr {e : Expr} {f : Ev} (h : QF S X E e f) : QE S X E e f := pe_of h fun σ H Q ⟨B, L, G, env, st, rl, p⟩ => ⟨B, L, G, env, st, rl, by
  revert p
  cases f env with
  | no => exact fun p => p
  | ex C fs e' => exact fun p => p
  | ok d e' =>
    intro p G' H' sm st' rl' a o ga ba ha hn hl r
    obtain ⟨s1, s2, s3, s4⟩ := freeze st' rl' ga ba ha hn hl r
    exact p _ H' (sm.trans s1) s2 s3 _ s4⟩
end
end
end Dv
namespace Dv
open PySem PySem.Spec PyProof.Rows L2
set_option autoImplicit false
noncomputable section
section
variable {K : PySem.W.Frag} {S : Nat → Addr} {X : Cx} {E : XK} {a b c e : Expr} {ea eb ec ee : Ev} {pos : Pos}
/-! ### names -/
/-- a value at a slot; an object of one's own becomes a value -/
def xVar (i : Nat) : Ev := fun env => match env[i]? with
  | some (.val d) => .ok d env
  | some (.box d) => .ok d (env.set i (.val d))
  | _ => .no
/-- a value at a slot -/
def xVal (i : Nat) : Ev := fun env => match env[i]? with
  | some (.val d) => .ok d env
  | _ => .no
theorem rel_at {B : Base} {L : Lk} {G H : Hp} {env : Env} {σ : L2.St} {i : Nat} {s : Sl} (rl : Rel K S B L G H env σ) (h : env[i]? = some s) : ∃ x, σ[i]? = some x ∧ SlOk K S B G H s x := paired_get rl.at_ h
theorem set_at {α : Type} {l : List α} {i j : Nat} {a b : α} (h : (l.set i a)[j]? = some b) : (j = i ∧ b = a) ∨ (j ≠ i ∧ l[j]? = some b) := by
  by_cases e : j = i
  · subst e
    by_cases hl : j < l.length
    · rw [List.getElem?_set_self hl] at h
      cases h
      exact .inl ⟨rfl, rfl⟩
    · rw [List.getElem?_eq_none_iff.mpr (by rw [List.length_set]; omega)] at h
      cases h
  · rw [List.getElem?_set_ne (fun q => e q.symm)] at h
    exact .inr ⟨e, h⟩
/-- a slot's content is forgotten as one's own -/
theorem rel_val {B : Base} {L : Lk} {G H : Hp} {env : Env} {σ : L2.St} {i : Nat} {d : D} (rl : Rel K S B L G H env σ) (h : ∀ x, σ[i]? = some x → SlOk K S B G H (.val d) x) : Rel K S B L G H (env.set i (.val d)) σ := by
  refine ⟨paired_of (by rw [List.length_set]; exact paired_len rl.at_) fun j s x h1 h2 => ?_, fun j k s t v hjk h1 h2 o1 o2 => ?_, fun j s v h1 o1 => ?_⟩
  · rcases set_at h1 with ⟨rfl, rfl⟩ | ⟨hj, h1⟩
    · exact h x h2
    · obtain ⟨y, e, q⟩ := rel_at rl h1
      rw [h2] at e
      cases e
      exact q
  · rcases set_at h1 with ⟨rfl, rfl⟩ | ⟨hj, h1⟩
    · cases o1
    · rcases set_at h2 with ⟨rfl, rfl⟩ | ⟨hk, h2⟩
      · cases o2
      · exact rl.nd j k s t v hjk h1 h2 o1 o2
  · rcases set_at h1 with ⟨rfl, rfl⟩ | ⟨hj, h1⟩
    · cases o1
    · exact rl.nl j s v h1 o1
theorem rel_no {B : Base} {L : Lk} {G H : Hp} {env : Env} {σ : L2.St} {i : Nat} (rl : Rel K S B L G H env σ) : Rel K S B L G H (env.set i .no) σ := by
  refine ⟨paired_of (by rw [List.length_set]; exact paired_len rl.at_) fun j s x h1 h2 => ?_, fun j k s t v hjk h1 h2 o1 o2 => ?_, fun j s v h1 o1 => ?_⟩
  · rcases set_at h1 with ⟨rfl, rfl⟩ | ⟨hj, h1⟩
    · trivial
    · obtain ⟨y, e, q⟩ := rel_at rl h1
      rw [h2] at e
      cases e
      exact q
  · rcases set_at h1 with ⟨rfl, rfl⟩ | ⟨hj, h1⟩
    · cases o1
    · rcases set_at h2 with ⟨rfl, rfl⟩ | ⟨hk, h2⟩
      · cases o2
      · exact rl.nd j k s t v hjk h1 h2 o1 o2
  · rcases set_at h1 with ⟨rfl, rfl⟩ | ⟨hj, h1⟩
    · cases o1
    · exact rl.nl j s v h1 o1
/-- a box becomes a value -/
theorem thaw {B : Base} {L : Lk} {G H : Hp} {env : Env} {σ : L2.St} {i : Nat} {d : D} (st : Ste B L G H) (rl : Rel K S B L G H env σ) (h : env[i]? = some (.box d)) :
    ∃ (v : V) (G' : Hp), σ[i]? = some (some v) ∧ Same G G' ∧ Ste B L G' H ∧ Rel K S B L G' H (env.set i (.val d)) σ ∧ Rep K S G' d v := by
  obtain ⟨x, hx, p, o, rfl, gp, bp, hp, r⟩ := rel_at rl h
  have rl2 := rel_no (i := i) rl
  obtain ⟨s1, s2, s3, s4⟩ := freeze st rl2 gp bp hp (fun j s h1 o1 q => by
    rcases set_at h1 with ⟨rfl, rfl⟩ | ⟨hj, h1⟩
    · cases o1
    · exact rl.nd i j _ s p (fun e => hj e.symm) h h1 rfl o1 hx q) (fun q hq => rl.nl i _ p h rfl hx q hq) r
  refine ⟨.ref p, _, hx, s1, s2, ?_, s4⟩
  have := rel_val (i := i) (d := d) s3 (fun y hy => by
    rw [hx] at hy
    cases hy
    exact ⟨_, rfl, s4⟩)
  rw [List.set_set] at this
  exact this
theorem q_var {i : Nat} (p : PE X e (tVar i)) : QE S X E e (xVar i) := pe_of p fun σ H Q ⟨B, L, G, env, st, rl, po⟩ => by
  unfold xVar at po
  split at po
  · rename_i d h
    obtain ⟨x, hx, v, rfl, r⟩ := rel_at rl h
    exact ⟨v, hx, po G H (.refl _) st rl v r⟩
  · rename_i d h
    obtain ⟨v, G', hx, s1, s2, s3, s4⟩ := thaw st rl h
    exact ⟨v, hx, po G' H s1 s2 s3 v s4⟩
  · exact po.elim
theorem q_vl {i : Nat} (p : PE X e (tVar i)) : QE S X E e (xVal i) := pe_of p fun σ H Q ⟨B, L, G, env, st, rl, po⟩ => by
  unfold xVal at po
  split at po
  · rename_i d h
    obtain ⟨x, hx, v, rfl, r⟩ := rel_at rl h
    exact ⟨v, hx, po G H (.refl _) st rl v r⟩
  · exact po.elim
def xC (d : D) : Ev := fun env => .ok d env
theorem q_c {d : D} {v : V} (p : PE X e (tC v)) (r : ∀ G, Rep X.K S G d v) : QE S X E e (xC d) := pe_of p fun σ H Q ⟨B, L, G, env, st, rl, po⟩ => po G H (.refl _) st rl v (r G)
def xNo {α : Type} : Env → Res α := fun _ => .no
theorem q_no : QE S X E e xNo := ⟨fun _ _ _ _ _ _ ⟨_, _, _, _, _, _, po⟩ => po.elim⟩
/-! ### operations -/
abbrev FO := D → D → Option D
def SOp (K : PySem.W.Frag) (S : Nat → Addr) (f : FO) (r : R2) : Prop := ∀ (G H : Hp) (x y d : D) (v w : V) (Q : VK), Inn G H → Rep K S G x v → Rep K S G y w → f x y = some d → (∀ G' H' u, Ex G H G' H' → Rep K S G' d u → Q u H') → r v w H Q
abbrev FU := D → Option D
def SUn (K : PySem.W.Frag) (S : Nat → Addr) (f : FU) (r : V → Hp → VK → Prop) : Prop := ∀ (G H : Hp) (x d : D) (v : V) (Q : VK), Inn G H → Rep K S G x v → f x = some d → (∀ G' H' u, Ex G H G' H' → Rep K S G' d u → Q u H') → r v H Q
abbrev FC := List D → Option D
def SCl (K : PySem.W.Frag) (S : Nat → Addr) (f : FC) (r : List V → Hp → VK → Prop) : Prop := ∀ (G H : Hp) (xs : List D) (d : D) (vs : List V) (Q : VK), Inn G H → RepL K S G xs vs → f xs = some d → (∀ G' H' u, Ex G H G' H' → Rep K S G' d u → Q u H') → r vs H Q
def r2or (a b : R2) : R2 := fun x y H Q => a x y H Q ∨ b x y H Q
theorem opOr {f : Value → Value → Sem Value} {r r' : R2} (a : OpR X f r) (b : OpR X f r') : OpR X f (r2or r r') := fun pins s σ H x y v u Q I r1 r2 h => h.elim (a pins s σ H x y v u Q I r1 r2) (b pins s σ H x y v u Q I r1 r2)
def xOp (f : FO) (a b : Ev) : Ev := fun env => (a env).bind fun x e1 => (b e1).bind fun y e2 => .of (f x y) e2
theorem snd_op {f : FO} {r : R2} {σ : L2.St} {H : Hp} {Q : VK} (so : SOp K S f r) (q : TD K S E (xOp f ea eb) σ H Q) : tOp r (TD K S E ea) (TD K S E eb) σ H Q := by
  obtain ⟨B, L, G, env, st, rl, po⟩ := q
  exact ⟨B, L, G, env, st, rl, po.then fun G1 H1 x e1 sm1 st1 rl1 p1 v rv => ⟨B, L, G1, e1, st1, rl1, p1.then fun G2 H2 y e2 sm2 st2 rl2 p2 w rw' => by
    obtain ⟨d, hd, k⟩ := p2.of st2 rl2
    exact so G2 H2 x y d v w Q st2.inn (rv.mono sm2) rw' hd fun G' H' u ex ru => k G' H' ex u ru⟩⟩
theorem q_op {op : Operator} {f : FO} {r : R2} (ho : OpR X (binaryOp op) r) (so : SOp X.K S f r) (ha : QE S X E a ea) (hb : QE S X E b eb) : QE S X E (.BinOp a op b pos) (xOp f ea eb) := pe_of (pe_op ho ha hb) fun _ _ _ q => snd_op so q
theorem q_cmp {op : CmpOp} {f : FO} {r : R2} (ho : OpR X (compareOp op) r) (so : SOp X.K S f r) (ha : QE S X E a ea) (hb : QE S X E b eb) (hm : behindInMarks op b = false) : QE S X E (.Compare a [op] [b] pos) (xOp f ea eb) := pe_of (pe_cmpR ho ha hb hm) fun _ _ _ q => snd_op so q
theorem q_ix {f : FO} {r : R2} (ho : IxR X r) (so : SOp X.K S f r) (ha : QE S X E a ea) (hb : QE S X E b eb) (hs : PlainIx b) : QE S X E (.Subscript a b pos) (xOp f ea eb) := pe_of (pe_ix ho ha hb hs) fun _ _ _ q => snd_op so q
def xUn (f : FU) (a : Ev) : Ev := fun env => (a env).bind fun x e1 => .of (f x) e1
theorem q_un {op : UnaryOp} {f : FU} {r : V → Hp → VK → Prop} (ho : UnR X (unaryOp op) r) (so : SUn X.K S f r) (ha : QE S X E a ea) : QE S X E (.UnaryOp op a pos) (xUn f ea) := pe_of (pe_un ho ha) fun σ H Q ⟨B, L, G, env, st, rl, po⟩ => ⟨B, L, G, env, st, rl, po.then fun G1 H1 x e1 sm1 st1 rl1 p1 v rv => by
    obtain ⟨d, hd, k⟩ := p1.of st1 rl1
    exact so G1 H1 x d v Q st1.inn rv hd fun G' H' u ex ru => k G' H' ex u ru⟩
def oNot : FU := fun x => match x with
  | .bl b => some (.bl (!b))
  | _ => none
theorem q_not (ha : QE S X E a ea) : QE S X E (.UnaryOp .Not a pos) (xUn oNot ea) := pe_of (pe_not ha) fun σ H Q ⟨B, L, G, env, st, rl, po⟩ => ⟨B, L, G, env, st, rl, po.then fun G1 H1 x e1 sm1 st1 rl1 p1 v rv => by
    obtain ⟨d, hd, k⟩ := p1.of st1 rl1
    cases x with
    | bl b => cases hd; exact ⟨b, rv, k G1 H1 (.refl st1.inn) _ rfl⟩
    | _ => cases hd⟩
/-! chains -/
def xChain (f g : FO) (a b c : Ev) : Ev := fun env => (a env).bind fun x e1 => (b e1).bind fun y e2 => match f x y with
  | some (.bl true) => (c e2).bind fun z e3 => .of (g y z) e3
  | some (.bl false) => .ok (.bl false) e2
  | _ => .no
theorem snd_chain {f g : FO} {r r' : R2} {σ : L2.St} {H : Hp} {Q : VK} (so : SOp K S f r) (so' : SOp K S g r') (q : TD K S E (xChain f g ea eb ec) σ H Q) : tChain r r' (TD K S E ea) (TD K S E eb) (TD K S E ec) σ H Q := by
  obtain ⟨B, L, G, env, st, rl, po⟩ := q
  refine ⟨B, L, G, env, st, rl, po.then fun G1 H1 x e1 sm1 st1 rl1 p1 v rv => ⟨B, L, G1, e1, st1, rl1, p1.then fun G2 H2 y e2 sm2 st2 rl2 p2 w rw' => ?_⟩⟩
  split at p2
  · rename_i hf
    refine so G2 H2 x y _ v w _ st2.inn (rv.mono sm2) rw' hf fun G3 H3 u ex ru => ?_
    cases ru
    refine ⟨true, rfl, ?_⟩
    rw [if_pos rfl]
    exact ⟨B, L, G3, e2, st2.ex ex, rl2.ex ex, (p2.up ex.g).then fun G4 H4 z e3 sm4 st4 rl4 p4 w' rz => by
      obtain ⟨d, hd, k⟩ := p4.of st4 rl4
      exact so' G4 H4 y z d w w' Q st4.inn ((rw'.mono ex.g).mono sm4) rz hd fun G' H' u ex ru => k G' H' ex u ru⟩
  · rename_i hf
    refine so G2 H2 x y _ v w _ st2.inn (rv.mono sm2) rw' hf fun G3 H3 u ex ru => ?_
    cases ru
    refine ⟨false, rfl, ?_⟩
    rw [if_neg (by decide)]
    exact p2 G3 H3 ex.g (st2.ex ex) (rl2.ex ex) _ rfl
  · exact p2.elim
theorem q_chain {op op' : CmpOp} {f g : FO} {r r' : R2} (ho : OpR X (compareOp op) r) (ho' : OpR X (compareOp op') r') (so : SOp X.K S f r) (so' : SOp X.K S g r') (ha : QE S X E a ea) (hb : QE S X E b eb) (hc : QE S X E c ec)
    (hm : lastMarks [op, op'] [b, c] = false := by with_unfolding_all rfl) : QE S X E (.Compare a [op, op'] [b, c] pos) (xChain f g ea eb ec) := pe_of (pe_chain ho ho' ha hb hc hm) fun _ _ _ q => snd_chain so so' q
/-! ### tests -/
def xTest (a : Ev) : EvT := fun env => (a env).bind fun x e1 => match x with
  | .bl b => .ok b e1
  | _ => .no
theorem snd_test {ta : TE} {σ : L2.St} {H : Hp} {Q : Bool → Hp → Prop} (hi : ∀ Q, TD K S E ea σ H Q → ta σ H Q) (q : TB K S E (xTest ea) σ H Q) : tB ta σ H Q := by
  obtain ⟨B, L, G, env, st, rl, po⟩ := q
  refine hi _ ⟨B, L, G, env, st, rl, po.then fun G1 H1 x e1 sm1 st1 rl1 p1 v rv => ?_⟩
  cases x with
  | bl b => exact ⟨b, rv, p1 G1 H1 (.refl _) st1 rl1 b rfl⟩
  | _ => exact p1.elim
theorem q_val (ha : QE S X E a ea) (he : ∀ whole, isTrue a X.env whole = (do let v ← whole; standAt a.pos; holding [v] (truthy v)) := by intro _; rfl) : QT S X E a (xTest ea) := pt_of (pt_val ha he) fun _ _ _ q => snd_test (fun _ h => h) q
theorem q_cmpT {op : CmpOp} {f : FO} {r : R2} (ho : OpR X (compareOp op) r) (so : SOp X.K S f r) (ha : QE S X E a ea) (hb : QE S X E b eb) (hm : behindInMarks op b = false) : QT S X E (.Compare a [op] [b] pos) (xTest (xOp f ea eb)) := pt_of (pt_cmpR ho ha hb hm) fun _ _ _ q => snd_test (fun _ h => snd_op so h) q
theorem q_chainT {op op' : CmpOp} {f g : FO} {r r' : R2} (ho : OpR X (compareOp op) r) (ho' : OpR X (compareOp op') r') (so : SOp X.K S f r) (so' : SOp X.K S g r') (ha : QE S X E a ea) (hb : QE S X E b eb) (hc : QE S X E c ec)
    (hm : lastMarks [op, op'] [b, c] = false := by with_unfolding_all rfl) : QT S X E (.Compare a [op, op'] [b, c] pos) (xTest (xChain f g ea eb ec)) := pt_of (pt_chain ho ho' ha hb hc hm) fun _ _ _ q => snd_test (fun _ h => snd_chain so so' h) q
variable {et eu : EvT} {rest : List Expr}
def xNotT (a : EvT) : EvT := fun env => (a env).bind fun x e1 => .ok (!x) e1
theorem q_notT (ha : QT S X E a et) : QT S X E (.UnaryOp .Not a pos) (xNotT et) := pt_of (pt_not ha) fun σ H Q ⟨B, L, G, env, st, rl, po⟩ => ⟨B, L, G, env, st, rl, po.then fun G1 H1 x e1 sm1 st1 rl1 p1 v rv => by
  cases rv
  exact p1 G1 H1 (.refl _) st1 rl1 _ rfl⟩
def xAndT (a b : EvT) : EvT := fun env => (a env).bind fun x e1 => match x with
  | true => b e1
  | false => .ok false e1
def xOrT (a b : EvT) : EvT := fun env => (a env).bind fun x e1 => match x with
  | true => .ok true e1
  | false => b e1
theorem q_wand1 (ha : QT S X E a et) : QW S X E (.BoolOp .And [a] pos) et := pw_and1 ha
theorem q_wor1 (ha : QT S X E a et) : QW S X E (.BoolOp .Or [a] pos) et := pw_or1 ha
theorem q_wand (ha : QT S X E a et) (hb : QW S X E (.BoolOp .And (b :: rest) pos) eu) : QW S X E (.BoolOp .And (a :: b :: rest) pos) (xAndT et eu) := pw_of (pw_and ha hb) fun σ H Q ⟨B, L, G, env, st, rl, po⟩ => ⟨B, L, G, env, st, rl, po.then fun G1 H1 x e1 sm1 st1 rl1 p1 v rv => by
  cases rv
  cases x with
  | true => exact ⟨B, L, G1, e1, st1, rl1, p1⟩
  | false => exact p1 G1 H1 (.refl _) st1 rl1 _ rfl⟩
theorem q_wor (ha : QT S X E a et) (hb : QW S X E (.BoolOp .Or (b :: rest) pos) eu) : QW S X E (.BoolOp .Or (a :: b :: rest) pos) (xOrT et eu) := pw_of (pw_or ha hb) fun σ H Q ⟨B, L, G, env, st, rl, po⟩ => ⟨B, L, G, env, st, rl, po.then fun G1 H1 x e1 sm1 st1 rl1 p1 v rv => by
  cases rv
  cases x with
  | true => exact p1 G1 H1 (.refl _) st1 rl1 _ rfl
  | false => exact ⟨B, L, G1, e1, st1, rl1, p1⟩⟩
theorem q_pt (h : QW S X E a et) : QT S X E a et := PW.pt h
/-! and, or as values -/
def xAndV (a b : Ev) : Ev := fun env => (a env).bind fun x e1 => match x with
  | .bl true => b e1
  | .bl false => .ok (.bl false) e1
  | _ => .no
def xOrV (a b : Ev) : Ev := fun env => (a env).bind fun x e1 => match x with
  | .bl true => .ok (.bl true) e1
  | .bl false => b e1
  | _ => .no
theorem q_one {op : BoolOp} (h : QE S X E a ea) : QE S X E (.BoolOp op [a] pos) ea := pe_one h
theorem q_and (ha : QE S X E a ea) (hb : QE S X E (.BoolOp .And (b :: rest) pos) eb) : QE S X E (.BoolOp .And (a :: b :: rest) pos) (xAndV ea eb) := pe_of (pe_and ha hb) fun σ H Q ⟨B, L, G, env, st, rl, po⟩ => ⟨B, L, G, env, st, rl, po.then fun G1 H1 x e1 sm1 st1 rl1 p1 v rv => by
  cases x with
  | bl c =>
    refine ⟨c, rv, ?_⟩
    cases c with
    | true => exact ⟨B, L, G1, e1, st1, rl1, p1⟩
    | false => exact p1 G1 H1 (.refl _) st1 rl1 _ rfl
  | _ => exact p1.elim⟩
theorem q_or (ha : QE S X E a ea) (hb : QE S X E (.BoolOp .Or (b :: rest) pos) eb) : QE S X E (.BoolOp .Or (a :: b :: rest) pos) (xOrV ea eb) := pe_of (pe_or ha hb) fun σ H Q ⟨B, L, G, env, st, rl, po⟩ => ⟨B, L, G, env, st, rl, po.then fun G1 H1 x e1 sm1 st1 rl1 p1 v rv => by
  cases x with
  | bl c =>
    refine ⟨c, rv, ?_⟩
    cases c with
    | true => exact p1 G1 H1 (.refl _) st1 rl1 _ rfl
    | false => exact ⟨B, L, G1, e1, st1, rl1, p1⟩
  | _ => exact p1.elim⟩
def xIf (t : EvT) (a b : Ev) : Ev := fun env => (t env).bind fun x e1 => match x with
  | true => a e1
  | false => b e1
theorem q_if {c : Expr} (hc : QT S X E c et) (ha : QE S X E a ea) (hb : QE S X E b eb) : QE S X E (.IfExp c a b pos) (xIf et ea eb) := pe_of (pe_ifExp hc ha hb) fun σ H Q ⟨B, L, G, env, st, rl, po⟩ => ⟨B, L, G, env, st, rl, po.then fun G1 H1 x e1 sm1 st1 rl1 p1 v rv => by
  cases rv
  cases x with
  | true => exact ⟨B, L, G1, e1, st1, rl1, p1⟩
  | false => exact ⟨B, L, G1, e1, st1, rl1, p1⟩⟩
/-! ### lists of arguments -/
abbrev EvA := Env → Res (List D)
abbrev TAe (K : PySem.W.Frag) (S : Nat → Addr) (E : XK) (f : EvA) : TA := Tx K S E (fun G _ d v => RepL K S G d v) f
abbrev QA (S : Nat → Addr) (X : Cx) (E : XK) (es : List Expr) (f : EvA) : Prop := PA X es (TAe X.K S E f)
def xNil : EvA := fun env => .ok [] env
def xCons (a : Ev) (r : EvA) : EvA := fun env => (a env).bind fun x e1 => (r e1).bind fun xs e2 => .ok (x :: xs) e2
variable {es : List Expr} {er : EvA}
theorem q_nil : QA S X E [] xNil := pa_of pa_nil fun σ H Q ⟨B, L, G, env, st, rl, po⟩ => po G H (.refl _) st rl [] rfl
theorem q_cons (ha : QE S X E a ea) (hr : QA S X E es er) (hs : starEach (a :: es) X.env = (false, eval a X.env) :: starEach es X.env := by rfl) : QA S X E (a :: es) (xCons ea er) := pa_of (pa_cons ha hr hs) fun σ H Q ⟨B, L, G, env, st, rl, po⟩ => ⟨B, L, G, env, st, rl, po.then fun G1 H1 x e1 sm1 st1 rl1 p1 v rv => ⟨B, L, G1, e1, st1, rl1, p1.then fun G2 H2 xs e2 sm2 st2 rl2 p2 vs rvs => p2 G2 H2 (.refl _) st2 rl2 _ ((RepL.cons (rv.mono sm2) rvs))⟩⟩
theorem line10 {n : Nat} (h : n ≤ 1000000) : n ≤ sizeLine := by
  have : sizeLine = 16777216 := sizeLine_eq
  omega
/-! displays -/
def xLst (r : EvA) : Ev := fun env => (r env).bind fun xs e => if xs.length ≤ 1000000 then .ok (.lst xs) e else .no
def xTup (r : EvA) : Ev := fun env => (r env).bind fun xs e => if xs.length ≤ 1000000 then .ok (.tup xs) e else .no
/-- a new object -/
theorem Rel.fresh {B : Base} {L : Lk} {G H : Hp} {env : Env} {σ : L2.St} (rl : Rel K S B L G H env σ) {p : Addr} (hp : H p = none) : ∀ (i : Nat) (s : Sl), env[i]? = some s → isOwn s = true → σ[i]? ≠ some (some (V.ref p)) := fun i s h1 h2 h3 => by
  obtain ⟨x, hx, q⟩ := rel_at rl h1
  rw [h3] at hx
  cases hx
  cases s with
  | box d =>
    obtain ⟨a, o, e, _, _, e2, _⟩ := q
    cases e
    rw [hp] at e2
    cases e2
  | par d =>
    obtain ⟨a, o, e, _, e2, _⟩ := q
    cases e
    rw [hp] at e2
    cases e2
  | _ => cases h2
theorem Ste.nolock {B : Base} {L : Lk} {G H : Hp} (st : Ste B L G H) {p : Addr} (hp : H p = none) : ∀ q ∈ L, q.1 ≠ p := fun q hq e => by
  have := st.lock q hq
  rw [e, hp] at this
  cases this
/-- what a new object of one's own asks -/
theorem fresh_ok {B : Base} {L : Lk} {G H : Hp} {env : Env} {σ : L2.St} {d : D} {o : HO} {Q : VK} (st : Ste B L G H) (rl : Rel K S B L G H env σ)
    (k : ∀ G' H', Same G G' → Ste B L G' H' → Rel K S B L G' H' env σ → ∀ a o, G' a = none → B.H a = none → H' a = some o → (∀ (i : Nat) (s : Sl), env[i]? = some s → isOwn s = true → σ[i]? ≠ some (some (V.ref a))) → (∀ p ∈ L, p.1 ≠ a) → RepO K S G' d o → Q (.ref a) H')
    (r : RepO K S G d o) : ∀ p, H p = none → Q (.ref p) (upd H p o) := fun p hp => by
  have x := Ex.skip (o := o) st.inn hp
  exact k G _ (.refl _) (st.ex x) (rl.ex x) p o (st.inn.some hp) (st.free hp) upd_same (rl.fresh hp) (st.nolock hp) r
theorem qf_lst (h : QA S X E es er) : QF S X E (.List es pos) (xLst er) := pe_of (pe_lst h) fun σ H Q ⟨B, L, G, env, st, rl, po⟩ => ⟨B, L, G, env, st, rl, po.then fun G1 H1 xs e1 sm1 st1 rl1 p1 vs rv => by
  split at p1
  · rename_i hl
    exact ⟨line10 (by rw [← rv.length]; exact hl), fresh_ok st1 rl1 p1 ⟨vs, rfl, rv⟩⟩
  · exact p1.elim⟩
theorem q_lst (h : QA S X E es er) : QE S X E (.List es pos) (xLst er) := q_fr (qf_lst h)
theorem q_tup {x1} (h : QA S X E es er) : QE S X E (.Tuple es x1 pos) (xTup er) := pe_of (pe_tup h) fun σ H Q ⟨B, L, G, env, st, rl, po⟩ => ⟨B, L, G, env, st, rl, po.then fun G1 H1 xs e1 sm1 st1 rl1 p1 vs rv => by
  split at p1
  · rename_i hl
    refine ⟨line10 (by rw [← rv.length]; exact hl), fun p hp => ?_⟩
    have x := Ex.new1 (o := .tup vs) st1.inn hp
    exact p1 _ _ x.g (st1.ex x) (rl1.ex x) _ ⟨p, vs, rfl, .inl (.inl upd_same), rv.mono x.g⟩
  · exact p1.elim⟩
/-! calls of built-ins -/
def xCB (f : FC) (r : EvA) : Ev := fun env => (r env).bind fun xs e => .of (f xs) e
theorem snd_cb {f : FC} {r : List V → Hp → VK → Prop} {σ : L2.St} {H : Hp} {Q : VK} (so : SCl K S f r) (q : TD K S E (xCB f er) σ H Q) : tCB r (TAe K S E er) σ H Q := by
  obtain ⟨B, L, G, env, st, rl, po⟩ := q
  exact ⟨B, L, G, env, st, rl, po.then fun G1 H1 xs e1 sm1 st1 rl1 p1 vs rv => by
    obtain ⟨d, hd, k⟩ := p1.of st1 rl1
    exact so G1 H1 xs d vs Q st1.inn rv hd fun G' H' u ex ru => k G' H' ex u ru⟩
theorem q_callB {id : String} {x : Str} {p : Pos} {f : FC} {r : List V → Hp → VK → Prop} (hc : CallR X (.builtin id) r) (so : SCl X.K S f r) (hg : Gl X x) (hm : X.mg x = none) (hv : bootBuiltins x = some (.builtin id)) (ha : QA S X E (a :: es) er) (hn : x ≠ "__name__" := by decide) (hdb : (x == ("__debug__" : Str)) = false := by decide)
    (he : starEach (a :: es) X.env = (false, eval a X.env) :: starEach es X.env := by rfl) (hpl : (backTo pos (starEach es X.env)).any (·.1) = false := by rfl) : QE S X E (.Call (.Name x p) (a :: es) [] pos) (xCB f er) := pe_of (pe_callB hc hg hm hv ha hn hdb he hpl) fun _ _ _ q => snd_cb so q
theorem q_callTy {T : String} {x : Str} {p : Pos} {f : FC} {r : List V → Hp → VK → Prop} (hc : CallR X (.type T) r) (so : SCl X.K S f r) (hg : Gl X x) (hm : X.mg x = none) (hv : bootBuiltins x = some (.type T)) (ha : QA S X E (a :: es) er) (hn : x ≠ "__name__" := by decide) (hdb : (x == ("__debug__" : Str)) = false := by decide)
    (he : starEach (a :: es) X.env = (false, eval a X.env) :: starEach es X.env := by rfl) (hpl : (backTo pos (starEach es X.env)).any (·.1) = false := by rfl) : QE S X E (.Call (.Name x p) (a :: es) [] pos) (xCB f er) := pe_of (pe_callTy hc hg hm hv ha hn hdb he hpl) fun _ _ _ q => snd_cb so q
end
end
end Dv
namespace Dv
open PySem PySem.Spec PyProof.Rows L2
set_option autoImplicit false
noncomputable section
/-! ### defs -/
inductive Ar where
  | val (d : D) | par (d : D)
def Ar.sl : Ar → Sl
  | .val d => .val d
  | .par d => .par d
def Ar.own : Ar → Bool
  | .par _ => true
  | _ => false
inductive FRes where
  | ok (d : D) (p : Option D)
  | ex (C : Nat) (fs : List (Str × D)) (p : Option D)
  | no
abbrev Fn := List Ar → FRes
section
variable (K : PySem.W.Frag) (S : Nat → Addr) (E : XK)
def ArOk (G H : Hp) (r : Option Addr) : Ar → V → Prop
  | .val d, v => Rep K S G d v
  | .par d, v => ∃ a o, v = .ref a ∧ r = some a ∧ H a = some o ∧ RepO K S G d o
structure Fin (G H : Hp) (r : Option Addr) (G' H' : Hp) : Prop where
  g : Same G G'
  inn : Inn G' H'
  new : ∀ a, G' a ≠ none → G a = none → H a = none
  keep : ∀ a o, H a = some o → r ≠ some a → H' a = some o
def ParOk (r : Option Addr) (p : Option D) (G' H' : Hp) : Prop := ∀ d, p = some d → ∃ a o, r = some a ∧ H' a = some o ∧ RepO K S G' d o
def FPost (fr : Bool) (G H : Hp) (r : Option Addr) (Q : VK) : FRes → Prop
  | .ok d p => ∀ G' H', Fin G H r G' H' → ParOk K S r p G' H' → if fr = true then ∀ a o, H a = none → G' a = none → H' a = some o → RepO K S G' d o → Q (.ref a) H' else ∀ v, Rep K S G' d v → Q v H'
  | .ex C fs p => ∀ od G' H', Fin G H r G' H' → ParOk K S r p G' H' → XD K S G' H' fs od → E (Value.ref (S C)) od H'
  | .no => False
def ownN (as : List Ar) : Nat := (as.filter Ar.own).length
structure ArgsOk (G H : Hp) (r : Option Addr) (as : List Ar) (vs : List V) : Prop where
  at_ : Paired (ArOk K S G H r) as vs
  one : ownN as ≤ 1
  par : ∀ a, r = some a → G a = none ∧ H a ≠ none ∧ 1 ≤ ownN as
/-- a def's promise: g tells what comes out; fr: a new object that nobody else has -/
def spD (fr : Bool) (n : Nat) (g : Fn) : Sp := fun vs H Q E => ∃ (G : Hp) (as : List Ar) (r : Option Addr), Inn G H ∧ ArgsOk K S G H r as vs ∧ as.length = n ∧ FPost K S E fr G H r Q (g as)
theorem spD_len {fr : Bool} {n : Nat} {g : Fn} {vs : List V} {H : Hp} {Q : VK} (h : spD K S fr n g vs H Q E) : vs.length = n := by
  obtain ⟨G, as, r, _, ok, hl, _⟩ := h
  rw [← hl, paired_len ok.at_]
end
section
variable {K : PySem.W.Frag} {S : Nat → Addr} {E : XK} {B : Base} {L : Lk} {G H G' H' : Hp} {env : Env} {σ : L2.St} {r : Option Addr}
/-- the callee's end, for the caller -/
theorem Ste.fin (st : Ste B L G H) (rl : Rel K S B L G H env σ) (f : Fin G H r G' H') (hr : ∀ a, r = some a → (∃ (i : Nat) (s : Sl), env[i]? = some s ∧ isOwn s = true ∧ σ[i]? = some (some (V.ref a))) ∧ H' a ≠ none) : Ste B L G' H' := by
  have hb : ∀ a, r = some a → B.H a = none ∨ B.r = some a := fun a e => by
    obtain ⟨⟨i, s, h1, h2, h3⟩, _⟩ := hr a e
    obtain ⟨x, hx, q⟩ := rel_at rl h1
    rw [h3] at hx
    cases hx
    cases s with
    | box d => obtain ⟨a', o, e1, _, b, _⟩ := q; cases e1; exact .inl b
    | par d => obtain ⟨a', o, e1, b, _⟩ := q; cases e1; exact .inr b
    | _ => cases h2
  have hL : ∀ a, r = some a → ∀ p ∈ L, p.1 ≠ a := fun a e => by
    obtain ⟨⟨i, s, h1, h2, h3⟩, _⟩ := hr a e
    exact rl.nl i s a h1 h2 h3
  refine ⟨st.g0.trans f.g, f.inn, fun a h e => ?_, fun a o e hr' hl => ?_, fun p hp => ?_, fun a e => ?_, fun p hp hf => ?_⟩
  · by_cases q : G a = none
    · exact st.free (f.new a h q)
    · exact st.new a q e
  · refine f.keep a o (st.keep a o e hr' hl) fun q => ?_
    rcases hb a q with h | h
    · rw [e] at h; cases h
    · exact hr' h
  · exact f.keep _ _ (st.lock p hp) fun q => hL _ q p hp rfl
  · obtain ⟨h1, h2, h3, h4⟩ := st.par a e
    refine ⟨?_, ?_, h3, h4⟩
    · cases q : G' a with
      | none => rfl
      | some o => exact (h2 (f.new a (by rw [q]; intro e; cases e) h1)).elim
    · by_cases q : r = some a
      · exact (hr a q).2
      · cases q2 : H a with
        | none => exact (h2 q2).elim
        | some o => rw [f.keep a o q2 q]; intro e; cases e
  · have h1 := st.out p hp hf
    cases q : G' p.1 with
    | none => rfl
    | some o =>
      have := f.new p.1 (by rw [q]; intro e; cases e) h1
      rw [st.lock p hp] at this
      cases this
theorem SlOk.fin {s : Sl} {x : Option V} (h : SlOk K S B G H s x) (f : Fin G H r G' H') (hn : isOwn s = true → ∀ a, x = some (V.ref a) → r ≠ some a) : SlOk K S B G' H' s x := by
  cases s with
  | no => trivial
  | val d => obtain ⟨v, e, q⟩ := h; exact ⟨v, e, q.mono f.g⟩
  | box d =>
    obtain ⟨a, o, e, g, b, e2, q⟩ := h
    refine ⟨a, o, e, ?_, b, f.keep _ _ e2 (hn rfl a e), q.mono f.g⟩
    cases q2 : G' a with
    | none => rfl
    | some u =>
      have := f.new a (by rw [q2]; intro e; cases e) g
      rw [e2] at this
      cases this
  | par d =>
    obtain ⟨a, o, e, b, e2, q⟩ := h
    exact ⟨a, o, e, b, f.keep _ _ e2 (hn rfl a e), q.mono f.g⟩
theorem Rel.fin0 (rl : Rel K S B L G H env σ) (f : Fin G H none G' H') : Rel K S B L G' H' env σ := ⟨L2.Paired.mapP rl.at_ fun _ _ q => q.fin f (fun _ _ _ e => by cases e), rl.nd, rl.nl⟩
/-- the slot's new content -/
def putSl (s : Sl) (d : D) : Sl := match s with
  | .box _ => .box d
  | .par _ => .par d
  | s => s
theorem own_put {s : Sl} {d : D} : isOwn (putSl s d) = isOwn s := by cases s <;> rfl
theorem Rel.fin1 (rl : Rel K S B L G H env σ) {a : Addr} {i : Nat} {s : Sl} {d : D} {o : HO} (f : Fin G H (some a) G' H') (hi : env[i]? = some s) (hs : isOwn s = true) (hx : σ[i]? = some (some (V.ref a))) (ha : H' a = some o) (ho : RepO K S G' d o) : Rel K S B L G' H' (env.set i (putSl s d)) σ := by
  refine ⟨paired_of (by rw [List.length_set]; exact paired_len rl.at_) fun j t x h1 h2 => ?_, fun j k t u v hjk h1 h2 o1 o2 q => ?_, fun j t v h1 o1 q => ?_⟩
  · rcases set_at h1 with ⟨rfl, rfl⟩ | ⟨hj, h1⟩
    · rw [hx] at h2
      cases h2
      obtain ⟨y, hy, q⟩ := rel_at rl hi
      rw [hx] at hy
      cases hy
      cases s with
      | box d' =>
        obtain ⟨a', o', e, g, b, e2, _⟩ := q
        cases e
        refine ⟨a, o, rfl, ?_, b, ha, ho⟩
        cases q2 : G' a with
        | none => rfl
        | some u =>
          have := f.new a (by rw [q2]; intro e; cases e) g
          rw [e2] at this
          cases this
      | par d' =>
        obtain ⟨a', o', e, b, e2, _⟩ := q
        cases e
        exact ⟨a, o, rfl, b, ha, ho⟩
      | _ => cases hs
    · obtain ⟨y, hy, q⟩ := rel_at rl h1
      rw [h2] at hy
      cases hy
      exact q.fin f fun o1 b e1 e2 => by
        cases e2
        exact rl.nd i j s t a (fun e => hj e.symm) hi h1 hs o1 hx (by rw [h2, e1])
  · have h1' : ∃ t', env[j]? = some t' ∧ isOwn t' = true := by
      rcases set_at h1 with ⟨rfl, rfl⟩ | ⟨hj, h1⟩
      · exact ⟨s, hi, hs⟩
      · exact ⟨t, h1, o1⟩
    have h2' : ∃ t', env[k]? = some t' ∧ isOwn t' = true := by
      rcases set_at h2 with ⟨rfl, rfl⟩ | ⟨hj, h2⟩
      · exact ⟨s, hi, hs⟩
      · exact ⟨u, h2, o2⟩
    obtain ⟨t', e1, e2⟩ := h1'
    obtain ⟨u', e3, e4⟩ := h2'
    exact rl.nd j k t' u' v hjk e1 e3 e2 e4 q
  · have h1' : ∃ t', env[j]? = some t' ∧ isOwn t' = true := by
      rcases set_at h1 with ⟨rfl, rfl⟩ | ⟨hj, h1⟩
      · exact ⟨s, hi, hs⟩
      · exact ⟨t, h1, o1⟩
    obtain ⟨t', e1, e2⟩ := h1'
    exact rl.nl j t' v e1 e2 q
end
/-! ### arguments: values, and slots of one's own -/
inductive Ag where
  | v (d : D) | s (i : Nat)
abbrev EvG' := Env → Res (List Ag)
def resv (as : List Ag) (env : Env) : Option (List Ar) := match as with
  | [] => some []
  | .v d :: r => (resv r env).map (Ar.val d :: ·)
  | .s i :: r => match env[i]? with
    | some (.box d) => (resv r env).map (Ar.par d :: ·)
    | some (.par d) => (resv r env).map (Ar.par d :: ·)
    | _ => none
def slotOf (as : List Ag) : List Nat := match as with
  | [] => []
  | .v _ :: r => slotOf r
  | .s i :: r => i :: slotOf r
/-- the run of a call -/
def callG (g : Fn) (as : List Ag) (env : Env) : Res D := match resv as env with
  | none => .no
  | some args => match slotOf as with
    | [] => match g args with
      | .ok d _ => .ok d env
      | .ex C fs _ => .ex C fs env
      | .no => .no
    | [i] => match env[i]? with
      | some s => match g args with
        | .ok d (some p) => .ok d (env.set i (putSl s p))
        | .ex C fs (some p) => .ex C fs (env.set i (putSl s p))
        | _ => .no
      | none => .no
    | _ => .no
section
variable (K : PySem.W.Frag) (S : Nat → Addr)
def AgOk (G : Hp) (σ : L2.St) : Ag → V → Prop
  | .v d, v => Rep K S G d v
  | .s i, v => σ[i]? = some (some v)
end
section
variable {K : PySem.W.Frag} {S : Nat → Addr} {E : XK} {B : Base} {L : Lk} {G H : Hp} {env : Env} {σ : L2.St}
theorem resv_none : ∀ {as : List Ag} {args : List Ar} {vs : List V}, resv as env = some args → slotOf as = [] → Paired (AgOk K S G σ) as vs → Paired (ArOk K S G H none) args vs ∧ ownN args = 0
  | [], _, _, e, _, .nil => by cases e; exact ⟨.nil, rfl⟩
  | .v d :: r, _, _, e, h, .cons q t => by
    have e : (resv r env).map (Ar.val d :: ·) = some _ := e
    cases hr : resv r env with
    | none => rw [hr] at e; cases e
    | some args =>
      rw [hr] at e
      cases e
      obtain ⟨a, b⟩ := resv_none hr h t
      exact ⟨.cons q a, b⟩
  | .s i :: r, _, _, _, h, _ => by cases h
theorem resv_one (rl : Rel K S B L G H env σ) : ∀ {as : List Ag} {args : List Ar} {vs : List V} {i : Nat}, resv as env = some args → slotOf as = [i] → Paired (AgOk K S G σ) as vs →
    ∃ a s, σ[i]? = some (some (V.ref a)) ∧ env[i]? = some s ∧ isOwn s = true ∧ Paired (ArOk K S G H (some a)) args vs ∧ ownN args = 1
  | [], _, _, _, _, h, _ => by cases h
  | .v d :: r, _, _, i, e, h, .cons q t => by
    have e : (resv r env).map (Ar.val d :: ·) = some _ := e
    cases hr : resv r env with
    | none => rw [hr] at e; cases e
    | some args =>
      rw [hr] at e
      cases e
      obtain ⟨a, s, h1, h2, h3, h4, h5⟩ := resv_one rl hr h t
      exact ⟨a, s, h1, h2, h3, .cons q h4, h5⟩
  | .s j :: r, _, _, i, e, h, .cons (b := v) q t => by
    have h : j :: slotOf r = [i] := h
    injection h with h1 h2
    subst h1
    have q : σ[j]? = some (some v) := q
    have e : (match env[j]? with
      | some (.box d) => (resv r env).map (Ar.par d :: ·)
      | some (.par d) => (resv r env).map (Ar.par d :: ·)
      | _ => none) = some _ := e
    cases hr : resv r env with
    | none => rw [hr] at e; split at e <;> cases e
    | some args =>
      rw [hr] at e
      split at e
      · rename_i d hd
        cases e
        obtain ⟨x, hx, a, o, rfl, g, b, ha, ho⟩ := rel_at rl hd
        rw [q] at hx
        cases hx
        obtain ⟨t1, t2⟩ := resv_none (H := H) hr h2 t
        refine ⟨a, _, q, hd, rfl, .cons ⟨a, o, rfl, rfl, ha, ho⟩ (L2.Paired.mapP t1 fun x y z => ?_), ?_⟩
        · cases x with
          | val d => exact z
          | par d => obtain ⟨a', o', _, e, _⟩ := z; cases e
        · show (List.filter Ar.own (Ar.par d :: args)).length = 1
          have t2 : (List.filter Ar.own args).length = 0 := t2
          rw [List.filter_cons_of_pos rfl, List.length_cons, t2]
      · rename_i d hd
        cases e
        obtain ⟨x, hx, a, o, rfl, b, ha, ho⟩ := rel_at rl hd
        rw [q] at hx
        cases hx
        obtain ⟨t1, t2⟩ := resv_none (H := H) hr h2 t
        refine ⟨a, _, q, hd, rfl, .cons ⟨a, o, rfl, rfl, ha, ho⟩ (L2.Paired.mapP t1 fun x y z => ?_), ?_⟩
        · cases x with
          | val d => exact z
          | par d => obtain ⟨a', o', _, e, _⟩ := z; cases e
        · show (List.filter Ar.own (Ar.par d :: args)).length = 1
          have t2 : (List.filter Ar.own args).length = 0 := t2
          rw [List.filter_cons_of_pos rfl, List.length_cons, t2]
      · cases e
theorem own_free (st : Ste B L G H) (rl : Rel K S B L G H env σ) {i : Nat} {s : Sl} {a : Addr} (h1 : env[i]? = some s) (h2 : isOwn s = true) (h3 : σ[i]? = some (some (V.ref a))) : G a = none ∧ H a ≠ none := by
  obtain ⟨x, hx, q⟩ := rel_at rl h1
  rw [h3] at hx
  cases hx
  cases s with
  | box d => obtain ⟨a', o, e, g, _, ha, _⟩ := q; cases e; exact ⟨g, by rw [ha]; intro e; cases e⟩
  | par d => obtain ⟨a', o, e, g, ha, _⟩ := q; cases e; exact ⟨(st.par a g).1, by rw [ha]; intro e; cases e⟩
  | _ => cases h2
theorem resv_len : ∀ {as : List Ag} {args : List Ar}, resv as env = some args → args.length = as.length
  | [], _, e => by cases e; rfl
  | .v d :: r, args, e => by
    have e : (resv r env).map (Ar.val d :: ·) = some args := e
    cases hr : resv r env with
    | none => rw [hr] at e; cases e
    | some z => rw [hr] at e; cases e; rw [List.length_cons, List.length_cons, resv_len hr]
  | .s i :: r, args, e => by
    have e : (match env[i]? with
      | some (.box d) => (resv r env).map (Ar.par d :: ·)
      | some (.par d) => (resv r env).map (Ar.par d :: ·)
      | _ => none) = some args := e
    cases hr : resv r env with
    | none => rw [hr] at e; split at e <;> cases e
    | some z => rw [hr] at e; split at e <;> first | (cases e; done) | (cases e; rw [List.length_cons, List.length_cons, resv_len hr])
/-- a call meets the callee's promise -/
theorem call_ok {g : Fn} {fr : Bool} {n : Nat} {as : List Ag} {vs : List V} {Q : VK} (st : Ste B L G H) (rl : Rel K S B L G H env σ) (ra : Paired (AgOk K S G σ) as vs) (hn : as.length = n)
    {P : Hp → Hp → D → Env → Prop} (p : Post K S E B L σ G P (callG g as env))
    (hP : ∀ G' H' d e, (∀ (j : Nat) (s : Sl), e[j]? = some s → isOwn s = true → ∃ s', env[j]? = some s' ∧ isOwn s' = true) → Ste B L G' H' → Rel K S B L G' H' e σ → P G' H' d e → if fr = true then ∀ a o, H a = none → G' a = none → H' a = some o → RepO K S G' d o → Q (.ref a) H' else ∀ v, Rep K S G' d v → Q v H') : spD K S fr n g vs H Q E := by
  unfold callG at p
  split at p
  · exact p.elim
  · rename_i args hres
    have hlen : args.length = n := by rw [resv_len hres, hn]
    split at p
    · rename_i hsl
      obtain ⟨t1, t2⟩ := resv_none (H := H) hres hsl ra
      refine ⟨G, args, none, st.inn, ⟨t1, by omega, fun a e => by cases e⟩, hlen, ?_⟩
      split at p
      · rename_i d pp hg
        rw [hg]
        intro G' H' f _
        have st' := st.fin rl f fun a e => by cases e
        have rl' := rl.fin0 f
        exact hP G' H' d env (fun j s h1 h2 => ⟨s, h1, h2⟩) st' rl' (p G' H' f.g st' rl')
      · rename_i C fs pp hg
        rw [hg]
        intro od G' H' f _ x
        exact p od G' H' f.g (st.fin rl f fun a e => by cases e) (rl.fin0 f) x
      · exact p.elim
    · rename_i i hsl
      obtain ⟨a, s, h1, h2, h3, h4, h5⟩ := resv_one rl hres hsl ra
      obtain ⟨ga, ha⟩ := own_free st rl h2 h3 h1
      rw [h2] at p
      refine ⟨G, args, some a, st.inn, ⟨h4, by omega, fun b e => by cases e; exact ⟨ga, ha, by omega⟩⟩, hlen, ?_⟩
      dsimp only at p
      split at p
      · rename_i d pp hg
        rw [hg]
        intro G' H' f po
        obtain ⟨b, o, e, hb, ho⟩ := po pp rfl
        cases e
        have st' := st.fin rl f fun b e => by cases e; exact ⟨⟨i, s, h2, h3, h1⟩, by rw [hb]; intro e; cases e⟩
        have rl' := rl.fin1 f h2 h3 h1 hb ho
        exact hP G' H' d _ (fun j t e1 e2 => by
          rcases set_at e1 with ⟨rfl, rfl⟩ | ⟨_, e1⟩
          · exact ⟨s, h2, h3⟩
          · exact ⟨t, e1, e2⟩) st' rl' (p G' H' f.g st' rl')
      · rename_i C fs pp hg
        rw [hg]
        intro od G' H' f po x
        obtain ⟨b, o, e, hb, ho⟩ := po pp rfl
        cases e
        exact p od G' H' f.g (st.fin rl f fun b e => by cases e; exact ⟨⟨i, s, h2, h3, h1⟩, by rw [hb]; intro e; cases e⟩) (rl.fin1 f h2 h3 h1 hb ho) x
      · exact p.elim
    · exact p.elim
end
end
end Dv
namespace Dv
open PySem PySem.Spec PyProof.Rows L2
set_option autoImplicit false
noncomputable section
section
variable {S : Nat → Addr} {X : Cx} {E : XK} {a b c e o : Expr} {es : List Expr} {ea eb ec ee eo : Ev} {pos apos p : Pos} {CX : CXT} {k : Nat} {f C : Addr} {fd : FuncData} {ps : List Str} {fr : Bool} {n : Nat} {g : Fn} {x m : Str}
abbrev TAg (K : PySem.W.Frag) (S : Nat → Addr) (E : XK) (f : EvG') : TA := Tx K S E (fun G σ d v => Paired (AgOk K S G σ) d v) f
abbrev QG (S : Nat → Addr) (X : Cx) (E : XK) (es : List Expr) (f : EvG') : Prop := PA X es (TAg X.K S E f)
def gNil : EvG' := fun env => .ok [] env
def gVal (a : Ev) (r : EvG') : EvG' := fun env => (a env).bind fun x e1 => (r e1).bind fun xs e2 => .ok (.v x :: xs) e2
def gSlot (i : Nat) (r : EvG') : EvG' := fun env => match env[i]? with
  | some s => if isOwn s = true then (r env).bind fun xs e2 => .ok (.s i :: xs) e2 else .no
  | none => .no
variable {eg : EvG'}
theorem AgOk.mono {K : PySem.W.Frag} {G G' : Hp} {σ : L2.St} (h : Same G G') {x : Ag} {v : V} (r : AgOk K S G σ x v) : AgOk K S G' σ x v := by
  cases x with
  | v d => exact Rep.mono h r
  | s i => exact r
theorem g_nil : QG S X E [] gNil := pa_of pa_nil fun σ H Q ⟨B, L, G, env, st, rl, po⟩ => po G H (.refl _) st rl [] .nil
theorem g_val (ha : QE S X E a ea) (hr : QG S X E es eg) (hs : starEach (a :: es) X.env = (false, eval a X.env) :: starEach es X.env := by rfl) : QG S X E (a :: es) (gVal ea eg) := pa_of (pa_cons ha hr hs) fun σ H Q ⟨B, L, G, env, st, rl, po⟩ => ⟨B, L, G, env, st, rl, po.then fun G1 H1 x e1 sm1 st1 rl1 p1 v rv => ⟨B, L, G1, e1, st1, rl1, p1.then fun G2 H2 xs e2 sm2 st2 rl2 p2 vs rvs => p2 G2 H2 (.refl _) st2 rl2 _ (.cons (rv.mono sm2) rvs)⟩⟩
theorem own_at {K : PySem.W.Frag} {B : Base} {L : Lk} {G H : Hp} {env : Env} {σ : L2.St} {i : Nat} {s : Sl} (rl : Rel K S B L G H env σ) (h : env[i]? = some s) (ho : isOwn s = true) : ∃ a, σ[i]? = some (some (V.ref a)) := by
  obtain ⟨x, hx, q⟩ := rel_at rl h
  cases s with
  | box d => obtain ⟨a, o, rfl, _⟩ := q; exact ⟨a, hx⟩
  | par d => obtain ⟨a, o, rfl, _⟩ := q; exact ⟨a, hx⟩
  | _ => cases ho
theorem g_slot {i : Nat} (ha : PE X a (tVar i)) (hr : QG S X E es eg) (hs : starEach (a :: es) X.env = (false, eval a X.env) :: starEach es X.env := by rfl) : QG S X E (a :: es) (gSlot i eg) := pa_of (pa_cons ha hr hs) fun σ H Q ⟨B, L, G, env, st, rl, po⟩ => by
  unfold gSlot at po
  split at po
  · rename_i s hs
    split at po
    · rename_i ho
      obtain ⟨p, hp⟩ := own_at rl hs ho
      exact ⟨_, hp, B, L, G, env, st, rl, po.then fun G2 H2 xs e2 sm2 st2 rl2 p2 vs rvs => p2 G2 H2 (.refl _) st2 rl2 _ (.cons hp rvs)⟩
    · exact po.elim
  · exact po.elim
/-! ### calls -/
def xCall (n : Nat) (g : Fn) (r : EvG') : Ev := fun env => (r env).bind fun as e => if as.length = n then callG g as e else .no
theorem len_of {K : PySem.W.Frag} {E : XK} {B : Base} {L : Lk} {G : Hp} {σ : L2.St} {P : Hp → Hp → D → Env → Prop} {as : List Ag} {e : Env} {n : Nat} {g : Fn} (p : Post K S E B L σ G P (if as.length = n then callG g as e else .no)) : as.length = n ∧ Post K S E B L σ G P (callG g as e) := by
  by_cases h : as.length = n
  · rw [if_pos h] at p; exact ⟨h, p⟩
  · rw [if_neg h] at p; exact p.elim
theorem snd_call {K : PySem.W.Frag} {σ : L2.St} {H : Hp} {Q : VK} (q : TD K S E (xCall n g eg) σ H Q) : tCall (spD K S false n g) [] E (TAg K S E eg) σ H Q := by
  obtain ⟨B, L, G, env, st, rl, po⟩ := q
  refine ⟨B, L, G, env, st, rl, po.then fun G1 H1 as e1 sm1 st1 rl1 p1 vs rv => ?_⟩
  obtain ⟨hn, p1⟩ := len_of p1
  rw [List.append_nil]
  exact call_ok st1 rl1 rv hn p1 fun G' H' d e _ _ _ h => h
theorem sndf_call {K : PySem.W.Frag} {σ : L2.St} {H : Hp} {Q : VK} (q : TF K S E (xCall n g eg) σ H Q) : tCall (spD K S true n g) [] E (TAg K S E eg) σ H Q := by
  obtain ⟨B, L, G, env, st, rl, po⟩ := q
  refine ⟨B, L, G, env, st, rl, po.then fun G1 H1 as e1 sm1 st1 rl1 p1 vs rv => ?_⟩
  obtain ⟨hn, p1⟩ := len_of p1
  rw [List.append_nil]
  refine call_ok st1 rl1 rv hn p1 fun G' H' d e hown st' rl' h => ?_
  rw [if_pos rfl]
  intro q o hq gq hq' r
  refine h q o gq (st1.free hq) hq' (fun i s h1 h2 h3 => ?_) (st1.nolock hq) r
  -- the slots' addresses were there ahead of the call
  obtain ⟨s', e1, e2⟩ := hown i s h1 h2
  exact rl1.fresh hq i s' e1 e2 h3

theorem q_call (F : FnOk X.prog X.w X.K X.mg X.base CX k f fd ps (spD X.K S false n g)) (hr : Room k X.A) (hg : Gl X x) (hm : X.mg x = some (.ref f)) (hk : PySem.W.keepIn X.K (.ref f) = true) (hb : Binds X.K fd ps []) (hx : Passes CX X E)
    (ha : QG S X E (e :: es) eg) (hdb : (x == ("__debug__" : Str)) = false := by decide) (he : starEach (e :: es) X.env = (false, eval e X.env) :: starEach es X.env := by rfl) (hpl : (backTo pos (starEach es X.env)).any (·.1) = false := by rfl) :
    QE S X E (.Call (.Name x p) (e :: es) [] pos) (xCall n g eg) := pe_of (pe_call F hr hg hm hk hb .nil hx ha hdb he hpl) fun _ _ _ q => snd_call q
theorem qf_call (F : FnOk X.prog X.w X.K X.mg X.base CX k f fd ps (spD X.K S true n g)) (hr : Room k X.A) (hg : Gl X x) (hm : X.mg x = some (.ref f)) (hk : PySem.W.keepIn X.K (.ref f) = true) (hb : Binds X.K fd ps []) (hx : Passes CX X E)
    (ha : QG S X E (e :: es) eg) (hdb : (x == ("__debug__" : Str)) = false := by decide) (he : starEach (e :: es) X.env = (false, eval e X.env) :: starEach es X.env := by rfl) (hpl : (backTo pos (starEach es X.env)).any (·.1) = false := by rfl) :
    QF S X E (.Call (.Name x p) (e :: es) [] pos) (xCall n g eg) := pe_of (pe_call F hr hg hm hk hb .nil hx ha hdb he hpl) fun _ _ _ q => sndf_call q
theorem tnil {K : PySem.W.Frag} {σ : L2.St} {H : Hp} {Q : List V → Hp → Prop} (q : TAg K S E gNil σ H Q) : tNil σ H Q := by
  obtain ⟨B, L, G, env, st, rl, po⟩ := q
  exact po G H (.refl _) st rl [] .nil
theorem q_call0 (F : FnOk X.prog X.w X.K X.mg X.base CX k f fd ps (spD X.K S false n g)) (hr : Room k X.A) (hg : Gl X x) (hm : X.mg x = some (.ref f)) (hk : PySem.W.keepIn X.K (.ref f) = true) (hb : Binds X.K fd ps []) (hx : Passes CX X E)
    (hdb : (x == ("__debug__" : Str)) = false := by decide) : QE S X E (.Call (.Name x p) [] [] pos) (xCall n g gNil) := pe_of (pe_call0 F hr hg hm hk hb .nil hx hdb) fun σ H Q q => tnil (snd_call q)
theorem qf_call0 (F : FnOk X.prog X.w X.K X.mg X.base CX k f fd ps (spD X.K S true n g)) (hr : Room k X.A) (hg : Gl X x) (hm : X.mg x = some (.ref f)) (hk : PySem.W.keepIn X.K (.ref f) = true) (hb : Binds X.K fd ps []) (hx : Passes CX X E)
    (hdb : (x == ("__debug__" : Str)) = false := by decide) : QF S X E (.Call (.Name x p) [] [] pos) (xCall n g gNil) := pe_of (pe_call0 F hr hg hm hk hb .nil hx hdb) fun σ H Q q => tnil (sndf_call q)
/-! ### C(..) -/
def xMake (ci n : Nat) (dcs : List D) (g : Fn) (r : EvA) : Ev := fun env => (r env).bind fun xs e => if xs.length + 1 + dcs.length = n then match g (.par (.ins ci []) :: (xs ++ dcs).map Ar.val) with
  | .ok .non (some p) => .ok p e
  | .ex C fs _ => .ex C fs e
  | _ => .no else .no
theorem args_vals {K : PySem.W.Frag} {G H : Hp} {r : Option Addr} : ∀ {xs : List D} {vs : List V}, RepL K S G xs vs → Paired (ArOk K S G H r) (xs.map Ar.val) vs
  | [], _, h => by cases h; exact .nil
  | x :: xs, _, ⟨v, ws, e, q, t⟩ => by subst e; exact .cons q (args_vals t)
theorem own_vals : ∀ xs : List D, ownN (xs.map Ar.val) = 0
  | [] => rfl
  | x :: xs => own_vals xs
theorem sndf_make {K : PySem.W.Frag} {ci : Nat} {dcs : List D} {dvs : List V} {er : EvA} {σ : L2.St} {H : Hp} {Q : VK} (hd : ∀ G, RepL K S G dcs dvs) (q : TF K S E (xMake ci n dcs g er) σ H Q) : tMake (S ci) (spD K S false n g) dvs E (TAe K S E er) σ H Q := by
  obtain ⟨B, L, G, env, st, rl, po⟩ := q
  refine ⟨B, L, G, env, st, rl, po.then fun G1 H1 xs e1 sm1 st1 rl1 p1 vs rv => ?_⟩
  intro x dx hx hdx hne
  by_cases hn : xs.length + 1 + dcs.length = n
  · rw [if_pos hn] at p1
    have h2 : Same H1 (upd (upd H1 dx (.own x)) x (.ins (S ci) dx [])) := (same_upd hdx).trans (same_upd (by rw [upd_ne (Ne.symm hne)]; exact hx))
    have gx : G1 x = none := st1.inn.some hx
    have key : ∀ (G' H' : Hp), Fin G1 (upd (upd H1 dx (.own x)) x (.ins (S ci) dx [])) (some x) G' H' → Ste B L G' H' ∧ Rel K S B L G' H' e1 σ ∧ G' x = none := fun G' H' f => by
      have ex : Ex G1 H1 G1 (upd (upd H1 dx (.own x)) x (.ins (S ci) dx [])) := Ex.same st1.inn h2
      have hx' : ∀ a o, H1 a = some o → some x ≠ some a := fun a o e q => by cases q; rw [hx] at e; cases e
      have ex2 : Ex G1 H1 _ _ := ⟨f.g, fun a o e => f.keep a o (h2 a o e) (hx' a o e), f.inn, fun a h1 h3 => h2.free (f.new a h1 h3)⟩
      refine ⟨st1.ex ex2, rl1.ex ex2, ?_⟩
      cases q : G' x with
      | none => rfl
      | some u =>
        have := f.new x (by rw [q]; intro e; cases e) gx
        rw [upd_same] at this
        cases this
    refine ⟨G1, .par (.ins ci []) :: (xs ++ dcs).map Ar.val, some x, st1.inn.up h2, ⟨.cons ⟨x, _, rfl, rfl, upd_same, dx, [], rfl, rfl⟩ (args_vals (rv.app (hd _))), ?_, fun a e => by cases e; exact ⟨gx, (by rw [upd_same]; intro e; cases e), (by show 1 ≤ (List.filter Ar.own (Ar.par (.ins ci []) :: (xs ++ dcs).map Ar.val)).length; rw [List.filter_cons_of_pos rfl, List.length_cons]; omega)⟩⟩, ?_, ?_⟩
    · show (List.filter Ar.own (Ar.par (.ins ci []) :: (xs ++ dcs).map Ar.val)).length ≤ 1
      rw [List.filter_cons_of_pos rfl, List.length_cons]
      have : (List.filter Ar.own ((xs ++ dcs).map Ar.val)).length = 0 := own_vals _
      omega
    · rw [List.length_cons, List.length_map, List.length_append]; omega
    · split at p1
      · rename_i pp hg
        rw [hg]
        intro G' H' f po
        rw [if_neg (by decide)]
        intro v rv'
        cases rv'
        obtain ⟨b, o, e, hb, ho⟩ := po pp rfl
        cases e
        obtain ⟨s1, s2, s3⟩ := key _ _ f
        exact ⟨rfl, p1 G' H' f.g s1 s2 x o s3 (st1.free hx) hb (rl1.fresh hx) (st1.nolock hx) ho⟩
      · rename_i C fs pp hg
        rw [hg]
        intro od G' H' f _ xd
        obtain ⟨s1, s2, s3⟩ := key _ _ f
        exact p1 od G' H' f.g s1 s2 xd
      · exact p1.elim
  · rw [if_neg hn] at p1
    exact p1.elim
theorem qf_make {ci : Nat} {dcs : List D} {dvs : List V} {ds : List Value} {er : EvA} (hd : ∀ G, RepL X.K S G dcs dvs) (M : Mk X.K (S ci) f) (F : FnOk X.prog X.w X.K X.mg X.base CX k f fd ps (spD X.K S false n g)) (hr : Room (k + 1) X.A) (hg : Gl X x) (hm : X.mg x = some (.ref (S ci))) (hb : Binds X.K fd ps ds) (hdv : Vals dvs ds) (hx : Passes CX X E)
    (ha : QA S X E (e :: es) er) (hdb : (x == ("__debug__" : Str)) = false := by decide) (he : starEach (e :: es) X.env = (false, eval e X.env) :: starEach es X.env := by rfl) (hpl : (backTo pos (starEach es X.env)).any (·.1) = false := by rfl) :
    QF S X E (.Call (.Name x p) (e :: es) [] pos) (xMake ci n dcs g er) := pe_of (pe_make M F hr hg hm hb hdv hx ha hdb he hpl) fun _ _ _ q => sndf_make hd q
theorem qf_make0 {ci : Nat} {dcs : List D} {dvs : List V} {ds : List Value} (hd : ∀ G, RepL X.K S G dcs dvs) (M : Mk X.K (S ci) f) (F : FnOk X.prog X.w X.K X.mg X.base CX k f fd ps (spD X.K S false n g)) (hr : Room (k + 1) X.A) (hg : Gl X x) (hm : X.mg x = some (.ref (S ci))) (hb : Binds X.K fd ps ds) (hdv : Vals dvs ds) (hx : Passes CX X E)
    (hdb : (x == ("__debug__" : Str)) = false := by decide) :
    QF S X E (.Call (.Name x p) [] [] pos) (xMake ci n dcs g xNil) := pe_of (pe_make0 M F hr hg hm hb hdv hx hdb) fun σ H Q q => by
  have := sndf_make hd q
  obtain ⟨B, L, G, env, st, rl, po⟩ := this
  exact po G H (.refl _) st rl [] rfl
/-! ### methods, by the receiver's class -/
def tMD (G : Addr → Addr → Sp → Prop) (m : Str) (E : XK) (ta : TE) (t : TA) : TE := fun σ H Q => ta σ H fun x H1 => ∃ a C dx fs f sp, x = .ref a ∧ H1 a = some (.ins C dx fs) ∧ fs.lookup m = none ∧ G C f sp ∧ t σ H1 fun vs H2 => sp (x :: vs) H2 Q E
def MG (X : Cx) (CX : CXT) (k : Nat) (m : Str) (G : Addr → Addr → Sp → Prop) : Prop := ∀ C f sp, G C f sp → Cls X.K C ∧ Meth X.K C m f ∧ ∃ fd ps, FnOk X.prog X.w X.K X.mg X.base CX k f fd ps sp ∧ Binds X.K fd ps []
theorem pe_methD {G : Addr → Addr → Sp → Prop} {ta : TE} {t : TA} {pl : Sem Bool} {E' : XK} (he : PE X o ta) (hG : MG X CX k m G) (hr : Room k X.A) (hx : Passes CX X E') (ha : PA X (e :: es) t)
    (hst : starEach (e :: es) X.env = (false, eval e X.env) :: starEach es X.env := by rfl) (hpl : (backTo pos (starEach es X.env)).any (·.1) = false := by rfl)
    (ht : eval (.Call (.Attribute o m apos) (e :: es) [] pos) X.env = (do
      let ov ← eval o X.env
      standAt apos.atName
      let (f, first) ← holding [ov] (getMethod ov m pl)
      callWith pos f first (backTo pos (starEach (e :: es) X.env)) (backToKw pos (keywordEach [] X.env))) := by rfl) :
    PE X (.Call (.Attribute o m apos) (e :: es) [] pos) (tMD G m E' ta t) := by
  refine ⟨fun pins s σ H Q I h => ?_⟩
  refine PySem.W.methodCall_KW (pl := pl) (thn (he.run pins s σ H _ I h) fun u s1 ⟨x, H1, I1, rx, a, C, dx, fs, f, sp, ex, ea, l, hg, q⟩ => ?_) ht
  obtain ⟨c, hm, fd, ps, F, hb⟩ := hG C f sp hg
  subst ex
  obtain rfl : u = Value.ref a := rx
  refine getmeth_ok I1 ea c hm l ?_
  refine PySem.W.callWith_K (first := [.ref a]) (h₀ := X.base) I.ok.mod.kin hm.kp (thn (ha.run pos pins s1 σ H1 _ I1 q) fun us s2 ⟨vs, H2, I2, r, q2⟩ => ⟨I2.kIn, ?_⟩) hst hpl
  exact run_fn (dvs := []) (us := .ref a :: us) (vs := .ref a :: vs) F hr hb .nil hx I2 (.cons rfl r) (by rw [List.append_nil]; exact q2)
theorem pe_methD0 {G : Addr → Addr → Sp → Prop} {ta : TE} {pl : Sem Bool} {E' : XK} (he : PE X o ta) (hG : MG X CX k m G) (hr : Room k X.A) (hx : Passes CX X E')
    (ht : eval (.Call (.Attribute o m apos) [] [] pos) X.env = (do
      let ov ← eval o X.env
      standAt apos.atName
      let (f, first) ← holding [ov] (getMethod ov m pl)
      callWith pos f first (backTo pos (starEach [] X.env)) (backToKw pos (keywordEach [] X.env))) := by rfl) :
    PE X (.Call (.Attribute o m apos) [] [] pos) (tMD G m E' ta tNil) := by
  refine ⟨fun pins s σ H Q I h => ?_⟩
  refine PySem.W.methodCall_KW (pl := pl) (thn (he.run pins s σ H _ I h) fun u s1 ⟨x, H1, I1, rx, a, C, dx, fs, f, sp, ex, ea, l, hg, q⟩ => ?_) ht
  obtain ⟨c, hm, fd, ps, F, hb⟩ := hG C f sp hg
  subst ex
  obtain rfl : u = Value.ref a := rx
  refine getmeth_ok I1 ea c hm l ?_
  exact PySem.W.callWith_K0 (first := [.ref a]) I1.kIn hm.kp (run_fn (dvs := []) (us := [.ref a]) (vs := [.ref a]) F hr hb .nil hx I1 (.cons rfl .nil) q)
/-- a table of methods by class: the method's place in S, its run -/
abbrev MT := List (Nat × Nat × Fn)
def MT.at (t : MT) (C : Nat) : Option (Nat × Fn) := match t with
  | [] => none
  | a :: r => if a.1 = C then some a.2 else MT.at r C
def MT.All (t : MT) (P : Nat → Nat → Fn → Prop) : Prop := match t with
  | [] => True
  | a :: r => P a.1 a.2.1 a.2.2 ∧ MT.All r P
theorem MT.All.get {P : Nat → Nat → Fn → Prop} : ∀ {t : MT} {C : Nat} {x : Nat × Fn}, MT.All t P → t.at C = some x → P C x.1 x.2
  | [], _, _, _, e => by cases e
  | a :: r, C, x, h, e => by
    have e : (if a.1 = C then some a.2 else MT.at r C) = some x := e
    by_cases q : a.1 = C
    · rw [if_pos q] at e; cases e; subst q; exact h.1
    · rw [if_neg q] at e; exact MT.All.get h.2 e
/-- o.m(..), o a value -/
def xMeth (m : Str) (n : Nat) (t : MT) (o : Ev) (r : EvG') : Ev := fun env => (o env).bind fun x e1 => match x with
  | .ins C fs => match t.at C with
    | some (_, g) => if fs.lookup m = none then (r e1).bind fun as e2 => if (Ag.v (.ins C fs) :: as).length = n then callG g (.v (.ins C fs) :: as) e2 else .no else .no
    | none => .no
  | _ => .no
def GT (K : PySem.W.Frag) (S : Nat → Addr) (fr : Bool) (n : Nat) (t : MT) : Addr → Addr → Sp → Prop := fun C f sp => ∃ c j g, t.at c = some (j, g) ∧ C = S c ∧ f = S j ∧ sp = spD K S fr n g
theorem mg_of' {t : MT} (h : MT.All t fun c j g => Cls X.K (S c) ∧ Meth X.K (S c) m (S j) ∧ ∃ fd ps, FnOk X.prog X.w X.K X.mg X.base CX k (S j) fd ps (spD X.K S fr n g) ∧ Binds X.K fd ps []) : MG X CX k m (GT X.K S fr n t) := by
  rintro C f sp ⟨c, j, g, e, rfl, rfl, rfl⟩
  exact h.get e
theorem lookF {K : PySem.W.Frag} {G : Hp} {m : Str} : ∀ {fs : List (Str × D)} {ws : List (Str × V)}, RepF K S G fs ws → (fs.lookup m = none → ws.lookup m = none) ∧ ∀ d, fs.lookup m = some d → ∃ v, ws.lookup m = some v ∧ Rep K S G d v
  | [], _, h => by cases h; exact ⟨fun _ => rfl, fun d e => by cases e⟩
  | x :: xs, _, ⟨v, ws, e, q, r⟩ => by
    subst e
    obtain ⟨h1, h2⟩ := lookF (m := m) r
    have e1 : List.lookup m (x :: xs) = match m == x.1 with
      | true => some x.2
      | false => List.lookup m xs := rfl
    have e2 : List.lookup m ((x.1, v) :: ws) = match m == x.1 with
      | true => some v
      | false => List.lookup m ws := rfl
    rw [e1, e2]
    cases m == x.1 with
    | true => exact ⟨fun e => (by cases e), fun d e => (by cases e; exact ⟨v, rfl, q⟩)⟩
    | false => exact ⟨h1, h2⟩
theorem snd_meth {K : PySem.W.Frag} {t : MT} {σ : L2.St} {H : Hp} {Q : VK} (q : TD K S E (xMeth m n t eo eg) σ H Q) : tMD (GT K S false n t) m E (TD K S E eo) (TAg K S E eg) σ H Q := by
  obtain ⟨B, L, G, env, st, rl, po⟩ := q
  refine ⟨B, L, G, env, st, rl, po.then fun G1 H1 x e1 sm1 st1 rl1 p1 v rv => ?_⟩
  cases x with
  | ins C fs =>
    dsimp only at p1
    split at p1
    · rename_i j g ht
      split at p1
      · rename_i hl
        obtain ⟨a, dx, ws, rfl, ga, rf⟩ := rv
        refine ⟨a, S C, dx, ws, S j, _, rfl, st1.inn.ins ga, (lookF rf).1 hl, ⟨C, j, g, ht, rfl, rfl, rfl⟩, B, L, G1, e1, st1, rl1, p1.then fun G2 H2 as e2 sm2 st2 rl2 p2 vs rvs => ?_⟩
        obtain ⟨hn, p2⟩ := len_of p2
        exact call_ok st2 rl2 (.cons (show AgOk K S G2 σ (.v (.ins C fs)) (.ref a) from ⟨a, dx, ws, rfl, sm2 _ _ ga, rf.mono sm2⟩) rvs) hn p2 fun G' H' d e _ _ _ h => h
      · exact p1.elim
    · exact p1.elim
  | _ => exact p1.elim
theorem sndf_meth {K : PySem.W.Frag} {t : MT} {σ : L2.St} {H : Hp} {Q : VK} (q : TF K S E (xMeth m n t eo eg) σ H Q) : tMD (GT K S true n t) m E (TD K S E eo) (TAg K S E eg) σ H Q := by
  obtain ⟨B, L, G, env, st, rl, po⟩ := q
  refine ⟨B, L, G, env, st, rl, po.then fun G1 H1 x e1 sm1 st1 rl1 p1 v rv => ?_⟩
  cases x with
  | ins C fs =>
    dsimp only at p1
    split at p1
    · rename_i j g ht
      split at p1
      · rename_i hl
        obtain ⟨a, dx, ws, rfl, ga, rf⟩ := rv
        refine ⟨a, S C, dx, ws, S j, _, rfl, st1.inn.ins ga, (lookF rf).1 hl, ⟨C, j, g, ht, rfl, rfl, rfl⟩, B, L, G1, e1, st1, rl1, p1.then fun G2 H2 as e2 sm2 st2 rl2 p2 vs rvs => ?_⟩
        obtain ⟨hn, p2⟩ := len_of p2
        refine call_ok st2 rl2 (.cons (show AgOk K S G2 σ (.v (.ins C fs)) (.ref a) from ⟨a, dx, ws, rfl, sm2 _ _ ga, rf.mono sm2⟩) rvs) hn p2 fun G' H' d e hown st' rl' h => ?_
        rw [if_pos rfl]
        intro q o hq gq hq' r
        exact h q o gq (st2.free hq) hq' (fun i s h1 h2 h3 => by
          obtain ⟨s', e1, e2⟩ := hown i s h1 h2
          exact rl2.fresh hq i s' e1 e2 h3) (st2.nolock hq) r
      · exact p1.elim
    · exact p1.elim
  | _ => exact p1.elim
variable {t : MT} {pl : Sem Bool}
theorem q_meth (ho : QE S X E o eo) (hG : MT.All t fun c j g => Cls X.K (S c) ∧ Meth X.K (S c) m (S j) ∧ ∃ fd ps, FnOk X.prog X.w X.K X.mg X.base CX k (S j) fd ps (spD X.K S false n g) ∧ Binds X.K fd ps []) (hr : Room k X.A) (hx : Passes CX X E) (ha : QG S X E (e :: es) eg)
    (hst : starEach (e :: es) X.env = (false, eval e X.env) :: starEach es X.env := by rfl) (hpl : (backTo pos (starEach es X.env)).any (·.1) = false := by rfl)
    (ht : eval (.Call (.Attribute o m apos) (e :: es) [] pos) X.env = (do
      let ov ← eval o X.env
      standAt apos.atName
      let (f, first) ← holding [ov] (getMethod ov m pl)
      callWith pos f first (backTo pos (starEach (e :: es) X.env)) (backToKw pos (keywordEach [] X.env))) := by rfl) : QE S X E (.Call (.Attribute o m apos) (e :: es) [] pos) (xMeth m n t eo eg) := pe_of (pe_methD (pl := pl) ho (mg_of' hG) hr hx ha hst hpl ht) fun _ _ _ q => snd_meth q
theorem qf_meth (ho : QE S X E o eo) (hG : MT.All t fun c j g => Cls X.K (S c) ∧ Meth X.K (S c) m (S j) ∧ ∃ fd ps, FnOk X.prog X.w X.K X.mg X.base CX k (S j) fd ps (spD X.K S true n g) ∧ Binds X.K fd ps []) (hr : Room k X.A) (hx : Passes CX X E) (ha : QG S X E (e :: es) eg)
    (hst : starEach (e :: es) X.env = (false, eval e X.env) :: starEach es X.env := by rfl) (hpl : (backTo pos (starEach es X.env)).any (·.1) = false := by rfl)
    (ht : eval (.Call (.Attribute o m apos) (e :: es) [] pos) X.env = (do
      let ov ← eval o X.env
      standAt apos.atName
      let (f, first) ← holding [ov] (getMethod ov m pl)
      callWith pos f first (backTo pos (starEach (e :: es) X.env)) (backToKw pos (keywordEach [] X.env))) := by rfl) : QF S X E (.Call (.Attribute o m apos) (e :: es) [] pos) (xMeth m n t eo eg) := pe_of (pe_methD (pl := pl) ho (mg_of' hG) hr hx ha hst hpl ht) fun _ _ _ q => sndf_meth q
theorem tMD0 {G : Addr → Addr → Sp → Prop} {K : PySem.W.Frag} {ta : TE} (hta : ∀ σ H Q Q', (∀ v H', Q v H' → Q' v H') → ta σ H Q → ta σ H Q') {σ : L2.St} {H : Hp} {Q : VK} (q : tMD G m E ta (TAg K S E gNil) σ H Q) : tMD G m E ta tNil σ H Q :=
  hta _ _ _ _ (fun v H' ⟨a, C, dx, fs, f, sp, h1, h2, h3, h4, h5⟩ => ⟨a, C, dx, fs, f, sp, h1, h2, h3, h4, tnil h5⟩) q
theorem td_mono {K : PySem.W.Frag} {f : Ev} {σ : L2.St} {H : Hp} {Q Q' : VK} (h : ∀ v H', Q v H' → Q' v H') (q : TD K S E f σ H Q) : TD K S E f σ H Q' := by
  obtain ⟨B, L, G, env, st, rl, po⟩ := q
  exact ⟨B, L, G, env, st, rl, po.imp fun _ _ _ _ _ _ _ p v r => h _ _ (p v r)⟩
theorem q_meth0 (ho : QE S X E o eo) (hG : MT.All t fun c j g => Cls X.K (S c) ∧ Meth X.K (S c) m (S j) ∧ ∃ fd ps, FnOk X.prog X.w X.K X.mg X.base CX k (S j) fd ps (spD X.K S false n g) ∧ Binds X.K fd ps []) (hr : Room k X.A) (hx : Passes CX X E)
    (ht : eval (.Call (.Attribute o m apos) [] [] pos) X.env = (do
      let ov ← eval o X.env
      standAt apos.atName
      let (f, first) ← holding [ov] (getMethod ov m pl)
      callWith pos f first (backTo pos (starEach [] X.env)) (backToKw pos (keywordEach [] X.env))) := by rfl) : QE S X E (.Call (.Attribute o m apos) [] [] pos) (xMeth m n t eo gNil) := pe_of (pe_methD0 (pl := pl) ho (mg_of' hG) hr hx ht) fun σ H Q q => tMD0 (ta := TD X.K S E eo) (fun _ _ _ _ h => td_mono h) (snd_meth q)
theorem qf_meth0 (ho : QE S X E o eo) (hG : MT.All t fun c j g => Cls X.K (S c) ∧ Meth X.K (S c) m (S j) ∧ ∃ fd ps, FnOk X.prog X.w X.K X.mg X.base CX k (S j) fd ps (spD X.K S true n g) ∧ Binds X.K fd ps []) (hr : Room k X.A) (hx : Passes CX X E)
    (ht : eval (.Call (.Attribute o m apos) [] [] pos) X.env = (do
      let ov ← eval o X.env
      standAt apos.atName
      let (f, first) ← holding [ov] (getMethod ov m pl)
      callWith pos f first (backTo pos (starEach [] X.env)) (backToKw pos (keywordEach [] X.env))) := by rfl) : QF S X E (.Call (.Attribute o m apos) [] [] pos) (xMeth m n t eo gNil) := pe_of (pe_methD0 (pl := pl) ho (mg_of' hG) hr hx ht) fun σ H Q q => tMD0 (ta := TD X.K S E eo) (fun _ _ _ _ h => td_mono h) (sndf_meth q)
/-! ### fields -/
def xFld (cs : List Nat) (f : Str) (a : Ev) : Ev := fun env => (a env).bind fun x e => match x with
  | .ins C fs => if C ∈ cs then .of (fs.lookup f) e else .no
  | _ => .no
/-- a field of an object of one's own -/
def xFldV (cs : List Nat) (f : Str) (i : Nat) : Ev := fun env => match env[i]? with
  | some (.box (.ins C fs)) => if C ∈ cs then .of (fs.lookup f) env else .no
  | some (.par (.ins C fs)) => if C ∈ cs then .of (fs.lookup f) env else .no
  | _ => .no
abbrev FldOk (K : PySem.W.Frag) (S : Nat → Addr) (f : Str) (cs : List Nat) : Prop := ∀ C ∈ cs, Cls K (S C) ∧ NoAttr K (S C) f
variable {cs : List Nat} {s : Str}
theorem q_fld (hc : FldOk X.K S s cs) (ha : QE S X E a ea) (hb : attributeBase a s X.env (eval a X.env) = eval a X.env) : QE S X E (.Attribute a s pos) (xFld cs s ea) := pe_of (pe_fld ha hb) fun σ H Q ⟨B, L, G, env, st, rl, po⟩ => ⟨B, L, G, env, st, rl, po.then fun G1 H1 x e1 sm1 st1 rl1 p1 v rv => by
  cases x with
  | ins C fs =>
    dsimp only at p1
    split at p1
    · rename_i hC
      obtain ⟨d, hd, k⟩ := p1.of st1 rl1
      obtain ⟨p, dx, ws, rfl, gp, rf⟩ := rv
      obtain ⟨u, hu, ru⟩ := (lookF rf).2 d hd
      exact ⟨p, S C, dx, ws, u, rfl, st1.inn.ins gp, (hc C hC).1, (hc C hC).2, hu, k G1 H1 (.refl st1.inn) u ru⟩
    · exact p1.elim
  | _ => exact p1.elim⟩
theorem fld_at {K : PySem.W.Frag} {B : Base} {L : Lk} {G H : Hp} {env : Env} {σ : L2.St} {i C : Nat} {fs : List (Str × D)} {sl : Sl} (rl : Rel K S B L G H env σ) (h : env[i]? = some sl) (hs : sl = .box (.ins C fs) ∨ sl = .par (.ins C fs)) : ∃ p dx ws, σ[i]? = some (some (V.ref p)) ∧ H p = some (.ins (S C) dx ws) ∧ RepF K S G fs ws := by
  obtain ⟨x, hx, q⟩ := rel_at rl h
  rcases hs with rfl | rfl
  · obtain ⟨p, o, rfl, _, _, hp, dx, ws, rfl, r⟩ := q
    exact ⟨p, dx, ws, hx, hp, r⟩
  · obtain ⟨p, o, rfl, _, hp, dx, ws, rfl, r⟩ := q
    exact ⟨p, dx, ws, hx, hp, r⟩
theorem q_fldV {i : Nat} (hc : FldOk X.K S s cs) (ha : PE X a (tVar i)) (hb : attributeBase a s X.env (eval a X.env) = eval a X.env) : QE S X E (.Attribute a s pos) (xFldV cs s i) := pe_of (pe_fld ha hb) fun σ H Q ⟨B, L, G, env, st, rl, po⟩ => by
  have key : ∀ C fs sl, env[i]? = some sl → (sl = .box (.ins C fs) ∨ sl = .par (.ins C fs)) → Post X.K S E B L σ G (fun G' H' d _ => ∀ v, Rep X.K S G' d v → Q v H') (if C ∈ cs then .of (fs.lookup s) env else .no) → tFld X.K (tVar i) s σ H Q := fun C fs sl h hs po => by
    split at po
    · rename_i hC
      obtain ⟨d, hd, k⟩ := po.of st rl
      obtain ⟨p, dx, ws, hx, hp, rf⟩ := fld_at rl h hs
      obtain ⟨u, hu, ru⟩ := (lookF rf).2 d hd
      exact ⟨.ref p, hx, p, S C, dx, ws, u, rfl, hp, (hc C hC).1, (hc C hC).2, hu, k G H (.refl st.inn) u ru⟩
    · exact po.elim
  unfold xFldV at po
  split at po
  · rename_i C fs h
    exact key C fs _ h (.inl rfl) po
  · rename_i C fs h
    exact key C fs _ h (.inr rfl) po
  · exact po.elim
end
end
end Dv
namespace Dv
open PySem PySem.Spec PyProof.Rows L2
set_option autoImplicit false
noncomputable section
/-! ### statements -/
inductive Sr where
  | nx (e : Env) | rt (d : D) (e : Env) | rf (d : D) (e : Env) | bk (e : Env) | ct (e : Env) | ex (C : Nat) (fs : List (Str × D)) (e : Env) | no
abbrev EvS := Env → Sr
def Res.st {α : Type} (r : Res α) (k : α → Env → Sr) : Sr := match r with
  | .ok a e => k a e
  | .ex C fs e => .ex C fs e
  | .no => .no
section
variable (K : PySem.W.Frag) (S : Nat → Addr) (E : XK)
def PostS (B : Base) (L : Lk) (G : Hp) (D : Ends) : Sr → Prop
  | .nx e => ∀ σ' G' H', Same G G' → Ste B L G' H' → Rel K S B L G' H' e σ' → D.nx σ' H'
  | .rt d e => ∀ σ' G' H', Same G G' → Ste B L G' H' → Rel K S B L G' H' e σ' → ∀ v, Rep K S G' d v → D.rt v H'
  | .rf d e => ∀ σ' G' H', Same G G' → Ste B L G' H' → Rel K S B L G' H' e σ' → ∀ a o, G' a = none → B.H a = none → H' a = some o → RepO K S G' d o → D.rt (.ref a) H'
  | .bk e => ∀ σ' G' H', Same G G' → Ste B L G' H' → Rel K S B L G' H' e σ' → D.bk σ' H'
  | .ct e => ∀ σ' G' H', Same G G' → Ste B L G' H' → Rel K S B L G' H' e σ' → D.ct σ' H'
  | .ex C fs e => ∀ σ' od G' H', Same G G' → Ste B L G' H' → Rel K S B L G' H' e σ' → XD K S G' H' fs od → E (Value.ref (S C)) od H'
  | .no => False
def TS' (f : EvS) : TS := fun D σ H => ∃ (B : Base) (L : Lk) (G : Hp) (env : Env), Ste B L G H ∧ Rel K S B L G H env σ ∧ PostS K S E B L G D (f env)
end
section
variable {K : PySem.W.Frag} {S : Nat → Addr} {E : XK} {B : Base} {L : Lk} {G G1 H : Hp} {σ : L2.St} {D D' : Ends} {r : Sr}
theorem PostS.up (h : PostS K S E B L G D r) (s : Same G G1) : PostS K S E B L G1 D r := by
  cases r with
  | no => exact h
  | nx e => exact fun σ' G' H' s' => h σ' G' H' (s.trans s')
  | rt d e => exact fun σ' G' H' s' => h σ' G' H' (s.trans s')
  | rf d e => exact fun σ' G' H' s' => h σ' G' H' (s.trans s')
  | bk e => exact fun σ' G' H' s' => h σ' G' H' (s.trans s')
  | ct e => exact fun σ' G' H' s' => h σ' G' H' (s.trans s')
  | ex C fs e => exact fun σ' od G' H' s' => h σ' od G' H' (s.trans s')
/-- a value first, then a statement's end -/
theorem Post.st {α : Type} {x : Res α} {k : α → Env → Sr} {P : Hp → Hp → α → Env → Prop} (h : PostS K S E B L G D (x.st k)) (f : ∀ G' H' a e, Same G G' → Ste B L G' H' → Rel K S B L G' H' e σ → PostS K S E B L G' D (k a e) → P G' H' a e) : Post K S E B L σ G P x := by
  cases x with
  | ok a e => exact fun G' H' s st rl => f G' H' a e s st rl (PostS.up h s)
  | ex C fs e => exact fun od G' H' s st rl x => h σ od G' H' s st rl x
  | no => exact h
end
section
variable {S : Nat → Addr} {X : Cx} {E : XK} {a b e : Expr} {ea eb ee : Ev} {pos : Pos} {st : Stmt} {rest : List Stmt} {es er : EvS} {et : EvT}
abbrev QS (S : Nat → Addr) (X : Cx) (E : XK) (st : Stmt) (f : EvS) : Prop := PS X st (TS' X.K S E f)
abbrev QSs (S : Nat → Addr) (X : Cx) (E : XK) (st : List Stmt) (f : EvS) : Prop := PSs X st (TS' X.K S E f)
def Sr.seq (r : Sr) (k : EvS) : Sr := match r with
  | .nx e => k e
  | r => r
def xSeq (a b : EvS) : EvS := fun env => (a env).seq b
def xNx : EvS := fun env => .nx env
theorem s_nil : QSs S X E [] xNx := pss_of pss_nil fun D σ H ⟨B, L, G, env, st, rl, po⟩ => po σ G H (.refl _) st rl
theorem s_one (h1 : QS S X E st es) : QSs S X E [st] es := pss_one h1
theorem PostS.seq {K : PySem.W.Frag} {B : Base} {L : Lk} {G : Hp} {D : Ends} {r : Sr} {k : EvS} (h : PostS K S E B L G D (r.seq k)) : PostS K S E B L G { D with nx := TS' K S E k D } r := by
  cases r with
  | nx e => exact fun σ' G' H' s st rl => ⟨B, L, G', e, st, rl, PostS.up h s⟩
  | rt d e => exact h
  | rf d e => exact h
  | bk e => exact h
  | ct e => exact h
  | ex C fs e => exact h
  | no => exact h
theorem s_cons (h1 : QS S X E st es) (h2 : QSs S X E rest er) : QSs S X E (st :: rest) (xSeq es er) := pss_of (pss_cons h1 h2) fun D σ H ⟨B, L, G, env, st, rl, po⟩ => ⟨B, L, G, env, st, rl, PostS.seq po⟩
theorem s_pass : QS S X E (.Pass pos) xNx := ps_of ps_pass fun D σ H ⟨B, L, G, env, st, rl, po⟩ => po σ G H (.refl _) st rl
def xBreak : EvS := fun env => .bk env
def xCont : EvS := fun env => .ct env
theorem s_break : QS S X E (.Break pos) xBreak := ps_of ps_break fun D σ H ⟨B, L, G, env, st, rl, po⟩ => po σ G H (.refl _) st rl
theorem s_continue : QS S X E (.Continue pos) xCont := ps_of ps_continue fun D σ H ⟨B, L, G, env, st, rl, po⟩ => po σ G H (.refl _) st rl
def xNoS : EvS := fun _ => .no
theorem s_no : QS S X E st xNoS := ps_of ps_never fun D σ H ⟨B, L, G, env, st, rl, po⟩ => po.elim
theorem ss_no {sts : List Stmt} : QSs S X E sts xNoS := pss_of pss_never fun D σ H ⟨B, L, G, env, st, rl, po⟩ => po.elim
def xDrop (a : Ev) : EvS := fun env => (a env).st fun _ e => .nx e
theorem s_expr (he : QE S X E e ee) (hs : swapsWith e none pos.line X.env = pure false := by rfl) : QS S X E (.Expr e pos) (xDrop ee) := ps_of (ps_expr he hs) fun D σ H ⟨B, L, G, env, st, rl, po⟩ => ⟨B, L, G, env, st, rl, Post.st po fun G' H' d e s st' rl' p v _ => p σ G' H' (.refl _) st' rl'⟩
def xRet (a : Ev) : EvS := fun env => (a env).st fun d e => .rt d e
theorem s_ret (he : QE S X E e ee) : QS S X E (.Return (some e) pos) (xRet ee) := ps_of (ps_ret he) fun D σ H ⟨B, L, G, env, st, rl, po⟩ => ⟨B, L, G, env, st, rl, Post.st po fun G' H' d e s st' rl' p v rv => p σ G' H' (.refl _) st' rl' v rv⟩
/-- what is returned is a new object of one's own -/
def xRetF (a : Ev) : EvS := fun env => (a env).st fun d e => .rf d e
theorem s_retF (he : QF S X E e ee) : QS S X E (.Return (some e) pos) (xRetF ee) := ps_of (ps_ret he) fun D σ H ⟨B, L, G, env, st, rl, po⟩ => ⟨B, L, G, env, st, rl, Post.st po fun G' H' d e s st' rl' p a o h1 h2 h3 _ _ h4 => p σ G' H' (.refl _) st' rl' a o h1 h2 h3 h4⟩
/-- .. that stands at a slot -/
def xRetV (i : Nat) : EvS := fun env => match env[i]? with
  | some (.box d) => .rf d (env.set i .no)
  | _ => .no
theorem s_retV {i : Nat} (he : PE X e (tVar i)) : QS S X E (.Return (some e) pos) (xRetV i) := ps_of (ps_ret he) fun D σ H ⟨B, L, G, env, st, rl, po⟩ => by
  unfold xRetV at po
  split at po
  · rename_i d h
    obtain ⟨x, hx, p, o, rfl, gp, bp, hp, r⟩ := rel_at rl h
    exact ⟨.ref p, hx, po σ G H (.refl _) st (rel_no rl) p o gp bp hp r⟩
  · exact po.elim
def xRetN : EvS := fun env => .rt .non env
theorem s_retN : QS S X E (.Return none pos) xRetN := ps_of ps_retN fun D σ H ⟨B, L, G, env, st, rl, po⟩ => po σ G H (.refl _) st rl .non rfl
def xIfS (c : EvT) (a b : EvS) : EvS := fun env => (c env).st fun x e => match x with
  | true => a e
  | false => b e
theorem s_if {c : Expr} {as bs : List Stmt} (hc : QT S X E c et) (ha : QSs S X E as es) (hb : QSs S X E bs er) : QS S X E (.If c as bs pos) (xIfS et es er) := ps_of (ps_if hc ha hb) fun D σ H ⟨B, L, G, env, st, rl, po⟩ => ⟨B, L, G, env, st, rl, Post.st po fun G' H' x e s st' rl' p v rv => by
  cases rv
  cases x with
  | true => exact ⟨B, L, G', e, st', rl', p⟩
  | false => exact ⟨B, L, G', e, st', rl', p⟩⟩
/-! assignments -/
def setE (env : Env) (i : Nat) (d : D) : Option Env := match env[i]? with
  | some (.par _) => none
  | some _ => some (env.set i (.val d))
  | none => none
theorem rel_set {K : PySem.W.Frag} {B : Base} {L : Lk} {G H : Hp} {env env' : Env} {σ : L2.St} {i : Nat} {d : D} {v : V} (rl : Rel K S B L G H env σ) (h : setE env i d = some env') (r : Rep K S G d v) : Rel K S B L G H env' (σ.set i (some v)) := by
  have e : env' = env.set i (.val d) := by
    unfold setE at h
    split at h
    · cases h
    · cases h; rfl
    · cases h
  subst e
  refine ⟨paired_set ⟨v, rfl, r⟩ i rl.at_, fun j k s t w hjk h1 h2 o1 o2 h3 => ?_, fun j s w h1 o1 h3 => ?_⟩
  · rcases set_at h1 with ⟨rfl, rfl⟩ | ⟨hj, h1⟩
    · cases o1
    · rcases set_at h2 with ⟨rfl, rfl⟩ | ⟨hk, h2⟩
      · cases o2
      · rw [List.getElem?_set_ne (fun e => hj e.symm)] at h3
        rw [List.getElem?_set_ne (fun e => hk e.symm)]
        exact rl.nd j k s t w hjk h1 h2 o1 o2 h3
  · rcases set_at h1 with ⟨rfl, rfl⟩ | ⟨hj, h1⟩
    · cases o1
    · rw [List.getElem?_set_ne (fun e => hj e.symm)] at h3
      exact rl.nl j s w h1 o1 h3
def xSet (i : Nat) (a : Ev) : EvS := fun env => (a env).st fun d e => match setE e i d with
  | some e' => .nx e'
  | none => .no
theorem snd_set {K : PySem.W.Frag} {i : Nat} {D : Ends} {σ : L2.St} {H : Hp} (q : TS' K S E (xSet i ee) D σ H) : tAsg (TD K S E ee) (gName i) D σ H := by
  obtain ⟨B, L, G, env, st, rl, po⟩ := q
  exact ⟨B, L, G, env, st, rl, Post.st po fun G' H' d e s st' rl' p v rv => by
    split at p
    · rename_i e' h
      exact p _ G' H' (.refl _) st' (rel_set rl' h rv)
    · exact p.elim⟩
theorem s_set {i : Nat} {x : Str} {pos' : Pos} (hN : X.N.Nodup) (hi : X.N[i]? = some x) (hx : Loc X.env.scope x) (he : QE S X E e ee) (hs : swapsWith e (some (.Name x pos')) pos.line X.env = pure false := by rfl) (hf : X.fn x = true ∨ X.env.scope.names.lookup x = some .local := by first | exact .inl rfl | exact .inr rfl | assumption) :
    QS S X E (.Assign [.Name x pos'] e pos) (xSet i ee) := ps_of (ps_set hN hi hx he hs hf) fun _ _ _ q => snd_set q
/-- x = a new object of one's own -/
def xBox (i : Nat) (a : Ev) : EvS := fun env => (a env).st fun d e => match e[i]? with
  | some (.par _) => .no
  | some _ => .nx (e.set i (.box d))
  | none => .no
theorem rel_box {K : PySem.W.Frag} {B : Base} {L : Lk} {G H : Hp} {env : Env} {σ : L2.St} {i : Nat} {d : D} {p : Addr} {o : HO} (rl : Rel K S B L G H env σ) (g : G p = none) (b : B.H p = none) (h : H p = some o) (hn : ∀ (i : Nat) (s : Sl), env[i]? = some s → isOwn s = true → σ[i]? ≠ some (some (V.ref p))) (hl : ∀ q ∈ L, q.1 ≠ p) (r : RepO K S G d o) : Rel K S B L G H (env.set i (.box d)) (σ.set i (some (V.ref p))) := by
  refine ⟨paired_set ⟨p, o, rfl, g, b, h, r⟩ i rl.at_, fun j k s t w hjk h1 h2 o1 o2 h3 h4 => ?_, fun j s w h1 o1 h3 => ?_⟩
  · rcases set_at h1 with ⟨rfl, rfl⟩ | ⟨hj, h1⟩
    · rcases set_at h2 with ⟨rfl, rfl⟩ | ⟨hk, h2⟩
      · exact hjk rfl
      · rw [List.getElem?_set_ne (fun e => hk e.symm)] at h4
        rcases set_at h3 with ⟨_, e⟩ | ⟨hj', _⟩
        · cases e
          exact hn k t h2 o2 h4
        · exact hj' rfl
    · rw [List.getElem?_set_ne (fun e => hj e.symm)] at h3
      rcases set_at h2 with ⟨rfl, rfl⟩ | ⟨hk, h2⟩
      · rcases set_at h4 with ⟨_, e⟩ | ⟨hj', _⟩
        · cases e
          exact hn j s (by assumption) o1 h3
        · exact hj' rfl
      · rw [List.getElem?_set_ne (fun e => hk e.symm)] at h4
        exact rl.nd j k s t w hjk h1 h2 o1 o2 h3 h4
  · rcases set_at h1 with ⟨rfl, rfl⟩ | ⟨hj, h1⟩
    · rcases set_at h3 with ⟨_, e⟩ | ⟨hj', _⟩
      · cases e
        exact hl
      · exact (hj' rfl).elim
    · rw [List.getElem?_set_ne (fun e => hj e.symm)] at h3
      exact rl.nl j s w h1 o1 h3
theorem snd_box {K : PySem.W.Frag} {i : Nat} {D : Ends} {σ : L2.St} {H : Hp} (q : TS' K S E (xBox i ee) D σ H) : tAsg (TF K S E ee) (gName i) D σ H := by
  obtain ⟨B, L, G, env, st, rl, po⟩ := q
  exact ⟨B, L, G, env, st, rl, Post.st po fun G' H' d e s st' rl' p a o h1 h2 h3 h4 h5 h6 => by
    split at p
    · exact p.elim
    · exact p _ G' H' (.refl _) st' (rel_box rl' h1 h2 h3 h4 h5 h6)
    · exact p.elim⟩
theorem s_box {i : Nat} {x : Str} {pos' : Pos} (hN : X.N.Nodup) (hi : X.N[i]? = some x) (hx : Loc X.env.scope x) (he : QF S X E e ee) (hs : swapsWith e (some (.Name x pos')) pos.line X.env = pure false := by rfl) (hf : X.fn x = true ∨ X.env.scope.names.lookup x = some .local := by first | exact .inl rfl | exact .inr rfl | assumption) :
    QS S X E (.Assign [.Name x pos'] e pos) (xBox i ee) := ps_of (ps_set hN hi hx he hs hf) fun _ _ _ q => snd_box q
/-! o.f = e, o at a slot -/
def putD (f : Str) (v : D) : List (Str × D) → List (Str × D)
  | [] => [(f, v)]
  | (k, x) :: r => if k = f then (k, v) :: r else (k, x) :: putD f v r
theorem put_ok {K : PySem.W.Frag} {G : Hp} {f : Str} {d : D} {v : V} (r : Rep K S G d v) : ∀ {fs : List (Str × D)} {ws : List (Str × V)}, RepF K S G fs ws → RepF K S G (putD f d fs) (putF f v ws)
  | [], _, h => by cases h; exact ⟨v, [], rfl, r, rfl⟩
  | (k, x) :: xs, _, ⟨u, ws, e, q, t⟩ => by
    subst e
    show RepF K S G (if k = f then (k, d) :: xs else (k, x) :: putD f d xs) (if k = f then (k, v) :: ws else (k, u) :: putF f v ws)
    by_cases h : k = f
    · rw [if_pos h, if_pos h]
      exact ⟨v, ws, rfl, r, t⟩
    · rw [if_neg h, if_neg h]
      exact ⟨u, _, rfl, q, put_ok r t⟩
def xFldS (cs : List Nat) (f : Str) (i : Nat) (a : Ev) : EvS := fun env => (a env).st fun d e => match e[i]? with
  | some (.par (.ins C fs)) => if C ∈ cs ∧ fs.length ≤ 900 then .nx (e.set i (.par (.ins C (putD f d fs)))) else .no
  | some (.box (.ins C fs)) => if C ∈ cs ∧ fs.length ≤ 900 then .nx (e.set i (.box (.ins C (putD f d fs)))) else .no
  | _ => .no
theorem repF_len {K : PySem.W.Frag} {G : Hp} : ∀ {fs : List (Str × D)} {ws : List (Str × V)}, RepF K S G fs ws → fs.length = ws.length
  | [], _, h => by cases h; rfl
  | x :: xs, _, ⟨u, ws, e, q, t⟩ => by subst e; rw [List.length_cons, List.length_cons, repF_len t]
/-- an object of one's own is changed -/
theorem own_set {K : PySem.W.Frag} {B : Base} {L : Lk} {G H : Hp} {env : Env} {σ : L2.St} {i : Nat} {s : Sl} {p : Addr} {d : D} {o : HO} (st : Ste B L G H) (rl : Rel K S B L G H env σ) (hi : env[i]? = some s) (hs : isOwn s = true) (hx : σ[i]? = some (some (V.ref p))) (ro : RepO K S G d o) :
    Ste B L G (upd H p o) ∧ Rel K S B L G (upd H p o) (env.set i (putSl s d)) σ := by
  obtain ⟨gp, hp⟩ := own_free st rl hi hs hx
  have f : Fin G H (some p) G (upd H p o) := by
    refine ⟨.refl _, fun a u e => ?_, fun a h e => (h e).elim, fun a u e hr => ?_⟩
    · have hne : a ≠ p := fun q => by subst q; rw [gp] at e; cases e
      rw [upd_ne hne]
      exact st.inn a u e
    · rw [upd_ne (fun q => hr (by rw [q]))]
      exact e
  exact ⟨st.fin rl f fun a e => by cases e; exact ⟨⟨i, s, hi, hs, hx⟩, by rw [upd_same]; intro e; cases e⟩, rl.fin1 f hi hs hx upd_same ro⟩
theorem s_fld {cs : List Nat} {s : Str} {i : Nat} {o value : Expr} {ev : Ev} {pos' : Pos} (hc : FldOk X.K S s cs) (ho : PE X o (tVar i)) (hv : QE S X E value ev) (hs : swapsWith value (some (.Attribute o s pos')) pos.line X.env = pure false) :
    QS S X E (.Assign [.Attribute o s pos'] value pos) (xFldS cs s i ev) := ps_of (ps_fld ho hv hs) fun D σ H ⟨B, L, G, env, st, rl, po⟩ => ⟨B, L, G, env, st, rl, Post.st po fun G' H' d e sm st' rl' p v rv => by
  have key : ∀ C fs sl, e[i]? = some sl → isOwn sl = true → (sl = .box (.ins C fs) ∨ sl = .par (.ins C fs)) → C ∈ cs → fs.length ≤ 900 → (∀ p0 dx ws, σ[i]? = some (some (V.ref p0)) → H' p0 = some (.ins (S C) dx ws) → RepF X.K S G' fs ws → D.nx σ (upd H' p0 (.ins (S C) dx (putF s v ws)))) → ∃ v0, σ[i]? = some (some v0) ∧ ∃ a C dx fs, v0 = .ref a ∧ H' a = some (.ins C dx fs) ∧ Cls X.K C ∧ NoAttr X.K C s ∧ fs.length < 1000 ∧ D.nx σ (upd H' a (.ins C dx (putF s v fs))) := fun C fs sl h1 h2 h3 h4 h5 k => by
    obtain ⟨p0, dx, ws, hx, hp, rf⟩ := fld_at rl' h1 h3
    exact ⟨.ref p0, hx, p0, S C, dx, ws, rfl, hp, (hc C h4).1, (hc C h4).2, by rw [← repF_len rf]; omega, k p0 dx ws hx hp rf⟩
  split at p
  · rename_i C fs h
    split at p
    · rename_i hh
      refine key C fs _ h rfl (.inr rfl) hh.1 hh.2 fun p0 dx ws hx hp rf => ?_
      obtain ⟨s1, s2⟩ := own_set (d := .ins C (putD s d fs)) (o := .ins (S C) dx (putF s v ws)) st' rl' h rfl hx ⟨dx, _, rfl, put_ok rv rf⟩
      exact p σ G' _ (.refl _) s1 s2
    · exact p.elim
  · rename_i C fs h
    split at p
    · rename_i hh
      refine key C fs _ h rfl (.inl rfl) hh.1 hh.2 fun p0 dx ws hx hp rf => ?_
      obtain ⟨s1, s2⟩ := own_set (d := .ins C (putD s d fs)) (o := .ins (S C) dx (putF s v ws)) st' rl' h rfl hx ⟨dx, _, rfl, put_ok rv rf⟩
      exact p σ G' _ (.refl _) s1 s2
    · exact p.elim
  · exact p.elim⟩
end
/-! ### targets -/
abbrev Eg := D → Env → Option Env
abbrev Egs := List D → Env → Option Env
theorem wipe_at {σ : L2.St} : ∀ (vs : List Nat) (j : Nat), (wipe σ vs)[j]? = if j ∈ vs then (if j < σ.length then some none else none) else σ[j]?
  | [], j => by simp [wipe]
  | v :: vs, j => by
    unfold wipe
    by_cases h : v = j
    · subst h
      by_cases hl : v < σ.length
      · rw [List.getElem?_set_self (by rw [wipe_length]; exact hl)]
        simp [hl]
      · rw [List.getElem?_eq_none_iff.mpr (by rw [List.length_set, wipe_length]; omega)]
        simp [hl]
    · rw [List.getElem?_set_ne h, wipe_at vs j]
      have : j ≠ v := fun e => h e.symm
      simp [this]
theorem wipe_set {σ : L2.St} {i : Nat} {x : Option V} {vs : List Nat} (h : i ∈ vs) : wipe (σ.set i x) vs = wipe σ vs := by
  refine List.ext_getElem? fun j => ?_
  rw [wipe_at, wipe_at, List.length_set]
  by_cases hj : j ∈ vs
  · rw [if_pos hj, if_pos hj]
  · rw [if_neg hj, if_neg hj, List.getElem?_set_ne (fun e => hj (by rw [← e]; exact h))]
section
variable {K : PySem.W.Frag} {S : Nat → Addr}
def SndG (K : PySem.W.Frag) (S : Nat → Addr) (gs : List Nat) (eg : Eg) (g : TG) : Prop := ∀ (B : Base) (L : Lk) (G H : Hp) (env env' : Env) (σ : L2.St) (d : D) (v : V) (N : L2.St → Hp → Prop), Ste B L G H → Rel K S B L G H env σ → Rep K S G d v → eg d env = some env' →
  (∀ σ', Rel K S B L G H env' σ' → (∀ vs, (∀ i ∈ gs, i ∈ vs) → wipe σ' vs = wipe σ vs) → N σ' H) → g v σ H N
def SndGs (K : PySem.W.Frag) (S : Nat → Addr) (gs : List Nat) (eg : Egs) (g : TGs) : Prop := ∀ (B : Base) (L : Lk) (G H : Hp) (env env' : Env) (σ : L2.St) (d : List D) (v : List V) (N : L2.St → Hp → Prop), Ste B L G H → Rel K S B L G H env σ → RepL K S G d v → eg d env = some env' →
  (∀ σ', Rel K S B L G H env' σ' → (∀ vs, (∀ i ∈ gs, i ∈ vs) → wipe σ' vs = wipe σ vs) → N σ' H) → g v σ H N
def yName (i : Nat) : Eg := fun d env => setE env i d
def yNil : Egs := fun ds env => match ds with
  | [] => some env
  | _ => none
def yCons (a : Eg) (r : Egs) : Egs := fun ds env => match ds with
  | d :: ds => match a d env with
    | some e => r ds e
    | none => none
  | [] => none
def yTup (n : Nat) (r : Egs) : Eg := fun d env => match d with
  | .tup xs => if xs.length = n then r xs env else none
  | _ => none
theorem g_name (i : Nat) : SndG K S [i] (yName i) (gName i) := fun B L G H env env' σ d v N st rl r e k => k _ (rel_set rl e r) fun vs h => wipe_set (h i (List.mem_singleton.mpr rfl))
theorem gs_nil : SndGs K S [] yNil L2.gNil := fun B L G H env env' σ d v N st rl r e k => by
  cases d with
  | nil => cases r; cases e; exact ⟨rfl, k σ rl fun _ _ => rfl⟩
  | cons _ _ => cases e
theorem gs_cons {a : Eg} {r : Egs} {t : TG} {u : TGs} {g1 g2 : List Nat} (h1 : SndG K S g1 a t) (h2 : SndGs K S g2 r u) : SndGs K S (g1 ++ g2) (yCons a r) (gCons t u) := fun B L G H env env' σ d v N st rl rp e k => by
  cases d with
  | nil => cases e
  | cons x xs =>
    obtain ⟨w, ws, rfl, q, t'⟩ := rp
    have e : (match a x env with
      | some e => r xs e
      | none => none) = some env' := e
    split at e
    · rename_i e1 he
      exact ⟨w, ws, rfl, h1 B L G H env e1 σ x w _ st rl q he fun σ1 rl1 w1 => h2 B L G H e1 env' σ1 xs ws N st rl1 t' e fun σ2 rl2 w2 => k σ2 rl2 fun vs hv => (w2 vs fun i hi => hv i (List.mem_append_right _ hi)).trans (w1 vs fun i hi => hv i (List.mem_append_left _ hi))⟩
    · cases e
theorem g_tup {n : Nat} {r : Egs} {u : TGs} {gs : List Nat} (h : SndGs K S gs r u) : SndG K S gs (yTup n r) (gTup K n u) := fun B L G H env env' σ d v N st rl rp e k => by
  cases d with
  | tup xs =>
    obtain ⟨p, vs, rfl, q, t⟩ := rp
    have e : (if xs.length = n then r xs env else none) = some env' := e
    by_cases hn : xs.length = n
    · rw [if_pos hn] at e
      exact ⟨p, vs, rfl, st.inn.tup q, by rw [← t.length]; exact hn, h B L G H env env' σ xs vs N st rl t e k⟩
    · rw [if_neg hn] at e; cases e
  | _ => cases e
end
section
variable {S : Nat → Addr} {X : Cx} {E : XK} {e tg : Expr} {ee : Ev} {pos : Pos} {eg : Eg} {g : TG} {gs : List Nat}
def xAsg (a : Ev) (g : Eg) : EvS := fun env => (a env).st fun d e => match g d e with
  | some e' => .nx e'
  | none => .no
theorem s_asg (he : QE S X E e ee) (hg : PG X tg g) (sg : SndG X.K S gs eg g) (hs : swapsWithSole [tg] e pos.line X.env = pure false := by rfl) (hw : swappedStores [tg] e X.env = pure none := by rfl)
    (h1 : (assignEach [tg] X.env).map (·.2) = [assign tg X.env] := by rfl) : QS S X E (.Assign [tg] e pos) (xAsg ee eg) := ps_of (ps_asg he hg hs hw h1) fun D σ H ⟨B, L, G, env, st, rl, po⟩ => ⟨B, L, G, env, st, rl, Post.st po fun G' H' d e s st' rl' p v rv => by
  split at p
  · rename_i e' h
    exact sg B L G' H' _ e' σ d v _ st' rl' rv h fun σ' rl2 _ => p σ' G' H' (.refl _) st' rl2
  · exact p.elim⟩
end
end
end Dv
namespace Dv
open PySem PySem.Spec PyProof.Rows L2
set_option autoImplicit false
noncomputable section
/-! ### what is walked -/
abbrev EvI := Env → Res (List D)
def ItOk (K : PySem.W.Frag) (S : Nat → Addr) (B : Base) (L : Lk) (G : Hp) (J : It) (items : List D) : Prop := ∀ (i : Nat) (G1 H1 : Hp), Same G G1 → Ste B L G1 H1 →
  (items[i]? = none → J.stop i H1) ∧ ∀ d, items[i]? = some d → J.go i H1 ∧ ∀ x H2, J.yld i H1 x H2 → ∃ G2, Ex G1 H1 G2 H2 ∧ Rep K S G2 d x
def TIt (K : PySem.W.Frag) (S : Nat → Addr) (E : XK) (f : EvI) : TI := fun σ H R => ∃ (B : Base) (L : Lk) (G : Hp) (env : Env), Ste B L G H ∧ Rel K S B L G H env σ ∧ Post K S E B L σ G (fun G' H' ds _ => ∀ J, ItOk K S B L G' J ds → R J H') (f env)
abbrev QI (S : Nat → Addr) (X : Cx) (E : XK) (tg iter : Expr) (f : EvI) : Prop := PI X tg iter (TIt X.K S E f)
theorem pi_of {X : Cx} {tg iter : Expr} {t u : TI} (p : PI X tg iter t) (h : ∀ σ H R, u σ H R → t σ H R) : PI X tg iter u := ⟨fun pins s σ H R I q => p.run pins s σ H R I (h σ H R q)⟩
def iSeq (K : PySem.W.Frag) (tl : TE) : TI := fun σ H R => tl σ H fun x H1 => ∃ a, x = .ref a ∧ (((∃ xs, SqL K H1 a xs) ∧ R (Itl K a) H1) ∨ ((∃ xs, SqT K H1 a xs) ∧ R (Itt K a) H1))
theorem pi_seq {X : Cx} {tg l : Expr} {tl : TE} (hl : PE X l tl) : PI X tg l (iSeq X.K tl) := by
  refine ⟨fun pins s σ H R I h => ?_⟩
  refine thn (hl.run pins s σ H _ I h) fun v s1 ⟨x, H1, I1, r1, a, e, q⟩ => ?_
  subst e
  cases r1
  rcases q with ⟨⟨xs, hq⟩, q⟩ | ⟨⟨xs, hq⟩, q⟩
  · obtain ⟨its, rv, p, hz⟩ := I1.list hq
    refine wpAny_pyIter_list p.isList ?_
    refine ⟨s1.heap.objs.size, [s1.heap.objs.size], _, _, H1, rfl, I1.kept (t' := s1.toks) fun b o e => Heap.get?_push_of_some _ e, turn_list a _, ⟨_, Heap.get?_push_size _ rfl, rfl, rfl⟩, fun b hb => ?_, q⟩
    have e : b = s1.heap.objs.size := by simpa using hb
    subst e
    exact I1.fpOk (Nat.le_refl _) (I1.hok.fresh (Nat.le_refl _))
  · obtain ⟨its, rv, p, hz⟩ := I1.tuple hq
    refine wpAny_pyIter_tuple (show s1.heap.IsTuple a its.toArray from p) ?_
    refine ⟨s1.heap.objs.size, [s1.heap.objs.size], _, _, H1, rfl, I1.kept (t' := s1.toks) fun b o e => Heap.get?_push_of_some _ e, turn_tuple a _, ⟨_, Heap.get?_push_size _ rfl, rfl, rfl⟩, fun b hb => ?_, q⟩
    have e : b = s1.heap.objs.size := by simpa using hb
    subst e
    exact I1.fpOk (Nat.le_refl _) (I1.hok.fresh (Nat.le_refl _))
def seqD (d : D) : Option (List D) := match d with
  | .lst xs => some xs
  | .scr xs => some xs
  | .tup xs => some xs
  | _ => none
def lstD (d : D) : Option (List D) := match d with
  | .lst xs => some xs
  | .scr xs => some xs
  | _ => none
section
variable {K : PySem.W.Frag} {S : Nat → Addr} {X : Cx} {E : XK} {a b e tg : Expr} {es : List Expr} {ea eb ee : Ev} {er : EvA} {pos p : Pos}
theorem lst_sq {G : Hp} {d : D} {v : V} {xs : List D} (r : Rep K S G d v) (h : lstD d = some xs) : ∃ q vs, v = .ref q ∧ SqL K G q vs ∧ RepL K S G xs vs := by
  cases d with
  | lst ys => cases h; obtain ⟨q, vs, e, g, t⟩ := r; exact ⟨q, vs, e, .inl (.inl g), t⟩
  | scr ys => cases h; obtain ⟨q, vs, e, g, t⟩ := r; exact ⟨q, vs, e, g, t⟩
  | _ => cases h
theorem seq_sq {G : Hp} {d : D} {v : V} {xs : List D} (r : Rep K S G d v) (h : seqD d = some xs) : ∃ q vs, v = .ref q ∧ (SqL K G q vs ∨ SqT K G q vs) ∧ RepL K S G xs vs := by
  cases d with
  | lst ys => cases h; obtain ⟨q, vs, e, g, t⟩ := r; exact ⟨q, vs, e, .inl (.inl (.inl g)), t⟩
  | scr ys => cases h; obtain ⟨q, vs, e, g, t⟩ := r; exact ⟨q, vs, e, .inl g, t⟩
  | tup ys => cases h; obtain ⟨q, vs, e, g, t⟩ := r; exact ⟨q, vs, e, .inr g, t⟩
  | _ => cases h
theorem rep_none {G : Hp} {xs : List D} {vs : List V} {i : Nat} (r : RepL K S G xs vs) (h : xs[i]? = none) : vs.length ≤ i := by
  have := List.getElem?_eq_none_iff.mp h
  rw [← r.length]
  exact this
theorem same_sqT {G G' : Hp} {q : Addr} {vs : List V} (h : Same G G') (t : SqT K G q vs) : SqT K G' q vs := t.elim (fun t => .inl (t.elim (fun t => .inl (h _ _ t)) fun ⟨o, t⟩ => .inr ⟨o, h _ _ t⟩)) .inr
def iSq (f : Ev) : EvI := fun env => (f env).bind fun d e => .of (seqD d) e
theorem i_seq (ha : QE S X E e ee) : QI S X E tg e (iSq ee) := pi_of (pi_seq ha) fun σ H R ⟨B, L, G, env, st, rl, po⟩ => ⟨B, L, G, env, st, rl, po.then fun G1 H1 d e1 sm1 st1 rl1 p1 v rv => by
  obtain ⟨xs, hd, k⟩ := p1.of st1 rl1
  obtain ⟨q, vs, rfl, hq, t⟩ := seq_sq rv hd
  refine ⟨q, rfl, ?_⟩
  have kk := k G1 H1 (.refl st1.inn)
  rcases hq with hq | hq
  · refine .inl ⟨⟨vs, st1.inn.seq hq⟩, kk _ fun i G2 H2 sm2 st2 => ⟨fun h => ⟨vs, st2.inn.seq (sm2.seq hq), rep_none t h⟩, fun d h => ?_⟩⟩
    obtain ⟨u, hu, ru⟩ := t.get h
    refine ⟨⟨vs, u, st2.inn.seq (sm2.seq hq), hu⟩, fun x H3 ⟨e1, e2⟩ => ?_⟩
    have := e2 vs (st2.inn.seq (sm2.seq hq))
    rw [hu] at this
    cases this
    subst e1
    exact ⟨G2, .refl st2.inn, ru.mono sm2⟩
  · refine .inr ⟨⟨vs, st1.inn.tup hq⟩, kk _ fun i G2 H2 sm2 st2 => ⟨fun h => ⟨vs, st2.inn.tup (same_sqT sm2 hq), rep_none t h⟩, fun d h => ?_⟩⟩
    obtain ⟨u, hu, ru⟩ := t.get h
    refine ⟨⟨vs, u, st2.inn.tup (same_sqT sm2 hq), hu⟩, fun x H3 ⟨e1, e2⟩ => ?_⟩
    have := e2 vs (st2.inn.tup (same_sqT sm2 hq))
    rw [hu] at this
    cases this
    subst e1
    exact ⟨G2, .refl st2.inn, ru.mono sm2⟩⟩
def rngD (lo : Int) (n : Nat) : List D := (List.range n).map fun (k : Nat) => D.int (lo + (k : Int))
theorem rng_ok {B : Base} {L : Lk} {G : Hp} {lo : Int} {n : Nat} : ItOk K S B L G (Itr lo n) (rngD lo n) := fun i G1 H1 sm st => by
  have hl : (rngD lo n).length = n := by simp [rngD]
  refine ⟨fun h => ?_, fun d h => ?_⟩
  · have := List.getElem?_eq_none_iff.mp h
    show n ≤ i
    omega
  · have hi : i < n := by
      have := (List.getElem?_eq_some_iff.mp h).1
      omega
    refine ⟨hi, fun x H2 ⟨e1, e2⟩ => ?_⟩
    have e1 : H2 = H1 := e1
    have e2 : x = .int (lo + (i : Int)) := e2
    have e : (rngD lo n)[i]? = some (.int (lo + (i : Int))) := by
      unfold rngD
      rw [List.getElem?_map, List.getElem?_range hi]
      rfl
    rw [e] at h
    cases h
    subst e1
    exact ⟨G1, .refl st.inn, e2⟩
def iRg1 (r : EvA) : EvI := fun env => (r env).bind fun xs e => match xs with
  | [.int j] => if -(2 ^ 62) ≤ j ∧ j < 2 ^ 62 then .ok (rngD 0 j.toNat) e else .no
  | _ => .no
def iRg2 (r : EvA) : EvI := fun env => (r env).bind fun xs e => match xs with
  | [.int i, .int j] => if -(2 ^ 62) ≤ i ∧ i < 2 ^ 62 ∧ -(2 ^ 62) ≤ j ∧ j < 2 ^ 62 then .ok (rngD i (j - i).toNat) e else .no
  | _ => .no
theorem i_rng1 (hg : Gl X "range") (hm : X.mg "range" = none) (ha : QA S X E [a] er) (hs : starEach [a] X.env = [(false, eval a X.env)] := by rfl) : QI S X E tg (.Call (.Name "range" p) [a] [] pos) (iRg1 er) := pi_of (pi_range1 hg hm ha hs) fun σ H R ⟨B, L, G, env, st, rl, po⟩ => ⟨B, L, G, env, st, rl, po.then fun G1 H1 xs e1 sm1 st1 rl1 p1 vs rv => by
  split at p1
  · rename_i j
    obtain ⟨v, rfl, r⟩ := rv.one
    cases r
    split at p1
    · rename_i h
      exact ⟨j, rfl, h.1, h.2, p1 G1 H1 (.refl _) st1 rl1 _ rng_ok⟩
    · exact p1.elim
  · exact p1.elim⟩
theorem i_rng2 (hg : Gl X "range") (hm : X.mg "range" = none) (ha : QA S X E [a, b] er) (hs : starEach [a, b] X.env = [(false, eval a X.env), (false, eval b X.env)] := by rfl) (hs2 : starEach [b] X.env = [(false, eval b X.env)] := by rfl) : QI S X E tg (.Call (.Name "range" p) [a, b] [] pos) (iRg2 er) := pi_of (pi_range2 hg hm ha hs hs2) fun σ H R ⟨B, L, G, env, st, rl, po⟩ => ⟨B, L, G, env, st, rl, po.then fun G1 H1 xs e1 sm1 st1 rl1 p1 vs rv => by
  split at p1
  · rename_i i j
    obtain ⟨v, w, rfl, r, r'⟩ := rv.two
    cases r
    cases r'
    split at p1
    · rename_i h
      exact ⟨i, j, rfl, h, p1 G1 H1 (.refl _) st1 rl1 _ rng_ok⟩
    · exact p1.elim
  · exact p1.elim⟩
/-! zip, enumerate -/
def zipD : List D → List D → List D
  | x :: xs, y :: ys => .tup [x, y] :: zipD xs ys
  | _, _ => []
theorem zip_at : ∀ (xs ys : List D) (i : Nat), (zipD xs ys)[i]? = match xs[i]?, ys[i]? with
    | some x, some y => some (.tup [x, y])
    | _, _ => none
  | [], ys, i => by simp [zipD]
  | x :: xs, [], i => by
    simp [zipD]
  | x :: xs, y :: ys, 0 => rfl
  | x :: xs, y :: ys, i + 1 => by
    have := zip_at xs ys i
    simpa [zipD] using this
def iZp (r : EvA) : EvI := fun env => (r env).bind fun xs e => match xs with
  | [x, y] => match lstD x, lstD y with
    | some xs, some ys => .ok (zipD xs ys) e
    | _, _ => .no
  | _ => .no
variable {elts : List Expr} {kk : Nat} {tpos : Pos}
theorem zip_ok {B : Base} {L : Lk} {G : Hp} {q q' : Addr} {xs ys : List D} {vs ws : List V} (h1 : SqL K G q vs) (h2 : SqL K G q' ws) (r1 : RepL K S G xs vs) (r2 : RepL K S G ys ws) : ItOk K S B L G (Itz K q q') (zipD xs ys) := fun i G1 H1 sm st => by
  have a1 := st.inn.seq (sm.seq h1)
  have a2 := st.inn.seq (sm.seq h2)
  rw [zip_at]
  refine ⟨fun h => ⟨vs, ws, a1, a2, ?_⟩, fun d h => ?_⟩
  · cases e1 : xs[i]? with
    | none => exact .inl (rep_none r1 e1)
    | some x =>
      cases e2 : ys[i]? with
      | none => exact .inr (rep_none r2 e2)
      | some y => rw [e1, e2] at h; cases h
  · cases e1 : xs[i]? with
    | none => rw [e1] at h; cases h
    | some x =>
      cases e2 : ys[i]? with
      | none => rw [e1, e2] at h; cases h
      | some y =>
        rw [e1, e2] at h
        cases h
        obtain ⟨u, hu, ru⟩ := r1.get e1
        obtain ⟨w, hw, rw'⟩ := r2.get e2
        refine ⟨⟨vs, ws, u, w, a1, a2, hu, hw⟩, fun x' H2 ⟨T, x2, y2, e3, hT, e4, k1, k2⟩ => ?_⟩
        have z1 := k1 vs a1
        have z2 := k2 ws a2
        rw [hu] at z1
        rw [hw] at z2
        cases z1
        cases z2
        subst e3
        subst e4
        have ex := Ex.new1 (o := .tup [u, w]) st.inn hT
        exact ⟨_, ex, T, [u, w], rfl, .inl (.inl upd_same), .cons ((ru.mono sm).mono ex.g) (.cons ((rw'.mono sm).mono ex.g) .nil)⟩
theorem i_zip (hg : Gl X "zip") (hm : X.mg "zip" = none) (ha : QA S X E [a, b] er) (hs : starEach [a, b] X.env = (false, eval a X.env) :: starEach [b] X.env := by rfl) (hs2 : (backTo pos (starEach [b] X.env)).any (·.1) = false := by rfl) : QI S X E (.Tuple elts kk tpos) (.Call (.Name "zip" p) [a, b] [] pos) (iZp er) := pi_of (pi_zip hg hm ha hs hs2) fun σ H R ⟨B, L, G, env, st, rl, po⟩ => ⟨B, L, G, env, st, rl, po.then fun G1 H1 xs e1 sm1 st1 rl1 p1 vs rv => by
  split at p1
  · rename_i x y
    obtain ⟨v, w, rfl, r, r'⟩ := rv.two
    split at p1
    · rename_i xs ys h1 h2
      obtain ⟨q, vs, rfl, hq, t⟩ := lst_sq r h1
      obtain ⟨q', ws, rfl, hq', t'⟩ := lst_sq r' h2
      exact ⟨q, q', vs, ws, rfl, st1.inn.seq hq, st1.inn.seq hq', p1 G1 H1 (.refl _) st1 rl1 _ (zip_ok hq hq' t t')⟩
    · exact p1.elim
  · exact p1.elim⟩
def enumD : Nat → List D → List D
  | _, [] => []
  | n, x :: xs => .tup [.int (n : Int), x] :: enumD (n + 1) xs
theorem enum_at : ∀ (xs : List D) (n i : Nat), (enumD n xs)[i]? = (xs[i]?).map fun x => .tup [.int ((n + i : Nat) : Int), x]
  | [], n, i => by simp [enumD]
  | x :: xs, n, 0 => rfl
  | x :: xs, n, i + 1 => by
    have := enum_at xs (n + 1) i
    rw [show n + 1 + i = n + (i + 1) by omega] at this
    simpa [enumD] using this
def iEn (r : EvA) : EvI := fun env => (r env).bind fun xs e => match xs with
  | [x] => match lstD x with
    | some xs => .ok (enumD 0 xs) e
    | none => .no
  | _ => .no
theorem enum_ok {B : Base} {L : Lk} {G : Hp} {q : Addr} {xs : List D} {vs : List V} (h1 : SqL K G q vs) (r1 : RepL K S G xs vs) : ItOk K S B L G (Ite K q) (enumD 0 xs) := fun i G1 H1 sm st => by
  have a1 := st.inn.seq (sm.seq h1)
  rw [enum_at]
  refine ⟨fun h => ⟨vs, a1, ?_⟩, fun d h => ?_⟩
  · cases e1 : xs[i]? with
    | none => exact rep_none r1 e1
    | some x => rw [e1] at h; cases h
  · cases e1 : xs[i]? with
    | none => rw [e1] at h; cases h
    | some x =>
      rw [e1] at h
      cases h
      obtain ⟨u, hu, ru⟩ := r1.get e1
      refine ⟨⟨vs, u, a1, hu⟩, fun x' H2 ⟨T, x2, e3, hT, e4, k1⟩ => ?_⟩
      have z1 := k1 vs a1
      rw [hu] at z1
      cases z1
      subst e3
      subst e4
      have ex := Ex.new1 (o := .tup [.int (i : Nat), u]) st.inn hT
      refine ⟨_, ex, T, [.int (i : Nat), u], rfl, .inl (.inl upd_same), .cons ?_ (.cons ((ru.mono sm).mono ex.g) .nil)⟩
      show V.int ((i : Nat) : Int) = V.int ((0 + i : Nat) : Int)
      rw [Nat.zero_add]
theorem i_enum (hg : Gl X "enumerate") (hm : X.mg "enumerate" = none) (ha : QA S X E [e] er) (hs : starEach [e] X.env = [(false, eval e X.env)] := by rfl) : QI S X E (.Tuple elts kk tpos) (.Call (.Name "enumerate" p) [e] [] pos) (iEn er) := pi_of (pi_enum hg hm ha hs) fun σ H R ⟨B, L, G, env, st, rl, po⟩ => ⟨B, L, G, env, st, rl, po.then fun G1 H1 xs e1 sm1 st1 rl1 p1 vs rv => by
  split at p1
  · rename_i x
    obtain ⟨v, rfl, r⟩ := rv.one
    split at p1
    · rename_i xs h1
      obtain ⟨q, vs, rfl, hq, t⟩ := lst_sq r h1
      exact ⟨q, vs, rfl, st1.inn.seq hq, p1 G1 H1 (.refl _) st1 rl1 _ (enum_ok hq t)⟩
    · exact p1.elim
  · exact p1.elim⟩
/-! ### for -/
def forL (eg : Eg) (b : EvS) : List D → EvS
  | [], env => .nx env
  | x :: xs, env => match eg x env with
    | none => .no
    | some e1 => match b e1 with
      | .nx e2 => forL eg b xs e2
      | .ct e2 => forL eg b xs e2
      | .bk e2 => .nx e2
      | r => r
def xFor (ei : EvI) (eg : Eg) (b : EvS) : EvS := fun env => (ei env).st fun ds e => forL eg b ds e
variable {iter : Expr} {body : List Stmt} {ei : EvI} {eg : Eg} {g : TG} {gs : List Nat} {eb' : EvS}
theorem drop_at {α : Type} {l : List α} {i : Nat} {x : α} (h : l[i]? = some x) : l.drop i = x :: l.drop (i + 1) := by
  obtain ⟨hi, e⟩ := List.getElem?_eq_some_iff.mp h
  rw [List.drop_eq_getElem_cons hi, e]
theorem for_core {B : Base} {L : Lk} {G1 H1 : Hp} {e1 : Env} {σ : L2.St} {D : Ends} {ds : List Dv.D} {J : It} (sg : SndG K S gs eg g) (st1 : Ste B L G1 H1) (rl1 : Rel K S B L G1 H1 e1 σ) (hJ : ItOk K S B L G1 J ds) (p1 : PostS K S E B L G1 D (forL eg eb' ds e1)) :
    ∃ W : Nat → Nat → L2.St → Hp → Prop, (∃ m, W 0 m σ H1) ∧ ∀ i m σ H, W i m σ H →
      (J.stop i H ∧ D.nx σ H) ∨ (J.go i H ∧ ∃ N : L2.St → Hp → Prop, (∀ σ' H', N σ' H' → ∃ m', m' < m ∧ W (i + 1) m' σ' H') ∧ ∀ x H', J.yld i H x H' → g x σ H' fun σ2 H2 => TS' K S E eb' { D with nx := N, ct := N, bk := D.nx } σ2 H2) := by
  refine ⟨fun i m σ' H' => ∃ G' env', Same G1 G' ∧ Ste B L G' H' ∧ Rel K S B L G' H' env' σ' ∧ m = (ds.drop i).length ∧ PostS K S E B L G' D (forL eg eb' (ds.drop i) env'), ⟨_, G1, e1, .refl _, st1, rl1, rfl, p1⟩, ?_⟩
  rintro i m σ' H' ⟨G', env', sm, st', rl', rfl, po'⟩
  obtain ⟨t1, t2⟩ := hJ i G' H' sm st'
  cases hd : ds[i]? with
  | none =>
    have e : ds.drop i = [] := List.drop_eq_nil_iff.mpr (List.getElem?_eq_none_iff.mp hd)
    rw [e] at po'
    exact .inl ⟨t1 hd, po' σ' G' H' (.refl _) st' rl'⟩
  | some d =>
    obtain ⟨g1, g2⟩ := t2 d hd
    have e := drop_at hd
    rw [e] at po'
    refine .inr ⟨g1, fun σ2 H2 => ∃ G2 env2, Same G1 G2 ∧ Ste B L G2 H2 ∧ Rel K S B L G2 H2 env2 σ2 ∧ PostS K S E B L G2 D (forL eg eb' (ds.drop (i + 1)) env2), fun σ2 H2 ⟨G2, env2, a1, a2, a3, a4⟩ => ⟨(ds.drop (i + 1)).length, by rw [e, List.length_cons]; omega, G2, env2, a1, a2, a3, rfl, a4⟩, fun x H2 hy => ?_⟩
    obtain ⟨G2, ex, rx⟩ := g2 x H2 hy
    have st2 := st'.ex ex
    have rl2 := rl'.ex ex
    have po' : PostS K S E B L G' D (match eg d env' with
      | none => .no
      | some e1 => match eb' e1 with
        | .nx e2 => forL eg eb' (ds.drop (i + 1)) e2
        | .ct e2 => forL eg eb' (ds.drop (i + 1)) e2
        | .bk e2 => .nx e2
        | r => r) := po'
    cases hg : eg d env' with
    | none => rw [hg] at po'; exact po'.elim
    | some e3 =>
      rw [hg] at po'
      dsimp only at po'
      refine sg B L G2 H2 env' e3 σ' d x _ st2 rl2 rx hg fun σ3 rl3 _ => ⟨B, L, G2, e3, st2, rl3, ?_⟩
      have po2 := po'.up ex.g
      cases hb : eb' e3 with
      | nx e4 => rw [hb] at po2; exact fun σ4 G4 H4 s4 st4 rl4 => ⟨G4, e4, (sm.trans ex.g).trans s4, st4, rl4, po2.up s4⟩
      | ct e4 => rw [hb] at po2; exact fun σ4 G4 H4 s4 st4 rl4 => ⟨G4, e4, (sm.trans ex.g).trans s4, st4, rl4, po2.up s4⟩
      | bk e4 => rw [hb] at po2; exact po2
      | rt d e4 => rw [hb] at po2; exact po2
      | rf d e4 => rw [hb] at po2; exact po2
      | ex C fs e4 => rw [hb] at po2; exact po2
      | no => rw [hb] at po2; exact po2
theorem s_for (hp : PassesOwn (model X.prog X.w) X.A X.env X.xe) (hc : X.calm = true) (hi : QI S X E tg iter ei) (hg : PG X tg g) (sg : SndG X.K S gs eg g) (hb : QSs S X E body eb') (hs : ∀ x, foldedSetIterable iter X.env x = pure x := by intro _; rfl) :
    QS S X E (.For tg iter body [] pos) (xFor ei eg eb') := ps_of (ps_for hp hc hi hg hb hs) fun D σ H ⟨B, L, G, env, st, rl, po⟩ => ⟨B, L, G, env, st, rl, Post.st po fun G1 H1 ds e1 sm1 st1 rl1 p1 J hJ => for_core sg st1 rl1 hJ p1⟩
/-! ### while -/
def whileL (c : EvT) (b : EvS) : Nat → EvS
  | 0, _ => .no
  | f + 1, env => (c env).st fun x e => match x with
    | true => match b e with
      | .nx e2 => whileL c b f e2
      | .ct e2 => whileL c b f e2
      | .bk e2 => .nx e2
      | r => r
    | false => .nx e
variable {et : EvT}
theorem s_while {c : Expr} (f : Nat) (hp : PassesOwn (model X.prog X.w) X.A X.env X.xe) (hc : QT S X E c et) (hb : QSs S X E body eb') : QS S X E (.While c body [] pos) (whileL et eb' f) := ps_of (ps_while hp hc hb) fun D σ H ⟨B, L, G, env, st, rl, po⟩ => by
  refine ⟨fun m σ' H' => ∃ G' env', Ste B L G' H' ∧ Rel X.K S B L G' H' env' σ' ∧ PostS X.K S E B L G' D (whileL et eb' m env'), ⟨f, G, env, st, rl, po⟩, ?_⟩
  rintro m σ' H' ⟨G', env', st', rl', po'⟩
  cases m with
  | zero => exact po'.elim
  | succ m =>
    refine ⟨B, L, G', env', st', rl', Post.st po' fun G2 H2 x e2 sm2 st2 rl2 p2 v rv => ?_⟩
    cases rv
    cases x with
    | false => exact p2 σ' G2 H2 (.refl _) st2 rl2
    | true =>
      dsimp only at p2
      refine ⟨fun σ3 H3 => ∃ m', m' < m + 1 ∧ ∃ G' env', Ste B L G' H3 ∧ Rel X.K S B L G' H3 env' σ3 ∧ PostS X.K S E B L G' D (whileL et eb' m' env'), fun _ _ z => z, B, L, G2, e2, st2, rl2, ?_⟩
      cases hb : eb' e2 with
      | nx e4 => rw [hb] at p2; exact fun σ4 G4 H4 s4 st4 rl4 => ⟨m, Nat.lt_succ_self _, G4, e4, st4, rl4, p2.up s4⟩
      | ct e4 => rw [hb] at p2; exact fun σ4 G4 H4 s4 st4 rl4 => ⟨m, Nat.lt_succ_self _, G4, e4, st4, rl4, p2.up s4⟩
      | bk e4 => rw [hb] at p2; exact p2
      | rt d e4 => rw [hb] at p2; exact p2
      | rf d e4 => rw [hb] at p2; exact p2
      | ex C fs e4 => rw [hb] at p2; exact p2
      | no => rw [hb] at p2; exact p2
end
end
end Dv
namespace Dv
open PySem PySem.Spec PyProof.Rows L2
set_option autoImplicit false
noncomputable section
/-! ### list comprehensions -/
def wipeE (env : Env) : List Nat → Env
  | [] => env
  | v :: vs => (wipeE env vs).set v .no
theorem wipeE_len (env : Env) : ∀ vs, (wipeE env vs).length = env.length
  | [] => rfl
  | v :: vs => by unfold wipeE; rw [List.length_set, wipeE_len env vs]
theorem wipeE_at {env : Env} : ∀ (vs : List Nat) (j : Nat), (wipeE env vs)[j]? = if j ∈ vs then (if j < env.length then some .no else none) else env[j]?
  | [], j => by simp [wipeE]
  | v :: vs, j => by
    unfold wipeE
    by_cases h : v = j
    · subst h
      by_cases hl : v < env.length
      · rw [List.getElem?_set_self (by rw [wipeE_len]; exact hl)]
        simp [hl]
      · rw [List.getElem?_eq_none_iff.mpr (by rw [List.length_set, wipeE_len]; omega)]
        simp [hl]
    · rw [List.getElem?_set_ne h, wipeE_at vs j]
      have : j ≠ v := fun e => h e.symm
      simp [this]
section
variable {K : PySem.W.Frag} {S : Nat → Addr} {B : Base} {L : Lk} {G H : Hp} {env : Env} {σ τ : L2.St} {vs : List Nat}
theorem rel_wipes (rl : Rel K S B L G H env σ) : Rel K S B L G H (wipeE env vs) σ := by
  induction vs with
  | nil => exact rl
  | cons v vs ih => exact rel_no ih
/-- slots that agree off vs -/
theorem rel_off (rl : Rel K S B L G H (wipeE env vs) σ) (h : wipe τ vs = wipe σ vs) (hl : τ.length = σ.length) : Rel K S B L G H (wipeE env vs) τ := by
  have key : ∀ j, j ∉ vs → τ[j]? = σ[j]? := fun j hj => by
    have := congrArg (fun l : L2.St => l[j]?) h
    simp only [wipe_at, if_neg hj] at this
    exact this
  have hno : ∀ (j : Nat) (s : Sl), (wipeE env vs)[j]? = some s → isOwn s = true → j ∉ vs := fun j s h1 h2 hj => by
    rw [wipeE_at, if_pos hj] at h1
    split at h1 <;> cases h1
    cases h2
  refine ⟨paired_of (by rw [paired_len rl.at_, hl]) fun j s x h1 h2 => ?_, fun j k s t a hjk h1 h2 o1 o2 h3 h4 => ?_, fun j s a h1 o1 h3 => ?_⟩
  · by_cases hj : j ∈ vs
    · rw [wipeE_at, if_pos hj] at h1
      split at h1 <;> cases h1
      trivial
    · rw [key j hj] at h2
      obtain ⟨y, hy, q⟩ := rel_at rl h1
      rw [h2] at hy
      cases hy
      exact q
  · rw [key j (hno j s h1 o1)] at h3
    rw [key k (hno k t h2 o2)] at h4
    exact rl.nd j k s t a hjk h1 h2 o1 o2 h3 h4
  · rw [key j (hno j s h1 o1)] at h3
    exact rl.nl j s a h1 o1 h3
theorem wipe_wipe : wipe (wipe σ vs) vs = wipe σ vs := by
  refine List.ext_getElem? fun j => ?_
  rw [wipe_at, wipe_at, wipe_length]
  by_cases hj : j ∈ vs
  · rw [if_pos hj, if_pos hj]
  · simp [hj]
/-! a list that grows, apart -/
theorem ste_pin (st : Ste B L G H) {p : Addr} {o : HO} (hp : H p = none) : Ste B ((p, o) :: L) G (upd H p o) := by
  have x := Ex.skip (o := o) st.inn hp
  have s := st.ex x
  refine ⟨s.g0, s.inn, s.new, fun a u e r l => s.keep a u e r fun q hq => l q (List.mem_cons_of_mem _ hq), fun q hq => ?_, fun a e => ?_, fun q hq hf => ?_⟩
  · rcases List.mem_cons.mp hq with rfl | hq
    · exact upd_same
    · exact s.lock q hq
  · obtain ⟨h1, h2, h3, h4⟩ := s.par a e
    refine ⟨h1, h2, h3, fun q hq => ?_⟩
    rcases List.mem_cons.mp hq with rfl | hq
    · intro e'
      have e' : p = a := e'
      subst e'
      exact (st.par p e).2.1 hp
    · exact h4 q hq
  · rcases List.mem_cons.mp hq with rfl | hq
    · exact st.inn.some hp
    · exact s.out q hq hf
theorem ste_unpin {p : Addr} {o : HO} (st : Ste B ((p, o) :: L) G H) (hb : B.H p = none) : Ste B L G H :=
  ⟨st.g0, st.inn, st.new, fun a u e r l => st.keep a u e r fun q hq => by
    rcases List.mem_cons.mp hq with rfl | hq
    · intro e'
      have e' : p = a := e'
      subst e'
      rw [hb] at e
      cases e
    · exact l q hq, fun q hq => st.lock q (List.mem_cons_of_mem _ hq), fun a e => let ⟨h1, h2, h3, h4⟩ := st.par a e; ⟨h1, h2, h3, fun q hq => h4 q (List.mem_cons_of_mem _ hq)⟩, fun q hq hf => st.out q (List.mem_cons_of_mem _ hq) hf⟩
theorem ste_repin {p : Addr} {o u : HO} (st : Ste B ((p, o) :: L) G H) (hb : B.H p = none) (hl : ∀ q ∈ L, q.1 ≠ p) (ho : ∀ o' u', o ≠ .frz o' u') : Ste B ((p, u) :: L) G (upd H p u) := by
  have gp : G p = none := st.out (p, o) (List.mem_cons_self ..) ho
  refine ⟨st.g0, fun a w e => ?_, st.new, fun a w e r l => ?_, fun q hq => ?_, fun a e => ?_, fun q hq hf => ?_⟩
  · have : a ≠ p := fun q => by subst q; rw [gp] at e; cases e
    rw [upd_ne this]
    exact st.inn a w e
  · have hne : a ≠ p := fun q => by subst q; rw [hb] at e; cases e
    rw [upd_ne hne]
    refine st.keep a w e r fun q hq => ?_
    rcases List.mem_cons.mp hq with rfl | hq
    · exact fun q => hne q.symm
    · exact l q (List.mem_cons_of_mem _ hq)
  · rcases List.mem_cons.mp hq with rfl | hq
    · exact upd_same
    · rw [upd_ne (hl q hq)]
      exact st.lock q (List.mem_cons_of_mem _ hq)
  · obtain ⟨h1, h2, h3, h4⟩ := st.par a e
    refine ⟨h1, ?_, h3, fun q hq => ?_⟩
    · have : a ≠ p := fun q => by subst q; exact h3 hb
      rw [upd_ne this]
      exact h2
    · rcases List.mem_cons.mp hq with rfl | hq
      · exact h4 (p, o) (List.mem_cons_self ..)
      · exact h4 q (List.mem_cons_of_mem _ hq)
  · rcases List.mem_cons.mp hq with rfl | hq
    · exact gp
    · exact st.out q (List.mem_cons_of_mem _ hq) hf
theorem rel_pin (rl : Rel K S B L G H env σ) {p : Addr} {o : HO} (i : Inn G H) (hp : H p = none) : Rel K S B ((p, o) :: L) G (upd H p o) env σ := by
  have r := rl.ex (Ex.skip (o := o) i hp)
  refine ⟨r.at_, r.nd, fun j s a h1 o1 h3 q hq => ?_⟩
  rcases List.mem_cons.mp hq with rfl | hq
  · intro e
    have e : p = a := e
    subst e
    exact rl.fresh hp j s h1 o1 h3
  · exact r.nl j s a h1 o1 h3 q hq
theorem rel_unpin {p : Addr} {o : HO} (rl : Rel K S B ((p, o) :: L) G H env σ) : Rel K S B L G H env σ := ⟨rl.at_, rl.nd, fun j s a h1 o1 h3 q hq => rl.nl j s a h1 o1 h3 q (List.mem_cons_of_mem _ hq)⟩
theorem rel_repin {p : Addr} {o u : HO} (rl : Rel K S B ((p, o) :: L) G H env σ) : Rel K S B ((p, u) :: L) G (upd H p u) env σ := by
  have hne : ∀ (j : Nat) (s : Sl) (a : Addr), env[j]? = some s → isOwn s = true → σ[j]? = some (some (V.ref a)) → a ≠ p := fun j s a h1 o1 h3 e => rl.nl j s a h1 o1 h3 (p, o) (List.mem_cons_self ..) e.symm
  refine ⟨paired_of (paired_len rl.at_) fun j s x h1 h2 => ?_, rl.nd, fun j s a h1 o1 h3 q hq => ?_⟩
  · obtain ⟨y, hy, q⟩ := rel_at rl h1
    rw [h2] at hy
    cases hy
    cases s with
    | no => trivial
    | val d => exact q
    | box d =>
      obtain ⟨a, w, rfl, g, b, ha, r⟩ := q
      exact ⟨a, w, rfl, g, b, by rw [upd_ne (hne j _ a h1 rfl h2)]; exact ha, r⟩
    | par d =>
      obtain ⟨a, w, rfl, b, ha, r⟩ := q
      exact ⟨a, w, rfl, b, by rw [upd_ne (hne j _ a h1 rfl h2)]; exact ha, r⟩
  · rcases List.mem_cons.mp hq with rfl | hq
    · exact rl.nl j s a h1 o1 h3 (p, o) (List.mem_cons_self ..)
    · exact rl.nl j s a h1 o1 h3 q (List.mem_cons_of_mem _ hq)
end
def cmpL (eg : Eg) (et : EvT) (ee : Ev) (vs : List Nat) : List D → List D → Env → Res (List D)
  | [], acc, env => .ok acc env
  | x :: xs, acc, env => match eg x (wipeE env vs) with
    | none => .no
    | some e1 => match et e1 with
      | .ok true e2 => match ee e2 with
        | .ok y e3 => if acc.length < 1000000 then cmpL eg et ee vs xs (acc ++ [y]) e3 else .no
        | _ => .no
      | .ok false e2 => cmpL eg et ee vs xs acc e2
      | _ => .no
def xLc (ei : EvI) (eg : Eg) (et : EvT) (ee : Ev) (vs : List Nat) : Ev := fun env => (ei env).bind fun ds e => (cmpL eg et ee vs ds [] e).bind fun acc e' => .ok (.lst acc) (wipeE e' vs)
section
variable {K : PySem.W.Frag} {S : Nat → Addr} {X : Cx} {E : XK} {e iter tg elt : Expr} {ee : Ev} {ei : EvI} {eg : Eg} {g : TG} {gs vs : List Nat} {et : EvT} {pos : Pos}
theorem post_ok {α : Type} {B : Base} {L : Lk} {σ : L2.St} {G : Hp} {P : Hp → Hp → α → Env → Prop} {r : Res α} (h : Post K S E B L σ G P r) {a : α} {e : Env} (he : r = .ok a e) : ∀ G' H', Same G G' → Ste B L G' H' → Rel K S B L G' H' e σ → P G' H' a e := by
  subst he
  exact h
theorem len9 {n : Nat} (h : n < 1000000) : n < sizeLine := by
  have : sizeLine = 16777216 := sizeLine_eq
  omega
def PLc (K : PySem.W.Frag) (S : Nat → Addr) (B : Base) (L : Lk) (σ : L2.St) (Q : VK) : Hp → Hp → D → Env → Prop := fun G' H' d e => ∀ a o, G' a = none → B.H a = none → H' a = some o → (∀ (i : Nat) (s : Sl), e[i]? = some s → isOwn s = true → σ[i]? ≠ some (some (V.ref a))) → (∀ p ∈ L, p.1 ≠ a) → RepO K S G' d o → Q (.ref a) H'
theorem lc_core {tt : TT} {σ : L2.St} {Q : VK} {B : Base} {L : Lk} {G1 H1 : Hp} {e1 : Env} {J : It} {ds : List D} (sg : SndG K S gs eg g) (hv : ∀ i ∈ gs, i ∈ vs) (htt : ∀ σ H Q, TB K S E0 et σ H Q → tt σ H Q) (st1 : Ste B L G1 H1) (rl1 : Rel K S B L G1 H1 e1 σ) (hJ : ItOk K S B L G1 J ds)
    (p1 : Post K S E B L σ G1 (PLc K S B L σ Q) ((cmpL eg et ee vs ds [] e1).bind fun acc e' => .ok (.lst acc) (wipeE e' vs))) :
    ∀ P, H1 P = none → ∃ W : Nat → Nat → Hp → Prop, (∃ m, W 0 m (upd H1 P (.lst []))) ∧ ∀ i m H, W i m H →
      (J.stop i H ∧ Q (.ref P) H) ∨ (J.go i H ∧ ∃ Nx : Hp → Prop, (∀ H', Nx H' → ∃ m', m' < m ∧ W (i + 1) m' H') ∧ ∀ x H', J.yld i H x H' → g x (wipe σ vs) H' fun σ2 H2 => wipe σ2 vs = wipe σ vs ∧ tt σ2 H2 fun b H3 =>
        if b = true then TD K S E0 ee σ2 H3 fun y H4 => ∃ acc, H4 P = some (.lst acc) ∧ acc.length < sizeLine ∧ Nx (upd H4 P (.lst (acc ++ [y]))) else Nx H3) := by
  intro P hP
  have hbP := st1.free hP
  have hlP := st1.nolock hP
  refine ⟨fun i m H' => ∃ G' env' acc ws, Same G1 G' ∧ Ste B ((P, .lst ws) :: L) G' H' ∧ Rel K S B ((P, .lst ws) :: L) G' H' (wipeE env' vs) (wipe σ vs) ∧ RepL K S G' acc ws ∧ m = (ds.drop i).length ∧
    Post K S E B L σ G' (fun G' H' d e => ∀ a o, G' a = none → B.H a = none → H' a = some o → (∀ (i : Nat) (s : Sl), e[i]? = some s → isOwn s = true → σ[i]? ≠ some (some (V.ref a))) → (∀ p ∈ L, p.1 ≠ a) → RepO K S G' d o → Q (.ref a) H') ((cmpL eg et ee vs (ds.drop i) acc env').bind fun acc e' => .ok (.lst acc) (wipeE e' vs)),
    ⟨_, G1, e1, [], [], .refl _, ste_pin st1 hP, ?_, rfl, rfl, p1⟩, ?_⟩
  · exact rel_off (rel_wipes (rel_pin rl1 st1.inn hP)) wipe_wipe (wipe_length _ _)
  rintro i m H' ⟨G', env', acc, ws, sm, st', rl', ra, rfl, po'⟩
  have stU := ste_unpin st' hbP
  obtain ⟨t1, t2⟩ := hJ i G' H' sm stU
  have hlen : acc.length = ws.length := ra.length
  cases hd : ds[i]? with
  | none =>
    have e : ds.drop i = [] := List.drop_eq_nil_iff.mpr (List.getElem?_eq_none_iff.mp hd)
    rw [e] at po'
    have rlE : Rel K S B L G' H' (wipeE env' vs) σ := rel_off (rel_unpin rl') wipe_wipe.symm (wipe_length _ _).symm
    refine .inl ⟨t1 hd, po' G' H' (.refl _) stU rlE P (.lst ws) (st'.out _ (List.mem_cons_self ..) (fun _ _ h => by cases h)) hbP (st'.lock _ (List.mem_cons_self ..)) (fun j s h1 o1 h3 => ?_) hlP ⟨ws, rfl, ra⟩⟩
    have hj : j ∉ vs := fun hj => by
      rw [wipeE_at, if_pos hj] at h1
      split at h1 <;> cases h1
      cases o1
    refine rl'.nl j s P h1 o1 ?_ (P, .lst ws) (List.mem_cons_self ..) rfl
    rw [wipe_at, if_neg hj]
    exact h3
  | some d =>
    obtain ⟨g1, g2⟩ := t2 d hd
    have e := drop_at hd
    rw [e] at po'
    refine .inr ⟨g1, fun H2 => ∃ G2 env2 acc2 ws2, Same G1 G2 ∧ Ste B ((P, .lst ws2) :: L) G2 H2 ∧ Rel K S B ((P, .lst ws2) :: L) G2 H2 (wipeE env2 vs) (wipe σ vs) ∧ RepL K S G2 acc2 ws2 ∧
      Post K S E B L σ G2 (fun G' H' d e => ∀ a o, G' a = none → B.H a = none → H' a = some o → (∀ (i : Nat) (s : Sl), e[i]? = some s → isOwn s = true → σ[i]? ≠ some (some (V.ref a))) → (∀ p ∈ L, p.1 ≠ a) → RepO K S G' d o → Q (.ref a) H') ((cmpL eg et ee vs (ds.drop (i + 1)) acc2 env2).bind fun acc e' => .ok (.lst acc) (wipeE e' vs)),
      fun H2 ⟨G2, env2, acc2, ws2, a1, a2, a3, a4, a5⟩ => ⟨(ds.drop (i + 1)).length, by rw [e, List.length_cons]; omega, G2, env2, acc2, ws2, a1, a2, a3, a4, rfl, a5⟩, fun x H2 hy => ?_⟩
    obtain ⟨G2, ex, rx⟩ := g2 x H2 hy
    have st2 := st'.ex ex
    have rl2 := rl'.ex ex
    have cm : cmpL eg et ee vs (d :: ds.drop (i + 1)) acc env' = match eg d (wipeE env' vs) with
      | none => .no
      | some e1 => match et e1 with
        | .ok true e2 => match ee e2 with
          | .ok y e3 => if acc.length < 1000000 then cmpL eg et ee vs (ds.drop (i + 1)) (acc ++ [y]) e3 else .no
          | _ => .no
        | .ok false e2 => cmpL eg et ee vs (ds.drop (i + 1)) acc e2
        | _ => .no := rfl
    rw [cm] at po'
    cases hg : eg d (wipeE env' vs) with
    | none => rw [hg] at po'; exact po'.elim
    | some e3 =>
      rw [hg] at po'
      dsimp only at po'
      refine sg B _ G2 H2 (wipeE env' vs) e3 (wipe σ vs) d x _ st2 rl2 rx hg fun σ3 rl3 w3 => ⟨(w3 vs hv).trans wipe_wipe, ?_⟩
      have hσ : wipe σ3 vs = wipe σ vs := (w3 vs hv).trans wipe_wipe
      have lσ : σ3.length = σ.length := by
        have := congrArg List.length hσ
        rw [wipe_length, wipe_length] at this
        exact this
      refine htt _ _ _ ⟨B, _, G2, e3, st2, rl3, ?_⟩
      cases ht : et e3 with
      | no => rw [ht] at po'; exact po'.elim
      | ex C fs e4 => rw [ht] at po'; exact po'.elim
      | ok b e4 =>
        rw [ht] at po'
        intro G4 H4 sm4 st4 rl4 c hc
        cases hc
        cases b with
        | false =>
          rw [if_neg (by decide)]
          exact ⟨G4, e4, acc, ws, (sm.trans ex.g).trans sm4, st4, rel_off (rel_wipes rl4) (by rw [wipe_wipe]; exact hσ.symm) (by rw [wipe_length, lσ]), (ra.mono ex.g).mono sm4, po'.up (ex.g.trans sm4)⟩
        | true =>
          rw [if_pos rfl]
          dsimp only at po'
          refine ⟨B, _, G4, e4, st4, rl4, ?_⟩
          cases he : ee e4 with
          | no => rw [he] at po'; exact po'.elim
          | ex C fs e5 => rw [he] at po'; exact po'.elim
          | ok y e5 =>
            rw [he] at po'
            dsimp only at po'
            intro G5 H5 sm5 st5 rl5 v rv
            by_cases hz : acc.length < 1000000
            · rw [if_pos hz] at po'
              have sm15 := ((sm.trans ex.g).trans sm4).trans sm5
              refine ⟨ws, st5.lock _ (List.mem_cons_self ..), len9 (by rw [← hlen]; exact hz), G5, e5, acc ++ [y], ws ++ [v], sm15, ste_repin st5 hbP hlP (fun _ _ h => by cases h), ?_, (((ra.mono ex.g).mono sm4).mono sm5).app (.cons rv .nil), po'.up ((ex.g.trans sm4).trans sm5)⟩
              exact rel_off (rel_wipes (rel_repin rl5)) (by rw [wipe_wipe]; exact hσ.symm) (by rw [wipe_length, lσ])
            · rw [if_neg hz] at po'
              exact po'.elim
theorem sndf_lc {wi : TI} {tt : TT} {σ : L2.St} {H : Hp} {Q : VK} (hwi : ∀ σ H R, TIt K S E ei σ H R → wi σ H R) (sg : SndG K S gs eg g) (hv : ∀ i ∈ gs, i ∈ vs) (htt : ∀ σ H Q, TB K S E0 et σ H Q → tt σ H Q) (q : TF K S E (xLc ei eg et ee vs) σ H Q) : tLc wi g tt (TD K S E0 ee) vs σ H Q := by
  obtain ⟨B, L, G, env, st, rl, po⟩ := q
  refine hwi _ _ _ ⟨B, L, G, env, st, rl, po.then fun G1 H1 ds e1 sm1 st1 rl1 p1 J hJ => lc_core sg hv htt st1 rl1 hJ p1⟩
def xYes : EvT := fun env => .ok true env
theorem yes_ok {σ : L2.St} {H : Hp} {Q : Bool → Hp → Prop} (q : TB K S E xYes σ H Q) : tYes σ H Q := by
  obtain ⟨B, L, G, env, st, rl, po⟩ := q
  exact po G H (.refl _) st rl true rfl
theorem qf_lc {ifs : List Expr} {scope : Scope} {own : List (Str × Nat)} {tt : TT} (hc : X.calm = true) (hN : X.N.Nodup) (hi : QI S X E tg iter ei) (ok : BlkOk X.N X.env.scope scope own) (hvs : own.map (·.2) = vs)
    (hg : ∀ (s : Shared) (H : Hp) (C : Addr) (cl : List (Str × Addr)) (fp : List Addr), PG (X.blk s H scope (compEnvC scope cl C X.env) fp) tg g) (sg : SndG X.K S gs eg g) (hv : ∀ i ∈ gs, i ∈ vs)
    (ht : ∀ (s : Shared) (H : Hp) (C : Addr) (cl : List (Str × Addr)) (fp : List Addr), PTs (X.blk s H scope (compEnvC scope cl C X.env) fp) ifs tt) (htt : ∀ σ H Q, TB X.K S E0 et σ H Q → tt σ H Q)
    (he : ∀ (s : Shared) (H : Hp) (C : Addr) (cl : List (Str × Addr)) (fp : List Addr), QE S (X.blk s H scope (compEnvC scope cl C X.env) fp) E0 elt ee) (hs : ∀ x, foldedSetIterable iter X.env x = pure x := by intro _; rfl) :
    QF S X E (.ListComp elt [⟨tg, iter, ifs, 0⟩] scope pos) (xLc ei eg et ee vs) := by
  subst hvs
  exact pe_of (pe_lc hc hN hi ok hg ht he hs) fun _ _ _ q => sndf_lc (fun _ _ _ h => h) sg hv htt q
/-! x = [..] -/
theorem s_setLc {ifs : List Expr} {scope : Scope} {own : List (Str × Nat)} {tt : TT} {i : Nat} {y : Str} {py spos : Pos} (hc : X.calm = true) (hN : X.N.Nodup) (hy : X.N[i]? = some y) (hyl : X.env.scope.names.lookup y = some .local)
    (hsw : swapsWith (.ListComp elt [⟨tg, iter, ifs, 0⟩] scope pos) (some (.Name y py)) spos.line X.env = pure true) (hi : QI S X E tg iter ei) (ok : BlkOk X.N X.env.scope scope own) (hvs : own.map (·.2) = vs)
    (hg : ∀ (s : Shared) (H : Hp) (C : Addr) (cl : List (Str × Addr)) (fp : List Addr), PG (X.blk s H scope (compEnvC scope cl C X.env) fp) tg g) (sg : SndG X.K S gs eg g) (hv : ∀ i ∈ gs, i ∈ vs)
    (ht : ∀ (s : Shared) (H : Hp) (C : Addr) (cl : List (Str × Addr)) (fp : List Addr), PTs (X.blk s H scope (compEnvC scope cl C X.env) fp) ifs tt) (htt : ∀ σ H Q, TB X.K S E0 et σ H Q → tt σ H Q)
    (he : ∀ (s : Shared) (H : Hp) (C : Addr) (cl : List (Str × Addr)) (fp : List Addr), QE S (X.blk s H scope (compEnvC scope cl C X.env) fp) E0 elt ee) (hs : ∀ x, foldedSetIterable iter X.env x = pure x := by intro _; rfl) :
    QS S X E (.Assign [.Name y py] (.ListComp elt [⟨tg, iter, ifs, 0⟩] scope pos) spos) (xBox i (xLc ei eg et ee vs)) := by
  subst hvs
  refine ps_of (ps_setLc (te := TD X.K S E0 ee) hc hN hy hyl hsw hi ok hg ht he hs) fun D σ H q => ?_
  obtain ⟨B, L, G, env, st, rl, po⟩ := q
  refine sndf_lc (fun _ _ _ h => h) sg hv htt ⟨B, L, G, env, st, rl, Post.st po fun G' H' d e s st' rl' p a o h1 h2 h3 h4 h5 h6 => ?_⟩
  split at p
  · exact p.elim
  · exact p _ G' H' (.refl _) st' (rel_box rl' h1 h2 h3 h4 h5 h6)
  · exact p.elim
end
/-! ### a def's run -/
def parOf : Env → Option D
  | [] => none
  | .par d :: _ => some d
  | _ :: r => parOf r
def start (n : Nat) (as : List Ar) : Env := as.map Ar.sl ++ List.replicate (n - as.length) .no
def runF (fr : Bool) (n : Nat) (b : EvS) : Fn := fun as => match b (start n as) with
  | .nx e => if fr = true then .no else .ok .non (parOf e)
  | .rt d e => if fr = true then .no else .ok d (parOf e)
  | .rf d e => if fr = true then .ok d (parOf e) else .no
  | .ex C fs e => .ex C fs (parOf e)
  | _ => .no
section
variable {K : PySem.W.Frag} {S : Nat → Addr} {X : Cx} {E : XK}
theorem par_ok {B : Base} {G H : Hp} : ∀ {env : Env} {σ : L2.St}, Paired (SlOk K S B G H) env σ → ParOk K S B.r (parOf env) G H
  | [], _, .nil => fun d e => by cases e
  | s :: r, _, .cons q t => by
    cases s with
    | par d =>
      intro d' e
      cases e
      obtain ⟨a, o, _, b, h, r⟩ := q
      exact ⟨a, o, b, h, r⟩
    | no => exact par_ok (env := r) t
    | val d => exact par_ok (env := r) t
    | box d => exact par_ok (env := r) t
theorem start_rel {G H : Hp} {r : Option Addr} {N : List Str} {as : List Ar} {vs : List V} (ok : ArgsOk K S G H r as vs) (hl : as.length ≤ N.length) : Rel K S ⟨G, H, r⟩ [] G H (start N.length as) (L2.start N vs) := by
  have hvs := paired_len ok.at_
  have e1 : L2.start N vs = vs.map some ++ List.replicate (N.length - vs.length) none := rfl
  have own1 : ∀ (l : List Ar) (j k : Nat) (s t : Sl), ownN l ≤ 1 → (l.map Ar.sl)[j]? = some s → (l.map Ar.sl)[k]? = some t → isOwn s = true → isOwn t = true → j = k := by
    intro l
    induction l with
    | nil => intro j k s t _ h; simp at h
    | cons a l ih =>
      intro j k s t h1 h2 h3 o1 o2
      have z : ∀ (l : List Ar) (k : Nat) (t : Sl), ownN l = 0 → (l.map Ar.sl)[k]? = some t → isOwn t = true → False := by
        intro l
        induction l with
        | nil => intro k t _ h; simp at h
        | cons a l ih =>
          intro k t h0 h o
          cases a with
          | par d =>
            have : (List.filter Ar.own (Ar.par d :: l)).length = 0 := h0
            rw [List.filter_cons_of_pos rfl, List.length_cons] at this
            omega
          | val d =>
            cases k with
            | zero => simp at h; subst h; cases o
            | succ k => exact ih k t h0 (by simpa using h) o
      cases a with
      | val d =>
        cases j with
        | zero => simp at h2; subst h2; cases o1
        | succ j =>
          cases k with
          | zero => simp at h3; subst h3; cases o2
          | succ k => rw [ih j k s t h1 (by simpa using h2) (by simpa using h3) o1 o2]
      | par d =>
        have h1' : (List.filter Ar.own (Ar.par d :: l)).length ≤ 1 := h1
        rw [List.filter_cons_of_pos rfl, List.length_cons] at h1'
        have h0 : ownN l = 0 := by unfold ownN; omega
        cases j with
        | zero =>
          cases k with
          | zero => rfl
          | succ k => exact (z l k t h0 (by simpa using h3) o2).elim
        | succ j => exact (z l j s h0 (by simpa using h2) o1).elim
  have at0 : ∀ (j : Nat) (s : Sl), (start N.length as)[j]? = some s → isOwn s = true → (as.map Ar.sl)[j]? = some s := fun j s h o => by
    unfold start at h
    by_cases hj : j < (as.map Ar.sl).length
    · rw [List.getElem?_append_left hj] at h
      exact h
    · rw [List.getElem?_append_right (by omega)] at h
      have := List.mem_of_getElem? h
      rw [(List.mem_replicate.mp this).2] at o
      cases o
  refine ⟨?_, fun j k s t a hjk h1 h2 o1 o2 _ _ => hjk (own1 as j k s t ok.one (at0 j s h1 o1) (at0 k t h2 o2) o1 o2), fun j s a _ _ _ p hp => by cases hp⟩
  refine paired_of (by simp [start, e1]; omega) fun j s x h1 h2 => ?_
  by_cases hj : j < as.length
  · have h1' : (as.map Ar.sl)[j]? = some s := by
      unfold start at h1
      rw [List.getElem?_append_left (by rw [List.length_map]; exact hj)] at h1
      exact h1
    rw [List.getElem?_map] at h1'
    cases ha : as[j]? with
    | none => rw [ha] at h1'; cases h1'
    | some a =>
      rw [ha] at h1'
      cases h1'
      obtain ⟨v, hv, q⟩ := paired_get ok.at_ ha
      rw [e1, List.getElem?_append_left (by rw [List.length_map]; omega), List.getElem?_map, hv] at h2
      cases h2
      cases a with
      | val d => exact ⟨v, rfl, q⟩
      | par d =>
        obtain ⟨p, o, rfl, hr, hp, ro⟩ := q
        exact ⟨p, o, rfl, hr, hp, ro⟩
  · unfold start at h1
    rw [List.getElem?_append_right (by rw [List.length_map]; omega)] at h1
    have := List.mem_of_getElem? h1
    rw [(List.mem_replicate.mp this).2]
    trivial
theorem ste_start {G H : Hp} {r : Option Addr} {as : List Ar} {vs : List V} (i : Inn G H) (ok : ArgsOk K S G H r as vs) : Ste ⟨G, H, r⟩ [] G H :=
  ⟨.refl _, i, fun a h e => (h e).elim, fun a o e _ _ => e, (fun p hp => by cases hp), fun a e => let ⟨h1, h2, _⟩ := ok.par a e; ⟨h1, h2, h2, fun p hp => by cases hp⟩, fun p hp => by cases hp⟩
theorem ste_end {G H G' H' : Hp} {r : Option Addr} (st : Ste ⟨G, H, r⟩ [] G' H') : Fin G H r G' H' := ⟨st.g0, st.inn, st.new, fun a o e hr => st.keep a o e hr fun p hp => by cases hp⟩
theorem bodyD {sts : List Stmt} {f : EvS} {N : List Str} {n : Nat} {fr : Bool} {vs : List V} {H : Hp} {Q : VK} {g : Fn} (b : QSs S X E sts f) (hg : g = runF fr N.length f) (hn : n ≤ N.length) (h : spD X.K S fr n g vs H Q E) :
    ∃ t, PSs X sts t ∧ t { nx := fun x H' => Q V.non H', rt := Q } (L2.start N vs) H := by
  subst hg
  obtain ⟨G, as, r, i, ok, hl, po⟩ := h
  refine ⟨_, b, ⟨G, H, r⟩, [], G, start N.length as, ste_start i ok, start_rel ok (by omega), ?_⟩
  unfold runF at po
  cases hb : f (start N.length as) with
  | nx e =>
    rw [hb] at po
    cases fr with
    | true => exact po.elim
    | false => exact fun σ' G' H' sm st rl => po G' H' (ste_end st) (par_ok rl.at_) .non rfl
  | rt d e =>
    rw [hb] at po
    cases fr with
    | true => exact po.elim
    | false => exact fun σ' G' H' sm st rl v rv => po G' H' (ste_end st) (par_ok rl.at_) v rv
  | rf d e =>
    rw [hb] at po
    cases fr with
    | false => exact po.elim
    | true => exact fun σ' G' H' sm st rl a o h1 h2 h3 h4 => po G' H' (ste_end st) (par_ok rl.at_) a o h2 h1 h3 h4
  | ex C fs e => rw [hb] at po; exact fun σ' od G' H' sm st rl xd => po od G' H' (ste_end st) (par_ok rl.at_) xd
  | bk e => rw [hb] at po; exact po.elim
  | ct e => rw [hb] at po; exact po.elim
  | no => rw [hb] at po; exact po.elim
end
end
end Dv
namespace Dv
open PySem PySem.Spec PyProof.Rows L2
set_option autoImplicit false
noncomputable section
section
variable {K : PySem.W.Frag} {S : Nat → Addr} {X : Cx} {E : XK} {a b e : Expr} {es : List Expr} {ea eb ee : Ev} {er : EvA} {pos p p2 : Pos}
theorem u1 {k : Nat} {A : Around} (h : Room k A) : A.units + 1 < cLine := by
  have := h.un
  omega
theorem u64 {k : Nat} {A : Around} (h : Room k A) : A.units + 64 < cLine := by
  have := h.un
  omega
theorem u65 {k : Nat} {A : Around} (h : Room k A) : A.units + 65 < cLine := by
  have := h.un
  omega
/-! ### ints -/
def oI (f : Int → Int → D) : FO := fun x y => match x, y with
  | .int i, .int j => some (f i j)
  | _, _ => none
theorem so_I {f : Int → Int → D} {f' : Int → Int → V} (h : ∀ i j G, Rep K S G (f i j) (f' i j)) : SOp K S (oI f) (rI0 f') := fun G H x y d v w Q i rx ry e k => by
  cases x <;> first
    | (cases y <;> first
      | (cases e; done)
      | (cases e; cases rx; cases ry; exact ⟨_, _, rfl, rfl, k G H _ (.refl i) (h _ _ G)⟩))
    | (cases y <;> cases e)
def oSub : FO := oI fun i j => .int (i - j)
theorem so_sub : SOp K S oSub (rI0 fun i j => .int (i - j)) := so_I fun _ _ _ => rfl
def oIc (c : Int → Int → Bool) (f : Int → Int → D) : FO := fun x y => match x, y with
  | .int i, .int j => if c i j = true then some (f i j) else none
  | _, _ => none
theorem so_Ic {c : Int → Int → Bool} {C : Int → Int → Prop} {f : Int → Int → D} {f' : Int → Int → V} (hc : ∀ i j, c i j = true → C i j) (h : ∀ i j G, Rep K S G (f i j) (f' i j)) : SOp K S (oIc c f) (rI C f') := fun G H x y d v w Q i rx ry e k => by
  cases x <;> first
    | (cases y <;> first
      | (cases e; done)
      | (rename_i m n
         have e : (if c m n = true then some (f m n) else none) = some d := e
         by_cases q : c m n = true
         · rw [if_pos q] at e
           cases e; cases rx; cases ry
           exact ⟨_, _, rfl, rfl, hc _ _ q, k G H _ (.refl i) (h _ _ G)⟩
         · rw [if_neg q] at e; cases e))
    | (cases y <;> cases e)
def cMul (i j : Int) : Bool := decide (-(2 ^ 64) < i ∧ i < 2 ^ 64) || decide (-(2 ^ 64) < j ∧ j < 2 ^ 64)
def oMul : FO := oIc cMul fun i j => .int (i * j)
theorem so_mul : SOp K S oMul (rI CMul fun i j => .int (i * j)) := so_Ic (fun i j h => by
  rcases Bool.or_eq_true_iff.mp h with h | h
  · exact .inl (of_decide_eq_true h)
  · exact .inr (of_decide_eq_true h)) fun _ _ _ => rfl
def cDivN (i j : Int) : Bool := decide (j ≠ 0 ∧ j.natAbs < 1073741824)
def oFdv : FO := oIc cDivN fun i j => .int (i.fdiv j)
theorem so_fdv : SOp K S oFdv (rI CDivN fun i j => .int (i.fdiv j)) := so_Ic (fun i j h => (of_decide_eq_true h : j ≠ 0 ∧ j.natAbs < 1073741824)) fun _ _ _ => rfl
def oMod : FO := oIc (fun _ j => decide (j ≠ 0)) fun i j => .int (i.fmod j)
theorem so_mod : SOp K S oMod (rI (fun _ j => j ≠ 0) fun i j => .int (i.fmod j)) := so_Ic (fun i j h => of_decide_eq_true h) fun _ _ _ => rfl
def uNeg : FU := fun x => match x with
  | .int i => some (.int (-i))
  | _ => none
theorem su_neg : SUn K S uNeg (rU fun i => .int (-i)) := fun G H x d v Q i rx e k => by
  cases x with
  | int m => cases e; cases rx; exact ⟨_, rfl, k G H _ (.refl i) rfl⟩
  | _ => cases e
/-! + of ints, texts, lists -/
def rAddS : R2 := fun x y H Q => ∃ i j, x = .str i ∧ y = .str j ∧ i.length + j.length ≤ sizeLine ∧ Q (.str (i ++ j)) H
def oAdd : FO := fun x y => match x, y with
  | .int i, .int j => some (.int (i + j))
  | .str a, .str b => if a.length + b.length ≤ 1000000 then some (.str (a ++ b)) else none
  | .lst xs, .lst ys => if xs.length + ys.length ≤ 1000000 then some (.lst (xs ++ ys)) else none
  | _, _ => none
theorem so_add : SOp K S oAdd (r2or (rI0 fun i j => .int (i + j)) (r2or rAddS rCat)) := fun G H x y d v w Q i rx ry e k => by
  cases x with
  | int m =>
    cases y with
    | int n => cases e; cases rx; cases ry; exact .inl ⟨_, _, rfl, rfl, k G H _ (.refl i) rfl⟩
    | _ => cases e
  | str m =>
    cases y with
    | str n =>
      have e : (if m.length + n.length ≤ 1000000 then some (D.str (m ++ n)) else none) = some d := e
      split at e
      · rename_i h
        cases e; cases rx; cases ry
        exact .inr (.inl ⟨_, _, rfl, rfl, line10 h, k G H _ (.refl i) rfl⟩)
      · cases e
    | _ => cases e
  | lst xs =>
    cases y with
    | lst ys =>
      have e : (if xs.length + ys.length ≤ 1000000 then some (D.lst (xs ++ ys)) else none) = some d := e
      split at e
      · rename_i h
        cases e
        obtain ⟨a, vs, rfl, ga, ra⟩ := rx
        obtain ⟨b, ws, rfl, gb, rb⟩ := ry
        refine .inr (.inr ⟨a, b, vs, ws, rfl, rfl, i.lst ga, i.lst gb, line10 (by rw [← ra.length, ← rb.length]; exact h), fun q hq => ?_⟩)
        have x := Ex.new1 (o := .lst (vs ++ ws)) i hq
        exact k _ _ _ x ⟨q, _, rfl, upd_same, (ra.app rb).mono x.g⟩
      · cases e
    | _ => cases e
  | _ => cases e
/-! order -/
def oCmp (f : Int → Int → Bool) (g : Str → Str → Bool) : FO := fun x y => match x, y with
  | .int i, .int j => some (.bl (f i j))
  | .str i, .str j => some (.bl (g i j))
  | _, _ => none
def rS0 (g : Str → Str → Bool) : R2 := fun x y H Q => ∃ i j, x = .str i ∧ y = .str j ∧ Q (.bl (g i j)) H
theorem so_cmp {f : Int → Int → Bool} {g : Str → Str → Bool} : SOp K S (oCmp f g) (r2or (rI0 fun i j => .bl (f i j)) (rS0 g)) := fun G H x y d v w Q i rx ry e k => by
  cases x with
  | int m =>
    cases y with
    | int n => cases e; cases rx; cases ry; exact .inl ⟨_, _, rfl, rfl, k G H _ (.refl i) rfl⟩
    | _ => cases e
  | str m =>
    cases y with
    | str n => cases e; cases rx; cases ry; exact .inr ⟨_, _, rfl, rfl, k G H _ (.refl i) rfl⟩
    | _ => cases e
  | _ => cases e
def ltS (i j : Str) : Bool := decide (i.cps.toList < j.cps.toList)
def oLt : FO := oCmp (fun i j => decide (i < j)) ltS
def oLe : FO := oCmp (fun i j => decide (i ≤ j)) fun i j => !ltS j i
def oGt : FO := oCmp (fun i j => decide (j < i)) fun i j => ltS j i
def oGe : FO := oCmp (fun i j => decide (j ≤ i)) fun i j => !ltS i j
/-! == -/
mutual
def dat : D → Option PyData
  | .non => some .none
  | .bl b => some (.bool b)
  | .int i => some (.int i)
  | .str s => some (.str s)
  | .lst xs => (datL xs).map PyData.list
  | .scr xs => (datL xs).map PyData.list
  | .tup xs => (datL xs).map PyData.tuple
  | _ => none
def datL : List D → Option (List PyData)
  | [] => some []
  | x :: xs => match dat x, datL xs with
    | some a, some r => some (a :: r)
    | _, _ => none
end
mutual
theorem dat_ok {G H : Hp} (i : Inn G H) : ∀ {d : D} {v : V} {a : PyData}, Rep K S G d v → dat d = some a → Dp K H v a
  | .non, _, _, r, e => by cases e; cases r; exact .non
  | .bl _, _, _, r, e => by cases e; cases r; exact .bl _
  | .int _, _, _, r, e => by cases e; cases r; exact .int _
  | .str _, _, _, r, e => by cases e; cases r; exact .str _
  | .lst xs, _, a, ⟨q, vs, e1, g, r⟩, e => by
    have e : (datL xs).map PyData.list = some a := e
    cases h : datL xs with
    | none => rw [h] at e; cases e
    | some ds => rw [h] at e; cases e; subst e1; exact .lst (.inl (.inl (i.lst g))) (datL_ok i r h)
  | .scr xs, _, a, ⟨q, vs, e1, g, r⟩, e => by
    have e : (datL xs).map PyData.list = some a := e
    cases h : datL xs with
    | none => rw [h] at e; cases e
    | some ds => rw [h] at e; cases e; subst e1; exact .lst (i.seq g) (datL_ok i r h)
  | .tup xs, _, a, ⟨q, vs, e1, g, r⟩, e => by
    have e : (datL xs).map PyData.tuple = some a := e
    cases h : datL xs with
    | none => rw [h] at e; cases e
    | some ds => rw [h] at e; cases e; subst e1; exact .tup (i.tup g) (datL_ok i r h)
  | .st _, _, _, _, e => by cases e
  | .ty _, _, _, _, e => by cases e
  | .dct _, _, _, _, e => by cases e
  | .ins _ _, _, _, _, e => by cases e
theorem datL_ok {G H : Hp} (i : Inn G H) : ∀ {ds : List D} {vs : List V} {as : List PyData}, RepL K S G ds vs → datL ds = some as → DpAll K H vs as
  | [], _, _, r, e => by cases e; cases r; exact .nil
  | x :: xs, _, as, ⟨v, ws, e1, q, r⟩, e => by
    have e : (match dat x, datL xs with
      | some a, some r => some (a :: r)
      | _, _ => none) = some as := e
    cases h1 : dat x with
    | none => rw [h1] at e; cases e
    | some a =>
      cases h2 : datL xs with
      | none => rw [h1, h2] at e; cases e
      | some r' => rw [h1, h2] at e; cases e; subst e1; exact .cons (dat_ok i q h1) (datL_ok i r h2)
end
/-- plain values -/
def scalD (x y : D) : Option Bool := match x, y with
  | .non, .non => some true
  | .non, .int _ => some false
  | .int _, .non => some false
  | .non, .str _ => some false
  | .str _, .non => some false
  | .non, .bl _ => some false
  | .bl _, .non => some false
  | .int i, .int j => some (decide (i = j))
  | .bl i, .bl j => some (i == j)
  | .str i, .str j => some (decide (i = j))
  | .str _, .int _ => some false
  | .int _, .str _ => some false
  | .str _, .bl _ => some false
  | .bl _, .str _ => some false
  | _, _ => none
theorem scalD_ok {G : Hp} {x y : D} {v w : V} {c : Bool} (r : Rep K S G x v) (q : Rep K S G y w) (e : scalD x y = some c) : scal v w = true ∧ decide (v = w) = c := by
  cases x <;> cases y <;> first
    | (cases e; done)
    | (cases r; cases q; cases e; exact ⟨rfl, rfl⟩)
    | (cases r; cases q; cases e; refine ⟨rfl, ?_⟩; first | (rw [dec_int, Bool.beq_eq_decide_eq]; done) | (rw [dec_str, Bool.beq_eq_decide_eq]; done) | rw [dec_bl])
def eqD (x y : D) : Option Bool := match scalD x y with
  | some b => some b
  | none => match dat x, dat y with
    | some a, some b => if SeqAt.shaped a = true ∧ SeqAt.shaped b = true then some (PyData.eqv a b) else none
    | _, _ => none
def oEq : FO := fun x y => (eqD x y).map D.bl
def oNe : FO := fun x y => (eqD x y).map fun b => D.bl (!b)
theorem so_eq : SOp K S oEq (r2or rEq (rEqD K)) := fun G H x y d v w Q i rx ry e k => by
  unfold oEq eqD at e
  cases h : scalD x y with
  | some b =>
    rw [h] at e
    cases e
    obtain ⟨h1, h2⟩ := scalD_ok rx ry h
    exact .inl ⟨h1, by rw [h2]; exact k G H _ (.refl i) rfl⟩
  | none =>
    rw [h] at e
    dsimp only at e
    cases h1 : dat x with
    | none => rw [h1] at e; cases e
    | some a =>
      cases h2 : dat y with
      | none => rw [h1, h2] at e; cases e
      | some b =>
        rw [h1, h2] at e
        dsimp only at e
        split at e
        · rename_i hs
          cases e
          exact .inr ⟨a, b, dat_ok i rx h1, dat_ok i ry h2, hs.1, hs.2, k G H _ (.refl i) rfl⟩
        · cases e
theorem so_ne : SOp K S oNe (r2or rNe (rNeD K)) := fun G H x y d v w Q i rx ry e k => by
  unfold oNe eqD at e
  cases h : scalD x y with
  | some b =>
    rw [h] at e
    cases e
    obtain ⟨h1, h2⟩ := scalD_ok rx ry h
    exact .inl ⟨h1, by rw [h2]; exact k G H _ (.refl i) rfl⟩
  | none =>
    rw [h] at e
    dsimp only at e
    cases h1 : dat x with
    | none => rw [h1] at e; cases e
    | some a =>
      cases h2 : dat y with
      | none => rw [h1, h2] at e; cases e
      | some b =>
        rw [h1, h2] at e
        dsimp only at e
        split at e
        · rename_i hs
          cases e
          exact .inr ⟨a, b, dat_ok i rx h1, dat_ok i ry h2, hs.1, hs.2, k G H _ (.refl i) rfl⟩
        · cases e
/-! is None -/
def rIsN0 : R2 := fun x y H Q => y = .non ∧ Q (.bl (decide (x = .non))) H
def rNotN0 : R2 := fun x y H Q => y = .non ∧ Q (.bl (!decide (x = .non))) H
def isNon : D → Bool
  | .non => true
  | _ => false
theorem isNon_ok {G : Hp} {x : D} {v : V} (r : Rep K S G x v) : decide (v = .non) = isNon x := by
  cases x with
  | non => cases r; rfl
  | bl _ => cases r; rfl
  | int _ => cases r; rfl
  | str _ => cases r; rfl
  | st _ => cases r; rfl
  | ty _ => cases r; rfl
  | lst _ => obtain ⟨a, vs, rfl, _⟩ := r; rfl
  | scr _ => obtain ⟨a, vs, rfl, _⟩ := r; rfl
  | tup _ => obtain ⟨a, vs, rfl, _⟩ := r; rfl
  | dct _ => obtain ⟨a, vs, rfl, _⟩ := r; rfl
  | ins _ _ => obtain ⟨a, dx, vs, rfl, _⟩ := r; rfl
def oIs : FO := fun x y => match y with
  | .non => some (.bl (isNon x))
  | _ => none
def oIsnt : FO := fun x y => match y with
  | .non => some (.bl (!isNon x))
  | _ => none
theorem so_is : SOp K S oIs rIsN0 := fun G H x y d v w Q i rx ry e k => by
  cases y with
  | non => cases e; cases ry; exact ⟨rfl, by rw [isNon_ok rx]; exact k G H _ (.refl i) rfl⟩
  | _ => cases e
theorem so_isnt : SOp K S oIsnt rNotN0 := fun G H x y d v w Q i rx ry e k => by
  cases y with
  | non => cases e; cases ry; exact ⟨rfl, by rw [isNon_ok rx]; exact k G H _ (.refl i) rfl⟩
  | _ => cases e
/-! in: lists of plain data; lists and tuples of plain values -/
def flatD : D → Bool
  | .non => true
  | .bl _ => true
  | .int _ => true
  | .str _ => true
  | _ => false
def anyEq (x : D) : List D → Option Bool
  | [] => some false
  | y :: l => match flatD y, scalD y x, anyEq x l with
    | true, some b, some r => some (b || r)
    | _, _, _ => none
theorem flatD_ok {G : Hp} {x : D} {v : V} (r : Rep K S G x v) (h : flatD x = true) : flatV v = true := by
  cases x <;> first
    | (cases h; done)
    | (cases r; rfl)
theorem scal_eqV {G : Hp} {x y : D} {v w : V} {c : Bool} (r : Rep K S G x v) (q : Rep K S G y w) (e : scalD x y = some c) : eqV v w = c := by
  cases x <;> cases y <;> first
    | (cases e; done)
    | (cases r; cases q; cases e; rfl)
    | (cases r; cases q; cases e; show (_ == _) = _; first | rw [Bool.beq_eq_decide_eq] | rfl)
theorem anyEq_ok {G : Hp} {x : D} {v : V} (r : Rep K S G x v) : ∀ {l : List D} {vs : List V} {c : Bool}, RepL K S G l vs → anyEq x l = some c → vs.all flatV = true ∧ inV v vs = c
  | [], _, _, t, e => by cases t; cases e; exact ⟨rfl, rfl⟩
  | y :: l, _, c, ⟨w, ws, e1, q, t⟩, e => by
    subst e1
    have e : (match flatD y, scalD y x, anyEq x l with
      | true, some b, some r => some (b || r)
      | _, _, _ => none) = some c := e
    split at e
    · rename_i b r' h1 h2 h3
      cases e
      obtain ⟨i1, i2⟩ := anyEq_ok r t h3
      refine ⟨by rw [List.all_cons, flatD_ok q h1, i1]; rfl, ?_⟩
      show (eqV w v || inV v ws) = (b || r')
      rw [scal_eqV q r h2, i2]
    · cases e
def oIn (neg : Bool) : FO := fun x y => match seqD y with
  | some l => match flatD x, anyEq x l with
    | true, some b => some (.bl (if neg then !b else b))
    | _, _ => none
  | none => none
theorem so_in (neg : Bool) : SOp K S (oIn neg) (rIn K neg) := fun G H x y d v w Q i rx ry e k => by
  unfold oIn at e
  split at e
  · rename_i l hl
    split at e
    · rename_i b h1 h2
      cases e
      obtain ⟨q, vs, rfl, hq, t⟩ := seq_sq ry hl
      obtain ⟨i1, i2⟩ := anyEq_ok rx t h2
      refine ⟨q, vs, rfl, hq.elim (fun h => .inl (i.seq h)) fun h => .inr (i.tup h), flatD_ok rx h1, i1, ?_⟩
      rw [i2]
      exact k G H _ (.refl i) rfl
    · cases e
  · cases e
def oInD (neg : Bool) : FO := fun x y => match dat x, y with
  | some a, .lst l => match datL l with
    | some ds => if SeqAt.shaped a = true ∧ SeqAt.shaped (.list ds) = true then some (.bl (if neg then !ds.any (fun z => PyData.eqv z a) else ds.any (fun z => PyData.eqv z a))) else none
    | none => none
  | _, _ => none
theorem so_inD : SOp K S (oInD false) (rInD K) := fun G H x y d v w Q i rx ry e k => by
  unfold oInD at e
  split at e
  · rename_i a l h1
    split at e
    · rename_i ds h2
      split at e
      · rename_i hs
        cases e
        have q : Dp K H w (.list ds) := dat_ok i ry (by show (datL l).map PyData.list = _; rw [h2]; rfl)
        exact ⟨a, ds, dat_ok i rx h1, q, hs.1, hs.2, k G H _ (.refl i) rfl⟩
      · cases e
    · cases e
  · cases e
theorem so_notInD : SOp K S (oInD true) (rNotInD K) := fun G H x y d v w Q i rx ry e k => by
  unfold oInD at e
  split at e
  · rename_i a l h1
    split at e
    · rename_i ds h2
      split at e
      · rename_i hs
        cases e
        have q : Dp K H w (.list ds) := dat_ok i ry (by show (datL l).map PyData.list = _; rw [h2]; rfl)
        exact ⟨a, ds, dat_ok i rx h1, q, hs.1, hs.2, k G H _ (.refl i) rfl⟩
      · cases e
    · cases e
  · cases e
/-- try the first -/
def oOr (f g : FO) : FO := fun x y => match f x y with
  | some d => some d
  | none => g x y
theorem so_or {f g : FO} {r r' : R2} (h1 : SOp K S f r) (h2 : SOp K S g r') : SOp K S (oOr f g) (r2or r r') := fun G H x y d v w Q i rx ry e k => by
  unfold oOr at e
  split at e
  · rename_i d' h
    cases e
    exact .inl (h1 G H x y _ v w Q i rx ry h k)
  · exact .inr (h2 G H x y d v w Q i rx ry e k)
/-! subscripts -/
def oIx : FO := fun x y => match y with
  | .int i => match x with
    | .str s => if s.length ≤ 1000000 then (atI s.cps.toList i).map fun c => D.str ⟨#[c]⟩ else none
    | c => match seqD c with
      | some l => atI l i
      | none => none
  | _ => none
theorem atI_rep {G : Hp} {l : List D} {vs : List V} {i : Int} {d : D} (t : RepL K S G l vs) (h : atI l i = some d) : ∃ v, atI vs i = some v ∧ Rep K S G d v := by
  unfold atI at h ⊢
  rw [t.length] at h
  cases hi : ixN vs.length i with
  | none => rw [hi] at h; cases h
  | some j =>
    rw [hi] at h
    exact t.get h
theorem so_ix : SOp K S oIx (rIx K) := fun G H x y d v w Q i rx ry e k => by
  cases y with
  | int j =>
    cases ry
    have key : (match seqD x with
      | some l => atI l j
      | none => none) = some d → rIx K v (.int j) H Q := fun e => by
      split at e
      · rename_i l hl
        obtain ⟨q, vs, rfl, hq, t⟩ := seq_sq rx hl
        obtain ⟨u, hu, ru⟩ := atI_rep t e
        rcases hq with hq | hq
        · exact .inl ⟨q, vs, j, u, rfl, rfl, i.seq hq, hu, k G H u (.refl i) ru⟩
        · exact .inr (.inl ⟨q, vs, j, u, rfl, rfl, i.tup hq, hu, k G H u (.refl i) ru⟩)
      · cases e
    cases x with
    | str s =>
      have e : (if s.length ≤ 1000000 then (atI s.cps.toList j).map fun c => D.str ⟨#[c]⟩ else none) = some d := e
      split at e
      · rename_i h
        cases hc : atI s.cps.toList j with
        | none => rw [hc] at e; cases e
        | some c =>
          rw [hc] at e
          cases e
          cases rx
          exact .inr (.inr ⟨s, j, c, rfl, rfl, line10 h, hc, k G H _ (.refl i) rfl⟩)
      · cases e
    | _ => exact key e
  | _ => cases e
/-! slices -/
abbrev EvO := Env → Res (Option Int)
abbrev TOp (K : PySem.W.Frag) (S : Nat → Addr) (E : XK) (f : EvO) : TO := Tx K S E (fun _ _ d v => d = v) f
abbrev QO (S : Nat → Addr) (X : Cx) (E : XK) (e : Option Expr) (f : EvO) : Prop := PO X e (TOp X.K S E f)
def pNone : EvO := fun env => .ok none env
def pSome (a : Ev) : EvO := fun env => (a env).bind fun d e => match d with
  | .int i => .ok (some i) e
  | _ => .no
theorem po_of {e : Option Expr} {t u : TO} (p : PO X e t) (h : ∀ σ H Q, u σ H Q → t σ H Q) : PO X e u := ⟨fun pins s σ H Q I q => p.run pins s σ H Q I (h σ H Q q)⟩
theorem o_none : QO S X E none pNone := po_of po_none fun σ H Q ⟨B, L, G, env, st, rl, po⟩ => po G H (.refl _) st rl none rfl
theorem o_some (h : QE S X E e ee) : QO S X E (some e) (pSome ee) := po_of (po_some h) fun σ H Q ⟨B, L, G, env, st, rl, po⟩ => ⟨B, L, G, env, st, rl, po.then fun G1 H1 d e1 sm1 st1 rl1 p1 v rv => by
  cases d with
  | int i => exact ⟨i, rv, p1 G1 H1 (.refl _) st1 rl1 _ rfl⟩
  | _ => exact p1.elim⟩
def cutD (xs : List D) (lo hi : Option Int) : List D := (xs.drop (HT.sIx xs.length 0 lo)).take (HT.sIx xs.length xs.length hi - HT.sIx xs.length 0 lo)
theorem cut_rep {G : Hp} {xs : List D} {vs : List V} (t : RepL K S G xs vs) (lo hi : Option Int) : RepL K S G (cutD xs lo hi) (cutV vs lo hi) := by
  unfold cutD cutV
  rw [t.length]
  exact (t.drop _).take _
variable {lo hi : Option Expr} {el eh : EvO}
def xSl (a : Ev) (l h : EvO) : Ev := fun env => (a env).bind fun x e1 => (l e1).bind fun i e2 => (h e2).bind fun j e3 => match x with
  | .str s => if s.length ≤ 1000000 then .ok (.str (cutS s i j)) e3 else .no
  | _ => .no
theorem q_slS (he : QE S X E e ee) (hl : QO S X E lo el) (hh : QO S X E hi eh) : QE S X E (.Subscript e (.Slice lo hi none p2) pos) (xSl ee el eh) := pe_of (pe_slice sl_str he hl hh) fun σ H Q ⟨B, L, G, env, st, rl, po⟩ => ⟨B, L, G, env, st, rl, po.then fun G1 H1 x e1 sm1 st1 rl1 p1 v rv => ⟨B, L, G1, e1, st1, rl1, p1.then fun G2 H2 i e2 sm2 st2 rl2 p2 i' hi => ⟨B, L, G2, e2, st2, rl2, p2.then fun G3 H3 j e3 sm3 st3 rl3 p3 j' hj => by
  cases hi
  cases hj
  cases x with
  | str s =>
    have p3 : Post X.K S E B L σ G3 (fun G' H' d _ => ∀ v, Rep X.K S G' d v → Q v H') (if s.length ≤ 1000000 then Res.ok (D.str (cutS s i j)) e3 else Res.no) := p3
    split at p3
    · rename_i h
      exact ⟨s, rv, line10 h, p3 G3 H3 (.refl _) st3 rl3 _ rfl⟩
    · exact p3.elim
  | _ => exact p3.elim⟩⟩⟩
def xSlL (a : Ev) (l h : EvO) : Ev := fun env => (a env).bind fun x e1 => (l e1).bind fun i e2 => (h e2).bind fun j e3 => match lstD x with
  | some xs => .ok (.lst (cutD xs i j)) e3
  | none => .no
theorem qf_slL (he : QE S X E e ee) (hl : QO S X E lo el) (hh : QO S X E hi eh) : QF S X E (.Subscript e (.Slice lo hi none p2) pos) (xSlL ee el eh) := pe_of (pe_slice sl_list he hl hh) fun σ H Q ⟨B, L, G, env, st, rl, po⟩ => ⟨B, L, G, env, st, rl, po.then fun G1 H1 x e1 sm1 st1 rl1 p1 v rv => ⟨B, L, G1, e1, st1, rl1, p1.then fun G2 H2 i e2 sm2 st2 rl2 p2 i' hi => ⟨B, L, G2, e2, st2, rl2, p2.then fun G3 H3 j e3 sm3 st3 rl3 p3 j' hj => by
  cases hi
  cases hj
  split at p3
  · rename_i xs h
    obtain ⟨q, vs, rfl, hq, t⟩ := lst_sq rv h
    exact ⟨q, vs, rfl, st3.inn.seq (sm3.seq (sm2.seq hq)), fresh_ok st3 rl3 p3 ⟨_, rfl, cut_rep ((t.mono sm2).mono sm3) i j⟩⟩
  · exact p3.elim⟩⟩⟩
/-! ### built-ins -/
def fLen : FC := fun xs => match xs with
  | [.str s] => if s.length ≤ 1000000 then some (.int s.length) else none
  | [x] => match seqD x with
    | some l => some (.int l.length)
    | none => none
  | _ => none
def rLen (K : PySem.W.Frag) : List V → Hp → VK → Prop := fun xs H Q => ∃ x n, xs = [x] ∧ LenV K x H n ∧ Q (.int n) H
theorem sc_len : SCl K S fLen (rLen K) := fun G H xs d vs Q i r e k => by
  have key : ∀ x, xs = [x] → (match seqD x with
      | some l => some (D.int l.length)
      | none => none) = some d → rLen K vs H Q := fun x hx e' => by
    subst hx
    obtain ⟨v, rfl, rx⟩ := r.one
    split at e'
    · rename_i l hl
      cases e'
      obtain ⟨q, us, rfl, hq, t⟩ := seq_sq rx hl
      refine ⟨_, us.length, rfl, hq.elim (fun h => .inl ⟨us, i.seq h, rfl⟩) fun h => .inr ⟨us, i.tup h, rfl⟩, ?_⟩
      exact k G H _ (.refl i) (by rw [← t.length]; rfl)
    · cases e'
  unfold fLen at e
  split at e
  · rename_i s
    split at e
    · rename_i h
      cases e
      obtain ⟨v, rfl, rx⟩ := r.one
      cases rx
      exact ⟨.str s, s.length, rfl, ⟨line10 h, rfl⟩, k G H _ (.refl i) rfl⟩
    · cases e
  · rename_i x _
    exact key x rfl e
  · cases e
def intL : List D → Option (List Int)
  | [] => some []
  | .int i :: r => (intL r).map (i :: ·)
  | _ => none
theorem intL_ok {G : Hp} : ∀ {l : List D} {vs : List V} {ns : List Int}, RepL K S G l vs → intL l = some ns → vs = ns.map V.int
  | [], _, _, t, e => by cases t; cases e; rfl
  | x :: r, _, ns, ⟨v, ws, e1, q, t⟩, e => by
    subst e1
    cases x with
    | int i =>
      have e : (intL r).map (i :: ·) = some ns := e
      cases h : intL r with
      | none => rw [h] at e; cases e
      | some ms =>
        rw [h] at e
        cases e
        cases q
        rw [intL_ok t h]
        rfl
    | _ => cases e
def fSum : FC := fun xs => match xs with
  | [x] => match lstD x with
    | some l => (intL l).map fun ns => .int ns.sum
    | none => none
  | _ => none
theorem sc_sum : SCl K S fSum (rSum K) := fun G H xs d vs Q i r e k => by
  unfold fSum at e
  split at e
  · rename_i x
    obtain ⟨v, rfl, rx⟩ := r.one
    split at e
    · rename_i l hl
      cases h : intL l with
      | none => rw [h] at e; cases e
      | some ns =>
        rw [h] at e
        cases e
        obtain ⟨q, us, rfl, hq, t⟩ := lst_sq rx hl
        rw [intL_ok t h] at hq
        exact ⟨q, ns, rfl, i.seq hq, k G H _ (.refl i) rfl⟩
    · cases e
  · cases e
def blL : List D → Option (List Bool)
  | [] => some []
  | .bl i :: r => (blL r).map (i :: ·)
  | _ => none
theorem blL_ok {G : Hp} : ∀ {l : List D} {vs : List V} {ns : List Bool}, RepL K S G l vs → blL l = some ns → vs = ns.map V.bl
  | [], _, _, t, e => by cases t; cases e; rfl
  | x :: r, _, ns, ⟨v, ws, e1, q, t⟩, e => by
    subst e1
    cases x with
    | bl i =>
      have e : (blL r).map (i :: ·) = some ns := e
      cases h : blL r with
      | none => rw [h] at e; cases e
      | some ms =>
        rw [h] at e
        cases e
        cases q
        rw [blL_ok t h]
        rfl
    | _ => cases e
def fBls (f : List Bool → Bool) : FC := fun xs => match xs with
  | [x] => match lstD x with
    | some l => (blL l).map fun bs => .bl (f bs)
    | none => none
  | _ => none
def fAny : FC := fBls fun l => l.any id
def fAll : FC := fBls fun l => l.all id
theorem sc_bls {f : List Bool → Bool} : SCl K S (fBls f) (fun vs H Q => ∃ (a : Addr) (bs : List Bool), vs = [V.ref a] ∧ SqL K H a (bs.map V.bl) ∧ Q (.bl (f bs)) H) := fun G H xs d vs Q i r e k => by
  unfold fBls at e
  split at e
  · rename_i x
    obtain ⟨v, rfl, rx⟩ := r.one
    split at e
    · rename_i l hl
      cases h : blL l with
      | none => rw [h] at e; cases e
      | some ns =>
        rw [h] at e
        cases e
        obtain ⟨q, us, rfl, hq, t⟩ := lst_sq rx hl
        rw [blL_ok t h] at hq
        exact ⟨q, ns, rfl, i.seq hq, k G H _ (.refl i) rfl⟩
    · cases e
  · cases e
theorem sc_any : SCl K S fAny (rAny K) := sc_bls
theorem sc_all : SCl K S fAll (rAll K) := sc_bls
def fInt : FC := fun xs => match xs with
  | [.int i] => some (.int i)
  | [.bl b] => some (.int (if b = true then 1 else 0))
  | _ => none
def rInt1 : List V → Hp → VK → Prop := fun xs H Q => (∃ i, xs = [.int i] ∧ Q (.int i) H) ∨ ∃ k, xs = [.bl k] ∧ Q (.int (if k then 1 else 0)) H
theorem sc_int : SCl K S fInt rInt1 := fun G H xs d vs Q i r e k => by
  unfold fInt at e
  split at e
  · cases e
    obtain ⟨v, rfl, rx⟩ := r.one
    cases rx
    exact .inl ⟨_, rfl, k G H _ (.refl i) rfl⟩
  · cases e
    obtain ⟨v, rfl, rx⟩ := r.one
    cases rx
    exact .inr ⟨_, rfl, k G H _ (.refl i) rfl⟩
  · cases e
def fAbs : FC := fun xs => match xs with
  | [.int i] => some (.int (if i < 0 then -i else i))
  | _ => none
theorem sc_abs : SCl K S fAbs (fun xs H Q => ∃ i, xs = [.int i] ∧ Q (.int (if i < 0 then -i else i)) H) := fun G H xs d vs Q i r e k => by
  unfold fAbs at e
  split at e
  · cases e
    obtain ⟨v, rfl, rx⟩ := r.one
    cases rx
    exact ⟨_, rfl, k G H _ (.refl i) rfl⟩
  · cases e
def fI2 (f : Int → Int → Int) : FC := fun xs => match xs with
  | [.int i, .int j] => some (.int (f i j))
  | _ => none
def fMax2 : FC := fI2 fun i j => if j > i then j else i
def fMin2 : FC := fI2 fun i j => if j < i then j else i
theorem sc_I2 {f : Int → Int → Int} : SCl K S (fI2 f) (fun xs H Q => ∃ i j, xs = [.int i, .int j] ∧ Q (.int (f i j)) H) := fun G H xs d vs Q i r e k => by
  unfold fI2 at e
  split at e
  · cases e
    obtain ⟨v, w, rfl, rx, ry⟩ := r.two
    cases rx
    cases ry
    exact ⟨_, _, rfl, k G H _ (.refl i) rfl⟩
  · cases e
theorem call_divmodN : CallR X (.builtin "divmod") (fun xs H Q => ∃ i j, xs = [.int i, .int j] ∧ CDivN i j ∧ ∀ p, H p = none → Q (.ref p) (upd H p (.tup [.int (i.fdiv j), .int (i.fmod j)]))) := by
  intro pins s σ H xs us Q I r h
  obtain ⟨i, j, rfl, ⟨h1, h2⟩, q⟩ := h
  obtain ⟨u, w', rfl, ⟨t, rfl⟩, ⟨t', rfl⟩⟩ := vals2 r
  refine divmod_int h1 ?_ (.inl (PyProof.noPylong_small h2))
  have hn : H s.heap.objs.size = none := I.hok.fresh (Nat.le_refl _)
  refine ⟨.ref s.heap.objs.size, _, ?_, rfl, q _ hn⟩
  refine I.laid (fun b o e => Heap.get?_push_of_some _ e) (Nat.le_refl _) ⟨by simp only [List.length_cons, List.length_nil]; rw [sizeLine_eq]; decide, [.int (i.fdiv j) s.toks, .int (i.fmod j) (s.toks + 1)], .cons ⟨_, rfl⟩ (.cons ⟨_, rfl⟩ .nil), ?_⟩
  exact ⟨_, Heap.get?_push_size s.heap rfl, rfl, 0, rfl⟩
def fDivmod : FC := fun xs => match xs with
  | [.int i, .int j] => if cDivN i j = true then some (.tup [.int (i.fdiv j), .int (i.fmod j)]) else none
  | _ => none
theorem sc_divmod : SCl K S fDivmod (fun xs H Q => ∃ i j, xs = [.int i, .int j] ∧ CDivN i j ∧ ∀ p, H p = none → Q (.ref p) (upd H p (.tup [.int (i.fdiv j), .int (i.fmod j)]))) := fun G H xs d vs Q i r e k => by
  unfold fDivmod at e
  split at e
  · rename_i m n
    split at e
    · rename_i hc
      cases e
      obtain ⟨v, w, rfl, rx, ry⟩ := r.two
      cases rx
      cases ry
      refine ⟨_, _, rfl, (of_decide_eq_true hc : _ ≠ _ ∧ _), fun q hq => ?_⟩
      have x := Ex.new1 (o := .tup [.int (Int.fdiv m n), .int (Int.fmod m n)]) i hq
      exact k _ _ _ x ⟨q, _, rfl, .inl (.inl upd_same), .cons rfl (.cons rfl .nil)⟩
    · cases e
  · cases e
/-! new objects of one's own -/
def SClF (K : PySem.W.Frag) (S : Nat → Addr) (f : FC) (r : List V → Hp → VK → Prop) : Prop := ∀ (G H : Hp) (xs : List D) (d : D) (vs : List V) (Q : VK), Inn G H → RepL K S G xs vs → f xs = some d → (∀ p o, H p = none → RepO K S G d o → Q (.ref p) (upd H p o)) → r vs H Q
theorem sndf_cb {f : FC} {r : List V → Hp → VK → Prop} {σ : L2.St} {H : Hp} {Q : VK} (so : SClF K S f r) (q : TF K S E (xCB f er) σ H Q) : tCB r (TAe K S E er) σ H Q := by
  obtain ⟨B, L, G, env, st, rl, po⟩ := q
  refine ⟨B, L, G, env, st, rl, po.then fun G1 H1 xs e1 sm1 st1 rl1 p1 vs rv => ?_⟩
  cases hf : f xs with
  | none => rw [hf] at p1; exact p1.elim
  | some d =>
    rw [hf] at p1
    exact so G1 H1 xs d vs Q st1.inn rv hf fun p o hp ro => fresh_ok st1 rl1 p1 ro p hp
theorem qf_callB {id : String} {x : Str} {p : Pos} {f : FC} {r : List V → Hp → VK → Prop} (hc : CallR X (.builtin id) r) (so : SClF X.K S f r) (hg : Gl X x) (hm : X.mg x = none) (hv : bootBuiltins x = some (.builtin id)) (ha : QA S X E (a :: es) er) (hn : x ≠ "__name__" := by decide) (hdb : (x == ("__debug__" : Str)) = false := by decide)
    (he : starEach (a :: es) X.env = (false, eval a X.env) :: starEach es X.env := by rfl) (hpl : (backTo pos (starEach es X.env)).any (·.1) = false := by rfl) : QF S X E (.Call (.Name x p) (a :: es) [] pos) (xCB f er) := pe_of (pe_callB hc hg hm hv ha hn hdb he hpl) fun _ _ _ q => sndf_cb so q
theorem qf_callTy {T : String} {x : Str} {p : Pos} {f : FC} {r : List V → Hp → VK → Prop} (hc : CallR X (.type T) r) (so : SClF X.K S f r) (hg : Gl X x) (hm : X.mg x = none) (hv : bootBuiltins x = some (.type T)) (ha : QA S X E (a :: es) er) (hn : x ≠ "__name__" := by decide) (hdb : (x == ("__debug__" : Str)) = false := by decide)
    (he : starEach (a :: es) X.env = (false, eval a X.env) :: starEach es X.env := by rfl) (hpl : (backTo pos (starEach es X.env)).any (·.1) = false := by rfl) : QF S X E (.Call (.Name x p) (a :: es) [] pos) (xCB f er) := pe_of (pe_callTy hc hg hm hv ha hn hdb he hpl) fun _ _ _ q => sndf_cb so q
def fList : FC := fun xs => match xs with
  | [x] => (seqD x).map D.lst
  | _ => none
def rListOf (K : PySem.W.Frag) : List V → Hp → VK → Prop := fun xs H Q => ∃ p ys, xs = [.ref p] ∧ (SqL K H p ys ∨ SqT K H p ys) ∧ ∀ l, H l = none → Q (.ref l) (upd H l (.lst ys))
theorem sc_list : SClF K S fList (rListOf K) := fun G H xs d vs Q i r e k => by
  unfold fList at e
  split at e
  · rename_i x
    obtain ⟨v, rfl, rx⟩ := r.one
    cases h : seqD x with
    | none => rw [h] at e; cases e
    | some l =>
      rw [h] at e
      cases e
      obtain ⟨q, us, rfl, hq, t⟩ := seq_sq rx h
      exact ⟨q, us, rfl, hq.elim (fun h => .inl (i.seq h)) (fun h => .inr (i.tup h)), fun p hp => k p _ hp ⟨us, rfl, t⟩⟩
  · cases e
/-- list(x) of a list of one's own at a slot -/
def xListV (i : Nat) : Ev := fun env => match env[i]? with
  | some (.box (.lst xs)) => .ok (.lst xs) env
  | some (.par (.lst xs)) => .ok (.lst xs) env
  | _ => .no
/-! stars in displays -/
def xStar (a : Ev) (r : EvA) : EvA := fun env => (a env).bind fun x e1 => match seqD x with
  | some l => (r e1).bind fun xs e2 => .ok (l ++ xs) e2
  | none => .no
theorem q_star {p : Pos} (he : QE S X E e ee) (hr : QA S X E es er) (hs : starEach (.Starred e p :: es) X.env = (true, eval e X.env) :: starEach es X.env := by rfl) : QA S X E (.Starred e p :: es) (xStar ee er) := pa_of (StX.pa_star he hr hs) fun σ H Q ⟨B, L, G, env, st, rl, po⟩ => ⟨B, L, G, env, st, rl, po.then fun G1 H1 x e1 sm1 st1 rl1 p1 v rv => by
  split at p1
  · rename_i l hl
    obtain ⟨q, us, rfl, hq, t⟩ := seq_sq rv hl
    exact ⟨q, us, rfl, hq.elim (fun h => .inr (st1.inn.seq h)) (fun h => .inl (st1.inn.tup h)), B, L, G1, e1, st1, rl1, p1.then fun G2 H2 xs e2 sm2 st2 rl2 p2 ys rvs => p2 G2 H2 (.refl _) st2 rl2 _ ((t.mono sm2).app rvs)⟩
  · exact p1.elim⟩
end
end
end Dv
namespace Dv
open PySem PySem.Spec PyProof.Rows L2
set_option autoImplicit false
noncomputable section
/-! ### what is one's own, read for a moment -/
def borE (env : Env) : Env := env.map fun s => match s with
  | .box d => .val d
  | .par d => .val d
  | s => s
def scalR : D → Bool
  | .non => true
  | .bl _ => true
  | .int _ => true
  | .str _ => true
  | .st _ => true
  | .ty _ => true
  | _ => false
def xBor (f : Ev) : Ev := fun env => match f (borE env) with
  | .ok d _ => if scalR d = true then .ok d env else .no
  | _ => .no
def xBorT (f : EvT) : EvT := fun env => match f (borE env) with
  | .ok b _ => .ok b env
  | _ => .no
section
variable {K : PySem.W.Frag} {S : Nat → Addr} {X : Cx} {E : XK}
theorem scalR_any {G G' : Hp} {d : D} {v : V} (h : scalR d = true) (r : Rep K S G d v) : Rep K S G' d v := by
  cases d <;> first
    | (cases h; done)
    | exact r
def OwnAt (env : Env) (σ : L2.St) (a : Addr) : Prop := ∃ (i : Nat) (s : Sl), env[i]? = some s ∧ isOwn s = true ∧ σ[i]? = some (some (V.ref a))
open Classical in
def borG (env : Env) (σ : L2.St) (G H : Hp) : Hp := fun a => if OwnAt env σ a then H a else G a
theorem bor_ok {B : Base} {L : Lk} {G H : Hp} {env : Env} {σ : L2.St} (st : Ste B L G H) (rl : Rel K S B L G H env σ) :
    Ste ⟨borG env σ G H, H, none⟩ [] (borG env σ G H) H ∧ Rel K S ⟨borG env σ G H, H, none⟩ [] (borG env σ G H) H (borE env) σ := by
  have sm : Same G (borG env σ G H) := fun a o e => by
    unfold borG
    by_cases h : OwnAt env σ a
    · obtain ⟨i, s, h1, h2, h3⟩ := h
      have := (own_free st rl h1 h2 h3).1
      rw [e] at this
      cases this
    · rw [if_neg h]; exact e
  have own : ∀ (i : Nat) (s : Sl) (a : Addr), env[i]? = some s → isOwn s = true → σ[i]? = some (some (V.ref a)) → borG env σ G H a = H a := fun i s a h1 h2 h3 => by
    unfold borG
    rw [if_pos ⟨i, s, h1, h2, h3⟩]
  refine ⟨⟨.refl _, fun a u e => ?_, fun a h e => (h e).elim, fun a o e _ _ => e, (fun p hp => by cases hp), (fun a e => by cases e), fun p hp => by cases hp⟩, ?_, fun i j s t a _ h1 _ o1 => ?_, fun i s a h1 o1 _ p hp => by cases hp⟩
  · unfold borG at e
    by_cases h : OwnAt env σ a
    · rw [if_pos h] at e; exact .inl e
    · rw [if_neg h] at e; exact st.inn a u e
  · refine paired_of (by unfold borE; rw [List.length_map]; exact paired_len rl.at_) fun i s x h1 h2 => ?_
    unfold borE at h1
    rw [List.getElem?_map] at h1
    cases he : env[i]? with
    | none => rw [he] at h1; cases h1
    | some s' =>
      rw [he] at h1
      cases h1
      obtain ⟨y, hy, q⟩ := rel_at rl he
      rw [h2] at hy
      cases hy
      cases s' with
      | no => trivial
      | val d => obtain ⟨v, e, r⟩ := q; exact ⟨v, e, r.mono sm⟩
      | box d =>
        obtain ⟨a, o, rfl, _, _, ha, r⟩ := q
        have hg := own i _ a he rfl h2
        rw [ha] at hg
        refine ⟨_, rfl, ?_⟩
        cases d with
        | lst xs => obtain ⟨vs, rfl, q⟩ := r; exact ⟨a, vs, rfl, hg, q.mono sm⟩
        | dct xs => obtain ⟨vs, rfl, q⟩ := r; exact ⟨a, vs, rfl, hg, q.mono sm⟩
        | ins C fs => obtain ⟨dx, vs, rfl, q⟩ := r; exact ⟨a, dx, vs, rfl, hg, q.mono sm⟩
        | _ => exact r.elim
      | par d =>
        obtain ⟨a, o, rfl, _, ha, r⟩ := q
        have hg := own i _ a he rfl h2
        rw [ha] at hg
        refine ⟨_, rfl, ?_⟩
        cases d with
        | lst xs => obtain ⟨vs, rfl, q⟩ := r; exact ⟨a, vs, rfl, hg, q.mono sm⟩
        | dct xs => obtain ⟨vs, rfl, q⟩ := r; exact ⟨a, vs, rfl, hg, q.mono sm⟩
        | ins C fs => obtain ⟨dx, vs, rfl, q⟩ := r; exact ⟨a, dx, vs, rfl, hg, q.mono sm⟩
        | _ => exact r.elim
  · unfold borE at h1
    rw [List.getElem?_map] at h1
    cases he : env[i]? with
    | none => rw [he] at h1; cases h1
    | some s' =>
      rw [he] at h1
      cases h1
      cases s' <;> cases o1
theorem bor_end {G0 H H' G' : Hp} (st : Ste ⟨G0, H, none⟩ [] G' H') : Same H H' := fun a o e => st.keep a o e (by intro q; cases q) fun p hp => by cases hp
theorem q_bor {e : Expr} {f : Ev} (h : QE S X E e f) : QE S X E e (xBor f) := pe_of h fun σ H Q ⟨B, L, G, env, st, rl, po⟩ => by
  obtain ⟨s1, r1⟩ := bor_ok st rl
  refine ⟨_, [], _, _, s1, r1, ?_⟩
  unfold xBor at po
  cases hf : f (borE env) with
  | no => rw [hf] at po; exact po.elim
  | ex C fs e' => rw [hf] at po; exact po.elim
  | ok d e' =>
    rw [hf] at po
    dsimp only at po
    split at po
    · rename_i hs
      intro G' H' sm st' rl' v rv
      have x := Ex.same st.inn (bor_end st')
      exact po G H' (.refl _) (st.ex x) (rl.ex x) v (scalR_any hs rv)
    · exact po.elim
theorem q_borT {e : Expr} {f : EvT} (h : QT S X E e f) : QT S X E e (xBorT f) := pt_of h fun σ H Q ⟨B, L, G, env, st, rl, po⟩ => by
  obtain ⟨s1, r1⟩ := bor_ok st rl
  refine ⟨_, [], _, _, s1, r1, ?_⟩
  unfold xBorT at po
  cases hf : f (borE env) with
  | no => rw [hf] at po; exact po.elim
  | ex C fs e' => rw [hf] at po; exact po.elim
  | ok d e' =>
    rw [hf] at po
    intro G' H' sm st' rl' v rv
    have x := Ex.same st.inn (bor_end st')
    exact po G H' (.refl _) (st.ex x) (rl.ex x) v rv
/-! ### methods of what is one's own -/
def cont : Sl → Option D
  | .box d => some d
  | .par d => some d
  | _ => none
def isLst : D → Bool
  | .lst _ => true
  | _ => false
abbrev FM := D → List D → Option (D × D)
def xOwnM (f : FM) (i : Nat) (r : EvA) : Ev := fun env => match env[i]? with
  | some s => match cont s with
    | some (.lst _) => (r env).bind fun xs e => match e[i]? with
      | some t => match cont t with
        | some c => match f c xs with
          | some (d, c') => .ok d (e.set i (putSl t c'))
          | none => .no
        | none => .no
      | none => .no
    | _ => .no
  | none => .no
def SMo (K : PySem.W.Frag) (S : Nat → Addr) (f : FM) (r : V → List V → Hp → VK → Prop) : Prop := ∀ (G H : Hp) (p : Addr) (o : HO) (c : D) (xs : List D) (vs : List V) (d c' : D) (Q : VK), Inn G H → G p = none → H p = some o → RepO K S G c o → RepL K S G xs vs → f c xs = some (d, c') → (∀ o' u, RepO K S G c' o' → Rep K S G d u → Q u (upd H p o')) → r (.ref p) vs H Q
theorem own_cont {B : Base} {L : Lk} {G H : Hp} {env : Env} {σ : L2.St} {i : Nat} {s : Sl} {c : D} (rl : Rel K S B L G H env σ) (h : env[i]? = some s) (hc : cont s = some c) : isOwn s = true ∧ ∃ p o, σ[i]? = some (some (V.ref p)) ∧ H p = some o ∧ RepO K S G c o := by
  obtain ⟨x, hx, q⟩ := rel_at rl h
  cases s with
  | box d => cases hc; obtain ⟨p, o, rfl, _, _, hp, r⟩ := q; exact ⟨rfl, p, o, hx, hp, r⟩
  | par d => cases hc; obtain ⟨p, o, rfl, _, hp, r⟩ := q; exact ⟨rfl, p, o, hx, hp, r⟩
  | _ => cases hc
variable {o e : Expr} {es : List Expr} {name : Str} {apos cpos : Pos} {id : String} {r : V → List V → Hp → VK → Prop} {f : FM} {er : EvA} {i : Nat}
theorem snd_own {σ : L2.St} {H : Hp} {Q : VK} (so : SMo K S f r) (q : TD K S E (xOwnM f i er) σ H Q) : tBM K "list" r (tVar i) (TAe K S E er) σ H Q := by
  obtain ⟨B, L, G, env, st, rl, po⟩ := q
  unfold xOwnM at po
  split at po
  · rename_i s hs
    split at po
    · rename_i ys hc
      obtain ⟨ho, p, ob, hx, hp, vs, rfl, ro⟩ := own_cont rl hs hc
      refine ⟨.ref p, hx, .inl ⟨rfl, _, SqL.of hp⟩, B, L, G, env, st, rl, po.then fun G1 H1 xs e1 sm1 st1 rl1 p1 us rv => ?_⟩
      split at p1
      · rename_i t ht
        split at p1
        · rename_i c hc1
          split at p1
          · rename_i d c' hf
            obtain ⟨ho1, p', o1, hx1, hp1, ro1⟩ := own_cont rl1 ht hc1
            rw [hx] at hx1
            cases hx1
            refine so G1 H1 p o1 c xs us d c' Q st1.inn (own_free st1 rl1 ht ho1 hx).1 hp1 ro1 rv hf fun o' u h1 h2 => ?_
            obtain ⟨s1, s2⟩ := own_set st1 rl1 ht ho1 hx h1
            exact p1 G1 _ (.refl _) s1 s2 u h2
          · exact p1.elim
        · exact p1.elim
      · exact p1.elim
    · exact po.elim
  · exact po.elim
theorem q_own (pa : PlainAttrs "list") (slot : Slot "list" name id) (hty : typeOf (.builtin id) = pure (.type "method_descriptor")) (hm : MtR X id r) (so : SMo X.K S f r) (ho : PE X o (tVar i)) (ha : QA S X E (e :: es) er)
    (hbase : attributeBase o name X.env (eval o X.env) = eval o X.env := by rfl)
    (hfew : ((backTo cpos (starEach (e :: es) X.env)).all (fun x => !x.1) && (backToKw cpos (keywordEach [] X.env)).all (fun x => x.1.isSome)
      && decide ((e :: es).length + ([] : List Keyword).length + (if ([] : List Keyword).isEmpty then 0 else 1) < 30)) = true := by rfl)
    (hline : (apos.endLine == cpos.line) = true := by rfl) (hs : starEach (e :: es) X.env = (false, eval e X.env) :: starEach es X.env := by rfl) (hplain : (backTo cpos (starEach es X.env)).any (·.1) = false := by rfl) :
    QE S X E (.Call (.Attribute o name apos) (e :: es) [] cpos) (xOwnM f i er) := pe_of (pe_bm pa slot hty hm ho ha hbase hfew hline hs hplain) fun _ _ _ q => snd_own so q
def mApp : FM := fun c xs => match c, xs with
  | .lst l, [x] => if l.length < 1000000 then some (.non, .lst (l ++ [x])) else none
  | _, _ => none
theorem sm_app : SMo K S mApp rAppend := fun G H p o c xs vs d c' Q i gp hp ro rx hf k => by
  unfold mApp at hf
  split at hf
  · rename_i l x
    split at hf
    · rename_i hl
      cases hf
      obtain ⟨ws, rfl, t⟩ := ro
      obtain ⟨v, rfl, rv⟩ := rx.one
      exact ⟨p, ws, v, rfl, rfl, hp, len9 (by rw [← t.length]; exact hl), k _ _ ⟨_, rfl, t.app (.cons rv .nil)⟩ rfl⟩
    · cases hf
  · cases hf
def mExt : FM := fun c xs => match c, xs with
  | .lst l, [.lst z] => if l.length + z.length ≤ 1000000 then some (.non, .lst (l ++ z)) else none
  | _, _ => none
theorem sm_ext : SMo K S mExt rExtend := fun G H p o c xs vs d c' Q i gp hp ro rx hf k => by
  unfold mExt at hf
  split at hf
  · rename_i l z
    split at hf
    · rename_i hl
      cases hf
      obtain ⟨ws, rfl, t⟩ := ro
      obtain ⟨v, rfl, b, zs, rfl, gb, tz⟩ := rx.one
      exact ⟨p, b, ws, zs, rfl, rfl, hp, i.lst gb, line10 (by rw [← t.length, ← tz.length]; exact hl), k _ _ ⟨_, rfl, t.app tz⟩ rfl⟩
    · cases hf
  · cases hf
theorem RepL.erase {G : Hp} : ∀ {xs : List D} {vs : List V} (n : Nat), RepL K S G xs vs → RepL K S G (xs.eraseIdx n) (vs.eraseIdx n)
  | [], _, _, r => by cases r; rfl
  | x :: xs, _, 0, ⟨v, ws, e, q, r⟩ => by subst e; exact r
  | x :: xs, _, n + 1, ⟨v, ws, e, q, r⟩ => by subst e; exact ⟨v, _, rfl, q, r.erase n⟩
/-- x.pop(k), k from the beginning -/
def mPopAt : FM := fun c xs => match c, xs with
  | .lst l, [.int (.ofNat j)] => if j < 1000000 then match l[j]? with
    | some x => some (x, .lst (l.eraseIdx j))
    | none => none else none
  | _, _ => none
theorem sm_popAt : SMo K S mPopAt rPopAt := fun G H p o c xs vs d c' Q i gp hp ro rx hf k => by
  unfold mPopAt at hf
  split at hf
  · rename_i l j
    split at hf
    · rename_i hj
      split at hf
      · rename_i x hx
        cases hf
        obtain ⟨ws, rfl, t⟩ := ro
        obtain ⟨v, rfl, rv⟩ := rx.one
        cases rv
        obtain ⟨y, hy, ry⟩ := t.get hx
        have hl := (List.getElem?_eq_some_iff.mp hy).1
        refine ⟨p, ws, (j : Int), j, y, rfl, rfl, hp, by omega, by omega, ?_, hy, k _ _ ⟨_, rfl, t.erase j⟩ ry⟩
        exact (ixN_seq (show ixN ws.length (j : Int) = some j by unfold ixN; rw [if_pos (Int.natCast_nonneg j), if_pos (by omega)]; rfl)).1
      · cases hf
    · cases hf
  · cases hf
/-! x[k] = v, x a list of one's own -/
def xSetIx (i : Nat) (ek ev : Ev) : EvS := fun env => (ev env).st fun v e1 => match e1[i]? with
  | some t0 => if isOwn t0 = true then (ek e1).st fun y e2 => match e2[i]?, y with
    | some t, .int j => match cont t with
      | some (.lst l) => match ixN l.length j with
        | some n => .nx (e2.set i (putSl t (.lst (l.set n v))))
        | none => .no
      | _ => .no
    | _, _ => .no else .no
  | none => .no
theorem RepL.set {G : Hp} {d : D} {v : V} (q : Rep K S G d v) : ∀ {xs : List D} {vs : List V} (n : Nat), RepL K S G xs vs → RepL K S G (xs.set n d) (vs.set n v)
  | [], _, _, r => by cases r; rfl
  | x :: xs, _, 0, ⟨w, ws, e, _, r⟩ => by subst e; exact ⟨v, ws, rfl, q, r⟩
  | x :: xs, _, n + 1, ⟨w, ws, e, q', r⟩ => by subst e; exact ⟨w, _, rfl, q', r.set q n⟩
theorem s_setIx {ix value : Expr} {ek ev : Ev} {pos pos' : Pos} (ho : PE X o (tVar i)) (hi : QE S X E ix ek) (hv : QE S X E value ev) (hc : PG X (.Subscript o ix pos') (gSub (tVar i) (TD X.K S E ek) rSetL)) (hs : swapsWithSole [.Subscript o ix pos'] value pos.line X.env = pure false := by rfl) (hw : swappedStores [.Subscript o ix pos'] value X.env = pure none := by rfl)
    (h1 : (assignEach [.Subscript o ix pos'] X.env).map (·.2) = [assign (.Subscript o ix pos') X.env] := by rfl) : QS S X E (.Assign [.Subscript o ix pos'] value pos) (xSetIx i ek ev) := ps_of (ps_asg hv hc hs hw h1) fun D σ H ⟨B, L, G, env, st, rl, po⟩ => ⟨B, L, G, env, st, rl, Post.st po fun G1 H1 d e1 sm1 st1 rl1 p1 v rv => by
  split at p1
  · rename_i t0 ht0
    split at p1
    · rename_i ho0
      obtain ⟨p, hx⟩ := own_at rl1 ht0 ho0
      exact ⟨.ref p, hx, B, L, G1, e1, st1, rl1, Post.st p1 fun G2 H2 y e2 sm2 st2 rl2 p2 k rk => by
        split at p2
        · rename_i t j ht
          split at p2
          · rename_i l hc
            split at p2
            · rename_i n hn
              obtain ⟨ho, p', o', hx', hp, ws, rfl, t'⟩ := own_cont rl2 ht hc
              rw [hx] at hx'
              cases hx'
              cases rk
              obtain ⟨s1, s2⟩ := own_set (d := .lst (l.set n d)) st2 rl2 ht ho hx ⟨_, rfl, t'.set (rv.mono sm2) n⟩
              exact ⟨p, ws, j, n, rfl, rfl, hp, by rw [← t'.length]; exact hn, p2 σ G2 _ (.refl _) s1 s2⟩
            · exact p2.elim
          · exact p2.elim
        · exact p2.elim⟩
    · exact p1.elim
  · exact p1.elim⟩
end
end
end Dv
namespace Dv
open PySem PySem.Spec PyProof.Rows L2
set_option autoImplicit false
noncomputable section
/-! ### isinstance -/
def tyName : D → Option String
  | .non => some "NoneType"
  | .bl _ => some "bool"
  | .int _ => some "int"
  | .str _ => some "str"
  | .lst _ => some "list"
  | .dct _ => some "dict"
  | _ => none
/-- of built-in types -/
def tyIs (t n : String) : Option Bool := match t, n with
  | "NoneType", "list" => some false
  | "bool", "list" => some false
  | "int", "list" => some false
  | "str", "list" => some false
  | "list", "list" => some true
  | "dict", "list" => some false
  | "NoneType", "int" => some false
  | "bool", "int" => some true
  | "int", "int" => some true
  | "str", "int" => some false
  | "list", "int" => some false
  | "dict", "int" => some false
  | "NoneType", "str" => some false
  | "bool", "str" => some false
  | "int", "str" => some false
  | "str", "str" => some true
  | "list", "str" => some false
  | "dict", "str" => some false
  | "NoneType", "bool" => some false
  | "bool", "bool" => some true
  | "int", "bool" => some false
  | "str", "bool" => some false
  | "list", "bool" => some false
  | "dict", "bool" => some false
  | _, _ => none
theorem tyIs_ok {t n : String} {b : Bool} (h : tyIs t n = some b) : kitB t n = some b := by
  unfold tyIs at h
  split at h <;> first
    | (cases h; decide +kernel)
    | cases h
section
variable {K : PySem.W.Frag} {S : Nat → Addr}
theorem tyX_of {G H : Hp} (i : Inn G H) {x : D} {v : V} {t : String} (r : Rep K S G x v) (h : tyName x = some t) : TyX K H v (.type t) := by
  cases x with
  | non => cases h; cases r; exact .base .non
  | bl _ => cases h; cases r; exact .base (.bl _)
  | int _ => cases h; cases r; exact .base (.int _)
  | str _ => cases h; cases r; exact .base (.str _)
  | lst _ => cases h; obtain ⟨a, vs, rfl, g, _⟩ := r; exact .base (.lst (i.lst g))
  | dct _ =>
    cases h
    obtain ⟨a, vs, rfl, g, _⟩ := r
    rcases i.dct (.inl g) with q | ⟨o, q⟩
    · exact .base (.dK q)
    · exact .fDict q
  | _ => cases h
/-- oo: own class, own class; ob: own class, built-in type; bo: built-in type, own class -/
structure IsOk (K : PySem.W.Frag) (S : Nat → Addr) (oo : Nat → Nat → Option Bool) (ob : Nat → String → Option Bool) (bo : String → Nat → Option Bool) : Prop where
  ti : ∀ C k b, oo C k = some b → (∀ (H : Hp) (a dx : Addr) (fs : List (Str × V)), H a = some (.ins (S C) dx fs) → TyX K H (.ref a) (.ref (S C))) ∧ PySem.W.kitOne K (.ref (S C)) (.ref (S k)) = some b
  tb : ∀ C n b, ob C n = some b → (∀ (H : Hp) (a dx : Addr) (fs : List (Str × V)), H a = some (.ins (S C) dx fs) → TyX K H (.ref a) (.ref (S C))) ∧ PySem.W.kitOne K (.ref (S C)) (.type n) = some b
  bt : ∀ t k b, bo t k = some b → PySem.W.kitOne K (.type t) (.ref (S k)) = some b
def fIs (oo : Nat → Nat → Option Bool) (ob : Nat → String → Option Bool) (bo : String → Nat → Option Bool) : FC := fun xs => match xs with
  | [.ins C _, .st k] => (oo C k).map D.bl
  | [.ins C _, .ty n] => (ob C n).map D.bl
  | [x, .ty n] => match tyName x with
    | some t => (tyIs t n).map D.bl
    | none => none
  | [x, .st k] => match tyName x with
    | some t => (bo t k).map D.bl
    | none => none
  | _ => none
theorem sc_is {oo : Nat → Nat → Option Bool} {ob : Nat → String → Option Bool} {bo : String → Nat → Option Bool} (T : IsOk K S oo ob bo) : SCl K S (fIs oo ob bo) (rIsi K) := fun G H xs d vs Q i r e k => by
  unfold fIs at e
  split at e
  · rename_i C fs m
    obtain ⟨v, w, rfl, rx, ry⟩ := r.two
    cases h : oo C m with
    | none => rw [h] at e; cases e
    | some b =>
      rw [h] at e
      cases e
      cases ry
      obtain ⟨a, dx, ws, rfl, g, _⟩ := rx
      obtain ⟨t1, t2⟩ := T.ti C m b h
      exact ⟨_, _, _, _, b, rfl, .own _, t1 H a dx ws (i.ins g), t2, k G H _ (.refl i) rfl⟩
  · rename_i C fs n
    obtain ⟨v, w, rfl, rx, ry⟩ := r.two
    cases h : ob C n with
    | none => rw [h] at e; cases e
    | some b =>
      rw [h] at e
      cases e
      cases ry
      obtain ⟨a, dx, ws, rfl, g, _⟩ := rx
      obtain ⟨t1, t2⟩ := T.tb C n b h
      exact ⟨_, _, _, _, b, rfl, .ty _, t1 H a dx ws (i.ins g), t2, k G H _ (.refl i) rfl⟩
  · rename_i x n _
    obtain ⟨v, w, rfl, rx, ry⟩ := r.two
    split at e
    · rename_i t ht
      cases h : tyIs t n with
      | none => rw [h] at e; cases e
      | some b =>
        rw [h] at e
        cases e
        cases ry
        exact ⟨_, _, _, _, b, rfl, .ty _, tyX_of i rx ht, L2.kit_ty (tyIs_ok h), k G H _ (.refl i) rfl⟩
    · cases e
  · rename_i x m _
    obtain ⟨v, w, rfl, rx, ry⟩ := r.two
    split at e
    · rename_i t ht
      cases h : bo t m with
      | none => rw [h] at e; cases e
      | some b =>
        rw [h] at e
        cases e
        cases ry
        exact ⟨_, _, _, _, b, rfl, .own _, tyX_of i rx ht, T.bt t m b h, k G H _ (.refl i) rfl⟩
    · cases e
  · cases e
theorem is_none : IsOk K S (fun _ _ => none) (fun _ _ => none) (fun _ _ => none) := ⟨fun _ _ _ e => (by cases e), fun _ _ _ e => (by cases e), fun _ _ _ e => (by cases e)⟩
/-! x, y = a, b -/
def xPar (i j : Nat) (r : EvA) : EvS := fun env => (r env).st fun ds e => match ds with
  | [d1, d2] => match setE e i d1 with
    | some e1 => match setE e1 j d2 with
      | some e2 => .nx e2
      | none => .no
    | none => .no
  | _ => .no
theorem s_par {X : Cx} {E : XK} {i j : Nat} {x y : Str} {a b : Expr} {er : EvA} {px py pt pos : Pos} {kt k2 pt2} (hp : PS X (.Assign [.Tuple [.Name x px, .Name y py] kt pt] (.Tuple [a, b] k2 pt2) pos) (tPar i j (TAe X.K S E er))) :
    QS S X E (.Assign [.Tuple [.Name x px, .Name y py] kt pt] (.Tuple [a, b] k2 pt2) pos) (xPar i j er) := ps_of hp fun D σ H ⟨B, L, G, env, st, rl, po⟩ => ⟨B, L, G, env, st, rl, Post.st po fun G1 H1 ds e1 sm1 st1 rl1 p1 vs rv => by
  split at p1
  · rename_i d1 d2
    obtain ⟨v, w, rfl, rx, ry⟩ := rv.two
    split at p1
    · rename_i e2 h1
      split at p1
      · rename_i e3 h2
        exact ⟨v, w, rfl, p1 _ G1 H1 (.refl _) st1 (rel_set (rel_set rl1 h1 rx) h2 ry)⟩
      · exact p1.elim
    · exact p1.elim
  · exact p1.elim⟩
theorem kit_ty {K : PySem.W.Frag} {C : Addr} {T : String} {r : Bool} (h1 : PySem.W.isClsIn K C = true) (h2 : PySem.W.typeIn K (.ref C) = some (.type "type")) (h3 : PySem.W.subIn K (.type T) (.ref C) = some r) :
    PySem.W.kitOne K (.type T) (.ref C) = some r := by
  have a1 : ((PySem.W.clsIn K C).isSome && PySem.W.typeIn K (.ref C) == some (.type "type")) = true := by
    rw [h2, show (PySem.W.clsIn K C).isSome = true from h1] <;> rfl
  have a2 : PySem.W.kitCls K (.type T) (.ref C) = some r := Eq.trans (if_pos a1) h3
  exact Eq.trans (if_neg (by simp)) a2
theorem kit_typ {K : PySem.W.Frag} {C : Addr} {n : String} {r : Bool} (hn : PySem.W.kitMeta n = true) (h : PySem.W.subIn K (.ref C) (.type n) = some r) : PySem.W.kitOne K (.ref C) (.type n) = some r := by
  have a : PySem.W.kitCls K (.ref C) (.type n) = some r := by
    show (if PySem.W.kitMeta n = true then PySem.W.subIn K (.ref C) (.type n) else none) = some r
    rw [if_pos hn]
    exact h
  exact Eq.trans (if_neg (by simp)) a
/-! l.index(x) -/
theorem q_cons1 {X : Cx} {E : XK} {a : Expr} {ea : Ev} (ha : QE S X E a ea) (hs : starEach [a] X.env = (false, eval a X.env) :: starEach [] X.env := by rfl) : QA S X E [a] (fun env => (ea env).bind fun x e => .ok [x] e) := pa_of (pa_cons ha pa_nil hs) fun σ H Q ⟨B, L, G, env, st, rl, po⟩ => ⟨B, L, G, env, st, rl, po.then fun G1 H1 x e1 sm1 st1 rl1 p1 v rv => p1 G1 H1 (.refl _) st1 rl1 _ (RepL.cons rv rfl)⟩
def idxD (a : PyData) : List PyData → Option Nat
  | [] => none
  | d :: r => if PyData.eqv d a = true then some 0 else (idxD a r).map (· + 1)
theorem idxD_ok {a : PyData} : ∀ {ds : List PyData} {j : Nat}, idxD a ds = some j → ∃ z, ds[j]? = some z ∧ PyData.eqv z a = true ∧ ∀ (m : Nat) (z' : PyData), m < j → ds[m]? = some z' → PyData.eqv z' a = false
  | [], _, e => by cases e
  | d :: r, j, e => by
    have e : (if PyData.eqv d a = true then some 0 else (idxD a r).map (· + 1)) = some j := e
    by_cases h : PyData.eqv d a = true
    · rw [if_pos h] at e; cases e
      exact ⟨d, rfl, h, fun m z' hm => absurd hm (Nat.not_lt_zero _)⟩
    · rw [if_neg h] at e
      cases hr : idxD a r with
      | none => rw [hr] at e; cases e
      | some k =>
        rw [hr] at e
        cases e
        obtain ⟨z, h1, h2, h3⟩ := idxD_ok hr
        refine ⟨z, by simpa using h1, h2, fun m z' hm hz => ?_⟩
        cases m with
        | zero => simp at hz; subst hz; exact Bool.eq_false_iff.mpr h
        | succ m => exact h3 m z' (Nat.lt_of_succ_lt_succ (show m + 1 < k + 1 from hm)) (by simpa using hz)
def xIndex (o a : Ev) : Ev := fun env => (o env).bind fun x e1 => match x with
  | .lst l => (a e1).bind fun y e2 => match datL l, dat y with
    | some ds, some d => if SeqAt.shaped (.list ds) = true ∧ SeqAt.shaped d = true then match idxD d ds with
      | some j => .ok (.int (j : Int)) e2
      | none => .no else .no
    | _, _ => .no
  | _ => .no
theorem q_index {X : Cx} {E : XK} {o e : Expr} {eo ee : Ev} {apos cpos : Pos} (hu : X.A.units + 65 < cLine) (ho : QE S X E o eo) (he : QE S X E e ee)
    (hbase : attributeBase o "index" X.env (eval o X.env) = eval o X.env := by rfl)
    (hfew : ((backTo cpos (starEach [e] X.env)).all (fun x => !x.1) && (backToKw cpos (keywordEach [] X.env)).all (fun x => x.1.isSome)
      && decide ([e].length + ([] : List Keyword).length + (if ([] : List Keyword).isEmpty then 0 else 1) < 30)) = true := by rfl)
    (hline : (apos.endLine == cpos.line) = true := by rfl) (hs : starEach [e] X.env = (false, eval e X.env) :: starEach [] X.env := by rfl) (hplain : (backTo cpos (starEach [] X.env)).any (·.1) = false := by rfl) :
    QE S X E (.Call (.Attribute o "index" apos) [e] [] cpos) (xIndex eo ee) := pe_of (pe_bm PySem.F.plainAttrs_list PySem.F.slot_list_index PySem.F.type_list_index (mt_indexD hu) ho (q_cons1 he hs) hbase hfew hline hs hplain) fun σ H Q ⟨B, L, G, env, st, rl, po⟩ => ⟨B, L, G, env, st, rl, po.then fun G1 H1 x e1 sm1 st1 rl1 p1 v rv => by
  cases x with
  | lst l =>
    obtain ⟨q, vs, rfl, gq, t⟩ := rv
    refine ⟨.inl ⟨rfl, vs, .inl (.inl (st1.inn.lst gq))⟩, B, L, G1, e1, st1, rl1, ?_⟩
    cases hy : ee e1 with
    | no => rw [hy] at p1; exact p1.elim
    | ex C fs e2 => rw [hy] at p1; show Post X.K S E B L σ G1 _ ((ee e1).bind _); rw [hy]; exact p1
    | ok y e2 =>
      rw [hy] at p1
      show Post X.K S E B L σ G1 _ ((ee e1).bind _)
      rw [hy]
      intro G2 H2 sm2 st2 rl2 us rus
      obtain ⟨u, rfl, ru⟩ := rus.one
      dsimp only [Res.bind] at p1
      split at p1
      · rename_i ds d h1 h2
        split at p1
        · rename_i hs
          split at p1
          · rename_i j hj
            obtain ⟨z, k1, k2, k3⟩ := idxD_ok hj
            have hl : Dp X.K H2 (.ref q) (.list ds) := dat_ok st2.inn (d := .lst l) ⟨q, vs, rfl, sm2 _ _ gq, t.mono sm2⟩ (by show (datL l).map PyData.list = _; rw [h1]; rfl)
            exact ⟨q, u, d, ds, j, z, rfl, rfl, hl, dat_ok st2.inn ru h2, hs.1, hs.2, k1, k2, k3, p1 G2 H2 sm2 st2 rl2 _ rfl⟩
          · exact p1.elim
        · exact p1.elim
      · exact p1.elim
  | _ => exact p1.elim⟩
/-! ### tables -/
theorem fo_nil {f : Str} : FldOk K S f [] := fun C h => by cases h
theorem fo_cons {f : Str} {C : Nat} {cs : List Nat} (h : Cls K (S C) ∧ NoAttr K (S C) f) (t : FldOk K S f cs) : FldOk K S f (C :: cs) := fun D hD => by
  rcases List.mem_cons.mp hD with rfl | hD
  · exact h
  · exact t D hD
theorem mt_nil {P : Nat → Nat → Fn → Prop} : MT.All [] P := trivial
theorem mt_cons {P : Nat → Nat → Fn → Prop} {c j : Nat} {g : Fn} {t : MT} (h : P c j g) (r : MT.All t P) : MT.All ((c, j, g) :: t) P := ⟨h, r⟩
end
end
end Dv
namespace Dv
open PySem PySem.Spec PyProof.Rows L2
set_option autoImplicit false
noncomputable section
/-! ### dicts -/
def keyD : D → Option Key
  | .int i => some (.inl i)
  | .str s => some (.inr s)
  | _ => none
def kD : Key → D
  | .inl i => .int i
  | .inr s => .str s
def valD (kvs : List (Key × D)) (k : Key) : Option D := match kvs with
  | [] => none
  | a :: r => if a.1 = k then some a.2 else valD r k
/-- in its place, or at the end -/
def putKD (kvs : List (Key × D)) (k : Key) (v : D) : List (Key × D) :=
  if (kvs.any fun kv => decide (kv.1 = k)) = true then kvs.map (fun kv => if kv.1 = k then (kv.1, v) else kv) else kvs ++ [(k, v)]
def dropKD (kvs : List (Key × D)) (k : Key) : List (Key × D) := kvs.filter fun kv => decide (kv.1 ≠ k)
section
variable {K : PySem.W.Frag} {S : Nat → Addr} {X : Cx} {E : XK} {G H : Hp}
theorem key_rep {y : D} {v : V} {k : Key} (r : Rep K S G y v) (h : keyD y = some k) : v = kV k := by
  cases y with
  | int i => cases h; cases r; rfl
  | str s => cases h; cases r; rfl
  | _ => cases h
theorem kD_rep {k : Key} : Rep K S G (kD k) (kV k) := by cases k <;> rfl
theorem valV_cons' {k k' : Key} {v : V} {r : List (Key × V)} : valV ((k', v) :: r) k = if k' = k then some v else valV r k := by
  by_cases h : k' = k
  · rw [if_pos h]
    simp [valV, h]
  · rw [if_neg h]
    simp [valV, h]
theorem valD_ok {k : Key} : ∀ {kvs : List (Key × D)} {ws : List (Key × V)}, RepK K S G kvs ws → (valD kvs k = none → valV ws k = none) ∧ ∀ d, valD kvs k = some d → ∃ v, valV ws k = some v ∧ Rep K S G d v
  | [], _, r => by cases r; exact ⟨fun _ => rfl, fun d e => by cases e⟩
  | a :: r, _, ⟨v, ws, e, q, t⟩ => by
    subst e
    obtain ⟨h1, h2⟩ := valD_ok (k := k) t
    have e1 : valD (a :: r) k = if a.1 = k then some a.2 else valD r k := rfl
    rw [e1, valV_cons']
    by_cases h : a.1 = k
    · rw [if_pos h, if_pos h]
      exact ⟨fun e => (by cases e), fun d e => (by cases e; exact ⟨v, rfl, q⟩)⟩
    · rw [if_neg h, if_neg h]
      exact ⟨h1, h2⟩
theorem repK_len : ∀ {kvs : List (Key × D)} {ws : List (Key × V)}, RepK K S G kvs ws → kvs.length = ws.length
  | [], _, r => by cases r; rfl
  | a :: r, _, ⟨v, ws, e, q, t⟩ => by subst e; rw [List.length_cons, List.length_cons, repK_len t]
theorem repK_keys : ∀ {kvs : List (Key × D)} {ws : List (Key × V)}, RepK K S G kvs ws → kvs.map (·.1) = ws.map (·.1)
  | [], _, r => by cases r; rfl
  | a :: r, _, ⟨v, ws, e, q, t⟩ => by subst e; rw [List.map_cons, List.map_cons, repK_keys t]
theorem repK_any {k : Key} : ∀ {kvs : List (Key × D)} {ws : List (Key × V)}, RepK K S G kvs ws → (kvs.any fun kv => decide (kv.1 = k)) = (ws.any fun kv => decide (kv.1 = k))
  | [], _, r => by cases r; rfl
  | a :: r, _, ⟨v, ws, e, q, t⟩ => by subst e; rw [List.any_cons, List.any_cons, repK_any t]
theorem repK_map {k : Key} {d : D} {v : V} (rd : Rep K S G d v) : ∀ {kvs : List (Key × D)} {ws : List (Key × V)}, RepK K S G kvs ws → RepK K S G (kvs.map fun kv => if kv.1 = k then (kv.1, d) else kv) (ws.map fun kv => if kv.1 = k then (kv.1, v) else kv)
  | [], _, r => by cases r; rfl
  | a :: r, _, ⟨w, ws, e, q, t⟩ => by
    subst e
    rw [List.map_cons, List.map_cons]
    by_cases h : a.1 = k
    · rw [if_pos h, if_pos h]; exact ⟨v, _, rfl, rd, repK_map rd t⟩
    · rw [if_neg h, if_neg h]; exact ⟨w, _, rfl, q, repK_map rd t⟩
theorem repK_app {k : Key} {d : D} {v : V} (rd : Rep K S G d v) : ∀ {kvs : List (Key × D)} {ws : List (Key × V)}, RepK K S G kvs ws → RepK K S G (kvs ++ [(k, d)]) (ws ++ [(k, v)])
  | [], _, r => by cases r; exact ⟨v, [], rfl, rd, rfl⟩
  | a :: r, _, ⟨w, ws, e, q, t⟩ => by subst e; exact ⟨w, _, rfl, q, repK_app rd t⟩
theorem repK_put {k : Key} {d : D} {v : V} (rd : Rep K S G d v) {kvs : List (Key × D)} {ws : List (Key × V)} (r : RepK K S G kvs ws) : RepK K S G (putKD kvs k d) (putK ws k v) := by
  unfold putKD putK
  rw [repK_any r]
  by_cases h : (ws.any fun kv => decide (kv.1 = k)) = true
  · rw [if_pos h, if_pos h]; exact repK_map rd r
  · rw [if_neg h, if_neg h]; exact repK_app rd r
theorem repK_drop {k : Key} : ∀ {kvs : List (Key × D)} {ws : List (Key × V)}, RepK K S G kvs ws → RepK K S G (dropKD kvs k) (dropK ws k)
  | [], _, r => by cases r; rfl
  | a :: r, _, ⟨w, ws, e, q, t⟩ => by
    subst e
    unfold dropKD dropK
    by_cases h : a.1 = k
    · rw [List.filter_cons_of_neg (by simp [h]), List.filter_cons_of_neg (by simp [h])]; exact repK_drop t
    · rw [List.filter_cons_of_pos (by simp [h]), List.filter_cons_of_pos (by simp [h])]; exact ⟨w, _, rfl, q, repK_drop t⟩
theorem repK_at : ∀ {kvs : List (Key × D)} {ws : List (Key × V)} {i : Nat} {k : Key} {d : D}, RepK K S G kvs ws → kvs[i]? = some (k, d) → ∃ v, ws[i]? = some (k, v) ∧ Rep K S G d v
  | [], _, i, k, d, _, h => by simp at h
  | a :: r, _, 0, k, d, ⟨w, ws, e, q, t⟩, h => by
    subst e
    have h : a = (k, d) := by simpa using h
    subst h
    exact ⟨w, rfl, q⟩
  | a :: r, _, i + 1, k, d, ⟨w, ws, e, q, t⟩, h => by
    subst e
    exact repK_at (i := i) t (by simpa using h)
theorem repK_end {kvs : List (Key × D)} {ws : List (Key × V)} {i : Nat} (r : RepK K S G kvs ws) (h : kvs[i]? = none) : ws.length ≤ i := by
  have := List.getElem?_eq_none_iff.mp h
  rw [← repK_len r]
  exact this
/-! d[k], k in d, d.get(k) -/
def dctD : D → Option (List (Key × D))
  | .dct kvs => some kvs
  | _ => none
theorem dct_rep {y : D} {v : V} {kvs : List (Key × D)} (i : Inn G H) (r : Rep K S G y v) (h : dctD y = some kvs) : ∃ a ws, v = .ref a ∧ G a = some (.dK ws) ∧ Rd H a (.dK ws) ∧ RepK K S G kvs ws := by
  cases y with
  | dct l =>
    cases h
    obtain ⟨a, ws, rfl, g, t⟩ := r
    exact ⟨a, ws, rfl, g, i.dct (.inl g), t⟩
  | _ => cases h
def oDGet : FO := fun d y => (dctD d).bind fun kvs => (keyD y).bind fun k => valD kvs k
def xDGet1 (a b : Ev) : Ev := fun env => (a env).bind fun d e1 => match dctD d with
  | some kvs => (b e1).bind fun y e2 => .of ((keyD y).map fun k => (valD kvs k).getD .non) e2
  | none => .no
def oDIn (neg : Bool) : FO := fun y d => (dctD d).bind fun kvs => (keyD y).bind fun k => some (.bl ((valD kvs k).isSome != neg))
theorem valD_some {k : Key} {kvs : List (Key × D)} {ws : List (Key × V)} (r : RepK K S G kvs ws) : (valV ws k).isSome = (valD kvs k).isSome := by
  obtain ⟨h1, h2⟩ := valD_ok (k := k) r
  cases e : valD kvs k with
  | none => rw [h1 e]; rfl
  | some d => obtain ⟨v, hv, _⟩ := h2 d e; rw [hv]; rfl
theorem valD_getD {k : Key} {kvs : List (Key × D)} {ws : List (Key × V)} (r : RepK K S G kvs ws) : Rep K S G ((valD kvs k).getD .non) ((valV ws k).getD .non) := by
  obtain ⟨h1, h2⟩ := valD_ok (k := k) r
  cases e : valD kvs k with
  | none => rw [h1 e]; rfl
  | some d => obtain ⟨v, hv, q⟩ := h2 d e; rw [hv]; exact q
theorem pc_of {op : CmpOp} {a b : Expr} {t u : TE} (p : PC X op a b t) (h : ∀ σ H Q, u σ H Q → t σ H Q) : PC X op a b u := ⟨fun pins s σ H Q I q => p.run pins s σ H Q I (h σ H Q q)⟩
variable {a b d e i : Expr} {ea eb ed ei : Ev} {pos apos cpos : Pos}
theorem q_dget (hu : X.A.units + 1 < cLine) (ho : QE S X E d ed) (hi : QE S X E i ei) (hs : NoSl i) : QE S X E (.Subscript d i pos) (xOp oDGet ed ei) := pe_of (pe_dget hu ho hi hs) fun σ H Q ⟨B, L, G, env, st, rl, po⟩ => ⟨B, L, G, env, st, rl, po.then fun G1 H1 x e1 sm1 st1 rl1 p1 v rv => ⟨B, L, G1, e1, st1, rl1, p1.then fun G2 H2 y e2 sm2 st2 rl2 p2 w rw => by
  obtain ⟨c, hc, k⟩ := p2.of st2 rl2
  unfold oDGet at hc
  obtain ⟨kvs, h1, hc⟩ := Option.bind_eq_some_iff.mp hc
  obtain ⟨key, h2, hc⟩ := Option.bind_eq_some_iff.mp hc
  obtain ⟨p, ws, rfl, _, rd, t⟩ := dct_rep st2.inn (rv.mono sm2) h1
  obtain ⟨u, hu, ru⟩ := (valD_ok (k := key) t).2 c hc
  rw [key_rep rw h2]
  exact ⟨p, u, rfl, .inl ⟨ws, key, rd, rfl, hu.symm⟩, k G2 H2 (.refl st2.inn) u ru⟩⟩⟩
theorem q_dget1 (hu : X.A.units + 1 < cLine) (ho : QE S X E d ed) (hi : QE S X E i ei) (m : M1 X d "get" apos i cpos) : QE S X E (.Call (.Attribute d "get" apos) [i] [] cpos) (xDGet1 ed ei) := pe_of (pe_dget1 hu ho hi m) fun σ H Q ⟨B, L, G, env, st, rl, po⟩ => ⟨B, L, G, env, st, rl, po.then fun G1 H1 x e1 sm1 st1 rl1 p1 v rv => by
  split at p1
  · rename_i kvs hx
    obtain ⟨p, ws, rfl, gp, rd, t⟩ := dct_rep st1.inn rv hx
    refine ⟨p, rfl, .inl ⟨ws, rd⟩, B, L, G1, e1, st1, rl1, p1.then fun G2 H2 y e2 sm2 st2 rl2 p2 w rw => ?_⟩
    obtain ⟨c, hc, k⟩ := p2.of st2 rl2
    obtain ⟨key, h2, hc⟩ := Option.map_eq_some_iff.mp hc
    subst hc
    rw [key_rep rw h2]
    exact ⟨valV ws key, .inl ⟨ws, key, st2.inn.dct (.inl (sm2 _ _ gp)), rfl, rfl⟩, k G2 H2 (.refl st2.inn) _ (valD_getD (t.mono sm2))⟩
  · exact p1.elim⟩
theorem snd_din {neg : Bool} {σ : L2.St} {H : Hp} {Q : VK} (q : TD K S E (xOp (oDIn neg) ea ed) σ H Q) : (fun σ H Q => TD K S E ea σ H fun y H1 => TD K S E ed σ H1 fun x H2 => ∃ p o, x = .ref p ∧ DGet H2 p y o ∧ Q (.bl (o.isSome != neg)) H2) σ H Q := by
  obtain ⟨B, L, G, env, st, rl, po⟩ := q
  exact ⟨B, L, G, env, st, rl, po.then fun G1 H1 y e1 sm1 st1 rl1 p1 v rv => ⟨B, L, G1, e1, st1, rl1, p1.then fun G2 H2 x e2 sm2 st2 rl2 p2 w rw => by
    obtain ⟨c, hc, k⟩ := p2.of st2 rl2
    unfold oDIn at hc
    obtain ⟨kvs, h1, hc⟩ := Option.bind_eq_some_iff.mp hc
    obtain ⟨key, h2, hc⟩ := Option.bind_eq_some_iff.mp hc
    cases hc
    obtain ⟨p, ws, rfl, _, rd, t⟩ := dct_rep st2.inn rw h1
    rw [key_rep rv h2]
    refine ⟨p, _, rfl, .inl ⟨ws, key, rd, rfl, rfl⟩, ?_⟩
    rw [valD_some t]
    exact k G2 H2 (.refl st2.inn) _ rfl⟩⟩
theorem td_congr {t u : VK} {f : Ev} {σ : L2.St} {H : Hp} (h : ∀ v H, t v H → u v H) (q : TD K S E f σ H t) : TD K S E f σ H u := by
  obtain ⟨B, L, G, env, st, rl, po⟩ := q
  exact ⟨B, L, G, env, st, rl, po.imp fun G' H' a e _ _ _ k v rv => h _ _ (k v rv)⟩
theorem c_din (hu : X.A.units + 1 < cLine) (ha : QE S X E a ea) (hd : QE S X E d ed) : PC X .In a d (TD X.K S E (xOp (oDIn false) ea ed)) := pc_of (pc_din hu ha hd) fun σ H Q q => td_congr (fun y H1 q => td_congr (fun x H2 ⟨p, o, h1, h2, h3⟩ => ⟨p, o, h1, h2, by simpa using h3⟩) q) (snd_din q)
theorem c_dnotin (hu : X.A.units + 1 < cLine) (ha : QE S X E a ea) (hd : QE S X E d ed) : PC X .NotIn a d (TD X.K S E (xOp (oDIn true) ea ed)) := pc_of (pc_dnotin hu ha hd) fun σ H Q q => td_congr (fun y H1 q => td_congr (fun x H2 ⟨p, o, h1, h2, h3⟩ => ⟨p, o, h1, h2, by simpa using h3⟩) q) (snd_din q)
end
end
end Dv
namespace Dv
open PySem PySem.Spec PyProof.Rows L2
set_option autoImplicit false
noncomputable section
/-! ### dicts, second part: new ones, one's own, locks -/
section
variable {K : PySem.W.Frag} {S : Nat → Addr} {X : Cx} {E : XK} {a d e i o value : Expr} {ea ed ee ei ev : Ev} {pos pos' tpos apos cpos : Pos}
theorem q_din (hu : X.A.units + 1 < cLine) (ha : QE S X E a ea) (hd : QE S X E d ed) (h1 : behindInMarks .In d = false := by first | exact nobehind _ (by decide) (by decide) | rfl) : QE S X E (.Compare a [.In] [d] pos) (xOp (oDIn false) ea ed) := pe_cmp (c_din hu ha hd) h1
theorem q_dnotin (hu : X.A.units + 1 < cLine) (ha : QE S X E a ea) (hd : QE S X E d ed) (h1 : behindInMarks .NotIn d = false := by first | exact nobehind _ (by decide) (by decide) | rfl) : QE S X E (.Compare a [.NotIn] [d] pos) (xOp (oDIn true) ea ed) := pe_cmp (c_dnotin hu ha hd) h1
theorem q_dinT (hu : X.A.units + 1 < cLine) (ha : QE S X E a ea) (hd : QE S X E d ed) (h1 : behindInMarks .In d = false := by first | exact nobehind _ (by decide) (by decide) | rfl) : QT S X E (.Compare a [.In] [d] pos) (xTest (xOp (oDIn false) ea ed)) := pt_of (pt_cmp (c_din hu ha hd) h1) fun _ _ _ q => snd_test (fun _ h => h) q
theorem q_dnotinT (hu : X.A.units + 1 < cLine) (ha : QE S X E a ea) (hd : QE S X E d ed) (h1 : behindInMarks .NotIn d = false := by first | exact nobehind _ (by decide) (by decide) | rfl) : QT S X E (.Compare a [.NotIn] [d] pos) (xTest (xOp (oDIn true) ea ed)) := pt_of (pt_cmp (c_dnotin hu ha hd) h1) fun _ _ _ q => snd_test (fun _ h => h) q
/-! {} -/
def xDNew : Ev := fun env => .ok (.dct []) env
theorem qf_dnew : QF S X E (.Dict [] [] pos) xDNew := pe_of pe_dnewK fun σ H Q ⟨B, L, G, env, st, rl, po⟩ => fresh_ok st rl po ⟨[], rfl, rfl⟩
/-! d[k] = v, d one's own -/
def isDct : D → Bool
  | .dct _ => true
  | _ => false
def xDPut (i : Nat) (ek ev : Ev) : EvS := fun env => (ev env).st fun v e1 => match e1[i]? with
  | some t0 => if isOwn t0 = true then (ek e1).st fun y e2 => match e2[i]?, keyD y with
    | some t, some k => match cont t with
      | some (.dct l) => if l.length < 1000000 then .nx (e2.set i (putSl t (.dct (putKD l k v)))) else .no
      | _ => .no
    | _, _ => .no else .no
  | none => .no
theorem s_dput {i : Nat} {ix : Expr} {ek : Ev} (hu : X.A.units + 1 < cLine) (ho : PE X o (tVar i)) (hi : QE S X E ix ek) (hv : QE S X E value ev) (hs : swapsWith value (some (.Subscript o ix pos')) pos.line X.env = pure false) : QS S X E (.Assign [.Subscript o ix pos'] value pos) (xDPut i ek ev) := ps_of (ps_dput hu ho hi hv hs) fun D σ H ⟨B, L, G, env, st, rl, po⟩ => ⟨B, L, G, env, st, rl, Post.st po fun G1 H1 d e1 sm1 st1 rl1 p1 v rv => by
  split at p1
  · rename_i t0 ht0
    split at p1
    · rename_i ho0
      obtain ⟨p, hx⟩ := own_at rl1 ht0 ho0
      exact ⟨.ref p, hx, B, L, G1, e1, st1, rl1, Post.st p1 fun G2 H2 y e2 sm2 st2 rl2 p2 k rk => by
        split at p2
        · rename_i t key ht hk
          split at p2
          · rename_i l hc
            split at p2
            · rename_i hl
              obtain ⟨ho, p', o', hx', hp, ws, rfl, t'⟩ := own_cont rl2 ht hc
              rw [hx] at hx'
              cases hx'
              rw [key_rep rk hk]
              obtain ⟨s1, s2⟩ := own_set (d := .dct (putKD l key d)) (o := .dK (putK ws key v)) st2 rl2 ht ho hx ⟨_, rfl, repK_put (rv.mono sm2) t'⟩
              exact ⟨p, _, rfl, .inl ⟨ws, key, hp, rfl, len9 (by rw [← repK_len t']; exact hl), rfl⟩, p2 σ G2 _ (.refl _) s1 s2⟩
            · exact p2.elim
          · exact p2.elim
        · exact p2.elim⟩
    · exact p1.elim
  · exact p1.elim⟩
/-! list(d) -/
def fListD : FC := fun xs => match xs with
  | [x] => (dctD x).map fun kvs => .lst (kvs.map fun kv => kD kv.1)
  | _ => none
def rListD : List V → Hp → VK → Prop := fun xs H Q => ∃ (a : Addr) (kvs : List (Key × V)), xs = [.ref a] ∧ Rd H a (.dK kvs) ∧ ∀ p, H p = none → Q (.ref p) (upd H p (.lst (kvs.map fun kv => kV kv.1)))
theorem repK_keyL {G : Hp} : ∀ {kvs : List (Key × D)} {ws : List (Key × V)}, RepK K S G kvs ws → RepL K S G (kvs.map fun kv => kD kv.1) (ws.map fun kv => kV kv.1)
  | [], _, r => by cases r; rfl
  | a :: r, _, ⟨v, ws, e, q, t⟩ => by subst e; exact ⟨_, _, rfl, kD_rep, repK_keyL t⟩
theorem sc_listD : SClF K S fListD rListD := fun G H xs d vs Q i r e k => by
  unfold fListD at e
  split at e
  · rename_i x
    obtain ⟨v, rfl, rx⟩ := r.one
    obtain ⟨kvs, h, e⟩ := Option.map_eq_some_iff.mp e
    subst e
    obtain ⟨q, ws, rfl, gq, hq, t⟩ := dct_rep i rx h
    exact ⟨q, ws, rfl, hq, fun p hp => k p _ hp ⟨_, rfl, repK_keyL t⟩⟩
  · cases e
/-! sorted, ints -/
def insI (x : Int) : List Int → List Int
  | [] => [x]
  | y :: r => if x ≤ y then x :: y :: r else y :: insI x r
def sortI : List Int → List Int
  | [] => []
  | x :: r => insI x (sortI r)
theorem insI_perm (x : Int) : ∀ l : List Int, (insI x l).Perm (x :: l)
  | [] => .refl _
  | y :: r => by
    unfold insI
    split
    · exact .refl _
    · exact ((insI_perm x r).cons y).trans (.swap x y r)
theorem sortI_perm : ∀ ns : List Int, (sortI ns).Perm ns
  | [] => .refl _
  | x :: r => (insI_perm x (sortI r)).trans ((sortI_perm r).cons x)
theorem insI_le (x : Int) : ∀ l : List Int, l.Pairwise (· ≤ ·) → (insI x l).Pairwise (· ≤ ·)
  | [], _ => by simp [insI]
  | y :: r, h => by
    unfold insI
    split
    · rename_i hx
      refine List.pairwise_cons.mpr ⟨fun z hz => ?_, h⟩
      rcases List.mem_cons.mp hz with rfl | hz
      · exact hx
      · exact Int.le_trans hx ((List.pairwise_cons.mp h).1 z hz)
    · rename_i hx
      refine List.pairwise_cons.mpr ⟨fun z hz => ?_, insI_le x r (List.pairwise_cons.mp h).2⟩
      rcases List.mem_cons.mp ((insI_perm x r).mem_iff.mp hz) with rfl | hz
      · omega
      · exact (List.pairwise_cons.mp h).1 z hz
theorem sortI_le : ∀ ns : List Int, (sortI ns).Pairwise (· ≤ ·)
  | [] => .nil
  | x :: r => insI_le x _ (sortI_le r)
theorem sortI_eq {ns ms : List Int} (h : ms.Perm ns) (hl : ms.Pairwise (· ≤ ·)) : ms = sortI ns := List.Perm.eq_of_pairwise (le := (· ≤ ·)) (fun a b _ _ h1 h2 => Int.le_antisymm h1 h2) hl (sortI_le ns) (h.trans (sortI_perm ns).symm)
theorem ints_rep {G : Hp} : ∀ (ns : List Int), RepL K S G (ns.map D.int) (ns.map V.int)
  | [] => rfl
  | n :: r => ⟨_, _, rfl, rfl, ints_rep r⟩
def fSorted : FC := fun xs => match xs with
  | [x] => (lstD x).bind fun l => (intL l).map fun ns => .lst ((sortI ns).map D.int)
  | _ => none
theorem sc_sorted : SClF K S fSorted (rSortedI K) := fun G H xs d vs Q i r e k => by
  unfold fSorted at e
  split at e
  · rename_i x
    obtain ⟨v, rfl, rx⟩ := r.one
    obtain ⟨l, h, e⟩ := Option.bind_eq_some_iff.mp e
    obtain ⟨ns, h2, e⟩ := Option.map_eq_some_iff.mp e
    subst e
    obtain ⟨q, us, rfl, hq, t⟩ := lst_sq rx h
    have := intL_ok t h2
    subst this
    exact ⟨q, ns, rfl, i.seq hq, fun ns' p h1 h2 hp => k p _ hp ⟨_, rfl, by rw [sortI_eq h1 h2]; exact ints_rep _⟩⟩
  · cases e
/-! ### locks -/
variable {B : Base} {L : Lk} {G H : Hp} {env : Env} {σ : L2.St}
theorem ste_lk {p : Addr} (st : Ste B L G H) {o : HO} {H1 : Hp} (hn : ∀ b, b ≠ p → H1 b = H b) (h1 : H1 p = some o) {od : Obj} {ws : List (Key × V)} (ho : o = .frz od (.dK ws)) (gp : G p = some (.dK ws)) (hl : ∀ q ∈ L, q.1 = p → q.2 = o) : Ste B ((p, o) :: L) G H1 := by
  refine ⟨st.g0, fun b w e => ?_, st.new, fun b w e r l => ?_, fun q hq => ?_, fun b e => ?_, fun q hq hf => ?_⟩
  · by_cases hb : b = p
    · subst hb
      rw [gp] at e
      cases e
      exact .inr ⟨od, ws, rfl, by rw [h1, ho]⟩
    · rw [hn b hb]; exact st.inn b w e
  · have hb : b ≠ p := fun q => l _ (List.mem_cons_self ..) q.symm
    rw [hn b hb]
    exact st.keep b w e r fun q hq => l q (List.mem_cons_of_mem _ hq)
  · rcases List.mem_cons.mp hq with rfl | hq
    · exact h1
    · by_cases hb : q.1 = p
      · rw [hl q hq hb, hb]; exact h1
      · rw [hn _ hb]; exact st.lock q hq
  · obtain ⟨g1, h2, h3, h4⟩ := st.par b e
    have hb : b ≠ p := fun q => by rw [q, gp] at g1; cases g1
    refine ⟨g1, by rw [hn b hb]; exact h2, h3, fun q hq => ?_⟩
    rcases List.mem_cons.mp hq with rfl | hq
    · exact fun q => hb q.symm
    · exact h4 q hq
  · rcases List.mem_cons.mp hq with rfl | hq
    · exact (hf _ _ ho).elim
    · exact st.out q hq hf
theorem rel_lk {p : Addr} (st : Ste B L G H) (rl : Rel K S B L G H env σ) {o : HO} {L' : Lk} {H1 : Hp} (hn : ∀ b, b ≠ p → H1 b = H b) (hL : ∀ q ∈ L', q.1 = p ∨ q ∈ L) (gp : G p ≠ none) : Rel K S B L' G H1 env σ := by
  have hne : ∀ (j : Nat) (s : Sl) (a : Addr), env[j]? = some s → isOwn s = true → σ[j]? = some (some (V.ref a)) → a ≠ p := fun j s a h1 o1 h3 e => by
    subst e
    exact gp (own_free st rl h1 o1 h3).1
  refine ⟨paired_of (paired_len rl.at_) fun j s x h1 h2 => ?_, rl.nd, fun j s a h1 o1 h3 q hq => ?_⟩
  · obtain ⟨y, hy, q⟩ := rel_at rl h1
    rw [h2] at hy
    cases hy
    cases s with
    | no => trivial
    | val d => exact q
    | box d =>
      obtain ⟨a, w, rfl, g, b, ha, r⟩ := q
      exact ⟨a, w, rfl, g, b, by rw [hn a (hne j _ a h1 rfl h2)]; exact ha, r⟩
    | par d =>
      obtain ⟨a, w, rfl, b, ha, r⟩ := q
      exact ⟨a, w, rfl, b, by rw [hn a (hne j _ a h1 rfl h2)]; exact ha, r⟩
  · rcases hL q hq with e | hq
    · rw [e]; exact fun e => hne j s a h1 o1 h3 e.symm
    · exact rl.nl j s a h1 o1 h3 q hq
/-- what a lock gives: the state under it, and the state behind it -/
structure Lkd (K : PySem.W.Frag) (S : Nat → Addr) (B : Base) (L L1 : Lk) (G H H1 : Hp) (env : Env) (σ : L2.St) (p : Addr) (o : HO) (fin : Hp → Hp) : Prop where
  st : Ste B L1 G H1
  rl : Rel K S B L1 G H1 env σ
  ne : ∀ b u, H b = some u → (∀ kvs, u ≠ .dK kvs) → H1 b = some u
  at_ : ∀ G' H', Ste B L1 G' H' → H' p = some o
  st' : ∀ G' H', Same G G' → Ste B L1 G' H' → Ste B L G' (fin H')
  rl' : ∀ G' H' env σ, Same G G' → Ste B L1 G' H' → Rel K S B L1 G' H' env σ → Rel K S B L G' (fin H') env σ
  fin : ∀ H' b, b ≠ p → fin H' b = H' b
  sub : ∀ q ∈ L, q ∈ L1
  gp : G p ≠ none
theorem lk_ok {p : Addr} (st : Ste B L G H) (rl : Rel K S B L G H env σ) {ws : List (Key × V)} (gp : G p = some (.dK ws)) :
    (H p = some (.dK ws) ∧ ∀ od, ∃ L1, Lkd K S B L L1 G H (upd H p (.frz od (.dK ws))) env σ p (.frz od (.dK ws)) fun H' => upd H' p (.dK ws)) ∨ ∃ od L1, H p = some (.frz od (.dK ws)) ∧ Lkd K S B L L1 G H H env σ p (.frz od (.dK ws)) fun H' => H' := by
  have gn : G p ≠ none := by rw [gp]; exact fun e => nomatch e
  rcases st.inn p _ gp with hp | ⟨od, kvs, e, hp⟩
  · refine .inl ⟨hp, fun od => ⟨(p, .frz od (.dK ws)) :: L, ?_⟩⟩
    have nl : ∀ q ∈ L, q.1 ≠ p := fun q hq hb => by
      have h1 := st.lock q hq
      rw [hb, hp] at h1
      have h2 := st.out q hq fun o u e => by rw [e] at h1; cases h1
      rw [hb, gp] at h2
      cases h2
    have s1 : Ste B ((p, .frz od (.dK ws)) :: L) G (upd H p (.frz od (.dK ws))) := ste_lk (H1 := upd H p (.frz od (.dK ws))) st (fun b hb => upd_ne hb) upd_same rfl gp fun q hq hb => (nl q hq hb).elim
    have back : ∀ G' H', Same G G' → Ste B ((p, .frz od (.dK ws)) :: L) G' H' → Ste B L G' (upd H' p (.dK ws)) := fun G' H' sm s2 => by
      refine ⟨s2.g0, fun b w e => ?_, s2.new, fun b w e r l => ?_, fun q hq => ?_, fun b e => ?_, fun q hq hf => s2.out q (List.mem_cons_of_mem _ hq) hf⟩
      · by_cases hb : b = p
        · subst hb
          rw [sm _ _ gp] at e
          cases e
          exact .inl upd_same
        · rw [upd_ne hb]; exact s2.inn b w e
      · by_cases hb : b = p
        · subst hb
          have := st.keep b w e r l
          rw [hp] at this
          cases this
          exact upd_same
        · rw [upd_ne hb]
          refine s2.keep b w e r fun q hq => ?_
          rcases List.mem_cons.mp hq with rfl | hq
          · exact fun e => hb e.symm
          · exact l q hq
      · rw [upd_ne (nl q hq)]
        exact s2.lock q (List.mem_cons_of_mem _ hq)
      · obtain ⟨h1, h2, h3, h4⟩ := s2.par b e
        have hb : b ≠ p := fun q => by subst q; rw [sm _ _ gp] at h1; cases h1
        exact ⟨h1, by rw [upd_ne hb]; exact h2, h3, fun q hq => h4 q (List.mem_cons_of_mem _ hq)⟩
    refine ⟨s1, rel_lk (o := .dK ws) st rl (fun b hb => upd_ne hb) (fun q hq => (List.mem_cons.mp hq).elim (fun e => .inl (by rw [e])) .inr) gn, fun b u e hk => ?_, fun G' H' s2 => s2.lock _ (List.mem_cons_self ..), back, fun G' H' env σ sm s2 r2 => ?_, fun H' b hb => upd_ne hb, fun q hq => List.mem_cons_of_mem _ hq, gn⟩
    · have hb : b ≠ p := fun q => by subst q; rw [hp] at e; cases e; exact hk _ rfl
      rw [upd_ne hb]; exact e
    · exact rel_lk (o := .dK ws) s2 r2 (fun b hb => upd_ne hb) (fun q hq => .inr (List.mem_cons_of_mem _ hq)) (by rw [sm _ _ gp]; exact fun e => nomatch e)
  · cases e
    refine .inr ⟨od, (p, .frz od (.dK ws)) :: L, hp, ?_⟩
    have hl : ∀ q ∈ L, q.1 = p → q.2 = .frz od (.dK ws) := fun q hq hb => by
      have h1 := st.lock q hq
      rw [hb, hp] at h1
      exact (Option.some.inj h1).symm
    refine ⟨ste_lk st (fun b hb => rfl) hp rfl gp hl, rel_lk (o := .dK ws) st rl (fun b hb => rfl) (fun q hq => (List.mem_cons.mp hq).elim (fun e => .inl (by rw [e])) .inr) gn, fun b u e hk => e, fun G' H' s2 => s2.lock _ (List.mem_cons_self ..), fun G' H' sm s2 => ?_, fun G' H' env σ sm s2 r2 => ?_, fun H' b hb => rfl, fun q hq => List.mem_cons_of_mem _ hq, gn⟩
    · refine ⟨s2.g0, s2.inn, s2.new, fun b w e r l => ?_, fun q hq => s2.lock q (List.mem_cons_of_mem _ hq), fun b e => ?_, fun q hq hf => s2.out q (List.mem_cons_of_mem _ hq) hf⟩
      · by_cases hb : b = p
        · subst hb
          have := st.keep b w e r l
          rw [hp] at this
          cases this
          exact s2.lock _ (List.mem_cons_self ..)
        · refine s2.keep b w e r fun q hq => ?_
          rcases List.mem_cons.mp hq with rfl | hq
          · exact fun e => hb e.symm
          · exact l q hq
      · obtain ⟨h1, h2, h3, h4⟩ := s2.par b e
        exact ⟨h1, h2, h3, fun q hq => h4 q (List.mem_cons_of_mem _ hq)⟩
    · exact ⟨r2.at_, r2.nd, fun j s a h1 o1 h3 q hq => r2.nl j s a h1 o1 h3 q (List.mem_cons_of_mem _ hq)⟩
/-! paths: slots and their fields -/
abbrev Pth := Env → Option (D × Env)
def PthOk (K : PySem.W.Frag) (S : Nat → Addr) (p : Pth) (td : TE) : Prop := ∀ (B : Base) (L : Lk) (G H : Hp) (env env' : Env) (σ : L2.St) (d : D), Ste B L G H → Rel K S B L G H env σ → p env = some (d, env') →
  ∃ G' v, Same G G' ∧ Ste B L G' H ∧ Rel K S B L G' H env' σ ∧ Rep K S G' d v ∧ ∀ (H' : Hp) (R : VK), (∀ b u, H b = some u → (∀ kvs, u ≠ .dK kvs) → H' b = some u) → R v H' → td σ H' R
def pSlot (i : Nat) : Pth := fun env => match env[i]? with
  | some (.val d) => some (d, env)
  | some (.box d) => some (d, env.set i (.val d))
  | _ => none
def pFld (cs : List Nat) (f : Str) (p : Pth) : Pth := fun env => match p env with
  | some (.ins C fs, e) => if C ∈ cs then (fs.lookup f).map fun d => (d, e) else none
  | _ => none
theorem p_slot {i : Nat} : PthOk K S (pSlot i) (tVar i) := fun B L G H env env' σ d st rl h => by
  unfold pSlot at h
  split at h
  · rename_i d' h'
    cases h
    obtain ⟨x, hx, v, rfl, r⟩ := rel_at rl h'
    exact ⟨G, v, .refl _, st, rl, r, fun H' R _ q => ⟨v, hx, q⟩⟩
  · rename_i d' h'
    cases h
    obtain ⟨v, G', hx, s1, s2, s3, s4⟩ := thaw st rl h'
    exact ⟨G', v, s1, s2, s3, s4, fun H' R _ q => ⟨v, hx, q⟩⟩
  · cases h
theorem p_fld {cs : List Nat} {f : Str} {p : Pth} {td : TE} (hc : FldOk K S f cs) (hp : PthOk K S p td) : PthOk K S (pFld cs f p) (tFld K td f) := fun B L G H env env' σ d st rl h => by
  unfold pFld at h
  split at h
  · rename_i C fs e he
    split at h
    · rename_i hC
      obtain ⟨d', h1, h2⟩ := Option.map_eq_some_iff.mp h
      cases h2
      obtain ⟨G', v, s1, s2, s3, ⟨a, dx, ws, rfl, ga, rf⟩, s5⟩ := hp B L G H env _ σ _ st rl he
      obtain ⟨u, hu, ru⟩ := (lookF rf).2 d h1
      have ha := s2.inn.ins ga
      exact ⟨G', u, s1, s2, s3, ru, fun H' R hn q => s5 H' _ hn ⟨a, S C, dx, ws, u, rfl, hn a _ ha (fun kvs e => nomatch e), (hc C hC).1, (hc C hC).2, hu, q⟩⟩
    · cases h
  · cases h
/-! what is walked in a locked dict -/
inductive Wk where
  | keys | vals | items
def Wk.ds (w : Wk) (kvs : List (Key × D)) : List D := match w with
  | .keys => kvs.map fun kv => kD kv.1
  | .vals => kvs.map fun kv => kv.2
  | .items => kvs.map fun kv => .tup [kD kv.1, kv.2]
def Wk.it (w : Wk) (p : Addr) (od : Obj) (ws : List (Key × V)) : It := match w with
  | .keys => Itk p od ws
  | .vals => Itd p od ws
  | .items => Iti p od ws
def Wk.ti (w : Wk) (td : TE) : TI := fun σ H R => td σ H fun x H1 => ∃ d o kvs, x = .ref d ∧ H1 d = some (.frz o (.dK kvs)) ∧ R (w.it d o kvs) H1
theorem wk_ok {w : Wk} {L1 : Lk} {p : Addr} {od : Obj} {ws : List (Key × V)} {kvs : List (Key × D)} (r : RepK K S G kvs ws) (hl : ∀ G' H', Ste B L1 G' H' → H' p = some (.frz od (.dK ws))) : ItOk K S B L1 G (w.it p od ws) (w.ds kvs) := fun i G1 H1 sm st => by
  have hp := hl _ _ st
  have hlen : (w.ds kvs).length = ws.length := by cases w <;> simp [Wk.ds, repK_len r]
  refine ⟨fun h => ?_, fun d h => ?_⟩
  · have := List.getElem?_eq_none_iff.mp h
    cases w <;> exact ⟨hp, by omega⟩
  · have hi : i < ws.length := by
      have := (List.getElem?_eq_some_iff.mp h).1
      omega
    have hk : i < kvs.length := by rw [repK_len r]; exact hi
    have hg : kvs[i]? = some kvs[i] := by simp [hk]
    obtain ⟨v, hv, rv⟩ := repK_at (k := kvs[i].1) (d := kvs[i].2) r hg
    cases w with
    | keys =>
      refine ⟨⟨hp, hi⟩, fun x H2 ⟨e1, k, u, e2, e3⟩ => ?_⟩
      have : (kvs.map fun kv => kD kv.1)[i]? = some d := h
      rw [List.getElem?_map, hg] at this
      cases this
      rw [hv] at e2
      cases e2
      subst e1
      subst e3
      exact ⟨G1, .refl st.inn, kD_rep⟩
    | vals =>
      refine ⟨⟨hp, hi⟩, fun x H2 ⟨e1, k, e2⟩ => ?_⟩
      have : (kvs.map fun kv => kv.2)[i]? = some d := h
      rw [List.getElem?_map, hg] at this
      cases this
      rw [hv] at e2
      cases e2
      subst e1
      exact ⟨G1, .refl st.inn, rv.mono sm⟩
    | items =>
      refine ⟨⟨hp, hi⟩, fun x H2 ⟨T, k, u, e2, e3, hT, e4⟩ => ?_⟩
      have : (kvs.map fun kv => D.tup [kD kv.1, kv.2])[i]? = some d := h
      rw [List.getElem?_map, hg] at this
      cases this
      rw [hv] at e2
      cases e2
      subst e3
      subst e4
      have ex := Ex.new1 (o := .tup [kV kvs[i].1, v]) st.inn hT
      exact ⟨_, ex, T, _, rfl, .inl (.inl upd_same), .cons kD_rep (.cons ((rv.mono sm).mono ex.g) .nil)⟩
end
end
end Dv
namespace Dv
open PySem PySem.Spec PyProof.Rows L2
set_option autoImplicit false
noncomputable section
/-! ### walks over dicts, comprehensions of dicts -/
def noEx : Sr → Sr
  | .ex _ _ _ => .no
  | r => r
def noR {α : Type} : Res α → Res α
  | .ex _ _ _ => .no
  | r => r
def xForD (p : Pth) (w : Wk) (eg : Eg) (b : EvS) : EvS := fun env => match p env with
  | some (d, e) => match dctD d with
    | some kvs => noEx (forL eg b (w.ds kvs) e)
    | none => .no
  | none => .no
def xLcD (p : Pth) (w : Wk) (eg : Eg) (et : EvT) (ee : Ev) (vs : List Nat) : Ev := fun env => match p env with
  | some (d, e) => match dctD d with
    | some kvs => noR ((cmpL eg et ee vs (w.ds kvs) [] e).bind fun acc e' => .ok (.lst acc) (wipeE e' vs))
    | none => .no
  | none => .no
section
variable {K : PySem.W.Frag} {S : Nat → Addr} {X : Cx} {E : XK} {B : Base} {L L1 : Lk} {G H H1 : Hp} {env : Env} {σ : L2.St} {p : Addr} {o : HO} {fin : Hp → Hp}
theorem s_lk {st : Stmt} {t : TS} (h : PS X st t) : PS X st fun D σ H => t D σ H ∨ tLock t D σ H := ⟨fun pins s σ H D I q => q.elim (h.run pins s σ H D I) ((ps_lock h).run pins s σ H D I)⟩
theorem e_lk {e : Expr} {t : TE} (h : PE X e t) : PE X e fun σ H Q => t σ H Q ∨ tLockE t σ H Q := ⟨fun pins s σ H Q I q => q.elim (h.run pins s σ H Q I) ((pe_lock h).run pins s σ H Q I)⟩
/-- wi walks, as w says, the dict that td tells -/
def WkR (w : Wk) (td : TE) (wi : TI) : Prop := ∃ F : (It → Hp → Prop) → VK, (∀ σ H R, td σ H (F R) → wi σ H R) ∧ ∀ R a o kvs H1, H1 a = some (.frz o (.dK kvs)) → R (w.it a o kvs) H1 → F R (.ref a) H1
theorem wk_keys {td : TE} : WkR .keys td (iKeys td) := ⟨_, fun _ _ _ q => q, fun R a o kvs H1 h q => ⟨a, o, rfl, .inl ⟨kvs, h, q⟩⟩⟩
theorem wk_keysM {td : TE} : WkR .keys td (iKeysM td) := ⟨_, fun _ _ _ q => q, fun R a o kvs H1 h q => ⟨a, o, kvs, rfl, h, q⟩⟩
theorem wk_vals {td : TE} : WkR .vals td (iVals td) := ⟨_, fun _ _ _ q => q, fun R a o kvs H1 h q => ⟨a, o, kvs, rfl, h, q⟩⟩
theorem wk_items {td : TE} : WkR .items td (iItems td) := ⟨_, fun _ _ _ q => q, fun R a o kvs H1 h q => ⟨a, o, kvs, rfl, h, q⟩⟩
structure LkE (D D1 : Ends) (p : Addr) (o : HO) (fin : Hp → Hp) : Prop where
  nx : ∀ σ' H', H' p = some o → D.nx σ' (fin H') → D1.nx σ' H'
  rt : ∀ v H', H' p = some o → D.rt v (fin H') → D1.rt v H'
  bk : ∀ σ' H', H' p = some o → D.bk σ' (fin H') → D1.bk σ' H'
  ct : ∀ σ' H', H' p = some o → D.ct σ' (fin H') → D1.ct σ' H'
theorem PostS.lk {D D1 : Ends} {r : Sr} (lk : Lkd K S B L L1 G H H1 env σ p o fin) (hD : LkE D D1 p o fin) (h : PostS K S E B L G D (noEx r)) : PostS K S E B L1 G D1 r := by
  cases r with
  | no => exact h
  | nx e => exact fun σ' G' H' s st rl => hD.nx _ _ (lk.at_ _ _ st) (h σ' G' _ s (lk.st' _ _ s st) (lk.rl' _ _ _ _ s st rl))
  | rt d e => exact fun σ' G' H' s st rl v rv => hD.rt _ _ (lk.at_ _ _ st) (h σ' G' _ s (lk.st' _ _ s st) (lk.rl' _ _ _ _ s st rl) v rv)
  | rf d e => exact fun σ' G' H' s st rl a o ga ba ha r => hD.rt _ _ (lk.at_ _ _ st) (h σ' G' _ s (lk.st' _ _ s st) (lk.rl' _ _ _ _ s st rl) a o ga ba (by
      rw [lk.fin H' a (fun e => by
        subst e
        cases q : G a with
        | none => exact lk.gp q
        | some u => rw [s _ _ q] at ga; cases ga)]
      exact ha) r)
  | bk e => exact fun σ' G' H' s st rl => hD.bk _ _ (lk.at_ _ _ st) (h σ' G' _ s (lk.st' _ _ s st) (lk.rl' _ _ _ _ s st rl))
  | ct e => exact fun σ' G' H' s st rl => hD.ct _ _ (lk.at_ _ _ st) (h σ' G' _ s (lk.st' _ _ s st) (lk.rl' _ _ _ _ s st rl))
  | ex C fs e => exact h.elim
theorem s_forD {st : Stmt} {w : Wk} {pt : Pth} {td : TE} {wi : TI} {g : TG} {gs : List Nat} {eg : Eg} {eb : EvS} (hw : WkR w td wi) (hs : PS X st (tFor wi g (TS' X.K S E eb))) (hp : PthOk X.K S pt td) (sg : SndG X.K S gs eg g) : QS S X E st (xForD pt w eg eb) := ps_of (s_lk hs) fun D σ H ⟨B, L, G, env, st, rl, po⟩ => by
  obtain ⟨F, w1, w2⟩ := hw
  unfold xForD at po
  split at po
  · rename_i d e he
    split at po
    · rename_i kvs hd
      obtain ⟨G', v, sm, st', rl', rv, hr⟩ := hp B L G H env e σ d st rl he
      obtain ⟨a, ws, rfl, ga, _, t⟩ := dct_rep st'.inn rv hd
      have po' := po.up sm
      rcases lk_ok st' rl' ga with ⟨hpk, k⟩ | ⟨od, L1, hpk, lk⟩
      · refine .inr ⟨a, .dK ws, hpk, trivial, fun od => ?_⟩
        obtain ⟨L1, lk⟩ := k od
        exact w1 _ _ _ (hr _ _ lk.ne (w2 _ a od ws _ (lk.at_ _ _ lk.st) (for_core sg lk.st lk.rl (wk_ok t lk.at_) (PostS.lk lk ⟨fun _ _ h q => ⟨h, q⟩, fun _ _ h q => ⟨h, q⟩, fun _ _ h q => ⟨h, q⟩, fun _ _ h q => ⟨h, q⟩⟩ po'))))
      · exact .inl (w1 _ _ _ (hr _ _ lk.ne (w2 _ a od ws _ (lk.at_ _ _ lk.st) (for_core sg lk.st lk.rl (wk_ok t lk.at_) (PostS.lk lk ⟨fun _ _ h q => q, fun _ _ h q => q, fun _ _ h q => q, fun _ _ h q => q⟩ po')))))
    · exact po.elim
  · exact po.elim
theorem Post.lk {α : Type} {r : Res α} {P P1 : Hp → Hp → α → Env → Prop} (lk : Lkd K S B L L1 G H H1 env σ p o fin) (h : Post K S E B L σ G P (noR r)) (f : ∀ G' H' a e, Same G G' → Ste B L1 G' H' → P G' (fin H') a e → P1 G' H' a e) : Post K S E B L1 σ G P1 r := by
  cases r with
  | no => exact h
  | ex C fs e => exact h.elim
  | ok a e => exact fun G' H' s st rl => f _ _ _ _ s st (h G' _ s (lk.st' _ _ s st) (lk.rl' _ _ _ _ s st rl))
theorem plc_lk {Q Q1 : VK} {G' H' : Hp} {d : D} {e : Env} (lk : Lkd K S B L L1 G H H1 env σ p o fin) (hQ : ∀ v H', H' p = some o → Q v (fin H') → Q1 v H') (s : Same G G') (st : Ste B L1 G' H') (h : PLc K S B L σ Q G' (fin H') d e) : PLc K S B L1 σ Q1 G' H' d e := fun a u ga ba ha ho hl r => hQ _ _ (lk.at_ _ _ st) (h a u ga ba (by
  rw [lk.fin H' a (fun e => by
    subst e
    cases q : G a with
    | none => exact lk.gp q
    | some u => rw [s _ _ q] at ga; cases ga)]
  exact ha) ho (fun q hq => hl q (lk.sub q hq)) r)
/-- a comprehension over a locked dict -/
theorem lcD {w : Wk} {pt : Pth} {td : TE} {wi : TI} {g : TG} {gs vs : List Nat} {eg : Eg} {et : EvT} {ee : Ev} {tt : TT} {Q : VK} (hw : WkR w td wi) (hp : PthOk K S pt td) (sg : SndG K S gs eg g) (hv : ∀ i ∈ gs, i ∈ vs) (htt : ∀ σ H Q, TB K S E0 et σ H Q → tt σ H Q) (q : TF K S E (xLcD pt w eg et ee vs) σ H Q) :
    tLc wi g tt (TD K S E0 ee) vs σ H Q ∨ ∃ a u, H a = some u ∧ Mut (some u) ∧ ∀ od, tLc wi g tt (TD K S E0 ee) vs σ (upd H a (.frz od u)) fun v H' => H' a = some (.frz od u) ∧ Q v (upd H' a u) := by
  obtain ⟨F, w1, w2⟩ := hw
  obtain ⟨B, L, G, env, st, rl, po⟩ := q
  unfold xLcD at po
  split at po
  · rename_i d e he
    split at po
    · rename_i kvs hd
      obtain ⟨G', v, sm, st', rl', rv, hr⟩ := hp B L G H env e σ d st rl he
      obtain ⟨a, ws, rfl, ga, _, t⟩ := dct_rep st'.inn rv hd
      have po' := po.up sm
      rcases lk_ok st' rl' ga with ⟨hpk, k⟩ | ⟨od, L1, hpk, lk⟩
      · refine .inr ⟨a, .dK ws, hpk, trivial, fun od => ?_⟩
        obtain ⟨L1, lk⟩ := k od
        exact w1 _ _ _ (hr _ _ lk.ne (w2 _ a od ws _ (lk.at_ _ _ lk.st) (lc_core sg hv htt lk.st lk.rl (wk_ok t lk.at_) (Post.lk lk po' fun G' H' a' e s st h => plc_lk (Q1 := fun v H' => H' a = some (.frz od (.dK ws)) ∧ Q v (upd H' a (.dK ws))) lk (fun _ _ h q => ⟨h, q⟩) s st h))))
      · exact .inl (w1 _ _ _ (hr _ _ lk.ne (w2 _ a od ws _ (lk.at_ _ _ lk.st) (lc_core sg hv htt lk.st lk.rl (wk_ok t lk.at_) (Post.lk lk po' fun G' H' a' e s st h => plc_lk lk (fun _ _ h q => q) s st h)))))
    · exact po.elim
  · exact po.elim
variable {iter tg elt kx vx : Expr} {ee ek ev : Ev} {eg : Eg} {g : TG} {gs vs : List Nat} {et : EvT} {pos : Pos} {ei : EvI}
theorem qf_lcD {ifs : List Expr} {scope : Scope} {own : List (Str × Nat)} {tt : TT} {w : Wk} {pt : Pth} {td : TE} {wi : TI} (hc : X.calm = true) (hN : X.N.Nodup) (hi : PI X tg iter wi) (hw : WkR w td wi) (hp : PthOk X.K S pt td) (ok : BlkOk X.N X.env.scope scope own) (hvs : own.map (·.2) = vs)
    (hg : ∀ (s : Shared) (H : Hp) (C : Addr) (cl : List (Str × Addr)) (fp : List Addr), PG (X.blk s H scope (compEnvC scope cl C X.env) fp) tg g) (sg : SndG X.K S gs eg g) (hv : ∀ i ∈ gs, i ∈ vs)
    (ht : ∀ (s : Shared) (H : Hp) (C : Addr) (cl : List (Str × Addr)) (fp : List Addr), PTs (X.blk s H scope (compEnvC scope cl C X.env) fp) ifs tt) (htt : ∀ σ H Q, TB X.K S E0 et σ H Q → tt σ H Q)
    (he : ∀ (s : Shared) (H : Hp) (C : Addr) (cl : List (Str × Addr)) (fp : List Addr), QE S (X.blk s H scope (compEnvC scope cl C X.env) fp) E0 elt ee) (hs : ∀ x, foldedSetIterable iter X.env x = pure x := by intro _; rfl) :
    QF S X E (.ListComp elt [⟨tg, iter, ifs, 0⟩] scope pos) (xLcD pt w eg et ee vs) := by
  subst hvs
  exact pe_of (e_lk (pe_lc hc hN hi ok hg ht he hs)) fun _ _ _ q => lcD hw hp sg hv htt q
theorem s_setLcD {ifs : List Expr} {scope : Scope} {own : List (Str × Nat)} {tt : TT} {w : Wk} {pt : Pth} {td : TE} {wi : TI} {i : Nat} {y : Str} {py spos : Pos} (hc : X.calm = true) (hN : X.N.Nodup) (hy : X.N[i]? = some y) (hyl : X.env.scope.names.lookup y = some .local)
    (hsw : swapsWith (.ListComp elt [⟨tg, iter, ifs, 0⟩] scope pos) (some (.Name y py)) spos.line X.env = pure true) (hi : PI X tg iter wi) (hw : WkR w td wi) (hp : PthOk X.K S pt td) (ok : BlkOk X.N X.env.scope scope own) (hvs : own.map (·.2) = vs)
    (hg : ∀ (s : Shared) (H : Hp) (C : Addr) (cl : List (Str × Addr)) (fp : List Addr), PG (X.blk s H scope (compEnvC scope cl C X.env) fp) tg g) (sg : SndG X.K S gs eg g) (hv : ∀ i ∈ gs, i ∈ vs)
    (ht : ∀ (s : Shared) (H : Hp) (C : Addr) (cl : List (Str × Addr)) (fp : List Addr), PTs (X.blk s H scope (compEnvC scope cl C X.env) fp) ifs tt) (htt : ∀ σ H Q, TB X.K S E0 et σ H Q → tt σ H Q)
    (he : ∀ (s : Shared) (H : Hp) (C : Addr) (cl : List (Str × Addr)) (fp : List Addr), QE S (X.blk s H scope (compEnvC scope cl C X.env) fp) E0 elt ee) (hs : ∀ x, foldedSetIterable iter X.env x = pure x := by intro _; rfl) :
    QS S X E (.Assign [.Name y py] (.ListComp elt [⟨tg, iter, ifs, 0⟩] scope pos) spos) (xBox i (xLcD pt w eg et ee vs)) := by
  subst hvs
  refine ps_of (s_lk (ps_setLc (te := TD X.K S E0 ee) hc hN hy hyl hsw hi ok hg ht he hs)) fun D σ H q => ?_
  obtain ⟨B, L, G, env, st, rl, po⟩ := q
  refine lcD (Q := fun v H' => D.nx (σ.set i (some v)) H') hw hp sg hv htt ⟨B, L, G, env, st, rl, Post.st po fun G' H' d e s st' rl' p a o h1 h2 h3 h4 h5 h6 => ?_⟩
  split at p
  · exact p.elim
  · exact p _ G' H' (.refl _) st' (rel_box rl' h1 h2 h3 h4 h5 h6)
  · exact p.elim
/-! comprehensions of dicts -/
def dcmpL (eg : Eg) (et : EvT) (ek ev : Ev) (vs : List Nat) : List D → List (Key × D) → Env → Res (List (Key × D))
  | [], acc, env => .ok acc env
  | x :: xs, acc, env => match eg x (wipeE env vs) with
    | none => .no
    | some e1 => match et e1 with
      | .ok true e2 => match ek e2 with
        | .ok y e3 => match ev e3 with
          | .ok z e4 => match keyD y with
            | some k => if acc.length < 1000000 then dcmpL eg et ek ev vs xs (putKD acc k z) e4 else .no
            | none => .no
          | _ => .no
        | _ => .no
      | .ok false e2 => dcmpL eg et ek ev vs xs acc e2
      | _ => .no
theorem dc_core' {tt : TT} {Q : VK} {G1 : Hp} {e1 : Env} {J : It} {ds : List D} (sg : SndG K S gs eg g) (hv : ∀ i ∈ gs, i ∈ vs) (htt : ∀ σ H Q, TB K S E0 et σ H Q → tt σ H Q) (st1 : Ste B L G1 H1) (rl1 : Rel K S B L G1 H1 e1 σ) (hJ : ItOk K S B L G1 J ds)
    (p1 : Post K S E B L σ G1 (PLc K S B L σ Q) ((dcmpL eg et ek ev vs ds [] e1).bind fun acc e' => .ok (.dct acc) (wipeE e' vs))) :
    ∀ P, H1 P = none → ∃ W : Nat → Nat → Hp → Prop, (∃ m, W 0 m (upd H1 P (.dK []))) ∧ ∀ i m H, W i m H →
      (J.stop i H ∧ Q (.ref P) H) ∨ (J.go i H ∧ ∃ Nx : Hp → Prop, (∀ H', Nx H' → ∃ m', m' < m ∧ W (i + 1) m' H') ∧ ∀ x H', J.yld i H x H' → g x (wipe σ vs) H' fun σ2 H2 => wipe σ2 vs = wipe σ vs ∧ tt σ2 H2 fun b H3 =>
        if b = true then TD K S E0 ek σ2 H3 fun y H4 => TD K S E0 ev σ2 H4 fun z H5 => ∃ kvs k, y = kV k ∧ H5 P = some (.dK kvs) ∧ kvs.length < sizeLine ∧ Nx (upd H5 P (.dK (putK kvs k z))) else Nx H3) := by
  intro P hP
  have hbP := st1.free hP
  have hlP := st1.nolock hP
  refine ⟨fun i m H' => ∃ G' env' acc ws, Same G1 G' ∧ Ste B ((P, .dK ws) :: L) G' H' ∧ Rel K S B ((P, .dK ws) :: L) G' H' (wipeE env' vs) (wipe σ vs) ∧ RepK K S G' acc ws ∧ m = (ds.drop i).length ∧
    Post K S E B L σ G' (PLc K S B L σ Q) ((dcmpL eg et ek ev vs (ds.drop i) acc env').bind fun acc e' => .ok (.dct acc) (wipeE e' vs)),
    ⟨_, G1, e1, [], [], .refl _, ste_pin st1 hP, ?_, rfl, rfl, p1⟩, ?_⟩
  · exact rel_off (rel_wipes (rel_pin rl1 st1.inn hP)) wipe_wipe (wipe_length _ _)
  rintro i m H' ⟨G', env', acc, ws, sm, st', rl', ra, rfl, po'⟩
  have stU := ste_unpin st' hbP
  obtain ⟨t1, t2⟩ := hJ i G' H' sm stU
  have hlen : acc.length = ws.length := repK_len ra
  cases hd : ds[i]? with
  | none =>
    have e : ds.drop i = [] := List.drop_eq_nil_iff.mpr (List.getElem?_eq_none_iff.mp hd)
    rw [e] at po'
    have rlE : Rel K S B L G' H' (wipeE env' vs) σ := rel_off (rel_unpin rl') wipe_wipe.symm (wipe_length _ _).symm
    refine .inl ⟨t1 hd, po' G' H' (.refl _) stU rlE P (.dK ws) (st'.out _ (List.mem_cons_self ..) (fun _ _ h => by cases h)) hbP (st'.lock _ (List.mem_cons_self ..)) (fun j s h1 o1 h3 => ?_) hlP ⟨ws, rfl, ra⟩⟩
    have hj : j ∉ vs := fun hj => by
      rw [wipeE_at, if_pos hj] at h1
      split at h1 <;> cases h1
      cases o1
    refine rl'.nl j s P h1 o1 ?_ (P, .dK ws) (List.mem_cons_self ..) rfl
    rw [wipe_at, if_neg hj]
    exact h3
  | some d =>
    obtain ⟨g1, g2⟩ := t2 d hd
    have e := drop_at hd
    rw [e] at po'
    refine .inr ⟨g1, fun H2 => ∃ G2 env2 acc2 ws2, Same G1 G2 ∧ Ste B ((P, .dK ws2) :: L) G2 H2 ∧ Rel K S B ((P, .dK ws2) :: L) G2 H2 (wipeE env2 vs) (wipe σ vs) ∧ RepK K S G2 acc2 ws2 ∧
      Post K S E B L σ G2 (PLc K S B L σ Q) ((dcmpL eg et ek ev vs (ds.drop (i + 1)) acc2 env2).bind fun acc e' => .ok (.dct acc) (wipeE e' vs)),
      fun H2 ⟨G2, env2, acc2, ws2, a1, a2, a3, a4, a5⟩ => ⟨(ds.drop (i + 1)).length, by rw [e, List.length_cons]; omega, G2, env2, acc2, ws2, a1, a2, a3, a4, rfl, a5⟩, fun x H2 hy => ?_⟩
    obtain ⟨G2, ex, rx⟩ := g2 x H2 hy
    have st2 := st'.ex ex
    have rl2 := rl'.ex ex
    have cm : dcmpL eg et ek ev vs (d :: ds.drop (i + 1)) acc env' = match eg d (wipeE env' vs) with
      | none => .no
      | some e1 => match et e1 with
        | .ok true e2 => match ek e2 with
          | .ok y e3 => match ev e3 with
            | .ok z e4 => match keyD y with
              | some k => if acc.length < 1000000 then dcmpL eg et ek ev vs (ds.drop (i + 1)) (putKD acc k z) e4 else .no
              | none => .no
            | _ => .no
          | _ => .no
        | .ok false e2 => dcmpL eg et ek ev vs (ds.drop (i + 1)) acc e2
        | _ => .no := rfl
    rw [cm] at po'
    cases hg : eg d (wipeE env' vs) with
    | none => rw [hg] at po'; exact po'.elim
    | some e3 =>
      rw [hg] at po'
      dsimp only at po'
      refine sg B _ G2 H2 (wipeE env' vs) e3 (wipe σ vs) d x _ st2 rl2 rx hg fun σ3 rl3 w3 => ⟨(w3 vs hv).trans wipe_wipe, ?_⟩
      have hσ : wipe σ3 vs = wipe σ vs := (w3 vs hv).trans wipe_wipe
      have lσ : σ3.length = σ.length := by
        have := congrArg List.length hσ
        rw [wipe_length, wipe_length] at this
        exact this
      refine htt _ _ _ ⟨B, _, G2, e3, st2, rl3, ?_⟩
      cases ht : et e3 with
      | no => rw [ht] at po'; exact po'.elim
      | ex C fs e4 => rw [ht] at po'; exact po'.elim
      | ok b e4 =>
        rw [ht] at po'
        intro G4 H4 sm4 st4 rl4 c hc
        cases hc
        cases b with
        | false =>
          rw [if_neg (by decide)]
          exact ⟨G4, e4, acc, ws, (sm.trans ex.g).trans sm4, st4, rel_off (rel_wipes rl4) (by rw [wipe_wipe]; exact hσ.symm) (by rw [wipe_length, lσ]), (ra.mono ex.g).mono sm4, po'.up (ex.g.trans sm4)⟩
        | true =>
          rw [if_pos rfl]
          dsimp only at po'
          refine ⟨B, _, G4, e4, st4, rl4, ?_⟩
          cases he : ek e4 with
          | no => rw [he] at po'; exact po'.elim
          | ex C fs e5 => rw [he] at po'; exact po'.elim
          | ok y e5 =>
            rw [he] at po'
            dsimp only at po'
            intro G5 H5 sm5 st5 rl5 v rv
            refine ⟨B, _, G5, e5, st5, rl5, ?_⟩
            cases he2 : ev e5 with
            | no => rw [he2] at po'; exact po'.elim
            | ex C fs e6 => rw [he2] at po'; exact po'.elim
            | ok z e6 =>
              rw [he2] at po'
              dsimp only at po'
              intro G6 H6 sm6 st6 rl6 u ru
              cases hk : keyD y with
              | none => rw [hk] at po'; exact po'.elim
              | some k =>
                rw [hk] at po'
                dsimp only at po'
                by_cases hz : acc.length < 1000000
                · rw [if_pos hz] at po'
                  refine ⟨ws, k, key_rep rv hk, st6.lock _ (List.mem_cons_self ..), len9 (by rw [← hlen]; exact hz), G6, e6, putKD acc k z, putK ws k u, (((sm.trans ex.g).trans sm4).trans sm5).trans sm6, ste_repin st6 hbP hlP (fun _ _ h => by cases h), ?_, repK_put ru ((((ra.mono ex.g).mono sm4).mono sm5).mono sm6), po'.up (((ex.g.trans sm4).trans sm5).trans sm6)⟩
                  exact rel_off (rel_wipes (rel_repin rl6)) (by rw [wipe_wipe]; exact hσ.symm) (by rw [wipe_length, lσ])
                · rw [if_neg hz] at po'
                  exact po'.elim
def xDc (ei : EvI) (eg : Eg) (et : EvT) (ek ev : Ev) (vs : List Nat) : Ev := fun env => (ei env).bind fun ds e => (dcmpL eg et ek ev vs ds [] e).bind fun acc e' => .ok (.dct acc) (wipeE e' vs)
def xDcD (p : Pth) (w : Wk) (eg : Eg) (et : EvT) (ek ev : Ev) (vs : List Nat) : Ev := fun env => match p env with
  | some (d, e) => match dctD d with
    | some kvs => noR ((dcmpL eg et ek ev vs (w.ds kvs) [] e).bind fun acc e' => .ok (.dct acc) (wipeE e' vs))
    | none => .no
  | none => .no
theorem dcD {w : Wk} {pt : Pth} {td : TE} {wi : TI} {tt : TT} {Q : VK} (hw : WkR w td wi) (hp : PthOk K S pt td) (sg : SndG K S gs eg g) (hv : ∀ i ∈ gs, i ∈ vs) (htt : ∀ σ H Q, TB K S E0 et σ H Q → tt σ H Q) (q : TF K S E (xDcD pt w eg et ek ev vs) σ H Q) :
    tDc wi g tt (TD K S E0 ek) (TD K S E0 ev) vs σ H Q ∨ ∃ a u, H a = some u ∧ Mut (some u) ∧ ∀ od, tDc wi g tt (TD K S E0 ek) (TD K S E0 ev) vs σ (upd H a (.frz od u)) fun v H' => H' a = some (.frz od u) ∧ Q v (upd H' a u) := by
  obtain ⟨F, w1, w2⟩ := hw
  obtain ⟨B, L, G, env, st, rl, po⟩ := q
  unfold xDcD at po
  split at po
  · rename_i d e he
    split at po
    · rename_i kvs hd
      obtain ⟨G', v, sm, st', rl', rv, hr⟩ := hp B L G H env e σ d st rl he
      obtain ⟨a, ws, rfl, ga, _, t⟩ := dct_rep st'.inn rv hd
      have po' := po.up sm
      rcases lk_ok st' rl' ga with ⟨hpk, k⟩ | ⟨od, L1, hpk, lk⟩
      · refine .inr ⟨a, .dK ws, hpk, trivial, fun od => ?_⟩
        obtain ⟨L1, lk⟩ := k od
        exact w1 _ _ _ (hr _ _ lk.ne (w2 _ a od ws _ (lk.at_ _ _ lk.st) (dc_core' sg hv htt lk.st lk.rl (wk_ok t lk.at_) (Post.lk lk po' fun G' H' a' e s st h => plc_lk (Q1 := fun v H' => H' a = some (.frz od (.dK ws)) ∧ Q v (upd H' a (.dK ws))) lk (fun _ _ h q => ⟨h, q⟩) s st h))))
      · exact .inl (w1 _ _ _ (hr _ _ lk.ne (w2 _ a od ws _ (lk.at_ _ _ lk.st) (dc_core' sg hv htt lk.st lk.rl (wk_ok t lk.at_) (Post.lk lk po' fun G' H' a' e s st h => plc_lk lk (fun _ _ h q => q) s st h)))))
    · exact po.elim
  · exact po.elim
theorem qf_dcD {ifs : List Expr} {scope : Scope} {own : List (Str × Nat)} {tt : TT} {w : Wk} {pt : Pth} {td : TE} {wi : TI} (hc : X.calm = true) (hN : X.N.Nodup) (hi : PI X tg iter wi) (hw : WkR w td wi) (hp : PthOk X.K S pt td) (ok : BlkOk X.N X.env.scope scope own) (hvs : own.map (·.2) = vs)
    (hg : ∀ (s : Shared) (H : Hp) (C : Addr) (cl : List (Str × Addr)) (fp : List Addr), PG (X.blk s H scope (compEnvC scope cl C X.env) fp) tg g) (sg : SndG X.K S gs eg g) (hv : ∀ i ∈ gs, i ∈ vs)
    (ht : ∀ (s : Shared) (H : Hp) (C : Addr) (cl : List (Str × Addr)) (fp : List Addr), PTs (X.blk s H scope (compEnvC scope cl C X.env) fp) ifs tt) (htt : ∀ σ H Q, TB X.K S E0 et σ H Q → tt σ H Q)
    (hk : ∀ (s : Shared) (H : Hp) (C : Addr) (cl : List (Str × Addr)) (fp : List Addr), QE S (X.blk s H scope (compEnvC scope cl C X.env) fp) E0 kx ek) (he : ∀ (s : Shared) (H : Hp) (C : Addr) (cl : List (Str × Addr)) (fp : List Addr), QE S (X.blk s H scope (compEnvC scope cl C X.env) fp) E0 vx ev) (hs : ∀ x, foldedSetIterable iter X.env x = pure x := by intro _; rfl) :
    QF S X E (.DictComp kx vx [⟨tg, iter, ifs, 0⟩] scope pos) (xDcD pt w eg et ek ev vs) := by
  subst hvs
  exact pe_of (e_lk (pe_dc hc hN hi ok hg ht hk he hs)) fun _ _ _ q => dcD hw hp sg hv htt q
theorem qf_dc {ifs : List Expr} {scope : Scope} {own : List (Str × Nat)} {tt : TT} (hc : X.calm = true) (hN : X.N.Nodup) (hi : QI S X E tg iter ei) (ok : BlkOk X.N X.env.scope scope own) (hvs : own.map (·.2) = vs)
    (hg : ∀ (s : Shared) (H : Hp) (C : Addr) (cl : List (Str × Addr)) (fp : List Addr), PG (X.blk s H scope (compEnvC scope cl C X.env) fp) tg g) (sg : SndG X.K S gs eg g) (hv : ∀ i ∈ gs, i ∈ vs)
    (ht : ∀ (s : Shared) (H : Hp) (C : Addr) (cl : List (Str × Addr)) (fp : List Addr), PTs (X.blk s H scope (compEnvC scope cl C X.env) fp) ifs tt) (htt : ∀ σ H Q, TB X.K S E0 et σ H Q → tt σ H Q)
    (hk : ∀ (s : Shared) (H : Hp) (C : Addr) (cl : List (Str × Addr)) (fp : List Addr), QE S (X.blk s H scope (compEnvC scope cl C X.env) fp) E0 kx ek) (he : ∀ (s : Shared) (H : Hp) (C : Addr) (cl : List (Str × Addr)) (fp : List Addr), QE S (X.blk s H scope (compEnvC scope cl C X.env) fp) E0 vx ev) (hs : ∀ x, foldedSetIterable iter X.env x = pure x := by intro _; rfl) :
    QF S X E (.DictComp kx vx [⟨tg, iter, ifs, 0⟩] scope pos) (xDc ei eg et ek ev vs) := by
  subst hvs
  exact pe_of (pe_dc hc hN hi ok hg ht hk he hs) fun σ H Q ⟨B, L, G, env, st, rl, po⟩ => ⟨B, L, G, env, st, rl, po.then fun G1 H1 ds e1 sm1 st1 rl1 p1 J hJ => dc_core' sg hv htt st1 rl1 hJ p1⟩
end
end
end Dv
namespace Dv
open PySem PySem.Spec PyProof.Rows L2
set_option autoImplicit false
noncomputable section
/-! ### texts: f-strings, join -/
def xFmt (a : Ev) : Ev := fun env => (a env).bind fun x e => match x with
  | .str s => if s.length ≤ 1000000 then .ok (.str s) e else .no
  | .int i => if i.natAbs.log2 < 1920 then .ok (.str (toString i)) e else .no
  | _ => .no
abbrev EvJ := Str → Env → Res Str
def jNil : EvJ := fun acc env => .ok acc env
def jCons (a : Ev) (r : EvJ) : EvJ := fun acc env => (a env).bind fun x e => match x with
  | .str y => if (acc ++ y).length ≤ 1000000 then r (acc ++ y) e else .no
  | _ => .no
def xJoined (f : EvJ) : Ev := fun env => (f Str.empty env).bind fun s e => .ok (.str s) e
def strL : List D → Option (List Str)
  | [] => some []
  | .str s :: r => (strL r).map (s :: ·)
  | _ => none
def xJoin (a l : Ev) : Ev := fun env => (a env).bind fun x e1 => match x with
  | .str s => (l e1).bind fun y e2 => match seqD y with
    | some ds => match strL ds with
      | some ys => if (ys.map (·.length)).sum + ys.length * s.length ≤ 1000000 then .ok (.str (Txt.join s ys)) e2 else .no
      | none => .no
    | none => .no
  | _ => .no
section
variable {K : PySem.W.Frag} {S : Nat → Addr} {X : Cx} {E : XK} {a e l : Expr} {es : List Expr} {ea ee el : Ev} {f : EvJ} {pos apos : Pos}
theorem line10' {n : Nat} (h : n ≤ 1000000) : n ≤ sizeLine := by
  have : sizeLine = 16777216 := sizeLine_eq
  omega
theorem q_fmt (h : QE S X E e ee) : QE S X E (.FormattedValue e (-1) none pos) (xFmt ee) := pe_of (pe_fmt h) fun σ H Q ⟨B, L, G, env, st, rl, po⟩ => ⟨B, L, G, env, st, rl, po.then fun G1 H1 x e1 sm1 st1 rl1 p1 v rv => by
  split at p1
  · rename_i s
    split at p1
    · rename_i hs
      exact .inl ⟨s, rv, line10' hs, p1 G1 H1 (.refl _) st1 rl1 _ rfl⟩
    · exact p1.elim
  · rename_i i
    split at p1
    · rename_i hs
      exact .inr ⟨i, rv, hs, p1 G1 H1 (.refl _) st1 rl1 _ rfl⟩
    · exact p1.elim
  · exact p1.elim⟩
def QJ (S : Nat → Addr) (X : Cx) (E : XK) (es : List Expr) (f : EvJ) : Prop := ∃ ts, PJ X es ts ∧ ∀ (acc : Str) (σ : L2.St) (H : Hp) (Q : Str → Hp → Prop), Tx X.K S E (fun _ _ b c => b = c) (f acc) σ H Q → tJs ts acc σ H Q
theorem j_nil : QJ S X E [] jNil := ⟨[], .nil, fun acc σ H Q ⟨B, L, G, env, st, rl, po⟩ => po G H (.refl _) st rl acc rfl⟩
theorem j_cons (h : QE S X E e ee) (hr : QJ S X E es f) : QJ S X E (e :: es) (jCons ee f) := by
  obtain ⟨ts, p, k⟩ := hr
  refine ⟨_, .cons h p, fun acc σ H Q ⟨B, L, G, env, st, rl, po⟩ => ⟨B, L, G, env, st, rl, po.then fun G1 H1 x e1 sm1 st1 rl1 p1 v rv => ?_⟩⟩
  split at p1
  · rename_i y
    split at p1
    · rename_i hs
      exact ⟨y, rv, line10' hs, k _ _ _ _ ⟨B, L, G1, e1, st1, rl1, p1⟩⟩
    · exact p1.elim
  · exact p1.elim
theorem q_joined {v1 v2 : Expr} {rest : List Expr} (h : QJ S X E (v1 :: v2 :: rest) f) : QE S X E (.JoinedStr (v1 :: v2 :: rest) pos) (xJoined f) := by
  obtain ⟨ts, p, k⟩ := h
  exact pe_of (pe_joined p) fun σ H Q ⟨B, L, G, env, st, rl, po⟩ => k _ _ _ _ ⟨B, L, G, env, st, rl, po.then fun G1 H1 x e1 sm1 st1 rl1 p1 v rv => by
    subst rv
    exact p1 G1 H1 (.refl _) st1 rl1 _ rfl⟩
theorem q_joined1 (h : QE S X E e ee) : QE S X E (.JoinedStr [e] pos) ee := pe_joined1 h
theorem strL_ok {G : Hp} : ∀ {ds : List D} {vs : List V} {ys : List Str}, RepL K S G ds vs → strL ds = some ys → vs = ys.map V.str
  | [], _, ys, t, e => by cases t; cases e; rfl
  | x :: r, _, ys, ⟨v, ws, e1, q, t⟩, e => by
    subst e1
    cases x with
    | str s =>
      obtain ⟨zs, h1, h2⟩ := Option.map_eq_some_iff.mp (show (strL r).map (s :: ·) = some ys from e)
      subst h2
      cases q
      rw [strL_ok t h1]
      rfl
    | _ => cases e
theorem q_join (ho : QE S X E a ea) (hl : QE S X E l el) (hs : starEach [l] X.env = [(false, eval l X.env)] := by rfl) (hbase : attributeBase a "join" X.env (eval a X.env) = eval a X.env := by rfl) (hline : (apos.endLine == pos.line) = true := by rfl) : QE S X E (.Call (.Attribute a "join" apos) [l] [] pos) (xJoin ea el) := pe_of (pe_join ho hl hs hbase hline) fun σ H Q ⟨B, L, G, env, st, rl, po⟩ => ⟨B, L, G, env, st, rl, po.then fun G1 H1 x e1 sm1 st1 rl1 p1 v rv => by
  split at p1
  · rename_i s
    refine ⟨⟨s, rv⟩, B, L, G1, e1, st1, rl1, p1.then fun G2 H2 y e2 sm2 st2 rl2 p2 w rw' => ?_⟩
    split at p2
    · rename_i ds hd
      split at p2
      · rename_i ys hy
        split at p2
        · rename_i hz
          obtain ⟨q, vs, rfl, hq, t⟩ := seq_sq rw' hd
          have := strL_ok t hy
          subst this
          exact ⟨s, q, ys, rv, rfl, hq.elim (fun h => .inl (st2.inn.seq h)) (fun h => .inr (st2.inn.tup h)), by omega, p2 G2 H2 (.refl _) st2 rl2 _ rfl⟩
        · exact p2.elim
      · exact p2.elim
    · exact p2.elim
  · exact p1.elim⟩
end
end
end Dv
namespace Rn
open PySem PySem.Spec PyProof.Rows L2
set_option autoImplicit false
noncomputable section
/-! ### the head: facts of a fragment, as Bools -/
def eqF (o : Option (Option Value)) (s : String) : Bool := match o with
  | some (some (.builtin t)) => decide (t = s)
  | _ => false
def eqR (o : Option (Option Value)) (a : Nat) : Bool := match o with
  | some (some (.ref b)) => Nat.beq b a
  | _ => false
def eqN (o : Option (Option Value)) : Bool := match o with
  | some none => true
  | _ => false
def eqB (o : Option Bool) (b : Bool) : Bool := match o, b with
  | some true, true => true
  | some false, false => true
  | _, _ => false
def eqC1 (o : Option PySem.W.CFound) (a : Nat) : Bool := match o with
  | some (.val (.ref b)) => Nat.beq b a
  | _ => false
def eqT (o : Option Value) (s : String) : Bool := match o with
  | some (.type t) => decide (t = s)
  | _ => false
theorem eqF_ok {o : Option (Option Value)} {s : String} (h : eqF o s = true) : o = some (some (.builtin s)) := by
  unfold eqF at h
  split at h
  · rw [of_decide_eq_true h]
  · cases h
theorem eqR_ok {o : Option (Option Value)} {a : Nat} (h : eqR o a = true) : o = some (some (.ref a)) := by
  unfold eqR at h
  split at h
  · rw [Nat.eq_of_beq_eq_true h]
  · cases h
theorem eqN_ok {o : Option (Option Value)} (h : eqN o = true) : o = some none := by
  unfold eqN at h
  split at h
  · rfl
  · cases h
theorem eqB_ok {o : Option Bool} {b : Bool} (h : eqB o b = true) : o = some b := by
  unfold eqB at h
  split at h
  · rfl
  · rfl
  · cases h
theorem eqC1_ok {o : Option PySem.W.CFound} {a : Nat} (h : eqC1 o a = true) : o = some (.val (.ref a)) := by
  unfold eqC1 at h
  split at h
  · rw [Nat.eq_of_beq_eq_true h]
  · cases h
theorem eqT_ok {o : Option Value} {s : String} (h : eqT o s = true) : o = some (.type s) := by
  unfold eqT at h
  split at h
  · rw [of_decide_eq_true h]
  · cases h
def strAt (o : Option (Option Value)) (z : PySem.Str) : Bool := match o with
  | some (some (.str y _)) => decide (y = z)
  | _ => false
def intAt (o : Option (Option Value)) (i : Int) : Bool := match o with
  | some (some (.int j _)) => decide (j = i)
  | _ => false
theorem strAt_ok {o : Option (Option Value)} {z : PySem.Str} (h : strAt o z = true) : ∃ t, o = some (some (.str z t)) := by
  unfold strAt at h
  split at h
  · rw [of_decide_eq_true h]
    exact ⟨_, rfl⟩
  · cases h
theorem intAt_ok {o : Option (Option Value)} {i : Int} (h : intAt o i = true) : ∃ t, o = some (some (.int i t)) := by
  unfold intAt at h
  split at h
  · rw [of_decide_eq_true h]
    exact ⟨_, rfl⟩
  · cases h
def fdOf (K : PySem.W.Frag) (f : Addr) : FuncData := match K.lookup f with
  | some ⟨_, _, .func fd, _⟩ => fd
  | _ => default
abbrev FnX : Type := Option (PySem.Str × PySem.Str × Arguments × FuncBody × Scope × Addr × List (PySem.Str × Addr) × Addr)
def fnX (K : PySem.W.Frag) (f : Addr) : FnX := match K.lookup f with
  | some ⟨_, _, .func fd, _⟩ => some (fd.name, fd.qualname, fd.params, fd.body, fd.scope, fd.globals, fd.closure, fd.builtins)
  | _ => none
def fnV (x qual : PySem.Str) (st : Stmt) : FnX := some (x, qual, defArgs st, .stmts (defBody st), defScope st, mainGlobals, [], builtinsNs)
def fnB (K : PySem.W.Frag) (f : Addr) (qual : PySem.Str) : Bool := match K.lookup f with
  | some ⟨_, _, .func fd, _⟩ => PySem.W.codeIn K fd.code qual && (match fd.defaults with
    | .none => true
    | _ => false)
  | _ => false
theorem fun_of {K : PySem.W.Frag} {f : Addr} {x qual : PySem.Str} {st : Stmt} (h1 : fnX K f = fnV x qual st) (h2 : fnB K f qual = true) (h3 : PySem.W.keepIn K (.ref f) = true) : Fun K x qual st f (fdOf K f) := by
  unfold fnX at h1
  unfold fnB at h2
  unfold fdOf
  split at h1
  · rename_i oc od fd sl hl
    rw [hl] at h2
    obtain ⟨a1, a2, a3, a4, a5, a6, a7, a8, a9, b1, b2, b3, b4, b5, b6⟩ := fd
    unfold fnV at h1
    simp only [Option.some.injEq, Prod.mk.injEq] at h1
    obtain ⟨rfl, rfl, rfl, rfl, rfl, rfl, rfl, rfl⟩ := h1
    rw [Bool.and_eq_true] at h2
    obtain ⟨h4, h5⟩ := h2
    dsimp only at h4 h5
    cases a8 with
    | none => exact ⟨⟨oc, od, _, _, _, _, _, _, _, rfl, hl, h4⟩, h3⟩
    | _ => cases h5
  · cases h1
def valB (v : V) (u : Value) : Bool := match v, u with
  | .str z, .str y _ => decide (y = z)
  | .int i, .int j _ => decide (j = i)
  | .ref a, .ref b => Nat.beq a b
  | .non, .none => true
  | .bl true, .bool true => true
  | .bl false, .bool false => true
  | _, _ => false
theorem valB_ok {v : V} {u : Value} (h : valB v u = true) : RelV v u := by
  unfold valB at h
  split at h
  · rw [of_decide_eq_true h]; exact ⟨_, rfl⟩
  · rw [of_decide_eq_true h]; exact ⟨_, rfl⟩
  · rw [Nat.eq_of_beq_eq_true h]; rfl
  · rfl
  · rfl
  · rfl
  · cases h
def valsB : List V → List Value → Bool
  | [], [] => true
  | v :: vs, u :: us => valB v u && valsB vs us
  | _, _ => false
theorem valsB_ok : ∀ {vs : List V} {us : List Value}, valsB vs us = true → Vals vs us
  | [], [], _ => .nil
  | v :: vs, u :: us, h => by
    unfold valsB at h
    rw [Bool.and_eq_true] at h
    exact .cons (valB_ok h.1) (valsB_ok h.2)
  | [], _ :: _, h => by cases h
  | _ :: _, [], h => by cases h
def tupB (K : PySem.W.Frag) (a : Addr) (vs : List V) : Bool := match K.lookup a with
  | some ⟨.type t, _, .seq its _, _⟩ => decide (t = "tuple") && valsB vs its.toList
  | _ => false
theorem tupB_ok {K : PySem.W.Frag} {a : Addr} {vs : List V} (h : tupB K a vs = true) (hl : vs.length ≤ 1000) : ∀ H, SqT K H a vs := fun H => by
  unfold tupB at h
  split at h
  · rename_i hk
    rw [Bool.and_eq_true] at h
    have v := valsB_ok h.2
    refine .inr ⟨_, _, _, hk, ?_, rfl, ?_, v⟩
    · rw [of_decide_eq_true h.1]
    · have e := Paired.length v
      simp only [Array.length_toList] at e
      have : sizeLine = 16777216 := sizeLine_eq
      omega
  · cases h
def fnBD (K : PySem.W.Frag) (f : Addr) (qual : PySem.Str) (dvs : List V) : Bool := match K.lookup f with
  | some ⟨_, _, .func fd, _⟩ => PySem.W.codeIn K fd.code qual && (match fd.defaults with
    | .ref t => (match K.lookup t with
      | some ⟨_, _, .seq its _, _⟩ => valsB dvs its.toList
      | _ => false)
    | _ => false) && (match fd.kwdefaults with
    | .none => true
    | _ => false)
  | _ => false
theorem funD_of {K : PySem.W.Frag} {f : Addr} {x qual : PySem.Str} {st : Stmt} {dvs : List V} (h0 : dvs ≠ []) (h1 : fnX K f = fnV x qual st) (h2 : fnBD K f qual dvs = true) (h3 : PySem.W.keepIn K (.ref f) = true) : FunD K x qual (defArgs st) (defBody st) (defScope st) dvs [] f (fdOf K f) := by
  unfold fnX at h1
  unfold fnBD at h2
  unfold fdOf
  split at h1
  · rename_i oc od fd sl hl
    rw [hl] at h2
    obtain ⟨a1, a2, a3, a4, a5, a6, a7, a8, a9, b1, b2, b3, b4, b5, b6⟩ := fd
    unfold fnV at h1
    simp only [Option.some.injEq, Prod.mk.injEq] at h1
    obtain ⟨rfl, rfl, rfl, rfl, rfl, rfl, rfl, rfl⟩ := h1
    rw [Bool.and_eq_true, Bool.and_eq_true] at h2
    obtain ⟨⟨h4, h5⟩, h6⟩ := h2
    dsimp only at h4 h5 h6
    cases a9 with
    | none =>
      cases a8 with
      | ref t =>
        dsimp only at h5
        split at h5
        · rename_i hk
          exact ⟨⟨oc, od, _, _, _, _, _, _, _, _, rfl, hl, h4, .inr ⟨h0, _, _, _, _, rfl, hk, rfl, by simpa using valsB_ok h5⟩, .inl rfl⟩, h3⟩
        · cases h5
      | _ => cases h5
    | _ => cases h6
  · cases h1
def fkB (K : PySem.W.Frag) (f : Addr) (qual : PySem.Str) : Bool := match K.lookup f with
  | some ⟨.type t, _, .func fd, _⟩ => decide (t = "function") && (PySem.W.codeIn K fd.code qual && (match fd.defaults with
    | .none => true
    | _ => false))
  | _ => false
theorem fk_ok {K : PySem.W.Frag} {f : Addr} {qual : PySem.Str} (h : fkB K f qual = true) : fnB K f qual = true ∧ PySem.W.keepIn K (.ref f) = true ∧ PySem.W.isFn K (.ref f) = true := by
  unfold fkB at h
  split at h
  · rename_i hl
    rw [Bool.and_eq_true] at h
    have e := of_decide_eq_true h.1
    subst e
    refine ⟨?_, ?_, ?_⟩
    · unfold fnB
      rw [hl]
      exact h.2
    · unfold PySem.W.keepIn
      simp only [hl]
    · unfold PySem.W.isFn PySem.W.typeIn
      simp only [hl]
      rfl
  · cases h
def oexB (K : PySem.W.Frag) (C : Addr) : Bool := match K.lookup C with
  | some ⟨.type t, _, .cls cd, sl⟩ => decide (t = "type") && (match cd.mro with
    | .ref C' :: bm => Nat.beq C' C && HandSPX.refsVE bm
    | _ => false) && (cd.hasDict && !cd.hasDel) && (match sl.toList with
    | [_, _, _, _, some (.builtin n), _] => decide (n = "ValueError.__new__")
    | _ => false)
  | _ => false
theorem oexB_ok {K : PySem.W.Frag} {C : Addr} (h : oexB K C = true) : ∃ nm q N bs bm sn sub ab col dd k0 k1 k2 k3 k5, K.lookup C = some (excClassObj nm q C N bs bm true sn sub ab col dd k0 k1 k2 k3 k5 "ValueError.__new__") ∧ HandSPX.refsVE bm = true := by
  unfold oexB at h
  split at h
  · rename_i t dd cd sl hk
    obtain ⟨c1, c2, c3, c4, c5, c6, c7, c8, c9, d1, d2⟩ := cd
    rw [Bool.and_eq_true, Bool.and_eq_true, Bool.and_eq_true] at h
    obtain ⟨⟨⟨h1, h2⟩, h3⟩, h4⟩ := h
    have h1 := of_decide_eq_true h1
    subst h1
    dsimp only at h2 h3 h4
    rw [Bool.and_eq_true] at h3
    obtain ⟨h5, h6⟩ := h3
    cases h5
    cases d2 with
    | true => cases h6
    | false =>
      split at h2
      · rename_i C' bm
        rw [Bool.and_eq_true] at h2
        have e := Nat.eq_of_beq_eq_true h2.1
        subst e
        split at h4
        · rename_i k0 k1 k2 k3 n k5 hs
          have e := of_decide_eq_true h4
          subst e
          have e2 : sl = #[k0, k1, k2, k3, some (.builtin "ValueError.__new__"), k5] := Array.toList_inj.mp hs
          subst e2
          exact ⟨_, _, _, _, bm, _, _, _, _, _, _, _, _, _, _, hk, h2.2⟩
        · cases h4
      · cases h2
  · cases h
/-! lists of Bools -/
def allB (l : List Bool) : Bool := List.rec (motive := fun _ => Bool) true (fun b _ go => match b with
  | true => go
  | false => false) l
theorem allB_at : ∀ {l : List Bool}, allB l = true → ∀ (i : Nat) {b : Bool}, l[i]? = some b → b = true
  | [], _, i, b, e => by simp at e
  | true :: r, h, 0, b, e => by simp at e; exact e
  | true :: r, h, i + 1, b, e => allB_at (l := r) h i (by simpa using e)
  | false :: r, h, i, b, e => by cases h
/-! the hook -/
structure HdD where
  as : List Addr
  ex : PySem.W.Frag → Bool
  fs : List Addr
  fv : List FnX
  ds : List Addr
  dk : List (List PySem.Str)
abbrev AlH : Type := Bool × List FnX × List (Option (List (Option (PySem.Str × Int))))
def frH (g : Addr → Option Obj) (as : List Addr) : PySem.W.Frag := He.frG g as
def obsH (D : HdD) (g : Addr → Option Obj) : AlH := (D.ex (He.frG g D.as), D.fs.map (fnX (He.frG g D.as)), D.ds.map (He.dicW (He.frG g D.as)))
def valH (D : HdD) (w : World) : AlH := (true, D.fv, D.dk.map fun ks => some (He.keysIn w.params ks))
structure SaysH (D : HdD) (w : World) (K : PySem.W.Frag) : Prop where
  ex : D.ex K = true
  fn : D.fs.map (fnX K) = D.fv
  dc : D.ds.map (He.dicW K) = D.dk.map fun ks => some (He.keysIn w.params ks)
def hookH (D : HdD) : PySem.W.Hook where
  α := AlH
  obs := fun s => obsH D s.heap.get?
  val := valH D
  says := fun w h => ∃ K, K.In h ∧ SaysH D w K
  of := fun w s e => by
    unfold obsH valH at e
    rw [Prod.mk.injEq, Prod.mk.injEq] at e
    exact ⟨He.frG s.heap.get? D.as, He.frG_in, e.1, e.2.1, e.2.2⟩
  keeps := fun w h h' ⟨K, k, s⟩ m => ⟨K, fun a o e => m a o (k a o e), s⟩
def obH (D : HdD) (s : PySem.W.SharedT) : AlH := obsH D (HandSHeadRun.getT s)
theorem obH_eq (D : HdD) (s : PySem.W.SharedT) : obH D s = (hookH D).obs s.abs := by
  show obsH D (HandSHeadRun.getT s) = obsH D s.abs.heap.get?
  rw [show HandSHeadRun.getT s = s.abs.heap.get? from funext (HandSHeadRun.getT_eq s)]
theorem joinH {r : PySem.W.OpenRow} {q : Program} {D : HdD} {M : Nat} {loose : List PySem.Str} {w : World} {os : OsState} (o : Option PySem.W.SharedT) (ho : HandSHeadRun.endF (HandSHeadRun.stepQ (HandSHeadRun.denQ HandSHeadRun.tabQ) r.prog w) M r.prog w os = o)
    (h1 : o.map (fun s => HandSHeadRun.looksF r.prog (PySem.W.boot_heap w.params) s.abs) = some true)
    (h2 : o.map (fun s => HandSHeadRun.seenQ q loose (importedModules r.prog.main.body) (fun s => PySem.W.xlAt q [] s && PySem.W.recOk r.records s) s.abs) = some (PySem.W.openGood q loose))
    (h3 : o.map (fun s => D.ex (He.frG (HandSHeadRun.getT s) D.as)) = some true) (h4 : o.map (fun s => D.fs.map (fnX (He.frG (HandSHeadRun.getT s) D.as))) = some D.fv)
    (h5 : o.map (fun s => D.ds.map (He.dicW (He.frG (HandSHeadRun.getT s) D.as))) = some (D.dk.map fun ks => some (He.keysIn w.params ks))) :
    Option.map (fun s => (HandSHeadRun.looksF r.prog (PySem.W.boot_heap w.params) s.abs, HandSHeadRun.seenQ q loose (importedModules r.prog.main.body) (fun s => PySem.W.xlAt q [] s && PySem.W.recOk r.records s) s.abs, obH D s)) (HandSHeadRun.endF (HandSHeadRun.stepQ (HandSHeadRun.denQ HandSHeadRun.tabQ) r.prog w) M r.prog w os) = some (true, PySem.W.openGood q loose, (hookH D).val w) := by
  rw [ho]
  cases o with
  | none => cases h1
  | some s =>
    have e1 := Option.some.inj h1
    have e2 := Option.some.inj h2
    have e3 := Option.some.inj h3
    have e4 := Option.some.inj h4
    have e5 := Option.some.inj h5
    show some (_, _, (D.ex (He.frG (HandSHeadRun.getT s) D.as), D.fs.map (fnX (He.frG (HandSHeadRun.getT s) D.as)), D.ds.map (He.dicW (He.frG (HandSHeadRun.getT s) D.as)))) = some (true, _, (true, D.fv, D.dk.map fun ks => some (He.keysIn w.params ks)))
    dsimp only at e1 e2 e3 e4 e5
    rw [e1, e2, e3, e4, e5]
theorem fn_at {D : HdD} {w : World} {K : PySem.W.Frag} (s : SaysH D w K) (i : Nat) {f : Addr} {v : FnX} (h1 : D.fs[i]? = some f) (h2 : D.fv[i]? = some v) : fnX K f = v := by
  have e := s.fn
  have e2 : (D.fs.map (fnX K))[i]? = D.fv[i]? := by rw [e]
  rw [List.getElem?_map, h1, h2] at e2
  exact Option.some.inj e2
theorem dc_at {D : HdD} {w : World} {K : PySem.W.Frag} (s : SaysH D w K) (i : Nat) {a : Addr} {ks : List PySem.Str} (h1 : D.ds[i]? = some a) (h2 : D.dk[i]? = some ks) : ∃ es n, KDict K w a es n := by
  have e2 : (D.ds.map (He.dicW K))[i]? = (D.dk.map fun ks => some (He.keysIn w.params ks))[i]? := by rw [s.dc]
  rw [List.getElem?_map, List.getElem?_map, h1, h2] at e2
  exact He.dicW_ok (Option.some.inj e2)
theorem kd_of {w : World} {K : PySem.W.Frag} {a : Addr} {x : PySem.Str} {b : Addr} (h : ∃ es n, KDict K w a es n) (h2 : eqR (PySem.W.nsIn K a x) b = true) : KDct K w a x (.ref b) := by
  obtain ⟨es, n, k⟩ := h
  exact ⟨es, n, .ref b, k.at_, k.lit, eqR_ok h2, rfl⟩
end
end Rn
namespace Ct
open PySem PySem.W PySem.Calls PyProof.Rows HandSHeadRun
set_option autoImplicit false
noncomputable section
/-! ### the top in pieces, each from a written state to a written state -/
section
variable (st : SharedT → Thread → Option (SharedT × Thread)) (n0 : Nat) (ann : Option Value) (b : Nat)
def segF : Nat → SharedT → Thread → Option (Flow × SharedT × Code × Pos)
  | 0, _, _ => none
  | m + 1, s, t => match endAt b t with
    | some f => some (f, s, t.code, t.pos)
    | none => match stepOk n0 ann t with
      | false => none
      | true => match st s t with
        | some (s', t') => frS s' fun s' => segF m s' t'
        | none => none
def preF : Nat → SharedT → Thread → Option (SharedT × Thread)
  | 0, s, t => some (s, t)
  | m + 1, s, t => match through t with
    | true => none
    | false => match stepOk n0 ann t with
      | false => none
      | true => match st s t with
        | some (s', t') => frS s' fun s' => preF m s' t'
        | none => none
end
section
variable {tb : String → Option Builtin} {p : Program} {w : World} {n0 : Nat} {ann : Option Value} {b : Nat}
theorem segF_ok : ∀ {m : Nat} {s s' : SharedT} {t : Thread} {f : Flow} {c : Code} {q : Pos}, segF (stepT (denote tb) p w) n0 ann b m s t = some (f, s', c, q) → segRun tb p w n0 ann b m s.abs t = some (f, s'.abs, c, q)
  | 0, _, _, _, _, _, _, h => by cases h
  | m + 1, s, s', t, f, c, q, h => by
    have h1 : (match endAt b t with
      | some f => some (f, s, t.code, t.pos)
      | none => match stepOk n0 ann t with
        | false => none
        | true => match stepT (denote tb) p w s t with
          | some (s', t') => frS s' fun s' => segF (stepT (denote tb) p w) n0 ann b m s' t'
          | none => none) = some (f, s', c, q) := h
    show (match endAt b t with
      | some f => some (f, s.abs, t.code, t.pos)
      | none => match stepOk n0 ann t with
        | false => none
        | true => match step (denote tb) p w s.abs t with
          | .go s' t' => segRun tb p w n0 ann b m s' t'
          | .halt _ _ => none) = some (f, s'.abs, c, q)
    cases he : endAt b t with
    | some g =>
      rw [he] at h1
      cases h1
      rfl
    | none =>
      rw [he] at h1
      cases hk : stepOk n0 ann t with
      | false =>
        rw [hk] at h1
        cases h1
      | true =>
        rw [hk] at h1
        have h2 : (match stepT (denote tb) p w s t with
          | some (s', t') => frS s' fun s' => segF (stepT (denote tb) p w) n0 ann b m s' t'
          | none => none) = some (f, s', c, q) := h1
        cases hs : stepT (denote tb) p w s t with
        | none =>
          rw [hs] at h2
          cases h2
        | some r =>
          obtain ⟨s2, t2⟩ := r
          rw [hs] at h2
          have h3 : (frS s2 fun s' => segF (stepT (denote tb) p w) n0 ann b m s' t2) = some (f, s', c, q) := h2
          rw [frS_eq] at h3
          have r := segF_ok h3
          show (match step (denote tb) p w s.abs t with
            | .go s' t' => segRun tb p w n0 ann b m s' t'
            | .halt _ _ => none) = _
          rw [stepT_spec hs]
          exact r
theorem preF_ok : ∀ {m : Nat} {s s' : SharedT} {t t' : Thread}, preF (stepT (denote tb) p w) n0 ann m s t = some (s', t') → topGo tb p w n0 ann m s.abs t = some (s'.abs, t')
  | 0, _, _, _, _, h => by cases h; rfl
  | m + 1, s, s', t, t', h => by
    have h1 : (match through t with
      | true => none
      | false => match stepOk n0 ann t with
        | false => none
        | true => match stepT (denote tb) p w s t with
          | some (s', t') => frS s' fun s' => preF (stepT (denote tb) p w) n0 ann m s' t'
          | none => none) = some (s', t') := h
    show (match through t with
      | true => none
      | false => match stepOk n0 ann t with
        | false => none
        | true => match step (denote tb) p w s.abs t with
          | .go s' t' => topGo tb p w n0 ann m s' t'
          | .halt _ _ => none) = some (s'.abs, t')
    cases ht : through t with
    | true =>
      rw [ht] at h1
      cases h1
    | false =>
      rw [ht] at h1
      cases hk : stepOk n0 ann t with
      | false =>
        rw [hk] at h1
        cases h1
      | true =>
        rw [hk] at h1
        have h2 : (match stepT (denote tb) p w s t with
          | some (s', t') => frS s' fun s' => preF (stepT (denote tb) p w) n0 ann m s' t'
          | none => none) = some (s', t') := h1
        cases hs : stepT (denote tb) p w s t with
        | none =>
          rw [hs] at h2
          cases h2
        | some r =>
          obtain ⟨s2, t2⟩ := r
          rw [hs] at h2
          have h3 : (frS s2 fun s' => preF (stepT (denote tb) p w) n0 ann m s' t2) = some (s', t') := h2
          rw [frS_eq] at h3
          have r := preF_ok h3
          show (match step (denote tb) p w s.abs t with
            | .go s' t' => topGo tb p w n0 ann m s' t'
            | .halt _ _ => none) = _
          rw [stepT_spec hs]
          exact r
end
/-! the twins of exec -/
def execsQ : List Stmt → Env → Sem Flow := PySem.W.Fast.tw12563942051412417395
theorem execsQ_eq : @PySem.execs = execsQ := PySem.W.Fast.te12563942051412417395
def blockStartQ : List Stmt → Env → Sem Unit := PySem.W.Fast.tw1066825118222455980
theorem blockStartQ_eq : @PySem.blockStart = blockStartQ := PySem.W.Fast.te1066825118222455980
abbrev piecesQ (l : List Stmt) (env : Env) (c : Code) (p : Pos) (B : List Frame) : Thread := ⟨(execsQ l env).wrap doneF deadEnd id id, c, p, B⟩
abbrev blockQ (b : List Stmt) (env : Env) (c : Code) (p : Pos) (B : List Frame) : Thread := ⟨(blockStartQ b env).wrap (fun _ => doneF .next) deadEnd id id, c, p, B⟩
abbrev stQ (p : Program) (w : World) : SharedT → Thread → Option (SharedT × Thread) := stepQ (denQ tabQ) p w
section
variable {p : Program} {w : World} {n0 : Nat} {ann : Option Value} {env : Env} {q : Pos}
theorem pieceQ {m N : Nat} {s s' : SharedT} {r : Shared} {l rest : List Stmt} {c : Code} {pos p' : Pos} (h : segF (stQ p w) n0 ann 1 m s (piecesQ l env c pos [topFrame q]) = some (.next, s', c, p'))
    (k : topRun treeTable p w n0 ann N s'.abs (restOf rest env c p' [topFrame q]) = some r) : topRun treeTable p w n0 ann (m + N) s.abs (restOf (l ++ rest) env c pos [topFrame q]) = some r := by
  unfold stQ piecesQ at h
  rw [← stepQ_eq, ← denQ_eq, ← tabQ_eq, ← execsQ_eq] at h
  exact piece_app (segF_ok h) k
theorem blockQ_ok {m N : Nat} {s s' : SharedT} {r : Shared} {b : List Stmt} {c : Code} {pos p' : Pos} (h : segF (stQ p w) n0 ann 1 m s (blockQ b env c pos [topFrame q]) = some (.next, s', c, p'))
    (k : topRun treeTable p w n0 ann N s'.abs (restOf b env c p' [topFrame q]) = some r) : topRun treeTable p w n0 ann (m + N) s.abs ⟨denote treeTable (.body b env), c, pos, [topFrame q]⟩ = some r := by
  unfold stQ blockQ at h
  rw [← stepQ_eq, ← denQ_eq, ← tabQ_eq, ← blockStartQ_eq] at h
  exact piece_block (segF_ok h) k
theorem preQ {m N : Nat} {s s' : SharedT} {r : Shared} {b : List Stmt} {c : Code} {pos : Pos} {t : Thread} {B : List Frame} (h : preF (stQ p w) n0 ann m s t = some (s', ⟨denQ tabQ (.body b env), c, pos, B⟩))
    (k : topRun treeTable p w n0 ann N s'.abs ⟨denote treeTable (.body b env), c, pos, B⟩ = some r) : topRun treeTable p w n0 ann (m + N) s.abs t = some r := by
  unfold stQ at h
  rw [← stepQ_eq, ← denQ_eq, ← tabQ_eq] at h
  exact go_top (preF_ok h) k
theorem finQ {m : Nat} {s s' : SharedT} {c : Code} {pos : Pos} (h : goF (stQ p w) n0 ann m s ⟨doneF .next, c, pos, [topFrame q]⟩ = some s') : topRun treeTable p w n0 ann m s.abs (restOf [] env c pos [topFrame q]) = some s'.abs := by
  unfold stQ at h
  rw [← stepQ_eq, ← denQ_eq, ← tabQ_eq] at h
  exact piece_nil (goF_ok h)
end
theorem left_cut {p q : Program} {loose : List PySem.Str} {Xt : Shared → Bool} {α : Type} {Yf : Shared → α} {Ya : World → α} {N M : Nat} {SF : World → OsState → SharedT}
    (e : opening p = plainProg p.main.scope.names) (hN : Nat.ble 600 N = true) (f : ∀ s, fenceModules? p s = some s) (le : Nat.ble M N = true)
    (top : ∀ (w : World) (os : OsState), topRun treeTable p w (boot_heap w.params).objs.size (bootAnn w) M ⟨boot_heap w.params, #[], boot_drawn, boot_toks, os⟩ (topStub p) = some (SF w os).abs)
    (run : ∀ (w : World) (os : OsState), (some (SF w os)).map (fun s => (looksF p (boot_heap w.params) s.abs, openSeen q loose (importedModules p.main.body) Xt true s.abs, Yf s.abs)) = some (true, openGood q loose, Ya w)) :
    LeftO p q loose Xt Yf Ya N true := fun w => by
  obtain ⟨⟨h, gs, d, k, os⟩, a, a'⟩ := Option.map_eq_some_iff.mp (boot_open e hN f w)
  obtain ⟨rfl, rfl, rfl, rfl⟩ : h = boot_heap w.params ∧ gs = Array.mk [] ∧ d = boot_drawn ∧ k = boot_toks := by simpa using a'
  have hv := Option.some.inj (run w os)
  obtain ⟨l1, l2, l3⟩ : _ ∧ _ ∧ _ := by simpa only [Prod.mk.injEq] using hv
  have r := topRun_mono (N - M) _ _ _ _ (top w os)
  rw [show M + (N - M) = N by have := Nat.le_of_ble_eq_true le; omega] at r
  have l1' : (staticsOk (importedModules p.main.body) (boot_heap w.params) (SF w os).abs.heap && namesBound p (SF w os).abs.heap && gensDone (SF w os).abs && laidKept (boot_heap w.params) (SF w os).abs.heap) = true := l1
  have t : topFrom treeTable p w N ⟨boot_heap w.params, Array.mk [], boot_drawn, boot_toks, os⟩ = some (SF w os).abs := by
    unfold topFrom
    dsimp only
    rw [boot_ns]
    show (topRun treeTable p w (boot_heap w.params).objs.size (bootAnn w) N ⟨boot_heap w.params, #[], boot_drawn, boot_toks, os⟩ (topStub p)).bind _ = _
    rw [r]
    show (match staticsOk (importedModules p.main.body) (boot_heap w.params) (SF w os).abs.heap && namesBound p (SF w os).abs.heap && gensDone (SF w os).abs && laidKept (boot_heap w.params) (SF w os).abs.heap with | true => some (SF w os).abs | false => none) = _
    rw [l1']
  unfold openEnds
  rw [a]
  show (topFrom treeTable p w N _).map _ = _
  rw [t]
  exact congrArg some (Prod.ext l2 l3)
def RunEq (r : OpenRow) (q : Program) (H : Hook) (ob : SharedT → H.α) (SF : World → OsState → SharedT) (loose : List PySem.Str) (w : World) : Prop :=
  ∀ os : OsState, (some (SF w os)).map (fun s => (looksF r.prog (boot_heap w.params) s.abs, seenQ q loose (importedModules r.prog.main.body) (fun s => xlAt q [] s && recOk r.toRowW.records s) s.abs, ob s)) = some (true, openGood q loose, H.val w)
theorem head_cut {r : OpenRow} {q : Program} {H : Hook} {ob : SharedT → H.α} {M : Nat} {SF : World → OsState → SharedT} {loose : List PySem.Str} {d : DefRec} {kwd : List (PySem.Str × PySem.Expr)} (ho : ∀ s : SharedT, ob s = H.obs s.abs)
    (e : opening r.prog = plainProg r.prog.main.scope.names) (f : ∀ s, fenceModules? r.prog s = some s)
    (top : ∀ (w : World) (os : OsState), topRun treeTable r.prog w (boot_heap w.params).objs.size (bootAnn w) M ⟨boot_heap w.params, #[], boot_drawn, boot_toks, os⟩ (topStub r.prog) = some (SF w os).abs)
    (run : ∀ w, RunEq r q H ob SF loose w)
    (hdef : defOf q r.name = some (d, kwd)) (hp : r.prog.theDef r.name = some (d.params, d.body, d.scope)) (hk : kwWritten? d.params.kwonlyargs d.params.kw_defaults = some kwd)
    (hwr : (!r.writes || r.records.isEmpty) = true) (k1 : r.wellSaid = true) (ok : (chainsOk q && opensWell r.prog && (frees r.toRowW && r.within.isEmpty)) = true) (hb : r.prog.bare) (hw : r.toRowW.promised)
    (call : WalkO q loose (XL q []) H.says r.toRowW d kwd fun f vs => PySem.call f vs) : r.Holds := by
  have left : LeftO r.prog q loose (fun s => xlAt q [] s && recOk r.toRowW.records s) H.obs H.val (M + 600) true :=
    left_cut (M := M) e (Nat.ble_eq_true_of_le (by omega)) f (Nat.ble_eq_true_of_le (by omega)) top fun w os => by
      have z := run w os
      have eo : ob = fun s => H.obs s.abs := funext ho
      rw [eo] at z
      simp only [seenQ_eq]
      exact z
  exact holds_open (r := r) (q := q) (loose := loose) (XP := XL q []) (YP := H.says) (d := d) (kwd := kwd) left H.of H.keeps (fun s z => xl_of s (Bool.and_eq_true_iff.mp z).1) XL.keeps hdef hp hk (fun s z => recFacts_of (Bool.and_eq_true_iff.mp z).2) hwr k1 ok hb hw call
theorem joinC {r : PySem.W.OpenRow} {q : Program} {D : Rn.HdD} {loose : List PySem.Str} {w : World} {x : PySem.W.SharedT} (o : Option PySem.W.SharedT) (ho : some x = o)
    (h1 : o.map (fun s => HandSHeadRun.looksF r.prog (PySem.W.boot_heap w.params) s.abs) = some true)
    (h2 : o.map (fun s => HandSHeadRun.seenQ q loose (importedModules r.prog.main.body) (fun s => PySem.W.xlAt q [] s && PySem.W.recOk r.records s) s.abs) = some (PySem.W.openGood q loose))
    (h3 : o.map (fun s => D.ex (He.frG (HandSHeadRun.getT s) D.as)) = some true) (h4 : o.map (fun s => D.fs.map (Rn.fnX (He.frG (HandSHeadRun.getT s) D.as))) = some D.fv)
    (h5 : o.map (fun s => D.ds.map (He.dicW (He.frG (HandSHeadRun.getT s) D.as))) = some (D.dk.map fun ks => some (He.keysIn w.params ks))) :
    Option.map (fun s => (HandSHeadRun.looksF r.prog (PySem.W.boot_heap w.params) s.abs, HandSHeadRun.seenQ q loose (importedModules r.prog.main.body) (fun s => PySem.W.xlAt q [] s && PySem.W.recOk r.records s) s.abs, Rn.obH D s)) (some x) = some (true, PySem.W.openGood q loose, (Rn.hookH D).val w) := by
  rw [ho]
  cases o with
  | none => cases h1
  | some s =>
    have e1 := Option.some.inj h1
    have e2 := Option.some.inj h2
    have e3 := Option.some.inj h3
    have e4 := Option.some.inj h4
    have e5 := Option.some.inj h5
    show some (_, _, (D.ex (He.frG (HandSHeadRun.getT s) D.as), D.fs.map (Rn.fnX (He.frG (HandSHeadRun.getT s) D.as)), D.ds.map (He.dicW (He.frG (HandSHeadRun.getT s) D.as)))) = some (true, _, (true, D.fv, D.dk.map fun ks => some (He.keysIn w.params ks)))
    dsimp only at e1 e2 e3 e4 e5
    rw [e1, e2, e3, e4, e5]
end
end Ct
namespace Dv
open PySem PySem.Spec PyProof.Rows L2
set_option autoImplicit false
noncomputable section
/-! ### a list of lists, all of one's own: S4; S5 of k16's law -/
section
variable {K : PySem.W.Frag} {S : Nat → Addr} {B : Base} {L L' M : Lk} {G H G' H' : Hp} {env : Env} {σ : L2.St}
theorem ste_mem (st : Ste B L G H) (h : ∀ p, p ∈ L' ↔ p ∈ L) : Ste B L' G H :=
  ⟨st.g0, st.inn, st.new, fun a o e r l => st.keep a o e r fun p hp => l p ((h p).mpr hp), fun p hp => st.lock p ((h p).mp hp), fun a e => let ⟨h1, h2, h3, h4⟩ := st.par a e; ⟨h1, h2, h3, fun p hp => h4 p ((h p).mp hp)⟩, fun p hp => st.out p ((h p).mp hp)⟩
theorem rel_mem (rl : Rel K S B L G H env σ) (h : ∀ p, p ∈ L' → p ∈ L) : Rel K S B L' G H env σ := ⟨rl.at_, rl.nd, fun i s a h1 o1 h3 p hp => rl.nl i s a h1 o1 h3 p (h p hp)⟩
theorem ste_drop (st : Ste B (M ++ L) G H) (hb : ∀ p ∈ M, B.H p.1 = none) : Ste B L G H :=
  ⟨st.g0, st.inn, st.new, fun a o e r l => st.keep a o e r fun p hp => (List.mem_append.mp hp).elim (fun q => fun z => by rw [← z, hb p q] at e; cases e) (l p), fun p hp => st.lock p (List.mem_append_right _ hp), fun a e => let ⟨h1, h2, h3, h4⟩ := st.par a e; ⟨h1, h2, h3, fun p hp => h4 p (List.mem_append_right _ hp)⟩, fun p hp => st.out p (List.mem_append_right _ hp)⟩
/-- an object that is there is pinned -/
theorem ste_pin2 (st : Ste B L G H) {p : Addr} {o : HO} (hp : H p = some o) (hg : G p = none) (hb : B.H p = none) : Ste B ((p, o) :: L) G H := by
  refine ⟨st.g0, st.inn, st.new, fun a u e r l => st.keep a u e r fun q hq => l q (List.mem_cons_of_mem _ hq), fun q hq => ?_, fun a e => ?_, fun q hq hf => ?_⟩
  · rcases List.mem_cons.mp hq with rfl | hq
    · exact hp
    · exact st.lock q hq
  · obtain ⟨h1, h2, h3, h4⟩ := st.par a e
    refine ⟨h1, h2, h3, fun q hq => ?_⟩
    rcases List.mem_cons.mp hq with rfl | hq
    · intro z
      have z : p = a := z
      subst z
      exact h3 hb
    · exact h4 q hq
  · rcases List.mem_cons.mp hq with rfl | hq
    · exact hg
    · exact st.out q hq hf
theorem rel_pin2 (rl : Rel K S B L G H env σ) {p : Addr} {o : HO} (hn : ∀ (i : Nat) (s : Sl), env[i]? = some s → isOwn s = true → σ[i]? ≠ some (some (V.ref p))) : Rel K S B ((p, o) :: L) G H env σ := ⟨rl.at_, rl.nd, fun j s a h1 o1 h3 q hq => by
  rcases List.mem_cons.mp hq with rfl | hq
  · intro z
    have z : p = a := z
    subst z
    exact hn j s h1 o1 h3
  · exact rl.nl j s a h1 o1 h3 q hq⟩
theorem fz_all : ∀ (as : List Addr) (vss : List (List V)) (ds : List (List D)) (G : Hp), Ste B L G H → Rel K S B L G H env σ → Paired (RepL K S G) ds vss → as.length = vss.length → as.Nodup →
    (∀ a ∈ as, G a = none ∧ B.H a = none ∧ (∀ (i : Nat) (s : Sl), env[i]? = some s → isOwn s = true → σ[i]? ≠ some (some (V.ref a))) ∧ ∀ p ∈ L, p.1 ≠ a) → (∀ p ∈ as.zip vss, H p.1 = some (.lst p.2)) →
    ∃ G', Same G G' ∧ Ste B L G' H ∧ Rel K S B L G' H env σ ∧ RepL K S G' (ds.map .lst) (as.map V.ref) ∧ (∀ b, b ∉ as → G' b = G b) ∧ ∀ p ∈ as.zip vss, G' p.1 = some (.lst p.2)
  | [], vss, ds, G, st, rl, hp, hl, _, _, _ => by
    have : vss = [] := List.length_eq_zero_iff.mp hl.symm
    subst this
    cases hp
    exact ⟨G, .refl _, st, rl, rfl, fun _ _ => rfl, fun _ h => by cases h⟩
  | a :: as, vss, ds, G, st, rl, hp, hl, nd, ha, hh => by
    cases hp with
    | nil => cases hl
    | @cons d vs ds vss q t =>
      obtain ⟨g1, b1, n1, l1⟩ := ha a (List.mem_cons_self ..)
      have h1 := hh (a, vs) (List.mem_cons_self ..)
      obtain ⟨s1, s2, s3, s4⟩ := freeze (d := .lst d) st rl g1 b1 h1 n1 l1 ⟨vs, rfl, q⟩
      obtain ⟨G', e1, e2, e3, e4, e5, e6⟩ := fz_all as vss ds (upd G a (.lst vs)) s2 s3 (L2.Paired.mapP t fun _ _ z => z.mono s1) (by simpa using hl) (List.nodup_cons.mp nd).2 (fun b hb => by
        obtain ⟨x1, x2, x3, x4⟩ := ha b (List.mem_cons_of_mem _ hb)
        refine ⟨?_, x2, x3, x4⟩
        exact (upd_ne (show b ≠ a from fun e => (List.nodup_cons.mp nd).1 (e ▸ hb))).trans x1) fun p hp => hh p (List.mem_cons_of_mem _ hp)
      refine ⟨G', s1.trans e1, e2, e3, ⟨_, _, rfl, s4.mono e1, e4⟩, fun b hb => ?_, fun p hp => ?_⟩
      · exact (e5 b (fun z => hb (List.mem_cons_of_mem _ z))).trans (upd_ne (show b ≠ a from fun e => hb (e ▸ List.mem_cons_self ..)))
      · rcases List.mem_cons.mp hp with rfl | hp
        · exact e1 _ _ upd_same
        · exact e6 p hp
/-! the state -/
abbrev pinL (P : Addr) (as : List Addr) (vss : List (List V)) : Lk := (P, .lst (as.map V.ref)) :: (as.zip vss).map fun p => (p.1, HO.lst p.2)
structure Nst (K : PySem.W.Frag) (S : Nat → Addr) (B : Base) (L : Lk) (G : Hp) (ds : List (List D)) (P : Addr) (as : List Addr) (vss : List (List V)) : Prop where
  len : as.length = vss.length
  rep : Paired (RepL K S G) ds vss
  nd : (P :: as).Nodup
  bh : ∀ a ∈ P :: as, B.H a = none
  nl : ∀ q ∈ L, q.1 ∉ P :: as
theorem Nst.up {ds : List (List D)} {P : Addr} {as : List Addr} {vss : List (List V)} (n : Nst K S B L G ds P as vss) (h : Same G G') : Nst K S B L G' ds P as vss := ⟨n.len, L2.Paired.mapP n.rep fun _ _ z => z.mono h, n.nd, n.bh, n.nl⟩
theorem pin_mem {P : Addr} {as : List Addr} {vss : List (List V)} {p : Addr × HO} (h : p ∈ pinL P as vss) : p.1 ∈ P :: as := by
  rcases List.mem_cons.mp h with rfl | h
  · exact List.mem_cons_self ..
  · obtain ⟨q, hq, rfl⟩ := List.mem_map.mp h
    exact List.mem_cons_of_mem _ (List.of_mem_zip hq).1
theorem zip_get {α β : Type} {a : α} : ∀ {as : List α} {bs : List β}, as.length = bs.length → a ∈ as → ∃ b, (a, b) ∈ as.zip bs
  | [], _, _, h => by cases h
  | x :: as, [], hl, _ => by cases hl
  | x :: as, b :: bs, hl, h => by
    rcases List.mem_cons.mp h with rfl | h
    · exact ⟨b, List.mem_cons_self ..⟩
    · obtain ⟨c, hc⟩ := zip_get (by simpa using hl) h
      exact ⟨c, List.mem_cons_of_mem _ hc⟩
theorem pin_get {P a : Addr} {as : List Addr} {vss : List (List V)} (hl : as.length = vss.length) (h : a ∈ P :: as) : ∃ l, (a, HO.lst l) ∈ pinL P as vss := by
  rcases List.mem_cons.mp h with rfl | h
  · exact ⟨_, List.mem_cons_self ..⟩
  · obtain ⟨b, hb⟩ := zip_get hl h
    exact ⟨b, List.mem_cons_of_mem _ (List.mem_map.mpr ⟨_, hb, rfl⟩)⟩
abbrev lls (ds : List (List D)) : D := .lst (ds.map .lst)
/-- all becomes a value -/
theorem nst_freeze {ds : List (List D)} {P : Addr} {as : List Addr} {vss : List (List V)} {i : Nat} (n : Nst K S B L G ds P as vss) (st : Ste B (pinL P as vss ++ L) G H) (rl : Rel K S B (pinL P as vss ++ L) G H env σ) (hi : ∀ x, σ[i]? = some x → x = some (V.ref P)) :
    ∃ G', Same G G' ∧ Ste B L G' H ∧ Rel K S B L G' H (env.set i (.val (lls ds))) σ ∧ (∀ p ∈ pinL P as vss, G' p.1 = some p.2) ∧ Rep K S G' (lls ds) (.ref P) := by
  have st0 := ste_drop st fun p hp => n.bh p.1 (pin_mem hp)
  have rl0 : Rel K S B L G H env σ := rel_mem rl fun p hp => List.mem_append_right _ hp
  have own : ∀ a ∈ P :: as, ∀ (i : Nat) (s : Sl), env[i]? = some s → isOwn s = true → σ[i]? ≠ some (some (V.ref a)) := fun a ha j s h1 o1 h3 => by
    obtain ⟨l, hl⟩ := pin_get n.len ha
    exact rl.nl j s a h1 o1 h3 _ (List.mem_append_left _ hl) rfl
  have gn : ∀ a ∈ P :: as, G a = none := fun a ha => by
    obtain ⟨l, hl⟩ := pin_get n.len ha
    exact st.out _ (List.mem_append_left _ hl) fun _ _ h => by cases h
  have ln : ∀ a ∈ P :: as, ∀ p ∈ L, p.1 ≠ a := fun a ha p hp e => n.nl p hp (e ▸ ha)
  obtain ⟨G1, e1, e2, e3, e4, e5, e6⟩ := fz_all as vss ds G st0 rl0 n.rep n.len (List.nodup_cons.mp n.nd).2 (fun a ha => ⟨gn a (List.mem_cons_of_mem _ ha), n.bh a (List.mem_cons_of_mem _ ha), own a (List.mem_cons_of_mem _ ha), ln a (List.mem_cons_of_mem _ ha)⟩) fun p hp => st.lock (p.1, .lst p.2) (List.mem_append_left _ (List.mem_cons_of_mem _ (List.mem_map.mpr ⟨p, hp, rfl⟩)))
  have hP := st.lock (P, .lst (as.map V.ref)) (List.mem_append_left _ (List.mem_cons_self ..))
  have gP : G1 P = none := (e5 P (List.nodup_cons.mp n.nd).1).trans (gn P (List.mem_cons_self ..))
  obtain ⟨s1, s2, s3, s4⟩ := freeze (d := lls ds) e2 e3 gP (n.bh P (List.mem_cons_self ..)) hP (own P (List.mem_cons_self ..)) (ln P (List.mem_cons_self ..)) ⟨_, rfl, e4⟩
  refine ⟨_, e1.trans s1, s2, rel_val s3 fun x hx => ⟨_, hi x hx, s4⟩, fun p hp => ?_, s4⟩
  rcases List.mem_cons.mp hp with rfl | hp
  · exact upd_same
  · obtain ⟨q, hq, rfl⟩ := List.mem_map.mp hp
    exact s1 _ _ (e6 q hq)
def flatE (env : Env) : Prop := ∀ (j : Nat) (s : Sl), env[j]? = some s → isOwn s = true → ∃ ns : List Int, cont s = some (.lst (ns.map .int))
theorem ints_any {G G' : Hp} : ∀ {ns : List Int} {vs : List V}, RepL K S G (ns.map .int) vs → RepL K S G' (ns.map .int) vs
  | [], _, h => h
  | n :: r, _, ⟨v, ws, e, q, t⟩ => ⟨v, ws, e, q, ints_any t⟩
/-- behind an evaluation that changes nothing -/
theorem nst_back {P : Addr} {as : List Addr} {vss : List (List V)} {i : Nat} {Gf : Hp} {d : D} (st : Ste B (pinL P as vss ++ L) G H) (rl : Rel K S B (pinL P as vss ++ L) G H env σ) (hf : flatE env) (sm : Same G Gf) (hG : ∀ p ∈ pinL P as vss, Gf p.1 = some p.2)
    (hno : ∀ s, env[i]? = some s → isOwn s = false) (sm' : Same Gf G') (st' : Ste B L G' H') (rl' : Rel K S B L G' H' (env.set i (.val d)) σ) : Ste B (pinL P as vss ++ L) G H' ∧ Rel K S B (pinL P as vss ++ L) G H' env σ := by
  have inn : Inn G H' := fun a u e => st'.inn a u (sm' _ _ (sm _ _ e))
  refine ⟨⟨st.g0, inn, st.new, fun a o e r l => st'.keep a o e r fun p hp => l p (List.mem_append_right _ hp), fun p hp => ?_, fun a e => ?_, st.out⟩, ⟨paired_of (paired_len rl.at_) fun j s x h1 h2 => ?_, rl.nd, rl.nl⟩⟩
  · rcases List.mem_append.mp hp with hp | hp
    · have g := sm' _ _ (hG p hp)
      obtain ⟨l, hl⟩ : ∃ l, p.2 = HO.lst l := by
        rcases List.mem_cons.mp hp with rfl | hp
        · exact ⟨_, rfl⟩
        · obtain ⟨q, hq, rfl⟩ := List.mem_map.mp hp
          exact ⟨_, rfl⟩
      rw [hl] at g ⊢
      exact st'.inn.lst g
    · exact st'.lock p hp
  · obtain ⟨h1, h2, h3, h4⟩ := st.par a e
    exact ⟨h1, (st'.par a e).2.1, h3, h4⟩
  · obtain ⟨y, hy, q⟩ := rel_at rl h1
    rw [h2] at hy
    cases hy
    by_cases ho : isOwn s = true
    · obtain ⟨ns, hc⟩ := hf j s h1 ho
      have hj : j ≠ i := fun e => by subst e; rw [hno s h1] at ho; cases ho
      obtain ⟨y, hy, q'⟩ := rel_at rl' (by rw [List.getElem?_set_ne (fun e => hj e.symm)]; exact h1)
      rw [h2] at hy
      cases hy
      cases s with
      | box d =>
        cases hc
        obtain ⟨a, o, rfl, g, b, ha, r⟩ := q
        obtain ⟨a', o', e, _, _, ha', vs, rfl, r'⟩ := q'
        cases e
        exact ⟨a, _, rfl, g, b, ha', vs, rfl, ints_any r'⟩
      | par d =>
        cases hc
        obtain ⟨a, o, rfl, b, ha, r⟩ := q
        obtain ⟨a', o', e, _, ha', vs, rfl, r'⟩ := q'
        cases e
        exact ⟨a, _, rfl, b, ha', vs, rfl, ints_any r'⟩
      | _ => cases ho
    · cases s with
      | no => trivial
      | val d => exact q
      | _ => exact (ho rfl).elim
end
end
end Dv
namespace Dv
open PySem PySem.Spec PyProof.Rows L2
set_option autoImplicit false
noncomputable section
def cmpN (eg : Eg) (ee : Ev) (vs : List Nat) : List D → List (List D) → Env → Option (Env × List (List D))
  | [], acc, env => some (wipeE env vs, acc)
  | x :: xs, acc, env => match eg x (wipeE env vs) with
    | none => none
    | some e1 => match ee e1 with
      | .ok (.lst ys) e2 => if acc.length < 1000000 then cmpN eg ee vs xs (acc ++ [ys]) e2 else none
      | _ => none
section
variable {K : PySem.W.Frag} {S : Nat → Addr} {X : Cx} {E : XK} {e iter tg elt : Expr} {ee : Ev} {ei : EvI} {eg : Eg} {g : TG} {gs vs : List Nat} {et : EvT} {pos : Pos}
theorem paired_snoc {α γ : Type} {F : α → γ → Prop} {a : α} {c : γ} (h : F a c) : ∀ {l : List α} {m : List γ}, Paired F l m → Paired F (l ++ [a]) (m ++ [c])
  | _, _, .nil => .cons h .nil
  | _, _, .cons q t => .cons q (paired_snoc h t)
theorem lcN_core {σ : L2.St} {Q : VK} {B : Base} {L : Lk} {G1 H1 : Hp} {e1 : Env} {J : It} {ds : List D} (sg : SndG K S gs eg g) (hv : ∀ i ∈ gs, i ∈ vs) (st1 : Ste B L G1 H1) (rl1 : Rel K S B L G1 H1 e1 σ) (hJ : ItOk K S B L G1 J ds) {env2 : Env} {ds2 : List (List D)} (hc : cmpN eg ee vs ds [] e1 = some (env2, ds2))
    (hQ : ∀ P as vss G' H', Same G1 G' → Nst K S B L G' ds2 P as vss → Ste B (pinL P as vss ++ L) G' H' → Rel K S B (pinL P as vss ++ L) G' H' env2 σ → Q (.ref P) H') :
    ∀ P, H1 P = none → ∃ W : Nat → Nat → Hp → Prop, (∃ m, W 0 m (upd H1 P (.lst []))) ∧ ∀ i m H, W i m H →
      (J.stop i H ∧ Q (.ref P) H) ∨ (J.go i H ∧ ∃ Nx : Hp → Prop, (∀ H', Nx H' → ∃ m', m' < m ∧ W (i + 1) m' H') ∧ ∀ x H', J.yld i H x H' → g x (wipe σ vs) H' fun σ2 H2 => wipe σ2 vs = wipe σ vs ∧ tYes σ2 H2 fun b H3 =>
        if b = true then TF K S E0 ee σ2 H3 fun y H4 => ∃ acc, H4 P = some (.lst acc) ∧ acc.length < sizeLine ∧ Nx (upd H4 P (.lst (acc ++ [y]))) else Nx H3) := by
  intro P hP
  have hbP := st1.free hP
  have hlP := st1.nolock hP
  refine ⟨fun i m H' => ∃ G' env' acc as vss, Same G1 G' ∧ Nst K S B L G' acc P as vss ∧ Ste B (pinL P as vss ++ L) G' H' ∧ Rel K S B (pinL P as vss ++ L) G' H' (wipeE env' vs) (wipe σ vs) ∧ m = (ds.drop i).length ∧ cmpN eg ee vs (ds.drop i) acc env' = some (env2, ds2),
    ⟨_, G1, e1, [], [], [], .refl _, ⟨rfl, .nil, by simp, fun a ha => ?_, fun q hq => ?_⟩, ste_pin st1 hP, rel_off (rel_wipes (rel_pin rl1 st1.inn hP)) wipe_wipe (wipe_length _ _), rfl, hc⟩, ?_⟩
  · rcases List.mem_cons.mp ha with rfl | ha
    · exact hbP
    · cases ha
  · intro hq2
    rcases List.mem_cons.mp hq2 with e | hq2
    · exact hlP q hq e
    · cases hq2
  rintro i m H' ⟨G', env', acc, as, vss, sm, ns, st', rl', rfl, po'⟩
  have stU := ste_drop st' fun p hp => ns.bh p.1 (pin_mem hp)
  obtain ⟨t1, t2⟩ := hJ i G' H' sm stU
  cases hd : ds[i]? with
  | none =>
    have e : ds.drop i = [] := List.drop_eq_nil_iff.mpr (List.getElem?_eq_none_iff.mp hd)
    rw [e] at po'
    have po' : some (wipeE env' vs, acc) = some (env2, ds2) := po'
    cases po'
    exact .inl ⟨t1 hd, hQ P as vss G' H' sm ns st' (rel_off rl' wipe_wipe.symm (wipe_length _ _).symm)⟩
  | some d =>
    obtain ⟨g1, g2⟩ := t2 d hd
    have e := drop_at hd
    rw [e] at po'
    refine .inr ⟨g1, fun H2 => ∃ G' env' acc as vss, Same G1 G' ∧ Nst K S B L G' acc P as vss ∧ Ste B (pinL P as vss ++ L) G' H2 ∧ Rel K S B (pinL P as vss ++ L) G' H2 (wipeE env' vs) (wipe σ vs) ∧ cmpN eg ee vs (ds.drop (i + 1)) acc env' = some (env2, ds2),
      fun H2 ⟨G2, env2, acc2, as2, vss2, a1, a2, a3, a4, a5⟩ => ⟨(ds.drop (i + 1)).length, by rw [e, List.length_cons]; omega, G2, env2, acc2, as2, vss2, a1, a2, a3, a4, rfl, a5⟩, fun x H2 hy => ?_⟩
    obtain ⟨G2, ex, rx⟩ := g2 x H2 hy
    have st2 := st'.ex ex
    have rl2 := rl'.ex ex
    have ns2 := ns.up ex.g
    have cm : cmpN eg ee vs (d :: ds.drop (i + 1)) acc env' = match eg d (wipeE env' vs) with
      | none => none
      | some e1 => match ee e1 with
        | .ok (.lst ys) e2 => if acc.length < 1000000 then cmpN eg ee vs (ds.drop (i + 1)) (acc ++ [ys]) e2 else none
        | _ => none := rfl
    rw [cm] at po'
    cases hg : eg d (wipeE env' vs) with
    | none => rw [hg] at po'; cases po'
    | some e3 =>
      rw [hg] at po'
      dsimp only at po'
      refine sg B _ G2 H2 (wipeE env' vs) e3 (wipe σ vs) d x _ st2 rl2 rx hg fun σ3 rl3 w3 => ⟨(w3 vs hv).trans wipe_wipe, ?_⟩
      have hσ : wipe σ3 vs = wipe σ vs := (w3 vs hv).trans wipe_wipe
      have lσ : σ3.length = σ.length := by
        have := congrArg List.length hσ
        rw [wipe_length, wipe_length] at this
        exact this
      unfold tYes
      dsimp only
      rw [if_pos rfl]
      refine ⟨B, _, G2, e3, st2, rl3, ?_⟩
      cases he : ee e3 with
      | no => rw [he] at po'; cases po'
      | ex C fs e5 => rw [he] at po'; cases po'
      | ok y e5 =>
        rw [he] at po'
        cases y with
        | lst ys =>
          dsimp only at po'
          intro G5 H5 sm5 st5 rl5 a o ga ba ha hn hl ro
          obtain ⟨ws, rfl, ro⟩ := ro
          by_cases hz : acc.length < 1000000
          · rw [if_pos hz] at po'
            have hPn : P ≠ a := hl (P, _) (List.mem_append_left _ (List.mem_cons_self ..))
            have ha' : a ∉ P :: as := fun h => by
              obtain ⟨l, hl'⟩ := pin_get ns.len h
              exact hl _ (List.mem_append_left _ hl') rfl
            have hla : as.length = acc.length := by rw [ns.len, ← paired_len ns.rep]
            have zz : (as ++ [a]).zip (vss ++ [ws]) = as.zip vss ++ [(a, ws)] := by rw [List.zip_append ns.len]; rfl
            have hm : ∀ (u : HO) p, p ∈ (P, u) :: ((a, HO.lst ws) :: ((as.zip vss).map (fun p => (p.1, HO.lst p.2)) ++ L)) ↔ p ∈ (P, u) :: (((as ++ [a]).zip (vss ++ [ws])).map (fun p => (p.1, HO.lst p.2)) ++ L) := fun u p => by
              rw [zz, List.map_append]
              simp only [List.mem_cons, List.mem_append, List.map_cons, List.map_nil]
              constructor
              · rintro (h | h | h | h)
                · exact .inl h
                · exact .inr (.inl (.inr (.inl h)))
                · exact .inr (.inl (.inl h))
                · exact .inr (.inr h)
              · rintro (h | (h | h | h) | h)
                · exact .inl h
                · exact .inr (.inr (.inl h))
                · exact .inr (.inl h)
                · cases h
                · exact .inr (.inr (.inr h))
            have sw : ∀ p, p ∈ (P, HO.lst (as.map V.ref)) :: ((a, HO.lst ws) :: ((as.zip vss).map (fun p => (p.1, HO.lst p.2)) ++ L)) ↔ p ∈ (a, HO.lst ws) :: (pinL P as vss ++ L) := fun p => by
              simp only [List.mem_cons, List.mem_append]
              constructor
              · rintro (h | h | h | h)
                · exact .inr (.inl (.inl h))
                · exact .inl h
                · exact .inr (.inl (.inr h))
                · exact .inr (.inr h)
              · rintro (h | (h | h) | h)
                · exact .inr (.inl h)
                · exact .inl h
                · exact .inr (.inr (.inl h))
                · exact .inr (.inr (.inr h))
            have s1 := ste_mem (ste_pin2 (o := HO.lst ws) st5 ha ga ba) sw
            have s2 := ste_repin (u := .lst (as.map V.ref ++ [V.ref a])) s1 hbP (fun q hq => by
              rcases List.mem_cons.mp hq with rfl | hq
              · exact fun e => hPn e.symm
              · rcases List.mem_append.mp hq with hq | hq
                · obtain ⟨z, hz, rfl⟩ := List.mem_map.mp hq
                  exact fun e => (List.nodup_cons.mp ns.nd).1 (by rw [← show z.1 = P from e]; exact (List.of_mem_zip hz).1)
                · exact hlP q hq) (fun _ _ h => by cases h)
            have r1 := rel_mem (L' := (P, HO.lst (as.map V.ref)) :: ((a, HO.lst ws) :: ((as.zip vss).map (fun p => (p.1, HO.lst p.2)) ++ L))) (rel_pin2 (o := HO.lst ws) rl5 hn) fun p hp => (sw p).mp hp
            have r2 := rel_repin (u := .lst (as.map V.ref ++ [V.ref a])) r1
            have e2 : (as ++ [a]).map V.ref = as.map V.ref ++ [V.ref a] := by rw [List.map_append]; rfl
            refine ⟨as.map V.ref, st5.lock _ (List.mem_append_left _ (List.mem_cons_self ..)), len9 (by rw [List.length_map, hla]; exact hz), G5, e5, acc ++ [ys], as ++ [a], vss ++ [ws], (sm.trans ex.g).trans sm5, ⟨by simp [ns.len], paired_snoc ro (L2.Paired.mapP ns2.rep fun _ _ z => z.mono sm5), ?_, fun b hb => ?_, fun q hq hb => ?_⟩, ?_, ?_, po'⟩
            · rw [← List.cons_append, List.nodup_append]
              refine ⟨ns.nd, by simp, fun x hx y hy => ?_⟩
              rw [List.mem_singleton.mp hy]
              exact fun e => ha' (e ▸ hx)
            · rcases List.mem_cons.mp hb with rfl | hb
              · exact hbP
              · rcases List.mem_append.mp hb with hb | hb
                · exact ns.bh b (List.mem_cons_of_mem _ hb)
                · rw [List.mem_singleton.mp hb]; exact ba
            · rcases List.mem_cons.mp hb with e | hb
              · exact hlP q hq e
              · rcases List.mem_append.mp hb with hb | hb
                · exact ns.nl q hq (List.mem_cons_of_mem _ hb)
                · exact hl q (List.mem_append_right _ hq) (List.mem_singleton.mp hb)
            · show Ste B ((P, HO.lst ((as ++ [a]).map V.ref)) :: (((as ++ [a]).zip (vss ++ [ws])).map (fun p => (p.1, HO.lst p.2)) ++ L)) G5 _
              rw [e2]
              exact ste_mem s2 fun p => (hm _ p).symm
            · show Rel K S B ((P, HO.lst ((as ++ [a]).map V.ref)) :: (((as ++ [a]).zip (vss ++ [ws])).map (fun p => (p.1, HO.lst p.2)) ++ L)) G5 _ _ _
              rw [e2]
              exact rel_mem (rel_off (rel_wipes r2) (by rw [wipe_wipe]; exact hσ.symm) (by rw [wipe_length, lσ])) fun p hp => (hm _ p).mpr hp
          · rw [if_neg hz] at po'
            cases po'
        | _ => cases po'
end
end
end Dv
namespace Dv
open PySem PySem.Spec PyProof.Rows L2
set_option autoImplicit false
noncomputable section
open Classical in
def forN (i : Nat) (eg : Eg) (et : EvT) (er : EvA) : List D → Env → List (List D) → Option (Env × List (List D))
  | [], env, ds => some (env, ds)
  | x :: xs, env, ds => match eg x env with
    | none => none
    | some e1 => if flatE e1 ∧ (∀ s, e1[i]? = some s → isOwn s = false) then (match et (e1.set i (.val (lls ds))) with
        | .ok b e2 => if e2 = e1.set i (.val (lls ds)) then (match b with
          | true => (match er e1 with
            | .ok [y] e3 => (match ds with
              | d0 :: r => if d0.length < 1000000 then forN i eg et er xs e3 ((d0 ++ [y]) :: r) else none
              | [] => none)
            | _ => none)
          | false => forN i eg et er xs e1 ds) else none
        | _ => none)
      else none
section
variable {K : PySem.W.Frag} {S : Nat → Addr} {E : XK} {eg : Eg} {g : TG} {gs : List Nat} {et : EvT} {er : EvA}
theorem atI0 {x : V} {r : List V} : atI (x :: r) 0 = some x := by
  unfold atI ixN
  rw [if_pos (by decide), if_pos (by rw [List.length_cons]; omega)]
  rfl
theorem forN_core {i : Nat} {σ : L2.St} {B : Base} {L : Lk} {G1 H1 : Hp} {e1 : Env} {D : Ends} {J : It} {names : List Dv.D} {ds : List (List Dv.D)} {P0 : Addr} {as0 : List Addr} {vss0 : List (List V)} (sg : SndG K S gs eg g) (hi : i ∉ gs) (ns1 : Nst K S B L G1 ds P0 as0 vss0) (st1 : Ste B (pinL P0 as0 vss0 ++ L) G1 H1) (rl1 : Rel K S B (pinL P0 as0 vss0 ++ L) G1 H1 e1 σ) (hx1 : σ[i]? = some (some (V.ref P0)))
    (hJ : ItOk K S B L G1 J names) {env2 : Env} {ds2 : List (List Dv.D)} (hc : forN i eg et er names e1 ds = some (env2, ds2))
    (hQ : ∀ σ' P as vss G' H', Same G1 G' → Nst K S B L G' ds2 P as vss → Ste B (pinL P as vss ++ L) G' H' → Rel K S B (pinL P as vss ++ L) G' H' env2 σ' → σ'[i]? = some (some (V.ref P)) → D.nx σ' H') :
    ∃ W : Nat → Nat → L2.St → Hp → Prop, (∃ m, W 0 m σ H1) ∧ ∀ k m σ H, W k m σ H →
      (J.stop k H ∧ D.nx σ H) ∨ (J.go k H ∧ ∃ N : L2.St → Hp → Prop, (∀ σ' H', N σ' H' → ∃ m', m' < m ∧ W (k + 1) m' σ' H') ∧ ∀ x H', J.yld k H x H' → g x σ H' fun σ2 H2 => tIfS (TB K S E et) (tDrop (tBM K "list" rAppend (tOp (rIx K) (tVar i) (tC (.int 0))) (TAe K S E er))) tNext { D with nx := N, ct := N, bk := D.nx } σ2 H2) := by
  refine ⟨fun k m σ' H' => ∃ G' env' ds' P as vss, Same G1 G' ∧ Nst K S B L G' ds' P as vss ∧ Ste B (pinL P as vss ++ L) G' H' ∧ Rel K S B (pinL P as vss ++ L) G' H' env' σ' ∧ σ'[i]? = some (some (V.ref P)) ∧ m = (names.drop k).length ∧ forN i eg et er (names.drop k) env' ds' = some (env2, ds2),
    ⟨_, G1, e1, ds, P0, as0, vss0, .refl _, ns1, st1, rl1, hx1, rfl, hc⟩, ?_⟩
  rintro k m σ' H' ⟨G', env', ds', P, as, vss, sm, ns, st', rl', hx, rfl, po'⟩
  have stU := ste_drop st' fun p hp => ns.bh p.1 (pin_mem hp)
  obtain ⟨t1, t2⟩ := hJ k G' H' sm stU
  cases hd : names[k]? with
  | none =>
    have e : names.drop k = [] := List.drop_eq_nil_iff.mpr (List.getElem?_eq_none_iff.mp hd)
    rw [e] at po'
    have po' : some (env', ds') = some (env2, ds2) := by
      rw [← po']
      unfold forN
      rfl
    cases po'
    exact .inl ⟨t1 hd, hQ σ' P as vss G' H' sm ns st' rl' hx⟩
  | some d =>
    obtain ⟨g1, g2⟩ := t2 d hd
    have e := drop_at hd
    rw [e] at po'
    refine .inr ⟨g1, fun σ2 H2 => ∃ G' env' ds' P as vss, Same G1 G' ∧ Nst K S B L G' ds' P as vss ∧ Ste B (pinL P as vss ++ L) G' H2 ∧ Rel K S B (pinL P as vss ++ L) G' H2 env' σ2 ∧ σ2[i]? = some (some (V.ref P)) ∧ forN i eg et er (names.drop (k + 1)) env' ds' = some (env2, ds2),
      fun σ2 H2 ⟨a1, a2, a3, a4, a5, a6, a7, a8, a9, b1, b2, b3⟩ => ⟨(names.drop (k + 1)).length, by rw [e, List.length_cons]; omega, a1, a2, a3, a4, a5, a6, a7, a8, a9, b1, b2, rfl, b3⟩, fun x H2 hy => ?_⟩
    obtain ⟨G2, ex, rx⟩ := g2 x H2 hy
    have st2 := st'.ex ex
    have rl2 := rl'.ex ex
    have ns2 := ns.up ex.g
    unfold forN at po'
    cases hg : eg d env' with
    | none => rw [hg] at po'; cases po'
    | some e3 =>
      rw [hg] at po'
      dsimp only at po'
      refine sg B _ G2 H2 env' e3 σ' d x _ st2 rl2 rx hg fun σ3 rl3 w3 => ?_
      have hx3 : σ3[i]? = some (some (V.ref P)) := by
        have := congrArg (fun l : L2.St => l[i]?) (w3 gs fun _ h => h)
        simp only [wipe_at, if_neg hi] at this
        rw [this]
        exact hx
      by_cases hfl : flatE e3 ∧ (∀ s, e3[i]? = some s → isOwn s = false)
      · rw [if_pos hfl] at po'
        obtain ⟨Gf, f1, f2, f3, f4, f5⟩ := nst_freeze ns2 st2 rl3 (i := i) fun x hx' => by rw [hx3] at hx'; cases hx'; rfl
        refine ⟨B, L, Gf, e3.set i (.val (lls ds')), f2, f3, ?_⟩
        cases ht : et (e3.set i (.val (lls ds'))) with
        | no => rw [ht] at po'; cases po'
        | ex C fs e4 => rw [ht] at po'; cases po'
        | ok b e4 =>
          rw [ht] at po'
          dsimp only at po'
          by_cases h4 : e4 = e3.set i (.val (lls ds'))
          · rw [if_pos h4] at po'
            subst h4
            intro Gx Hx smx stx rlx c hc
            cases hc
            obtain ⟨st5, rl5⟩ := nst_back st2 rl3 hfl.1 f1 f4 hfl.2 smx stx rlx
            cases b with
            | false =>
              rw [if_neg (by decide)]
              exact ⟨G2, e3, ds', P, as, vss, sm.trans ex.g, ns2, st5, rl5, hx3, po'⟩
            | true =>
              rw [if_pos rfl]
              dsimp only at po'
              cases her : er e3 with
              | no => rw [her] at po'; cases po'
              | ex C fs e5 => rw [her] at po'; cases po'
              | ok ys e5 =>
                rw [her] at po'
                match ys, po' with
                | [], po' => cases po'
                | _ :: _ :: _, po' => cases po'
                | [y], po' =>
                  match ds', ns2, po' with
                  | [], _, po' => cases po'
                  | d0 :: r, ns2, po' =>
                    dsimp only at po'
                    by_cases hz : d0.length < 1000000
                    · rw [if_pos hz] at po'
                      obtain ⟨nlen, nrep, nnd, nbh, nnl⟩ := ns2
                      cases nrep with
                      | @cons _ vs0 _ vss1 q0 t0 =>
                        match as, nlen, nnd, nbh, nnl, st5, rl5 with
                        | [], nlen, _, _, _, _, _ => cases nlen
                        | a0 :: as1, nlen, nnd, nbh, nnl, st5, rl5 =>
                          have hP5 := st5.lock (P, .lst ((a0 :: as1).map V.ref)) (List.mem_append_left _ (List.mem_cons_self ..))
                          have hA5 := st5.lock (a0, .lst vs0) (List.mem_append_left _ (List.mem_cons_of_mem _ (List.mem_cons_self ..)))
                          refine ⟨V.ref P, hx3, .inl ⟨P, (a0 :: as1).map V.ref, 0, V.ref a0, rfl, rfl, SqL.of hP5, atI0, .inl ⟨rfl, _, SqL.of hA5⟩, B, _, G2, e3, st5, rl5, ?_⟩⟩
                          rw [her]
                          intro G6 H6 sm6 st6 rl6 us rv
                          obtain ⟨v, rfl, rv1⟩ := RepL.one rv
                          have hA6 := st6.lock (a0, .lst vs0) (List.mem_append_left _ (List.mem_cons_of_mem _ (List.mem_cons_self ..)))
                          refine ⟨a0, vs0, v, rfl, rfl, hA6, len9 (by rw [← q0.length]; exact hz), ?_⟩
                          have sw : ∀ (u : HO) p, p ∈ (a0, u) :: ((P, HO.lst ((a0 :: as1).map V.ref)) :: ((as1.zip vss1).map (fun p => (p.1, HO.lst p.2)) ++ L)) ↔ p ∈ (P, HO.lst ((a0 :: as1).map V.ref)) :: ((a0, u) :: ((as1.zip vss1).map (fun p => (p.1, HO.lst p.2)) ++ L)) := fun u p => by
                            simp only [List.mem_cons, List.mem_append]
                            constructor
                            · rintro (h | h | h)
                              · exact .inr (.inl h)
                              · exact .inl h
                              · exact .inr (.inr h)
                            · rintro (h | h | h)
                              · exact .inr (.inl h)
                              · exact .inl h
                              · exact .inr (.inr h)
                          have n1 := List.nodup_cons.mp nnd
                          have n2 := List.nodup_cons.mp n1.2
                          have s1 := ste_mem st6 (sw (.lst vs0))
                          have s2 := ste_repin (u := .lst (vs0 ++ [v])) s1 (nbh a0 (List.mem_cons_of_mem _ (List.mem_cons_self ..))) (fun q hq => by
                            rcases List.mem_cons.mp hq with rfl | hq
                            · exact fun e => n1.1 (by rw [show P = a0 from e]; exact List.mem_cons_self ..)
                            · rcases List.mem_append.mp hq with hq | hq
                              · obtain ⟨z, hz, rfl⟩ := List.mem_map.mp hq
                                exact fun e => n2.1 (by rw [← show z.1 = a0 from e]; exact (List.of_mem_zip hz).1)
                              · exact fun e => nnl q hq (by rw [e]; exact List.mem_cons_of_mem _ (List.mem_cons_self ..))) (fun _ _ h => by cases h)
                          have r1 := rel_mem rl6 fun p hp => (sw (.lst vs0) p).mp hp
                          have r2 := rel_repin (u := .lst (vs0 ++ [v])) r1
                          exact ⟨G6, e5, (d0 ++ [y]) :: r, P, a0 :: as1, (vs0 ++ [v]) :: vss1, (sm.trans ex.g).trans sm6, ⟨nlen, .cons ((q0.mono sm6).app (.cons rv1 .nil)) (L2.Paired.mapP t0 fun _ _ z => z.mono sm6), nnd, nbh, nnl⟩, ste_mem s2 fun p => (sw _ p).symm, rel_mem r2 fun p hp => (sw _ p).mpr hp, hx3, po'⟩
                    · rw [if_neg hz] at po'
                      cases po'
          · rw [if_neg h4] at po'
            cases po'
      · rw [if_neg hfl] at po'
        cases po'
end
end
end Dv
namespace Dv
open PySem PySem.Spec PyProof.Rows L2
set_option autoImplicit false
noncomputable section
def xThaw (k : Nat) (f : EvS) : EvS := fun env => match env[k]? with
  | some (.box d) => f (env.set k (.val d))
  | _ => f env
abbrev N4 := Env → Option (Env × List (List D))
abbrev N5 := Env → List (List D) → Option (Env × List (List D))
def nest4 (ei : EvI) (eg : Eg) (ee : Ev) (vs : List Nat) : N4 := fun env => match ei env with
  | .ok ds e => cmpN eg ee vs ds [] e
  | _ => none
def nest5 (tc : EvT) (n i : Nat) (eg : Eg) (et : EvT) (er : EvA) : N5 := fun env ds => match tc env with
  | .ok true e => (match e[n]? with
    | some (.val d) => (match seqD d with
      | some xs => forN i eg et er xs e ds
      | none => none)
    | _ => none)
  | .ok false e => some (e, ds)
  | _ => none
def xNest (i : Nat) (a : N4) (b : N5) : EvS := fun env => match a env with
  | some (e1, ds1) => if i < e1.length then (match b (e1.set i .no) ds1 with
    | some (e2, ds2) => .nx (e2.set i (.val (lls ds2)))
    | none => .no) else .no
  | none => .no
section
variable {K : PySem.W.Frag} {S : Nat → Addr} {X : Cx} {E : XK} {eg : Eg} {g : TG} {gs : List Nat} {et : EvT} {er : EvA}
theorem ss_thaw {sts : List Stmt} {f : EvS} (k : Nat) (h : QSs S X E sts f) : QSs S X E sts (xThaw k f) := pss_of h fun D σ H ⟨B, L, G, env, st, rl, po⟩ => by
  unfold xThaw at po
  split at po
  · rename_i d hd
    obtain ⟨v, G', hx, s1, s2, s3, s4⟩ := thaw st rl hd
    exact ⟨B, L, G', _, s2, s3, po.up s1⟩
  · exact ⟨B, L, G, env, st, rl, po⟩
theorem rel_setno {B : Base} {L : Lk} {G H : Hp} {env : Env} {σ : L2.St} {i : Nat} {x : Option V} (rl : Rel K S B L G H env σ) : Rel K S B L G H (env.set i .no) (σ.set i x) := by
  have key : ∀ (j : Nat) (s : Sl), (env.set i .no)[j]? = some s → isOwn s = true → j ≠ i ∧ env[j]? = some s := fun j s h1 o1 => by
    rcases set_at h1 with ⟨rfl, rfl⟩ | h
    · cases o1
    · exact h
  refine ⟨paired_of (by rw [List.length_set, List.length_set]; exact paired_len rl.at_) fun j s y h1 h2 => ?_, fun j k s t a hjk h1 h2 o1 o2 h3 h4 => ?_, fun j s a h1 o1 h3 => ?_⟩
  · rcases set_at h1 with ⟨rfl, rfl⟩ | ⟨hj, h1⟩
    · trivial
    · rw [List.getElem?_set_ne (fun e => hj e.symm)] at h2
      obtain ⟨z, hz, q⟩ := rel_at rl h1
      rw [h2] at hz
      cases hz
      exact q
  · obtain ⟨hj, h1⟩ := key j s h1 o1
    obtain ⟨hk, h2⟩ := key k t h2 o2
    rw [List.getElem?_set_ne (fun e => hj e.symm)] at h3
    rw [List.getElem?_set_ne (fun e => hk e.symm)] at h4
    exact rl.nd j k s t a hjk h1 h2 o1 o2 h3 h4
  · obtain ⟨hj, h1⟩ := key j s h1 o1
    rw [List.getElem?_set_ne (fun e => hj e.symm)] at h3
    exact rl.nl j s a h1 o1 h3
theorem seqL_ok {B : Base} {L : Lk} {G : Hp} {q : Addr} {vs : List V} {xs : List D} (hq : SqL K G q vs) (t : RepL K S G xs vs) : ItOk K S B L G (Itl K q) xs := fun i G2 H2 sm2 st2 => ⟨fun h => ⟨vs, st2.inn.seq (sm2.seq hq), rep_none t h⟩, fun d h => by
    obtain ⟨u, hu, ru⟩ := t.get h
    refine ⟨⟨vs, u, st2.inn.seq (sm2.seq hq), hu⟩, fun x H3 ⟨e1, e2⟩ => ?_⟩
    have := e2 vs (st2.inn.seq (sm2.seq hq))
    rw [hu] at this
    cases this
    subst e1
    exact ⟨G2, .refl st2.inn, ru.mono sm2⟩⟩
theorem seqT_ok {B : Base} {L : Lk} {G : Hp} {q : Addr} {vs : List V} {xs : List D} (hq : SqT K G q vs) (t : RepL K S G xs vs) : ItOk K S B L G (Itt K q) xs := fun i G2 H2 sm2 st2 => ⟨fun h => ⟨vs, st2.inn.tup (same_sqT sm2 hq), rep_none t h⟩, fun d h => by
    obtain ⟨u, hu, ru⟩ := t.get h
    refine ⟨⟨vs, u, st2.inn.tup (same_sqT sm2 hq), hu⟩, fun x H3 ⟨e1, e2⟩ => ?_⟩
    have := e2 vs (st2.inn.tup (same_sqT sm2 hq))
    rw [hu] at this
    cases this
    subst e1
    exact ⟨G2, .refl st2.inn, ru.mono sm2⟩⟩
variable {st4 st5 : Stmt} {rest : List Stmt} {ei : EvI} {eg4 : Eg} {g4 : TG} {gs4 vs : List Nat} {ee : Ev} {tc : EvT} {n i : Nat} {ex : EvS}
theorem s_nest {own : List (Str × Nat)} (hvs : own.map (·.2) = vs) (h4 : PS X st4 (tAsg (tLc (TIt X.K S E ei) g4 tYes (TF X.K S E0 ee) (own.map (·.2))) (gName i)))
    (h5 : PS X st5 (tIfS (TB X.K S E tc) (tFor (iSeq X.K (tVar n)) g (tIfS (TB X.K S E et) (tDrop (tBM X.K "list" rAppend (tOp (rIx X.K) (tVar i) (tC (.int 0))) (TAe X.K S E er))) tNext)) tNext))
    (sg4 : SndG X.K S gs4 eg4 g4) (hv : ∀ j ∈ gs4, j ∈ vs) (sg : SndG X.K S gs eg g) (hi : i ∉ gs) (hr : QSs S X E rest ex) : QSs S X E (st4 :: st5 :: rest) (xSeq (xNest i (nest4 ei eg4 ee vs) (nest5 tc n i eg et er)) ex) := by
  subst hvs
  exact pss_of (pss_cons h4 (pss_cons h5 hr)) fun D σ H ⟨B, L, G, env, st, rl, po⟩ => by
    show TIt X.K S E ei σ H _
    refine ⟨B, L, G, env, st, rl, ?_⟩
    unfold xSeq xNest nest4 at po
    cases hei : ei env with
    | no => rw [hei] at po; exact po.elim
    | ex C fs e => rw [hei] at po; exact po.elim
    | ok ds e1 =>
      rw [hei] at po
      dsimp only at po
      cases hc : cmpN eg4 ee (own.map (·.2)) ds [] e1 with
      | none => rw [hc] at po; exact po.elim
      | some p =>
        obtain ⟨env2, ds2⟩ := p
        rw [hc] at po
        dsimp only at po
        by_cases hl : i < env2.length
        · rw [if_pos hl] at po
          intro G1 H1 sm st1 rl1 J hJ
          refine lcN_core (Q := fun x H1 => tSeq (tIfS (TB X.K S E tc) (tFor (iSeq X.K (tVar n)) g (tIfS (TB X.K S E et) (tDrop (tBM X.K "list" rAppend (tOp (rIx X.K) (tVar i) (tC (.int 0))) (TAe X.K S E er))) tNext)) tNext) (TS' X.K S E ex) D (σ.set i (some x)) H1) sg4 hv st1 rl1 hJ hc fun P as vss G' H' sm' ns st' rl' => ?_
          have hσ : i < σ.length := by rw [← paired_len rl'.at_]; exact hl
          have hx : (σ.set i (some (V.ref P)))[i]? = some (some (V.ref P)) := List.getElem?_set_self hσ
          show TB X.K S E tc (σ.set i (some (V.ref P))) H' _
          refine ⟨B, _, G', _, st', rel_setno rl', ?_⟩
          unfold nest5 at po
          cases ht : tc (env2.set i .no) with
          | no => rw [ht] at po; exact po.elim
          | ex C fs e => rw [ht] at po; exact po.elim
          | ok b e3 =>
            rw [ht] at po
            intro G2 H2 sm2 st2 rl2 c hcc
            cases hcc
            have fin : ∀ (dsx : List (List Dv.D)) (e4 : Env) (σx : L2.St) (P : Addr) (as : List Addr) (vss : List (List V)) (G3 H3 : Hp), Same G G3 → Nst X.K S B L G3 dsx P as vss → Ste B (pinL P as vss ++ L) G3 H3 → Rel X.K S B (pinL P as vss ++ L) G3 H3 e4 σx → σx[i]? = some (some (V.ref P)) → PostS X.K S E B L G D (ex (e4.set i (.val (lls dsx)))) → TS' X.K S E ex D σx H3 := fun dsx e4 σx P as vss G3 H3 a1 a2 a3 a4 a5 a6 => by
              obtain ⟨Gf, f1, f2, f3, f4, f5⟩ := nst_freeze a2 a3 a4 (i := i) fun x hx' => by rw [a5] at hx'; cases hx'; rfl
              exact ⟨B, L, Gf, _, f2, f3, a6.up (a1.trans f1)⟩
            have smA : Same G G2 := (sm.trans sm').trans sm2
            cases b with
            | false =>
              rw [if_neg (by decide)]
              exact fin ds2 e3 _ P as vss G2 H2 smA (ns.up sm2) st2 rl2 hx po
            | true =>
              rw [if_pos rfl]
              dsimp only at po
              cases hn : e3[n]? with
              | none => rw [hn] at po; exact po.elim
              | some s =>
                rw [hn] at po
                cases s with
                | val d =>
                  dsimp only at po
                  cases hs : seqD d with
                  | none => rw [hs] at po; exact po.elim
                  | some xs =>
                    rw [hs] at po
                    dsimp only at po
                    obtain ⟨y, hy, v, rfl, rv⟩ := rel_at rl2 hn
                    obtain ⟨q, ws, rfl, hq, t⟩ := seq_sq rv hs
                    cases hf : forN i eg et er xs e3 ds2 with
                    | none => rw [hf] at po; exact po.elim
                    | some p =>
                      obtain ⟨e4, ds4⟩ := p
                      rw [hf] at po
                      refine ⟨V.ref q, hy, q, rfl, ?_⟩
                      rcases hq with hq | hq
                      · exact .inl ⟨⟨ws, st2.inn.seq hq⟩, forN_core sg hi (ns.up sm2) st2 rl2 hx (seqL_ok hq t) hf fun σ' P as vss G3 H3 b1 b2 b3 b4 b5 => fin ds4 e4 σ' P as vss G3 H3 (smA.trans b1) b2 b3 b4 b5 po⟩
                      · exact .inr ⟨⟨ws, st2.inn.tup hq⟩, forN_core sg hi (ns.up sm2) st2 rl2 hx (seqT_ok hq t) hf fun σ' P as vss G3 H3 b1 b2 b3 b4 b5 => fin ds4 e4 σ' P as vss G3 H3 (smA.trans b1) b2 b3 b4 b5 po⟩
                | _ => exact po.elim
        · rw [if_neg hl] at po
          exact po.elim
end
end
end Dv
namespace K16
open PySem PySem.Spec PyProof.Rows L2 Dv
set_option autoImplicit false
noncomputable section
theorem kit_self {K : PySem.W.Frag} {C : Addr} : PySem.W.kitOne K (.ref C) (.ref C) = some true := if_pos (beq_self_eq_true _)
theorem kit_own {K : PySem.W.Frag} {C D : Addr} {r : Bool} (h1 : PySem.W.isClsIn K D = true) (h2 : PySem.W.typeIn K (.ref D) = some (.type "type")) (h3 : PySem.W.subIn K (.ref C) (.ref D) = some r) (h4 : (Value.ref C == Value.ref D) = false) :
    PySem.W.kitOne K (.ref C) (.ref D) = some r := by
  have a1 : ((PySem.W.clsIn K D).isSome && PySem.W.typeIn K (.ref D) == some (.type "type")) = true := by
    rw [h2, show (PySem.W.clsIn K D).isSome = true from h1] <;> rfl
  have a2 : PySem.W.kitCls K (.ref C) (.ref D) = some r := Eq.trans (if_pos a1) h3
  exact Eq.trans (if_neg (by rw [h4] <;> decide)) a2
def topS (i : Nat) : Stmt := PySem.Challenge.pw_oneheap_k16_nearest_integers.main.body.getD i (.Pass ⟨0, 0, 0, 0⟩)
structure Ad where
  C_Equation : Addr
  C_Form : Addr
  f_Equation___init__ : Addr
  fd_Equation___init__ : FuncData
  f_Equation_is_empty : Addr
  fd_Equation_is_empty : FuncData
  f_Equation_goes_with : Addr
  fd_Equation_goes_with : FuncData
  f_Equation_crossed_with : Addr
  fd_Equation_crossed_with : FuncData
  f_Form___init__ : Addr
  fd_Form___init__ : FuncData
  f_Form_factor_of : Addr
  fd_Form_factor_of : FuncData
  f_nearest_source : Addr
  fd_nearest_source : FuncData
  f_equation_of : Addr
  fd_equation_of : FuncData
  f_nearest_pair : Addr
  fd_nearest_pair : FuncData
  f_nearest_within : Addr
  fd_nearest_within : FuncData
  f_crossing : Addr
  fd_crossing : FuncData
  f_is_within : Addr
  fd_is_within : FuncData
  f_nearest_on_line : Addr
  fd_nearest_on_line : FuncData
  f_exact_within : Addr
  fd_exact_within : FuncData
  f_common_divisor : Addr
  fd_common_divisor : FuncData
  f_nearest_turned : Addr
  fd_nearest_turned : FuncData
  f_turns_within : Addr
  fd_turns_within : FuncData
  f_nearest_turn : Addr
  fd_nearest_turn : FuncData
  f__law_cells : Addr
  fd__law_cells : FuncData
  f__law_draw : Addr
  fd__law_draw : FuncData
  f__law_pick : Addr
  fd__law_pick : FuncData
  f__law_terms : Addr
  fd__law_terms : FuncData
  f__law_value : Addr
  fd__law_value : FuncData
  f__law_factor : Addr
  fd__law_factor : FuncData
  f__law_rows : Addr
  fd__law_rows : FuncData
  f__law_better : Addr
  fd__law_better : FuncData
  f_law : Addr
  fd_law : FuncData
/-- what the top leaves, as the proofs of the defs ask it -/
structure Txt (K : PySem.W.Frag) (mg : Str → Option Value) (A : Ad) : Prop where
  b_abs : mg "abs" = none
  b_all : mg "all" = none
  b_any : mg "any" = none
  b_divmod : mg "divmod" = none
  b_int : mg "int" = none
  b_isinstance : mg "isinstance" = none
  b_len : mg "len" = none
  b_list : mg "list" = none
  b_max : mg "max" = none
  b_min : mg "min" = none
  b_range : mg "range" = none
  b_sum : mg "sum" = none
  b_zip : mg "zip" = none
  g_Equation : mg "Equation" = some (.ref A.C_Equation)
  cl_Equation : Cls K A.C_Equation
  mk_Equation : Mk K A.C_Equation A.f_Equation___init__
  na_Equation_first : NoAttr K A.C_Equation "first"
  na_Equation_second : NoAttr K A.C_Equation "second"
  na_Equation_total : NoAttr K A.C_Equation "total"
  me_Equation_is_empty : Meth K A.C_Equation "is_empty" A.f_Equation_is_empty
  me_Equation_goes_with : Meth K A.C_Equation "goes_with" A.f_Equation_goes_with
  me_Equation_crossed_with : Meth K A.C_Equation "crossed_with" A.f_Equation_crossed_with
  g_Form : mg "Form" = some (.ref A.C_Form)
  cl_Form : Cls K A.C_Form
  mk_Form : Mk K A.C_Form A.f_Form___init__
  na_Form_terms : NoAttr K A.C_Form "terms"
  me_Form_factor_of : Meth K A.C_Form "factor_of" A.f_Form_factor_of
  F_Equation___init__ : Fun K "__init__" "Equation.__init__" (inClass (topS 2) 0) A.f_Equation___init__ A.fd_Equation___init__
  b_Equation___init__ : Binds K A.fd_Equation___init__ ["self", "first", "second", "total"] []
  F_Equation_is_empty : Fun K "is_empty" "Equation.is_empty" (inClass (topS 2) 1) A.f_Equation_is_empty A.fd_Equation_is_empty
  b_Equation_is_empty : Binds K A.fd_Equation_is_empty ["self"] []
  F_Equation_goes_with : Fun K "goes_with" "Equation.goes_with" (inClass (topS 2) 2) A.f_Equation_goes_with A.fd_Equation_goes_with
  b_Equation_goes_with : Binds K A.fd_Equation_goes_with ["self", "other"] []
  F_Equation_crossed_with : Fun K "crossed_with" "Equation.crossed_with" (inClass (topS 2) 3) A.f_Equation_crossed_with A.fd_Equation_crossed_with
  b_Equation_crossed_with : Binds K A.fd_Equation_crossed_with ["self", "other"] []
  F_Form___init__ : Fun K "__init__" "Form.__init__" (inClass (topS 16) 0) A.f_Form___init__ A.fd_Form___init__
  b_Form___init__ : Binds K A.fd_Form___init__ ["self", "terms"] []
  F_Form_factor_of : Fun K "factor_of" "Form.factor_of" (inClass (topS 16) 3) A.f_Form_factor_of A.fd_Form_factor_of
  b_Form_factor_of : Binds K A.fd_Form_factor_of ["self", "field"] []
  F_nearest_source : Fun K "nearest_source" "nearest_source" (topS 3) A.f_nearest_source A.fd_nearest_source
  b_nearest_source : Binds K A.fd_nearest_source ["forms", "names", "bounds", "made", "old"] []
  g_nearest_source : mg "nearest_source" = some (.ref A.f_nearest_source)
  F_equation_of : Fun K "equation_of" "equation_of" (topS 4) A.f_equation_of A.fd_equation_of
  b_equation_of : Binds K A.fd_equation_of ["form", "names", "value"] []
  g_equation_of : mg "equation_of" = some (.ref A.f_equation_of)
  F_nearest_pair : Fun K "nearest_pair" "nearest_pair" (topS 5) A.f_nearest_pair A.fd_nearest_pair
  b_nearest_pair : Binds K A.fd_nearest_pair ["equations", "bounds", "goals"] []
  g_nearest_pair : mg "nearest_pair" = some (.ref A.f_nearest_pair)
  F_nearest_within : Fun K "nearest_within" "nearest_within" (topS 6) A.f_nearest_within A.fd_nearest_within
  b_nearest_within : Binds K A.fd_nearest_within ["bounds", "goal"] []
  g_nearest_within : mg "nearest_within" = some (.ref A.f_nearest_within)
  F_crossing : Fun K "crossing" "crossing" (topS 7) A.f_crossing A.fd_crossing
  b_crossing : Binds K A.fd_crossing ["first", "second", "bounds"] []
  g_crossing : mg "crossing" = some (.ref A.f_crossing)
  F_is_within : Fun K "is_within" "is_within" (topS 8) A.f_is_within A.fd_is_within
  b_is_within : Binds K A.fd_is_within ["value", "bounds"] []
  g_is_within : mg "is_within" = some (.ref A.f_is_within)
  F_nearest_on_line : Fun K "nearest_on_line" "nearest_on_line" (topS 9) A.f_nearest_on_line A.fd_nearest_on_line
  b_nearest_on_line : Binds K A.fd_nearest_on_line ["equation", "bounds", "goals"] []
  g_nearest_on_line : mg "nearest_on_line" = some (.ref A.f_nearest_on_line)
  F_exact_within : Fun K "exact_within" "exact_within" (topS 10) A.f_exact_within A.fd_exact_within
  b_exact_within : Binds K A.fd_exact_within ["factor", "total", "bounds"] []
  g_exact_within : mg "exact_within" = some (.ref A.f_exact_within)
  F_common_divisor : Fun K "common_divisor" "common_divisor" (topS 11) A.f_common_divisor A.fd_common_divisor
  b_common_divisor : Binds K A.fd_common_divisor ["first", "second"] []
  g_common_divisor : mg "common_divisor" = some (.ref A.f_common_divisor)
  F_nearest_turned : Fun K "nearest_turned" "nearest_turned" (topS 12) A.f_nearest_turned A.fd_nearest_turned
  b_nearest_turned : Binds K A.fd_nearest_turned ["equation", "divisor", "start", "bounds", "goal"] []
  g_nearest_turned : mg "nearest_turned" = some (.ref A.f_nearest_turned)
  F_turns_within : Fun K "turns_within" "turns_within" (topS 13) A.f_turns_within A.fd_turns_within
  b_turns_within : Binds K A.fd_turns_within ["start", "step", "bounds"] []
  g_turns_within : mg "turns_within" = some (.ref A.f_turns_within)
  F_nearest_turn : Fun K "nearest_turn" "nearest_turn" (topS 14) A.f_nearest_turn A.fd_nearest_turn
  b_nearest_turn : Binds K A.fd_nearest_turn ["start", "step", "turns", "goal"] []
  g_nearest_turn : mg "nearest_turn" = some (.ref A.f_nearest_turn)
  F__law_cells : Fun K "_law_cells" "_law_cells" (topS 18) A.f__law_cells A.fd__law_cells
  b__law_cells : Binds K A.fd__law_cells ["script", "count"] []
  g__law_cells : mg "_law_cells" = some (.ref A.f__law_cells)
  F__law_draw : Fun K "_law_draw" "_law_draw" (topS 19) A.f__law_draw A.fd__law_draw
  b__law_draw : Binds K A.fd__law_draw ["draws", "bound"] []
  g__law_draw : mg "_law_draw" = some (.ref A.f__law_draw)
  F__law_pick : Fun K "_law_pick" "_law_pick" (topS 20) A.f__law_pick A.fd__law_pick
  b__law_pick : Binds K A.fd__law_pick ["draws", "row"] []
  g__law_pick : mg "_law_pick" = some (.ref A.f__law_pick)
  F__law_terms : Fun K "_law_terms" "_law_terms" (topS 21) A.f__law_terms A.fd__law_terms
  b__law_terms : Binds K A.fd__law_terms ["draws", "names"] []
  g__law_terms : mg "_law_terms" = some (.ref A.f__law_terms)
  F__law_value : Fun K "_law_value" "_law_value" (topS 22) A.f__law_value A.fd__law_value
  b__law_value : Binds K A.fd__law_value ["terms", "names", "row"] []
  g__law_value : mg "_law_value" = some (.ref A.f__law_value)
  F__law_factor : Fun K "_law_factor" "_law_factor" (topS 23) A.f__law_factor A.fd__law_factor
  b__law_factor : Binds K A.fd__law_factor ["terms", "name"] []
  g__law_factor : mg "_law_factor" = some (.ref A.f__law_factor)
  F__law_rows : Fun K "_law_rows" "_law_rows" (topS 24) A.f__law_rows A.fd__law_rows
  b__law_rows : Binds K A.fd__law_rows ["bounds"] []
  g__law_rows : mg "_law_rows" = some (.ref A.f__law_rows)
  F__law_better : Fun K "_law_better" "_law_better" (topS 25) A.f__law_better A.fd__law_better
  b__law_better : Binds K A.fd__law_better ["row", "best", "old"] []
  g__law_better : mg "_law_better" = some (.ref A.f__law_better)
  F_law : Fun K "law" "law" (topS 26) A.f_law A.fd_law
  b_law : Binds K A.fd_law ["script"] []
def SL (A : Ad) : List Addr := [A.C_Equation, A.C_Form, A.f_Equation___init__, A.f_Equation_is_empty, A.f_Equation_goes_with, A.f_Equation_crossed_with, A.f_nearest_source, A.f_equation_of, A.f_nearest_pair, A.f_nearest_within, A.f_crossing, A.f_is_within, A.f_nearest_on_line, A.f_exact_within, A.f_common_divisor, A.f_nearest_turned, A.f_turns_within, A.f_nearest_turn, A.f_Form___init__, A.f_Form_factor_of, A.f__law_cells, A.f__law_draw, A.f__law_pick, A.f__law_terms, A.f__law_value, A.f__law_factor, A.f__law_rows, A.f__law_better, A.f_law]
def S (A : Ad) (n : Nat) : Addr := match (SL A)[n]? with
  | some a => a
  | none => A.C_Equation
def fc_first : List Nat := [0]
def fc_second : List Nat := [0]
def fc_total : List Nat := [0]
def fc_terms : List Nat := [1]
def isOO (c d : Nat) : Option Bool := none
def isOB (c : Nat) (d : String) : Option Bool := none
def isBT (c : String) (d : Nat) : Option Bool := none
def b_Equation___init__ : EvS := (xSeq (xFldS fc_first "first" 0 (xVal 1))
 (xSeq (xFldS fc_second "second" 0 (xVal 2))
 (xFldS fc_total "total" 0 (xVal 3))))
@[irreducible] def d_Equation___init__ : Fn := runF false 4 b_Equation___init__
theorem e_Equation___init__ : d_Equation___init__ = runF false 4 b_Equation___init__ := by unfold d_Equation___init__; rfl
def b_Equation_is_empty : EvS := (xRet (xAndV (xOp oEq (xFld fc_first "first" (xVal 0)) (xC (.int 0))) (xOp oEq (xFld fc_second "second" (xVal 0)) (xC (.int 0)))))
@[irreducible] def d_Equation_is_empty : Fn := runF false 1 b_Equation_is_empty
theorem e_Equation_is_empty : d_Equation_is_empty = runF false 1 b_Equation_is_empty := by unfold d_Equation_is_empty; rfl
def b_Equation_goes_with : EvS := (xSeq (xIfS (xTest (xOp oNe (xOp oMul (xFld fc_first "first" (xVal 0)) (xFld fc_total "total" (xVal 1))) (xOp oMul (xFld fc_first "first" (xVal 1)) (xFld fc_total "total" (xVal 0)))))
 (xRet (xC (.bl false)))
 xNx)
 (xRet (xOp oEq (xOp oMul (xFld fc_second "second" (xVal 0)) (xFld fc_total "total" (xVal 1))) (xOp oMul (xFld fc_second "second" (xVal 1)) (xFld fc_total "total" (xVal 0))))))
@[irreducible] def d_Equation_goes_with : Fn := runF false 2 b_Equation_goes_with
theorem e_Equation_goes_with : d_Equation_goes_with = runF false 2 b_Equation_goes_with := by unfold d_Equation_goes_with; rfl
def b_Equation_crossed_with : EvS := (xRet (xOp oSub (xOp oMul (xFld fc_first "first" (xVal 0)) (xFld fc_second "second" (xVal 1))) (xOp oMul (xFld fc_first "first" (xVal 1)) (xFld fc_second "second" (xVal 0)))))
@[irreducible] def d_Equation_crossed_with : Fn := runF false 2 b_Equation_crossed_with
theorem e_Equation_crossed_with : d_Equation_crossed_with = runF false 2 b_Equation_crossed_with := by unfold d_Equation_crossed_with; rfl
def b_nearest_within : EvS := (xSeq (xAsg (xVal 0) (yTup 2 (yCons (yName 2) (yCons (yName 3) yNil))))
 (xRet (xIf (xTest (xOp oIs (xVal 1) (xC .non))) (xVal 2) (xCB fMin2 (xCons (xCB fMax2 (xCons (xVal 1) (xCons (xVal 2) xNil))) (xCons (xVal 3) xNil))))))
@[irreducible] def d_nearest_within : Fn := runF false 4 b_nearest_within
theorem e_nearest_within : d_nearest_within = runF false 4 b_nearest_within := by unfold d_nearest_within; rfl
def b_is_within : EvS := (xRet (xChain oLe oLe (xOp oIx (xVal 1) (xC (.int 0))) (xVal 0) (xOp oIx (xVal 1) (xC (.int 1)))))
@[irreducible] def d_is_within : Fn := runF false 2 b_is_within
theorem e_is_within : d_is_within = runF false 2 b_is_within := by unfold d_is_within; rfl
def b_common_divisor : EvS := (xSeq (xAsg (xTup (xCons (xC (.int 1)) (xCons (xC (.int 0)) xNil))) (yTup 2 (yCons (yName 2) (yCons (yName 3) yNil))))
 (xSeq (whileL (xTest (xOp oNe (xVal 1) (xC (.int 0)))) (xSeq (xSet 4 (xOp oFdv (xVal 0) (xVal 1)))
 (xSeq (xPar 0 1 (xCons (xVal 1) (xCons (xOp oSub (xVal 0) (xOp oMul (xVal 4) (xVal 1))) xNil)))
 (xPar 2 3 (xCons (xVal 3) (xCons (xOp oSub (xVal 2) (xOp oMul (xVal 4) (xVal 3))) xNil))))) 1000)
 (xRet (xTup (xCons (xVal 0) (xCons (xVal 2) xNil))))))
@[irreducible] def d_common_divisor : Fn := runF false 5 b_common_divisor
theorem e_common_divisor : d_common_divisor = runF false 5 b_common_divisor := by unfold d_common_divisor; rfl
def b_turns_within : EvS := (xSeq (xAsg (xVal 2) (yTup 2 (yCons (yName 3) (yCons (yName 4) yNil))))
 (xSeq (xIfS (xTest (xOp oLt (xVal 1) (xC (.int 0))))
 (xAsg (xTup (xCons (xUn uNeg (xVal 0)) (xCons (xUn uNeg (xVal 1)) (xCons (xUn uNeg (xVal 4)) (xCons (xUn uNeg (xVal 3)) xNil))))) (yTup 4 (yCons (yName 0) (yCons (yName 1) (yCons (yName 3) (yCons (yName 4) yNil))))))
 xNx)
 (xRet (xTup (xCons (xUn uNeg (xOp oFdv (xOp oSub (xVal 0) (xVal 3)) (xVal 1))) (xCons (xOp oFdv (xOp oSub (xVal 4) (xVal 0)) (xVal 1)) xNil))))))
@[irreducible] def d_turns_within : Fn := runF false 5 b_turns_within
theorem e_turns_within : d_turns_within = runF false 5 b_turns_within := by unfold d_turns_within; rfl
def b_Form___init__ : EvS := (xFldS fc_terms "terms" 0 (xLc (iSq (xVal 1)) (yTup 2 (yCons (yName 2) (yCons (yName 3) yNil))) xYes (xTup (xCons (xVal 2) (xCons (xVal 3) xNil))) [2, 3]))
@[irreducible] def d_Form___init__ : Fn := runF false 4 b_Form___init__
theorem e_Form___init__ : d_Form___init__ = runF false 4 b_Form___init__ := by unfold d_Form___init__; rfl
def b_Form_factor_of : EvS := (xRet (xCB fSum (xCons (xLc (iSq (xFld fc_terms "terms" (xVal 0))) (yTup 2 (yCons (yName 2) (yCons (yName 3) yNil))) (xTest (xOp oEq (xVal 3) (xVal 1))) (xVal 2) [2, 3]) xNil)))
@[irreducible] def d_Form_factor_of : Fn := runF false 4 b_Form_factor_of
theorem e_Form_factor_of : d_Form_factor_of = runF false 4 b_Form_factor_of := by unfold d_Form_factor_of; rfl
def b__law_cells : EvS := (xSeq (xBox 2 (xLst xNil))
 (xSeq (xFor (iRg1 (xCons (xVal 1) xNil)) (yName 3)
 (xSeq (xSet 4 (xOp oAdd (xOp oMul (xC (.int 7)) (xVal 3)) (xC (.int 3))))
 (xSeq (xIfS (xTest (xOp oLt (xVal 3) (xCB fLen (xCons (xVal 0) xNil))))
 (xSeq (xSet 4 (xCB fInt (xCons (xOp oIx (xVal 0) (xVal 3)) xNil)))
 (xIfS (xTest (xOp oLt (xVal 4) (xC (.int 0))))
 (xSet 4 (xOp oSub (xC (.int 1)) (xOp oMul (xC (.int 2)) (xVal 4))))
 xNx))
 xNx)
 (xSeq (xIfS (xTest (xOp oLt (xVal 4) (xC (.int 1000000000))))
 (xSeq (xSet 4 (xOp oMod (xOp oAdd (xOp oAdd (xOp oMul (xCB fInt (xCons (xVal 4) xNil)) (xC (.int 1103515245))) (xC (.int 12345))) (xOp oMul (xC (.int 131)) (xVal 3))) (xC (.int 2147483647))))
 (xSet 4 (xOp oMod (xOp oAdd (xOp oMul (xCB fInt (xCons (xVal 4) xNil)) (xC (.int 6364136223846793005))) (xC (.int 1442695040888963407))) (xC (.int 18446744073709551557)))))
 xNx)
 (xDrop (xOwnM mApp 2 (xCons (xVal 4) xNil)))))))
 (xRetV 2)))
@[irreducible] def d__law_cells : Fn := runF true 5 b__law_cells
theorem e__law_cells : d__law_cells = runF true 5 b__law_cells := by unfold d__law_cells; rfl
def b__law_draw : EvS := (xSeq (xIfS (xAndT (xBorT (xTest (xOp oEq (xOp oIx (xVal 0) (xC (.int 0))) (xC (.int 0))))) (xBorT (xTest (xOp oGt (xCB fLen (xCons (xVal 0) xNil)) (xC (.int 1))))))
 (xDrop (xOwnM mPopAt 0 (xCons (xC (.int 0)) xNil)))
 xNx)
 (xSeq (xSet 2 (xBor (xOp oMod (xCB fInt (xCons (xOp oIx (xVal 0) (xC (.int 0))) xNil)) (xVal 1))))
 (xSeq (xSetIx 0 (xC (.int 0)) (xBor (xOp oFdv (xOp oIx (xVal 0) (xC (.int 0))) (xVal 1))))
 (xRet (xVal 2)))))
@[irreducible] def d__law_draw : Fn := runF false 3 b__law_draw
theorem e__law_draw : d__law_draw = runF false 3 b__law_draw := by unfold d__law_draw; rfl
def b__law_value : EvS := (xSeq (xSet 3 (xC (.int 0)))
 (xSeq (xFor (iSq (xVal 0)) (yName 4)
 (xIfS (xTest (xOp oIs (xOp oIx (xVal 4) (xC (.int 1))) (xC .non)))
 (xSet 3 (xOp oAdd (xVal 3) (xOp oIx (xVal 4) (xC (.int 0)))))
 (xSet 3 (xOp oAdd (xVal 3) (xOp oMul (xOp oIx (xVal 4) (xC (.int 0))) (xOp oIx (xVal 2) (xIndex (xVal 1) (xOp oIx (xVal 4) (xC (.int 1))))))))))
 (xRet (xVal 3))))
@[irreducible] def d__law_value : Fn := runF false 5 b__law_value
theorem e__law_value : d__law_value = runF false 5 b__law_value := by unfold d__law_value; rfl
def b__law_factor : EvS := (xRet (xCB fSum (xCons (xLc (iSq (xVal 0)) (yName 2) (xTest (xOp oEq (xOp oIx (xVal 2) (xC (.int 1))) (xVal 1))) (xOp oIx (xVal 2) (xC (.int 0))) [2]) xNil)))
@[irreducible] def d__law_factor : Fn := runF false 3 b__law_factor
theorem e__law_factor : d__law_factor = runF false 3 b__law_factor := by unfold d__law_factor; rfl
def b__law_rows : EvS := (xSeq (xSet 1 (xLst (xCons (xLst xNil) xNil)))
 (xSeq (xFor (iSq (xVal 0)) (yName 2)
 (xSeq (xBox 3 (xLst xNil))
 (xSeq (xFor (iSq (xVal 1)) (yName 4)
 (xFor (iRg2 (xCons (xOp oIx (xVal 2) (xC (.int 0))) (xCons (xOp oAdd (xOp oIx (xVal 2) (xC (.int 1))) (xC (.int 1))) xNil))) (yName 5)
 (xDrop (xOwnM mApp 3 (xCons (xOp oAdd (xVal 4) (xLst (xCons (xVal 5) xNil))) xNil)))))
 (xSet 1 (xVar 3)))))
 (xRet (xVal 1))))
@[irreducible] def d__law_rows : Fn := runF false 6 b__law_rows
theorem e__law_rows : d__law_rows = runF false 6 b__law_rows := by unfold d__law_rows; rfl
def b__law_better : EvS := (xSeq (xIfS (xTest (xOp oIs (xVal 1) (xC .non)))
 (xRet (xC (.bl true)))
 xNx)
 (xSeq (xFor (iRg1 (xCons (xCB fLen (xCons (xVal 0) xNil)) xNil)) (yName 3)
 (xIfS (xOrT (xTest (xOp oIs (xVal 2) (xC .non))) (xTest (xOp (oOr (oIn false) (oInD false)) (xC .non) (xVal 2))))
 (xIfS (xTest (xOp oNe (xOp oIx (xVal 0) (xVal 3)) (xOp oIx (xVal 1) (xVal 3))))
 (xRet (xOp oLt (xOp oIx (xVal 0) (xVal 3)) (xOp oIx (xVal 1) (xVal 3))))
 xNx)
 (xIfS (xTest (xOp oNe (xCB fAbs (xCons (xOp oSub (xOp oIx (xVal 0) (xVal 3)) (xOp oIx (xVal 2) (xVal 3))) xNil)) (xCB fAbs (xCons (xOp oSub (xOp oIx (xVal 1) (xVal 3)) (xOp oIx (xVal 2) (xVal 3))) xNil))))
 (xRet (xOp oLt (xCB fAbs (xCons (xOp oSub (xOp oIx (xVal 0) (xVal 3)) (xOp oIx (xVal 2) (xVal 3))) xNil)) (xCB fAbs (xCons (xOp oSub (xOp oIx (xVal 1) (xVal 3)) (xOp oIx (xVal 2) (xVal 3))) xNil))))
 (xIfS (xTest (xOp oNe (xOp oIx (xVal 0) (xVal 3)) (xOp oIx (xVal 1) (xVal 3))))
 (xRet (xOp oLt (xOp oIx (xVal 0) (xVal 3)) (xOp oIx (xVal 1) (xVal 3))))
 xNx))))
 (xRet (xC (.bl false)))))
@[irreducible] def d__law_better : Fn := runF false 4 b__law_better
theorem e__law_better : d__law_better = runF false 4 b__law_better := by unfold d__law_better; rfl
def b_crossing : EvS := (xSeq (xSet 3 (xMeth "crossed_with" 2 [(0, 5, d_Equation_crossed_with)] (xVal 0) (gVal (xVal 1) gNil)))
 (xSeq (xAsg (xCB fDivmod (xCons (xOp oSub (xOp oMul (xFld fc_total "total" (xVal 0)) (xFld fc_second "second" (xVal 1))) (xOp oMul (xFld fc_total "total" (xVal 1)) (xFld fc_second "second" (xVal 0)))) (xCons (xVal 3) xNil))) (yTup 2 (yCons (yName 4) (yCons (yName 5) yNil))))
 (xSeq (xAsg (xCB fDivmod (xCons (xOp oSub (xOp oMul (xFld fc_first "first" (xVal 0)) (xFld fc_total "total" (xVal 1))) (xOp oMul (xFld fc_first "first" (xVal 1)) (xFld fc_total "total" (xVal 0)))) (xCons (xVal 3) xNil))) (yTup 2 (yCons (yName 6) (yCons (yName 7) yNil))))
 (xSeq (xIfS (xOrT (xTest (xOp oNe (xVal 5) (xC (.int 0)))) (xOrT (xTest (xOp oNe (xVal 7) (xC (.int 0)))) (xOrT (xNotT (xTest (xCall 2 d_is_within (gVal (xVal 4) (gVal (xOp oIx (xVal 2) (xC (.int 0))) gNil))))) (xNotT (xTest (xCall 2 d_is_within (gVal (xVal 6) (gVal (xOp oIx (xVal 2) (xC (.int 1))) gNil))))))))
 (xRet (xC .non))
 xNx)
 (xRet (xLst (xCons (xVal 4) (xCons (xVal 6) xNil))))))))
@[irreducible] def d_crossing : Fn := runF false 8 b_crossing
theorem e_crossing : d_crossing = runF false 8 b_crossing := by unfold d_crossing; rfl
def b_exact_within : EvS := (xSeq (xAsg (xCB fDivmod (xCons (xVal 1) (xCons (xVal 0) xNil))) (yTup 2 (yCons (yName 3) (yCons (yName 4) yNil))))
 (xRet (xIf (xAndT (xTest (xOp oEq (xVal 4) (xC (.int 0)))) (xTest (xCall 2 d_is_within (gVal (xVal 3) (gVal (xVal 2) gNil))))) (xVal 3) (xC .non))))
@[irreducible] def d_exact_within : Fn := runF false 5 b_exact_within
theorem e_exact_within : d_exact_within = runF false 5 b_exact_within := by unfold d_exact_within; rfl
def b_nearest_turn : EvS := (xSeq (xSet 4 (xCall 2 d_nearest_within (gVal (xVal 2) (gVal (xOp oFdv (xOp oSub (xVal 3) (xVal 0)) (xVal 1)) gNil))))
 (xSeq (xSet 5 (xCall 2 d_nearest_within (gVal (xVal 2) (gVal (xOp oAdd (xVal 4) (xC (.int 1))) gNil))))
 (xSeq (xSet 6 (xOp oLt (xCB fAbs (xCons (xOp oSub (xOp oAdd (xVal 0) (xOp oMul (xVal 5) (xVal 1))) (xVal 3)) xNil)) (xCB fAbs (xCons (xOp oSub (xOp oAdd (xVal 0) (xOp oMul (xVal 4) (xVal 1))) (xVal 3)) xNil))))
 (xRet (xIf (xTest (xVal 6)) (xVal 5) (xVal 4))))))
@[irreducible] def d_nearest_turn : Fn := runF false 7 b_nearest_turn
theorem e_nearest_turn : d_nearest_turn = runF false 7 b_nearest_turn := by unfold d_nearest_turn; rfl
def b__law_pick : EvS := (xRet (xOp oIx (xVal 1) (xCall 2 d__law_draw (gSlot 0 (gVal (xCB fLen (xCons (xVal 1) xNil)) gNil)))))
@[irreducible] def d__law_pick : Fn := runF false 2 b__law_pick
theorem e__law_pick : d__law_pick = runF false 2 b__law_pick := by unfold d__law_pick; rfl
def b_equation_of : EvS := (xSeq (xSet 3 (xCB fSum (xCons (xLc (iSq (xFld fc_terms "terms" (xVal 0))) (yTup 2 (yCons (yName 5) (yCons (yName 6) yNil))) (xTest (xOp oIs (xVal 6) (xC .non))) (xVal 5) [5, 6]) xNil)))
 (xSeq (xSet 4 (xOp oAdd (xLc (iSq (xVal 1)) (yName 6) xYes (xMeth "factor_of" 2 [(1, 19, d_Form_factor_of)] (xVal 0) (gVal (xVal 6) gNil)) [6]) (xLst (xCons (xC (.int 0)) xNil))))
 (xRet (xMake 0 4 [] d_Equation___init__ (xCons (xOp oIx (xVal 4) (xC (.int 0))) (xCons (xOp oIx (xVal 4) (xC (.int 1))) (xCons (xOp oSub (xVal 2) (xVal 3)) xNil)))))))
@[irreducible] def d_equation_of : Fn := runF false 7 b_equation_of
theorem e_equation_of : d_equation_of = runF false 7 b_equation_of := by unfold d_equation_of; rfl
def b_nearest_turned : EvS := (xSeq (xSet 5 (xOp oFdv (xFld fc_second "second" (xVal 0)) (xVal 1)))
 (xSeq (xSet 6 (xUn uNeg (xOp oFdv (xFld fc_first "first" (xVal 0)) (xVal 1))))
 (xSeq (xSet 7 (xOp oFdv (xOp oSub (xFld fc_total "total" (xVal 0)) (xOp oMul (xFld fc_first "first" (xVal 0)) (xVal 2))) (xFld fc_second "second" (xVal 0))))
 (xSeq (xAsg (xCall 3 d_turns_within (gVal (xVal 2) (gVal (xVal 5) (gVal (xOp oIx (xVal 3) (xC (.int 0))) gNil)))) (yTup 2 (yCons (yName 8) (yCons (yName 9) yNil))))
 (xSeq (xAsg (xCall 3 d_turns_within (gVal (xVal 7) (gVal (xVal 6) (gVal (xOp oIx (xVal 3) (xC (.int 1))) gNil)))) (yTup 2 (yCons (yName 10) (yCons (yName 11) yNil))))
 (xSeq (xPar 8 9 (xCons (xCB fMax2 (xCons (xVal 8) (xCons (xVal 10) xNil))) (xCons (xCB fMin2 (xCons (xVal 9) (xCons (xVal 11) xNil))) xNil)))
 (xSeq (xIfS (xTest (xOp oGt (xVal 8) (xVal 9)))
 (xRet (xC .non))
 xNx)
 (xSeq (xSet 12 (xIf (xTest (xOp oIs (xVal 4) (xC .non))) (xVal 8) (xCall 4 d_nearest_turn (gVal (xVal 2) (gVal (xVal 5) (gVal (xTup (xCons (xVal 8) (xCons (xVal 9) xNil))) (gVal (xVal 4) gNil)))))))
 (xRet (xLst (xCons (xOp oAdd (xVal 2) (xOp oMul (xVal 12) (xVal 5))) (xCons (xOp oAdd (xVal 7) (xOp oMul (xVal 12) (xVal 6))) xNil))))))))))))
@[irreducible] def d_nearest_turned : Fn := runF false 13 b_nearest_turned
theorem e_nearest_turned : d_nearest_turned = runF false 13 b_nearest_turned := by unfold d_nearest_turned; rfl
def b__law_terms : EvS := (xSeq (xBox 2 (xLst xNil))
 (xSeq (xFor (iRg1 (xCons (xOp oAdd (xC (.int 1)) (xCall 2 d__law_draw (gSlot 0 (gVal (xC (.int 3)) gNil)))) xNil)) (yName 3)
 (xDrop (xOwnM mApp 2 (xCons (xTup (xCons (xOp oSub (xCall 2 d__law_draw (gSlot 0 (gVal (xC (.int 9)) gNil))) (xC (.int 4))) (xCons (xCall 2 d__law_pick (gSlot 0 (gVal (xOp oAdd (xOp oAdd (xLst (xCons (xC .non) xNil)) (xVal 1)) (xVal 1)) gNil))) xNil))) xNil))))
 (xRetV 2)))
@[irreducible] def d__law_terms : Fn := runF true 4 b__law_terms
theorem e__law_terms : d__law_terms = runF true 4 b__law_terms := by unfold d__law_terms; rfl
def b_nearest_on_line : EvS := (xSeq (xIfS (xTest (xOp oEq (xFld fc_second "second" (xVal 0)) (xC (.int 0))))
 (xSeq (xSet 3 (xCall 3 d_exact_within (gVal (xFld fc_first "first" (xVal 0)) (gVal (xFld fc_total "total" (xVal 0)) (gVal (xOp oIx (xVal 1) (xC (.int 0))) gNil)))))
 (xRet (xIf (xTest (xOp oIs (xVal 3) (xC .non))) (xC .non) (xLst (xCons (xVal 3) (xCons (xCall 2 d_nearest_within (gVal (xOp oIx (xVal 1) (xC (.int 1))) (gVal (xOp oIx (xVal 2) (xC (.int 1))) gNil))) xNil))))))
 xNx)
 (xSeq (xIfS (xTest (xOp oEq (xFld fc_first "first" (xVal 0)) (xC (.int 0))))
 (xSeq (xSet 3 (xCall 3 d_exact_within (gVal (xFld fc_second "second" (xVal 0)) (gVal (xFld fc_total "total" (xVal 0)) (gVal (xOp oIx (xVal 1) (xC (.int 1))) gNil)))))
 (xRet (xIf (xTest (xOp oIs (xVal 3) (xC .non))) (xC .non) (xLst (xCons (xCall 2 d_nearest_within (gVal (xOp oIx (xVal 1) (xC (.int 0))) (gVal (xOp oIx (xVal 2) (xC (.int 0))) gNil))) (xCons (xVal 3) xNil))))))
 xNx)
 (xSeq (xAsg (xCall 2 d_common_divisor (gVal (xFld fc_first "first" (xVal 0)) (gVal (xFld fc_second "second" (xVal 0)) gNil))) (yTup 2 (yCons (yName 4) (yCons (yName 5) yNil))))
 (xSeq (xAsg (xCB fDivmod (xCons (xFld fc_total "total" (xVal 0)) (xCons (xVal 4) xNil))) (yTup 2 (yCons (yName 6) (yCons (yName 7) yNil))))
 (xRet (xIf (xTest (xOp oNe (xVal 7) (xC (.int 0)))) (xC .non) (xCall 5 d_nearest_turned (gVal (xVal 0) (gVal (xVal 4) (gVal (xOp oMul (xVal 5) (xVal 6)) (gVal (xVal 1) (gVal (xOp oIx (xVal 2) (xC (.int 0))) gNil))))))))))))
@[irreducible] def d_nearest_on_line : Fn := runF false 8 b_nearest_on_line
theorem e_nearest_on_line : d_nearest_on_line = runF false 8 b_nearest_on_line := by unfold d_nearest_on_line; rfl
def b_nearest_pair : EvS := (xSeq (xBox 3 (xLc (iSq (xVal 0)) (yName 6) (xNotT (xTest (xMeth "is_empty" 1 [(0, 3, d_Equation_is_empty)] (xVal 6) gNil))) (xVal 6) [6]))
 (xSeq (xIfS (xTest (xCB fAny (xCons (xLc (iSq (xVal 0)) (yName 6) xYes (xAndV (xMeth "is_empty" 1 [(0, 3, d_Equation_is_empty)] (xVal 6) gNil) (xOp oNe (xFld fc_total "total" (xVal 6)) (xC (.int 0)))) [6]) xNil)))
 (xRet (xC .non))
 xNx)
 (xSeq (xIfS (xTest (xOp oEq (xCB fLen (xCons (xVar 3) xNil)) (xC (.int 0))))
 (xRet (xLst (xCons (xCall 2 d_nearest_within (gVal (xOp oIx (xVal 1) (xC (.int 0))) (gVal (xOp oIx (xVal 2) (xC (.int 0))) gNil))) (xCons (xCall 2 d_nearest_within (gVal (xOp oIx (xVal 1) (xC (.int 1))) (gVal (xOp oIx (xVal 2) (xC (.int 1))) gNil))) xNil))))
 xNx)
 (xSeq (xSet 4 (xOp oIx (xVar 3) (xC (.int 0))))
 (xSeq (xFor (iSq (xVar 3)) (yName 5)
 (xIfS (xTest (xOp oNe (xMeth "crossed_with" 2 [(0, 5, d_Equation_crossed_with)] (xVal 4) (gVal (xVal 5) gNil)) (xC (.int 0))))
 (xRet (xCall 3 d_crossing (gVal (xVal 4) (gVal (xVal 5) (gVal (xVal 1) gNil)))))
 xNx))
 (xSeq (xIfS (xNotT (xTest (xCB fAll (xCons (xLc (iSq (xVar 3)) (yName 5) xYes (xMeth "goes_with" 2 [(0, 4, d_Equation_goes_with)] (xVal 4) (gVal (xVal 5) gNil)) [5]) xNil))))
 (xRet (xC .non))
 xNx)
 (xRet (xCall 3 d_nearest_on_line (gVal (xVal 4) (gVal (xVal 1) (gVal (xVal 2) gNil)))))))))))
@[irreducible] def d_nearest_pair : Fn := runF false 7 b_nearest_pair
theorem e_nearest_pair : d_nearest_pair = runF false 7 b_nearest_pair := by unfold d_nearest_pair; rfl
def b_nearest_source : EvS := (xSeq (xBox 5 (xLc (iZp (xCons (xVal 0) (xCons (xVal 3) xNil))) (yTup 2 (yCons (yName 8) (yCons (yName 9) yNil))) xYes (xCall 3 d_equation_of (gVal (xVal 8) (gVal (xVal 1) (gVal (xVal 9) gNil)))) [8, 9]))
 (xSeq (xSet 6 (xIf (xOrT (xTest (xOp oIs (xVal 4) (xC .non))) (xTest (xOp (oOr (oIn false) (oInD false)) (xC .non) (xVal 4)))) (xLst (xCons (xC .non) (xCons (xC .non) xNil))) (xLst (xStar (xVal 4) (xCons (xC (.int 0)) xNil)))))
 (xSeq (xSet 7 (xCall 3 d_nearest_pair (gVal (xVar 5) (gVal (xLst (xStar (xVal 2) (xCons (xTup (xCons (xC (.int 0)) (xCons (xC (.int 0)) xNil))) xNil))) (gVal (xVal 6) gNil)))))
 (xRet (xIf (xTest (xOp oIs (xVal 7) (xC .non))) (xC .non) (xSlL (xVal 7) pNone (pSome (xCB fLen (xCons (xVal 1) xNil)))))))))
@[irreducible] def d_nearest_source : Fn := runF false 10 b_nearest_source
theorem e_nearest_source : d_nearest_source = runF false 10 b_nearest_source := by unfold d_nearest_source; rfl
def b_law : EvS := (xSeq (xBox 1 (xCall 2 d__law_cells (gVal (xVal 0) (gVal (xC (.int 8)) gNil))))
 (xSeq (xSet 2 (xCall 2 d__law_pick (gSlot 1 (gVal (xLst (xCons (xLst (xCons (xC (.str "x")) xNil)) (xCons (xLst (xCons (xC (.str "x")) (xCons (xC (.str "z")) xNil))) (xCons (xLst (xCons (xC (.str "x")) (xCons (xC (.str "z")) xNil))) xNil)))) gNil))))
 (xSeq (xBox 3 (xLst xNil))
 (xSeq (xFor (iSq (xVal 2)) (yName 4)
 (xSeq (xSet 5 (xOp oSub (xCall 2 d__law_draw (gSlot 1 (gVal (xC (.int 9)) gNil))) (xC (.int 5))))
 (xDrop (xOwnM mApp 3 (xCons (xTup (xCons (xVal 5) (xCons (xOp oAdd (xVal 5) (xCall 2 d__law_draw (gSlot 1 (gVal (xC (.int 10)) gNil)))) xNil))) xNil)))))
 (xThaw 3
 (xSeq (xNest 6 (nest4 (iRg1 (xCons (xOp oAdd (xC (.int 1)) (xCall 2 d__law_draw (gSlot 1 (gVal (xC (.int 2)) gNil)))) xNil)) (yName 14) (xCall 2 d__law_terms (gSlot 1 (gVal (xVal 2) gNil))) [14])
 (nest5 (xTest (xOp oEq (xCB fLen (xCons (xVal 2) xNil)) (xC (.int 2)))) 2 6 (yName 4) (xTest (xCB fAll (xCons (xLc (iSq (xVar 6)) (yName 15) xYes (xOp oEq (xCall 2 d__law_factor (gVal (xVal 15) (gVal (xVal 4) gNil))) (xC (.int 0))) [15]) xNil))) (xCons (xTup (xCons (xOp oAdd (xC (.int 1)) (xCall 2 d__law_draw (gSlot 1 (gVal (xC (.int 4)) gNil)))) (xCons (xVal 4) xNil))) xNil)))
 (xSeq (xSet 7 (xCall 1 d__law_rows (gVal (xVar 3) gNil)))
 (xSeq (xSet 8 (xCall 2 d__law_pick (gSlot 1 (gVal (xVal 7) gNil))))
 (xSeq (xBox 9 (xLc (iSq (xVar 6)) (yName 15) xYes (xCall 3 d__law_value (gVal (xVal 15) (gVal (xVal 2) (gVal (xVal 8) gNil)))) [15]))
 (xSeq (xIfS (xTest (xOp oEq (xCall 2 d__law_draw (gSlot 1 (gVal (xC (.int 4)) gNil))) (xC (.int 0))))
 (xSetIx 9 (xC (.int 0)) (xOp oSub (xOp oAdd (xBor (xOp oIx (xVal 9) (xC (.int 0)))) (xCall 2 d__law_draw (gSlot 1 (gVal (xC (.int 5)) gNil)))) (xC (.int 2))))
 xNx)
 (xSeq (xSet 10 (xC .non))
 (xSeq (xIfS (xTest (xOp oGt (xCall 2 d__law_draw (gSlot 1 (gVal (xC (.int 3)) gNil))) (xC (.int 0))))
 (xSeq (xBox 10 (xLc (iSq (xVar 3)) (yName 16) xYes (xOp oAdd (xOp oIx (xVal 16) (xC (.int 0))) (xCall 2 d__law_draw (gSlot 1 (gVal (xOp oAdd (xOp oSub (xOp oIx (xVal 16) (xC (.int 1))) (xOp oIx (xVal 16) (xC (.int 0)))) (xC (.int 1))) gNil)))) [16]))
 (xIfS (xTest (xOp oEq (xCall 2 d__law_draw (gSlot 1 (gVal (xC (.int 6)) gNil))) (xC (.int 0))))
 (xSetIx 10 (xCall 2 d__law_draw (gSlot 1 (gVal (xBor (xCB fLen (xCons (xVal 10) xNil))) gNil))) (xC .non))
 xNx))
 xNx)
 (xSeq (xSet 11 (xC .non))
 (xSeq (xFor (iSq (xVal 7)) (yName 8)
 (xIfS (xAndT (xTest (xOp oEq (xLc (iSq (xVar 6)) (yName 15) xYes (xCall 3 d__law_value (gVal (xVal 15) (gVal (xVal 2) (gVal (xVal 8) gNil)))) [15]) (xVar 9))) (xTest (xCall 3 d__law_better (gVal (xVal 8) (gVal (xVal 11) (gVal (xVar 10) gNil))))))
 (xSet 11 (xVal 8))
 xNx))
 (xSeq (xSet 12 (xCB fList (xCons (xVar 9) xNil)))
 (xSeq (xSet 13 (xCall 5 d_nearest_source (gVal (xLc (iSq (xVar 6)) (yName 15) xYes (xMake 1 2 [] d_Form___init__ (xCons (xVal 15) xNil)) [15]) (gVal (xCB fList (xCons (xVal 2) xNil)) (gVal (xCB fList (xCons (xVar 3) xNil)) (gVal (xVal 12) (gVal (xVar 10) gNil)))))))
 (xSeq (xIfS (xTest (xOp oNe (xVal 12) (xVar 9)))
 (xRet (xC (.bl false)))
 xNx)
 (xSeq (xIfS (xTest (xOp oIs (xVal 11) (xC .non)))
 (xRet (xOp oIs (xVal 13) (xC .non)))
 xNx)
 (xRet (xAndV (xCB (fIs isOO isOB isBT) (xCons (xVal 13) (xCons (xC (.ty "list")) xNil))) (xOp oEq (xVal 13) (xVal 11))))))))))))))))))))))
@[irreducible] def d_law : Fn := runF false 17 b_law
theorem e_law : d_law = runF false 17 b_law := by unfold d_law; rfl
end
end K16
namespace K16
open PySem PySem.Spec PyProof.Rows L2
open Rn
set_option autoImplicit false
set_option maxHeartbeats 0
noncomputable section
abbrev RR : PySem.W.OpenRow := PySem.W.OpenLaw.row PySem.Challenge.rw_oneheap_k16_nearest_integers
def sv (s : String) (t : Nat) : Value := .str (Str.ofString s) t
def iv (i : Int) : Value := .int i 0
def rv (a : Nat) : Value := .ref a
def nv : Value := .none
def ob (c : Value) (d : PySem.Data) : Obj := Obj.mk c none d #[]
def de (P : Params) (s : String) (t : Nat) (v : Value) : PySem.DictEntry := DictEntry.mk (PyData.keyHash P (Str.ofString s)) (.str (Str.ofString s) t) v
abbrev fdm (n q : String) (st : Stmt) := FuncData.mk (Str.ofString n) (Str.ofString q) (defArgs st) (.stmts (defBody st)) (defScope st)
def o11_1 (P : Params) : Obj := ob (Value.type "tuple") (Data.seq #[])
def o12_1 (P : Params) : Obj := ob nv (Data.fields #[])
def o13_1 (P : Params) : Obj := ob (Value.type "code") (Data.fields #[sv "<module>" 182, sv "<module>" 183, sv "/claim/cut.py" 184, iv 1, iv 0, iv 0, iv 0, iv 0, rv 11, Value.bool false, iv 181, rv 12, nv, nv, nv, nv, iv 185, iv 1, sv "/claim/cut.py" 186])
def o14_1 (P : Params) : Obj := Obj.mk (Value.type "frame") .none Data.plain #[.some (rv 13), .some (rv 3), .some (rv 3), .none, .some (sv "__main__" 164), .none, .some (rv 0)]
def tr1 (P : Params) : PySem.W.BT := (.node (PySem.W.boot_o_0 P) (.node (PySem.W.boot_o_1 P) (.node (PySem.W.boot_o_3 P) (.node (PySem.W.boot_o_7 P) .nil .nil) (.node (o11_1 P) .nil .nil)) (.node (PySem.W.boot_o_5 P) (.node (PySem.W.boot_o_9 P) .nil .nil) (.node (o13_1 P) .nil .nil))) (.node (PySem.W.boot_o_2 P) (.node (PySem.W.boot_o_4 P) (.node (PySem.W.boot_o_8 P) .nil .nil) (.node (o12_1 P) .nil .nil)) (.node (PySem.W.boot_o_6 P) (.node (PySem.W.boot_o_10 P) .nil .nil) (.node (o14_1 P) .nil .nil))))
def sT1 (w : World) (os : OsState) : PySem.W.SharedT := ⟨tr1 w.params, 15, (Life.mk [] [] [] 0 [] [] false #[] [] 0 false false false 0 [2000, 10, 10] false 0 true [] [] 0 false), #[], (Drawn.mk 0 0 0 0), 187, os⟩
def sT2 (w : World) (os : OsState) : PySem.W.SharedT := ⟨tr1 w.params, 15, (Life.mk [] [] [] 0 [] [] false #[] [] 0 false false false 0 [2000, 10, 10] false 0 true [] [] 0 false), #[], (Drawn.mk 0 0 0 0), 187, os⟩
def o3_3 (P : Params) : Obj := ob (Value.type "dict") (Data.dict #[de P "__name__" 165 (sv "law_oneheap_k16_nearest_integers" 438), de P "__doc__" 166 nv, de P "__package__" 167 nv, de P "__loader__" 168 (Value.builtin "__main__.__loader__#opaque"), de P "__spec__" 169 nv, de P "__annotations__" 170 (rv 6), de P "__builtins__" 171 (rv 4), de P "__file__" 173 (sv "/claim/cut.py" 172), de P "__cached__" 174 nv, de P "_wall" 193 (rv 21), de P "Equation" 251 (rv 59), de P "nearest_source" 257 (rv 68), de P "equation_of" 263 (rv 73), de P "nearest_pair" 269 (rv 78), de P "nearest_within" 279 (rv 85), de P "crossing" 293 (rv 92), de P "is_within" 301 (rv 99), de P "nearest_on_line" 315 (rv 106), de P "exact_within" 326 (rv 113), de P "common_divisor" 337 (rv 120), de P "nearest_turned" 356 (rv 127), de P "turns_within" 367 (rv 134), de P "nearest_turn" 380 (rv 141), de P "Form" 437 (rv 182), de P "_law_cells" 450 (rv 193), de P "_law_draw" 459 (rv 200), de P "_law_pick" 467 (rv 207), de P "_law_terms" 477 (rv 214), de P "_law_value" 488 (rv 221), de P "_law_factor" 494 (rv 226), de P "_law_rows" 506 (rv 233), de P "_law_better" 516 (rv 240), de P "law" 522 (rv 245)] 33)
def o12_3 (P : Params) : Obj := ob nv (Data.fields #[iv 1, iv 0, rv 20, iv 5, iv 0, rv 27, iv 22, iv 0, rv 67, iv 27, iv 0, rv 72, iv 31, iv 0, rv 77, iv 44, iv 0, rv 84, iv 47, iv 0, rv 91, iv 54, iv 0, rv 98, iv 56, iv 0, rv 105, iv 66, iv 0, rv 112, iv 69, iv 0, rv 119, iv 76, iv 0, rv 126, iv 87, iv 0, rv 133, iv 92, iv 0, rv 140, iv 98, iv 0, rv 147, iv 115, iv 0, rv 192, iv 128, iv 0, rv 199, iv 134, iv 0, rv 206, iv 136, iv 0, rv 213, iv 141, iv 0, rv 220, iv 149, iv 0, rv 225, iv 151, iv 0, rv 232, iv 160, iv 0, rv 239, iv 172, iv 0, rv 244])
def o15_3 (P : Params) : Obj := ob (Value.type "tuple") (Data.seq #[])
def o16_3 (P : Params) : Obj := ob nv (Data.fields #[])
def o17_3 (P : Params) : Obj := ob (Value.type "tuple") (Data.seq #[sv "k" 190])
def o18_3 (P : Params) : Obj := ob (Value.type "tuple") (Data.seq #[])
def o19_3 (P : Params) : Obj := ob nv (Data.func (fdm "_wall" "_wall" (topS 0) 0 [] nv nv nv nv .none nv nv 0))
def o20_3 (P : Params) : Obj := ob (Value.type "code") (Data.fields #[sv "_wall" 187, sv "_wall" 188, sv "/claim/cut.py" 189, iv 1, iv 1, iv 0, iv 0, iv 3, rv 15, Value.bool true, iv 181, rv 16, nv, rv 17, rv 18, rv 19, iv 191, iv 1, sv "/claim/cut.py" 192])
def o21_3 (P : Params) : Obj := ob (Value.type "function") (Data.func (fdm "_wall" "_wall" (topS 0) 3 [] nv nv nv (sv "__main__" 164) .none (rv 20) nv 0))
def o22_3 (P : Params) : Obj := ob (Value.type "tuple") (Data.seq #[])
def o23_3 (P : Params) : Obj := ob (Value.type "builtin_function_or_method") (Data.fields #[Value.builtin "type.__prepare__", Value.type "type"])
def o24_3 (P : Params) : Obj := ob (Value.type "dict") (Data.dict #[de P "__module__" 203 (sv "oneheap.views.sources" 194), de P "__qualname__" 205 (sv "Equation" 204), de P "__firstlineno__" 207 (Value.int 5 206), de P "__init__" 217 (rv 35), de P "is_empty" 224 (rv 42), de P "goes_with" 232 (rv 49), de P "crossed_with" 240 (rv 56), de P "__static_attributes__" 244 (rv 57)] 8)
def o25_3 (P : Params) : Obj := ob (Value.type "tuple") (Data.seq #[])
def o26_3 (P : Params) : Obj := ob nv (Data.fields #[iv 7, iv 4, rv 34, iv 12, iv 4, rv 41, iv 15, iv 4, rv 48, iv 20, iv 4, rv 55])
def o27_3 (P : Params) : Obj := ob (Value.type "code") (Data.fields #[sv "Equation" 198, sv "Equation" 199, sv "/claim/cut.py" 200, iv 5, iv 0, iv 0, iv 0, iv 0, rv 25, Value.bool false, iv 181, rv 26, nv, nv, nv, nv, iv 201, iv 5, sv "/claim/cut.py" 202])
def o28_3 (P : Params) : Obj := Obj.mk (Value.type "frame") .none Data.plain #[.some (rv 27), .some (rv 3), .some (rv 24), .none, .some (sv "oneheap.views.sources" 194), .none, .some (rv 0)]
def o29_3 (P : Params) : Obj := ob (Value.type "tuple") (Data.seq #[])
def o30_3 (P : Params) : Obj := ob nv (Data.fields #[])
def o31_3 (P : Params) : Obj := ob (Value.type "tuple") (Data.seq #[sv "self" 211, sv "first" 212, sv "second" 213, sv "total" 214])
def o32_3 (P : Params) : Obj := ob (Value.type "tuple") (Data.seq #[])
def o33_3 (P : Params) : Obj := ob nv (Data.func (fdm "__init__" "Equation.__init__" (inClass (topS 2) 0) 0 [] nv nv nv nv .none nv nv 0))
def o34_3 (P : Params) : Obj := ob (Value.type "code") (Data.fields #[sv "__init__" 208, sv "Equation.__init__" 209, sv "/claim/cut.py" 210, iv 7, iv 4, iv 0, iv 0, iv 3, rv 29, Value.bool true, iv 181, rv 30, nv, rv 31, rv 32, rv 33, iv 215, iv 7, sv "/claim/cut.py" 216])
def o35_3 (P : Params) : Obj := ob (Value.type "function") (Data.func (fdm "__init__" "Equation.__init__" (inClass (topS 2) 0) 3 [] nv nv nv (sv "oneheap.views.sources" 194) .none (rv 34) nv 0))
def o36_3 (P : Params) : Obj := ob (Value.type "tuple") (Data.seq #[])
def o37_3 (P : Params) : Obj := ob nv (Data.fields #[])
def o38_3 (P : Params) : Obj := ob (Value.type "tuple") (Data.seq #[sv "self" 221])
def o39_3 (P : Params) : Obj := ob (Value.type "tuple") (Data.seq #[])
def o40_3 (P : Params) : Obj := ob nv (Data.func (fdm "is_empty" "Equation.is_empty" (inClass (topS 2) 1) 0 [] nv nv nv nv .none nv nv 0))
def o41_3 (P : Params) : Obj := ob (Value.type "code") (Data.fields #[sv "is_empty" 218, sv "Equation.is_empty" 219, sv "/claim/cut.py" 220, iv 12, iv 1, iv 0, iv 0, iv 3, rv 36, Value.bool true, iv 181, rv 37, nv, rv 38, rv 39, rv 40, iv 222, iv 12, sv "/claim/cut.py" 223])
def o42_3 (P : Params) : Obj := ob (Value.type "function") (Data.func (fdm "is_empty" "Equation.is_empty" (inClass (topS 2) 1) 3 [] nv nv nv (sv "oneheap.views.sources" 194) .none (rv 41) nv 0))
def o43_3 (P : Params) : Obj := ob (Value.type "tuple") (Data.seq #[])
def o44_3 (P : Params) : Obj := ob nv (Data.fields #[])
def o45_3 (P : Params) : Obj := ob (Value.type "tuple") (Data.seq #[sv "self" 228, sv "other" 229])
def o46_3 (P : Params) : Obj := ob (Value.type "tuple") (Data.seq #[])
def o47_3 (P : Params) : Obj := ob nv (Data.func (fdm "goes_with" "Equation.goes_with" (inClass (topS 2) 2) 0 [] nv nv nv nv .none nv nv 0))
def o48_3 (P : Params) : Obj := ob (Value.type "code") (Data.fields #[sv "goes_with" 225, sv "Equation.goes_with" 226, sv "/claim/cut.py" 227, iv 15, iv 2, iv 0, iv 0, iv 3, rv 43, Value.bool true, iv 181, rv 44, nv, rv 45, rv 46, rv 47, iv 230, iv 15, sv "/claim/cut.py" 231])
def o49_3 (P : Params) : Obj := ob (Value.type "function") (Data.func (fdm "goes_with" "Equation.goes_with" (inClass (topS 2) 2) 3 [] nv nv nv (sv "oneheap.views.sources" 194) .none (rv 48) nv 0))
def o50_3 (P : Params) : Obj := ob (Value.type "tuple") (Data.seq #[])
def o51_3 (P : Params) : Obj := ob nv (Data.fields #[])
def o52_3 (P : Params) : Obj := ob (Value.type "tuple") (Data.seq #[sv "self" 236, sv "other" 237])
def o53_3 (P : Params) : Obj := ob (Value.type "tuple") (Data.seq #[])
def o54_3 (P : Params) : Obj := ob nv (Data.func (fdm "crossed_with" "Equation.crossed_with" (inClass (topS 2) 3) 0 [] nv nv nv nv .none nv nv 0))
def o55_3 (P : Params) : Obj := ob (Value.type "code") (Data.fields #[sv "crossed_with" 233, sv "Equation.crossed_with" 234, sv "/claim/cut.py" 235, iv 20, iv 2, iv 0, iv 0, iv 3, rv 50, Value.bool true, iv 181, rv 51, nv, rv 52, rv 53, rv 54, iv 238, iv 20, sv "/claim/cut.py" 239])
def o56_3 (P : Params) : Obj := ob (Value.type "function") (Data.func (fdm "crossed_with" "Equation.crossed_with" (inClass (topS 2) 3) 3 [] nv nv nv (sv "oneheap.views.sources" 194) .none (rv 55) nv 0))
def o57_3 (P : Params) : Obj := ob (Value.type "tuple") (Data.seq #[sv "first" 241, sv "second" 242, sv "total" 243])
def o58_3 (P : Params) : Obj := ob (Value.type "dict") (Data.dict #[de P "__module__" 203 (sv "oneheap.views.sources" 194), de P "__firstlineno__" 207 (Value.int 5 206), de P "__init__" 217 (rv 35), de P "is_empty" 224 (rv 42), de P "goes_with" 232 (rv 49), de P "crossed_with" 240 (rv 56), de P "__static_attributes__" 244 (rv 57), de P "__dict__" 246 (rv 60), de P "__weakref__" 248 (rv 61), de P "__doc__" 249 nv] 4)
def o59_3 (P : Params) : Obj := Obj.mk (Value.type "type") .none (Data.cls (ClassData.mk (Str.ofString "Equation") [Value.type "object"] [rv 59, Value.type "object"] 58 (Str.ofString "Equation") true [] [] false .none false)) #[.none, .none, .some (sv "Equation" 196), .some (sv "Equation" 204), .some (Value.builtin "object.__new__"), .some (Value.bool true)]
def o60_3 (P : Params) : Obj := ob (Value.type "getset_descriptor") (Data.fields #[sv "__dict__" 245, rv 59, Value.builtin "function.__dict__", Value.builtin "function.__dict__#set"])
def o61_3 (P : Params) : Obj := ob (Value.type "getset_descriptor") (Data.fields #[sv "__weakref__" 247, rv 59, Value.builtin "ExceptionGroup.__weakref__", nv])
def o62_3 (P : Params) : Obj := ob (Value.type "super") (Data.fields #[rv 59, rv 59, rv 59])
def o63_3 (P : Params) : Obj := ob (Value.type "builtin_function_or_method") (Data.fields #[Value.builtin "object.__init_subclass__", rv 59])
def o64_3 (P : Params) : Obj := ob (Value.type "tuple") (Data.seq #[])
def o65_3 (P : Params) : Obj := ob nv (Data.fields #[])
def o66_3 (P : Params) : Obj := ob nv (Data.func (fdm "nearest_source" "nearest_source" (topS 3) 0 [] nv nv nv nv .none nv nv 0))
def o67_3 (P : Params) : Obj := ob (Value.type "code") (Data.fields #[sv "nearest_source" 252, sv "nearest_source" 253, sv "/claim/cut.py" 254, iv 22, iv 5, iv 0, iv 0, iv 3, rv 64, Value.bool true, iv 181, rv 65, nv, nv, nv, rv 66, iv 255, iv 22, sv "/claim/cut.py" 256])
def o68_3 (P : Params) : Obj := ob (Value.type "function") (Data.func (fdm "nearest_source" "nearest_source" (topS 3) 3 [] nv nv nv (sv "oneheap.views.sources" 194) .none (rv 67) nv 0))
def o69_3 (P : Params) : Obj := ob (Value.type "tuple") (Data.seq #[])
def o70_3 (P : Params) : Obj := ob nv (Data.fields #[])
def o71_3 (P : Params) : Obj := ob nv (Data.func (fdm "equation_of" "equation_of" (topS 4) 0 [] nv nv nv nv .none nv nv 0))
def o72_3 (P : Params) : Obj := ob (Value.type "code") (Data.fields #[sv "equation_of" 258, sv "equation_of" 259, sv "/claim/cut.py" 260, iv 27, iv 3, iv 0, iv 0, iv 3, rv 69, Value.bool true, iv 181, rv 70, nv, nv, nv, rv 71, iv 261, iv 27, sv "/claim/cut.py" 262])
def o73_3 (P : Params) : Obj := ob (Value.type "function") (Data.func (fdm "equation_of" "equation_of" (topS 4) 3 [] nv nv nv (sv "oneheap.views.sources" 194) .none (rv 72) nv 0))
def o74_3 (P : Params) : Obj := ob (Value.type "tuple") (Data.seq #[])
def o75_3 (P : Params) : Obj := ob nv (Data.fields #[])
def o76_3 (P : Params) : Obj := ob nv (Data.func (fdm "nearest_pair" "nearest_pair" (topS 5) 0 [] nv nv nv nv .none nv nv 0))
def o77_3 (P : Params) : Obj := ob (Value.type "code") (Data.fields #[sv "nearest_pair" 264, sv "nearest_pair" 265, sv "/claim/cut.py" 266, iv 31, iv 3, iv 0, iv 0, iv 3, rv 74, Value.bool true, iv 181, rv 75, nv, nv, nv, rv 76, iv 267, iv 31, sv "/claim/cut.py" 268])
def o78_3 (P : Params) : Obj := ob (Value.type "function") (Data.func (fdm "nearest_pair" "nearest_pair" (topS 5) 3 [] nv nv nv (sv "oneheap.views.sources" 194) .none (rv 77) nv 0))
def o79_3 (P : Params) : Obj := ob (Value.type "tuple") (Data.seq #[])
def o80_3 (P : Params) : Obj := ob nv (Data.fields #[])
def o81_3 (P : Params) : Obj := ob (Value.type "tuple") (Data.seq #[sv "bounds" 273, sv "goal" 274, sv "low" 275, sv "high" 276])
def o82_3 (P : Params) : Obj := ob (Value.type "tuple") (Data.seq #[])
def o83_3 (P : Params) : Obj := ob nv (Data.func (fdm "nearest_within" "nearest_within" (topS 6) 0 [] nv nv nv nv .none nv nv 0))
def o84_3 (P : Params) : Obj := ob (Value.type "code") (Data.fields #[sv "nearest_within" 270, sv "nearest_within" 271, sv "/claim/cut.py" 272, iv 44, iv 2, iv 0, iv 0, iv 3, rv 79, Value.bool true, iv 181, rv 80, nv, rv 81, rv 82, rv 83, iv 277, iv 44, sv "/claim/cut.py" 278])
def o85_3 (P : Params) : Obj := ob (Value.type "function") (Data.func (fdm "nearest_within" "nearest_within" (topS 6) 3 [] nv nv nv (sv "oneheap.views.sources" 194) .none (rv 84) nv 0))
def o86_3 (P : Params) : Obj := ob (Value.type "tuple") (Data.seq #[])
def o87_3 (P : Params) : Obj := ob nv (Data.fields #[])
def o88_3 (P : Params) : Obj := ob (Value.type "tuple") (Data.seq #[sv "first" 283, sv "second" 284, sv "bounds" 285, sv "crossed" 286, sv "one" 287, sv "one_rest" 288, sv "other" 289, sv "other_rest" 290])
def o89_3 (P : Params) : Obj := ob (Value.type "tuple") (Data.seq #[])
def o90_3 (P : Params) : Obj := ob nv (Data.func (fdm "crossing" "crossing" (topS 7) 0 [] nv nv nv nv .none nv nv 0))
def o91_3 (P : Params) : Obj := ob (Value.type "code") (Data.fields #[sv "crossing" 280, sv "crossing" 281, sv "/claim/cut.py" 282, iv 47, iv 3, iv 0, iv 0, iv 3, rv 86, Value.bool true, iv 181, rv 87, nv, rv 88, rv 89, rv 90, iv 291, iv 47, sv "/claim/cut.py" 292])
def o92_3 (P : Params) : Obj := ob (Value.type "function") (Data.func (fdm "crossing" "crossing" (topS 7) 3 [] nv nv nv (sv "oneheap.views.sources" 194) .none (rv 91) nv 0))
def o93_3 (P : Params) : Obj := ob (Value.type "tuple") (Data.seq #[])
def o94_3 (P : Params) : Obj := ob nv (Data.fields #[])
def o95_3 (P : Params) : Obj := ob (Value.type "tuple") (Data.seq #[sv "value" 297, sv "bounds" 298])
def o96_3 (P : Params) : Obj := ob (Value.type "tuple") (Data.seq #[])
def o97_3 (P : Params) : Obj := ob nv (Data.func (fdm "is_within" "is_within" (topS 8) 0 [] nv nv nv nv .none nv nv 0))
def o98_3 (P : Params) : Obj := ob (Value.type "code") (Data.fields #[sv "is_within" 294, sv "is_within" 295, sv "/claim/cut.py" 296, iv 54, iv 2, iv 0, iv 0, iv 3, rv 93, Value.bool true, iv 181, rv 94, nv, rv 95, rv 96, rv 97, iv 299, iv 54, sv "/claim/cut.py" 300])
def o99_3 (P : Params) : Obj := ob (Value.type "function") (Data.func (fdm "is_within" "is_within" (topS 8) 3 [] nv nv nv (sv "oneheap.views.sources" 194) .none (rv 98) nv 0))
def o100_3 (P : Params) : Obj := ob (Value.type "tuple") (Data.seq #[])
def o101_3 (P : Params) : Obj := ob nv (Data.fields #[])
def o102_3 (P : Params) : Obj := ob (Value.type "tuple") (Data.seq #[sv "equation" 305, sv "bounds" 306, sv "goals" 307, sv "found" 308, sv "divisor" 309, sv "part" 310, sv "share" 311, sv "rest" 312])
def o103_3 (P : Params) : Obj := ob (Value.type "tuple") (Data.seq #[])
def o104_3 (P : Params) : Obj := ob nv (Data.func (fdm "nearest_on_line" "nearest_on_line" (topS 9) 0 [] nv nv nv nv .none nv nv 0))
def o105_3 (P : Params) : Obj := ob (Value.type "code") (Data.fields #[sv "nearest_on_line" 302, sv "nearest_on_line" 303, sv "/claim/cut.py" 304, iv 56, iv 3, iv 0, iv 0, iv 3, rv 100, Value.bool true, iv 181, rv 101, nv, rv 102, rv 103, rv 104, iv 313, iv 56, sv "/claim/cut.py" 314])
def o106_3 (P : Params) : Obj := ob (Value.type "function") (Data.func (fdm "nearest_on_line" "nearest_on_line" (topS 9) 3 [] nv nv nv (sv "oneheap.views.sources" 194) .none (rv 105) nv 0))
def o107_3 (P : Params) : Obj := ob (Value.type "tuple") (Data.seq #[])
def o108_3 (P : Params) : Obj := ob nv (Data.fields #[])
def o109_3 (P : Params) : Obj := ob (Value.type "tuple") (Data.seq #[sv "factor" 319, sv "total" 320, sv "bounds" 321, sv "found" 322, sv "rest" 323])
def o110_3 (P : Params) : Obj := ob (Value.type "tuple") (Data.seq #[])
def o111_3 (P : Params) : Obj := ob nv (Data.func (fdm "exact_within" "exact_within" (topS 10) 0 [] nv nv nv nv .none nv nv 0))
def o112_3 (P : Params) : Obj := ob (Value.type "code") (Data.fields #[sv "exact_within" 316, sv "exact_within" 317, sv "/claim/cut.py" 318, iv 66, iv 3, iv 0, iv 0, iv 3, rv 107, Value.bool true, iv 181, rv 108, nv, rv 109, rv 110, rv 111, iv 324, iv 66, sv "/claim/cut.py" 325])
def o113_3 (P : Params) : Obj := ob (Value.type "function") (Data.func (fdm "exact_within" "exact_within" (topS 10) 3 [] nv nv nv (sv "oneheap.views.sources" 194) .none (rv 112) nv 0))
def o114_3 (P : Params) : Obj := ob (Value.type "tuple") (Data.seq #[])
def o115_3 (P : Params) : Obj := ob nv (Data.fields #[])
def o116_3 (P : Params) : Obj := ob (Value.type "tuple") (Data.seq #[sv "first" 330, sv "second" 331, sv "part" 332, sv "next_part" 333, sv "share" 334])
def o117_3 (P : Params) : Obj := ob (Value.type "tuple") (Data.seq #[])
def o118_3 (P : Params) : Obj := ob nv (Data.func (fdm "common_divisor" "common_divisor" (topS 11) 0 [] nv nv nv nv .none nv nv 0))
def o119_3 (P : Params) : Obj := ob (Value.type "code") (Data.fields #[sv "common_divisor" 327, sv "common_divisor" 328, sv "/claim/cut.py" 329, iv 69, iv 2, iv 0, iv 0, iv 3, rv 114, Value.bool true, iv 181, rv 115, nv, rv 116, rv 117, rv 118, iv 335, iv 69, sv "/claim/cut.py" 336])
def o120_3 (P : Params) : Obj := ob (Value.type "function") (Data.func (fdm "common_divisor" "common_divisor" (topS 11) 3 [] nv nv nv (sv "oneheap.views.sources" 194) .none (rv 119) nv 0))
def o121_3 (P : Params) : Obj := ob (Value.type "tuple") (Data.seq #[])
def o122_3 (P : Params) : Obj := ob nv (Data.fields #[])
def o123_3 (P : Params) : Obj := ob (Value.type "tuple") (Data.seq #[sv "equation" 341, sv "divisor" 342, sv "start" 343, sv "bounds" 344, sv "goal" 345, sv "step" 346, sv "other_step" 347, sv "other_start" 348, sv "least" 349, sv "most" 350, sv "other_least" 351, sv "other_most" 352, sv "turn" 353])
def o124_3 (P : Params) : Obj := ob (Value.type "tuple") (Data.seq #[])
def o125_3 (P : Params) : Obj := ob nv (Data.func (fdm "nearest_turned" "nearest_turned" (topS 12) 0 [] nv nv nv nv .none nv nv 0))
def o126_3 (P : Params) : Obj := ob (Value.type "code") (Data.fields #[sv "nearest_turned" 338, sv "nearest_turned" 339, sv "/claim/cut.py" 340, iv 76, iv 5, iv 0, iv 0, iv 3, rv 121, Value.bool true, iv 181, rv 122, nv, rv 123, rv 124, rv 125, iv 354, iv 76, sv "/claim/cut.py" 355])
def o127_3 (P : Params) : Obj := ob (Value.type "function") (Data.func (fdm "nearest_turned" "nearest_turned" (topS 12) 3 [] nv nv nv (sv "oneheap.views.sources" 194) .none (rv 126) nv 0))
def o128_3 (P : Params) : Obj := ob (Value.type "tuple") (Data.seq #[])
def o129_3 (P : Params) : Obj := ob nv (Data.fields #[])
def o130_3 (P : Params) : Obj := ob (Value.type "tuple") (Data.seq #[sv "start" 360, sv "step" 361, sv "bounds" 362, sv "low" 363, sv "high" 364])
def o131_3 (P : Params) : Obj := ob (Value.type "tuple") (Data.seq #[])
def o132_3 (P : Params) : Obj := ob nv (Data.func (fdm "turns_within" "turns_within" (topS 13) 0 [] nv nv nv nv .none nv nv 0))
def o133_3 (P : Params) : Obj := ob (Value.type "code") (Data.fields #[sv "turns_within" 357, sv "turns_within" 358, sv "/claim/cut.py" 359, iv 87, iv 3, iv 0, iv 0, iv 3, rv 128, Value.bool true, iv 181, rv 129, nv, rv 130, rv 131, rv 132, iv 365, iv 87, sv "/claim/cut.py" 366])
def o134_3 (P : Params) : Obj := ob (Value.type "function") (Data.func (fdm "turns_within" "turns_within" (topS 13) 3 [] nv nv nv (sv "oneheap.views.sources" 194) .none (rv 133) nv 0))
def o135_3 (P : Params) : Obj := ob (Value.type "tuple") (Data.seq #[])
def o136_3 (P : Params) : Obj := ob nv (Data.fields #[])
def o137_3 (P : Params) : Obj := ob (Value.type "tuple") (Data.seq #[sv "start" 371, sv "step" 372, sv "turns" 373, sv "goal" 374, sv "below" 375, sv "above" 376, sv "is_nearer" 377])
def o138_3 (P : Params) : Obj := ob (Value.type "tuple") (Data.seq #[])
def o139_3 (P : Params) : Obj := ob nv (Data.func (fdm "nearest_turn" "nearest_turn" (topS 14) 0 [] nv nv nv nv .none nv nv 0))
def o140_3 (P : Params) : Obj := ob (Value.type "code") (Data.fields #[sv "nearest_turn" 368, sv "nearest_turn" 369, sv "/claim/cut.py" 370, iv 92, iv 4, iv 0, iv 0, iv 3, rv 135, Value.bool true, iv 181, rv 136, nv, rv 137, rv 138, rv 139, iv 378, iv 92, sv "/claim/cut.py" 379])
def o141_3 (P : Params) : Obj := ob (Value.type "function") (Data.func (fdm "nearest_turn" "nearest_turn" (topS 14) 3 [] nv nv nv (sv "oneheap.views.sources" 194) .none (rv 140) nv 0))
def o142_3 (P : Params) : Obj := ob (Value.type "tuple") (Data.seq #[])
def o143_3 (P : Params) : Obj := ob (Value.type "builtin_function_or_method") (Data.fields #[Value.builtin "type.__prepare__", Value.type "type"])
def o144_3 (P : Params) : Obj := ob (Value.type "dict") (Data.dict #[de P "__module__" 390 (sv "oneheap.steps.ways" 381), de P "__qualname__" 392 (sv "Form" 391), de P "__firstlineno__" 394 (Value.int 98 393), de P "__init__" 400 (rv 153), de P "written" 407 (rv 160), de P "field_names" 414 (rv 167), de P "factor_of" 420 (rv 172), de P "outer_values" 428 (rv 179), de P "__static_attributes__" 430 (rv 180)] 9)
def o145_3 (P : Params) : Obj := ob (Value.type "tuple") (Data.seq #[])
def o146_3 (P : Params) : Obj := ob nv (Data.fields #[iv 100, iv 4, rv 152, iv 103, iv 4, rv 159, iv 106, iv 4, rv 166, iv 109, iv 4, rv 171, iv 112, iv 4, rv 178])
def o147_3 (P : Params) : Obj := ob (Value.type "code") (Data.fields #[sv "Form" 385, sv "Form" 386, sv "/claim/cut.py" 387, iv 98, iv 0, iv 0, iv 0, iv 0, rv 145, Value.bool false, iv 181, rv 146, nv, nv, nv, nv, iv 388, iv 98, sv "/claim/cut.py" 389])
def o148_3 (P : Params) : Obj := Obj.mk (Value.type "frame") .none Data.plain #[.some (rv 147), .some (rv 3), .some (rv 144), .none, .some (sv "oneheap.steps.ways" 381), .none, .some (rv 0)]
def o149_3 (P : Params) : Obj := ob (Value.type "tuple") (Data.seq #[])
def o150_3 (P : Params) : Obj := ob nv (Data.fields #[])
def o151_3 (P : Params) : Obj := ob nv (Data.func (fdm "__init__" "Form.__init__" (inClass (topS 16) 0) 0 [] nv nv nv nv .none nv nv 0))
def o152_3 (P : Params) : Obj := ob (Value.type "code") (Data.fields #[sv "__init__" 395, sv "Form.__init__" 396, sv "/claim/cut.py" 397, iv 100, iv 2, iv 0, iv 0, iv 3, rv 149, Value.bool true, iv 181, rv 150, nv, nv, nv, rv 151, iv 398, iv 100, sv "/claim/cut.py" 399])
def o153_3 (P : Params) : Obj := ob (Value.type "function") (Data.func (fdm "__init__" "Form.__init__" (inClass (topS 16) 0) 3 [] nv nv nv (sv "oneheap.steps.ways" 381) .none (rv 152) nv 0))
def o154_3 (P : Params) : Obj := ob (Value.type "tuple") (Data.seq #[])
def o155_3 (P : Params) : Obj := ob nv (Data.fields #[])
def o156_3 (P : Params) : Obj := ob (Value.type "tuple") (Data.seq #[sv "self" 404])
def o157_3 (P : Params) : Obj := ob (Value.type "tuple") (Data.seq #[])
def o158_3 (P : Params) : Obj := ob nv (Data.func (fdm "written" "Form.written" (inClass (topS 16) 1) 0 [] nv nv nv nv .none nv nv 0))
def o159_3 (P : Params) : Obj := ob (Value.type "code") (Data.fields #[sv "written" 401, sv "Form.written" 402, sv "/claim/cut.py" 403, iv 103, iv 1, iv 0, iv 0, iv 3, rv 154, Value.bool true, iv 181, rv 155, nv, rv 156, rv 157, rv 158, iv 405, iv 103, sv "/claim/cut.py" 406])
def o160_3 (P : Params) : Obj := ob (Value.type "function") (Data.func (fdm "written" "Form.written" (inClass (topS 16) 1) 3 [] nv nv nv (sv "oneheap.steps.ways" 381) .none (rv 159) nv 0))
def o161_3 (P : Params) : Obj := ob (Value.type "tuple") (Data.seq #[])
def o162_3 (P : Params) : Obj := ob nv (Data.fields #[])
def o163_3 (P : Params) : Obj := ob (Value.type "tuple") (Data.seq #[sv "self" 411])
def o164_3 (P : Params) : Obj := ob (Value.type "tuple") (Data.seq #[])
def o165_3 (P : Params) : Obj := ob nv (Data.func (fdm "field_names" "Form.field_names" (inClass (topS 16) 2) 0 [] nv nv nv nv .none nv nv 0))
def o166_3 (P : Params) : Obj := ob (Value.type "code") (Data.fields #[sv "field_names" 408, sv "Form.field_names" 409, sv "/claim/cut.py" 410, iv 106, iv 1, iv 0, iv 0, iv 3, rv 161, Value.bool true, iv 181, rv 162, nv, rv 163, rv 164, rv 165, iv 412, iv 106, sv "/claim/cut.py" 413])
def o167_3 (P : Params) : Obj := ob (Value.type "function") (Data.func (fdm "field_names" "Form.field_names" (inClass (topS 16) 2) 3 [] nv nv nv (sv "oneheap.steps.ways" 381) .none (rv 166) nv 0))
def o168_3 (P : Params) : Obj := ob (Value.type "tuple") (Data.seq #[])
def o169_3 (P : Params) : Obj := ob nv (Data.fields #[])
def o170_3 (P : Params) : Obj := ob nv (Data.func (fdm "factor_of" "Form.factor_of" (inClass (topS 16) 3) 0 [] nv nv nv nv .none nv nv 0))
def o171_3 (P : Params) : Obj := ob (Value.type "code") (Data.fields #[sv "factor_of" 415, sv "Form.factor_of" 416, sv "/claim/cut.py" 417, iv 109, iv 2, iv 0, iv 0, iv 3, rv 168, Value.bool true, iv 181, rv 169, nv, nv, nv, rv 170, iv 418, iv 109, sv "/claim/cut.py" 419])
def o172_3 (P : Params) : Obj := ob (Value.type "function") (Data.func (fdm "factor_of" "Form.factor_of" (inClass (topS 16) 3) 3 [] nv nv nv (sv "oneheap.steps.ways" 381) .none (rv 171) nv 0))
def o173_3 (P : Params) : Obj := ob (Value.type "tuple") (Data.seq #[])
def o174_3 (P : Params) : Obj := ob nv (Data.fields #[])
def o175_3 (P : Params) : Obj := ob (Value.type "tuple") (Data.seq #[sv "self" 424, sv "group" 425])
def o176_3 (P : Params) : Obj := ob (Value.type "tuple") (Data.seq #[])
def o177_3 (P : Params) : Obj := ob nv (Data.func (fdm "outer_values" "Form.outer_values" (inClass (topS 16) 4) 0 [] nv nv nv nv .none nv nv 0))
def o178_3 (P : Params) : Obj := ob (Value.type "code") (Data.fields #[sv "outer_values" 421, sv "Form.outer_values" 422, sv "/claim/cut.py" 423, iv 112, iv 2, iv 0, iv 0, iv 3, rv 173, Value.bool true, iv 181, rv 174, nv, rv 175, rv 176, rv 177, iv 426, iv 112, sv "/claim/cut.py" 427])
def o179_3 (P : Params) : Obj := ob (Value.type "function") (Data.func (fdm "outer_values" "Form.outer_values" (inClass (topS 16) 4) 3 [] nv nv nv (sv "oneheap.steps.ways" 381) .none (rv 178) nv 0))
def o180_3 (P : Params) : Obj := ob (Value.type "tuple") (Data.seq #[sv "terms" 429])
def o181_3 (P : Params) : Obj := ob (Value.type "dict") (Data.dict #[de P "__module__" 390 (sv "oneheap.steps.ways" 381), de P "__firstlineno__" 394 (Value.int 98 393), de P "__init__" 400 (rv 153), de P "written" 407 (rv 160), de P "field_names" 414 (rv 167), de P "factor_of" 420 (rv 172), de P "outer_values" 428 (rv 179), de P "__static_attributes__" 430 (rv 180), de P "__dict__" 432 (rv 183), de P "__weakref__" 434 (rv 184), de P "__doc__" 435 nv] 4)
def o182_3 (P : Params) : Obj := Obj.mk (Value.type "type") .none (Data.cls (ClassData.mk (Str.ofString "Form") [Value.type "object"] [rv 182, Value.type "object"] 181 (Str.ofString "Form") true [] [] false .none false)) #[.none, .none, .some (sv "Form" 383), .some (sv "Form" 391), .some (Value.builtin "object.__new__"), .some (Value.bool true)]
def o183_3 (P : Params) : Obj := ob (Value.type "getset_descriptor") (Data.fields #[sv "__dict__" 431, rv 182, Value.builtin "function.__dict__", Value.builtin "function.__dict__#set"])
def o184_3 (P : Params) : Obj := ob (Value.type "getset_descriptor") (Data.fields #[sv "__weakref__" 433, rv 182, Value.builtin "ExceptionGroup.__weakref__", nv])
def o185_3 (P : Params) : Obj := ob (Value.type "super") (Data.fields #[rv 182, rv 182, rv 182])
def o186_3 (P : Params) : Obj := ob (Value.type "builtin_function_or_method") (Data.fields #[Value.builtin "object.__init_subclass__", rv 182])
def o187_3 (P : Params) : Obj := ob (Value.type "tuple") (Data.seq #[])
def o188_3 (P : Params) : Obj := ob nv (Data.fields #[])
def o189_3 (P : Params) : Obj := ob (Value.type "tuple") (Data.seq #[sv "script" 443, sv "count" 444, sv "cells" 445, sv "k" 446, sv "cell" 447])
def o190_3 (P : Params) : Obj := ob (Value.type "tuple") (Data.seq #[])
def o191_3 (P : Params) : Obj := ob nv (Data.func (fdm "_law_cells" "_law_cells" (topS 18) 0 [] nv nv nv nv .none nv nv 0))
def o192_3 (P : Params) : Obj := ob (Value.type "code") (Data.fields #[sv "_law_cells" 440, sv "_law_cells" 441, sv "/claim/cut.py" 442, iv 115, iv 2, iv 0, iv 0, iv 3, rv 187, Value.bool true, iv 181, rv 188, nv, rv 189, rv 190, rv 191, iv 448, iv 115, sv "/claim/cut.py" 449])
def o193_3 (P : Params) : Obj := ob (Value.type "function") (Data.func (fdm "_law_cells" "_law_cells" (topS 18) 3 [] nv nv nv (sv "law_oneheap_k16_nearest_integers" 438) .none (rv 192) nv 0))
def o194_3 (P : Params) : Obj := ob (Value.type "tuple") (Data.seq #[])
def o195_3 (P : Params) : Obj := ob nv (Data.fields #[])
def o196_3 (P : Params) : Obj := ob (Value.type "tuple") (Data.seq #[sv "draws" 454, sv "bound" 455, sv "value" 456])
def o197_3 (P : Params) : Obj := ob (Value.type "tuple") (Data.seq #[])
def o198_3 (P : Params) : Obj := ob nv (Data.func (fdm "_law_draw" "_law_draw" (topS 19) 0 [] nv nv nv nv .none nv nv 0))
def o199_3 (P : Params) : Obj := ob (Value.type "code") (Data.fields #[sv "_law_draw" 451, sv "_law_draw" 452, sv "/claim/cut.py" 453, iv 128, iv 2, iv 0, iv 0, iv 3, rv 194, Value.bool true, iv 181, rv 195, nv, rv 196, rv 197, rv 198, iv 457, iv 128, sv "/claim/cut.py" 458])
def o200_3 (P : Params) : Obj := ob (Value.type "function") (Data.func (fdm "_law_draw" "_law_draw" (topS 19) 3 [] nv nv nv (sv "law_oneheap_k16_nearest_integers" 438) .none (rv 199) nv 0))
def o201_3 (P : Params) : Obj := ob (Value.type "tuple") (Data.seq #[])
def o202_3 (P : Params) : Obj := ob nv (Data.fields #[])
def o203_3 (P : Params) : Obj := ob (Value.type "tuple") (Data.seq #[sv "draws" 463, sv "row" 464])
def o204_3 (P : Params) : Obj := ob (Value.type "tuple") (Data.seq #[])
def o205_3 (P : Params) : Obj := ob nv (Data.func (fdm "_law_pick" "_law_pick" (topS 20) 0 [] nv nv nv nv .none nv nv 0))
def o206_3 (P : Params) : Obj := ob (Value.type "code") (Data.fields #[sv "_law_pick" 460, sv "_law_pick" 461, sv "/claim/cut.py" 462, iv 134, iv 2, iv 0, iv 0, iv 3, rv 201, Value.bool true, iv 181, rv 202, nv, rv 203, rv 204, rv 205, iv 465, iv 134, sv "/claim/cut.py" 466])
def o207_3 (P : Params) : Obj := ob (Value.type "function") (Data.func (fdm "_law_pick" "_law_pick" (topS 20) 3 [] nv nv nv (sv "law_oneheap_k16_nearest_integers" 438) .none (rv 206) nv 0))
def o208_3 (P : Params) : Obj := ob (Value.type "tuple") (Data.seq #[])
def o209_3 (P : Params) : Obj := ob nv (Data.fields #[])
def o210_3 (P : Params) : Obj := ob (Value.type "tuple") (Data.seq #[sv "draws" 471, sv "names" 472, sv "row" 473, sv "_law_turn" 474])
def o211_3 (P : Params) : Obj := ob (Value.type "tuple") (Data.seq #[])
def o212_3 (P : Params) : Obj := ob nv (Data.func (fdm "_law_terms" "_law_terms" (topS 21) 0 [] nv nv nv nv .none nv nv 0))
def o213_3 (P : Params) : Obj := ob (Value.type "code") (Data.fields #[sv "_law_terms" 468, sv "_law_terms" 469, sv "/claim/cut.py" 470, iv 136, iv 2, iv 0, iv 0, iv 3, rv 208, Value.bool true, iv 181, rv 209, nv, rv 210, rv 211, rv 212, iv 475, iv 136, sv "/claim/cut.py" 476])
def o214_3 (P : Params) : Obj := ob (Value.type "function") (Data.func (fdm "_law_terms" "_law_terms" (topS 21) 3 [] nv nv nv (sv "law_oneheap_k16_nearest_integers" 438) .none (rv 213) nv 0))
def o215_3 (P : Params) : Obj := ob (Value.type "tuple") (Data.seq #[])
def o216_3 (P : Params) : Obj := ob nv (Data.fields #[])
def o217_3 (P : Params) : Obj := ob (Value.type "tuple") (Data.seq #[sv "terms" 481, sv "names" 482, sv "row" 483, sv "total" 484, sv "term" 485])
def o218_3 (P : Params) : Obj := ob (Value.type "tuple") (Data.seq #[])
def o219_3 (P : Params) : Obj := ob nv (Data.func (fdm "_law_value" "_law_value" (topS 22) 0 [] nv nv nv nv .none nv nv 0))
def o220_3 (P : Params) : Obj := ob (Value.type "code") (Data.fields #[sv "_law_value" 478, sv "_law_value" 479, sv "/claim/cut.py" 480, iv 141, iv 3, iv 0, iv 0, iv 3, rv 215, Value.bool true, iv 181, rv 216, nv, rv 217, rv 218, rv 219, iv 486, iv 141, sv "/claim/cut.py" 487])
def o221_3 (P : Params) : Obj := ob (Value.type "function") (Data.func (fdm "_law_value" "_law_value" (topS 22) 3 [] nv nv nv (sv "law_oneheap_k16_nearest_integers" 438) .none (rv 220) nv 0))
def o222_3 (P : Params) : Obj := ob (Value.type "tuple") (Data.seq #[])
def o223_3 (P : Params) : Obj := ob nv (Data.fields #[])
def o224_3 (P : Params) : Obj := ob nv (Data.func (fdm "_law_factor" "_law_factor" (topS 23) 0 [] nv nv nv nv .none nv nv 0))
def o225_3 (P : Params) : Obj := ob (Value.type "code") (Data.fields #[sv "_law_factor" 489, sv "_law_factor" 490, sv "/claim/cut.py" 491, iv 149, iv 2, iv 0, iv 0, iv 3, rv 222, Value.bool true, iv 181, rv 223, nv, nv, nv, rv 224, iv 492, iv 149, sv "/claim/cut.py" 493])
def o226_3 (P : Params) : Obj := ob (Value.type "function") (Data.func (fdm "_law_factor" "_law_factor" (topS 23) 3 [] nv nv nv (sv "law_oneheap_k16_nearest_integers" 438) .none (rv 225) nv 0))
def o227_3 (P : Params) : Obj := ob (Value.type "tuple") (Data.seq #[])
def o228_3 (P : Params) : Obj := ob nv (Data.fields #[])
def o229_3 (P : Params) : Obj := ob (Value.type "tuple") (Data.seq #[sv "bounds" 498, sv "rows" 499, sv "pair" 500, sv "longer" 501, sv "row" 502, sv "value" 503])
def o230_3 (P : Params) : Obj := ob (Value.type "tuple") (Data.seq #[])
def o231_3 (P : Params) : Obj := ob nv (Data.func (fdm "_law_rows" "_law_rows" (topS 24) 0 [] nv nv nv nv .none nv nv 0))
def o232_3 (P : Params) : Obj := ob (Value.type "code") (Data.fields #[sv "_law_rows" 495, sv "_law_rows" 496, sv "/claim/cut.py" 497, iv 151, iv 1, iv 0, iv 0, iv 3, rv 227, Value.bool true, iv 181, rv 228, nv, rv 229, rv 230, rv 231, iv 504, iv 151, sv "/claim/cut.py" 505])
def o233_3 (P : Params) : Obj := ob (Value.type "function") (Data.func (fdm "_law_rows" "_law_rows" (topS 24) 3 [] nv nv nv (sv "law_oneheap_k16_nearest_integers" 438) .none (rv 232) nv 0))
def o234_3 (P : Params) : Obj := ob (Value.type "tuple") (Data.seq #[])
def o235_3 (P : Params) : Obj := ob nv (Data.fields #[])
def o236_3 (P : Params) : Obj := ob (Value.type "tuple") (Data.seq #[sv "row" 510, sv "best" 511, sv "old" 512, sv "k" 513])
def o237_3 (P : Params) : Obj := ob (Value.type "tuple") (Data.seq #[])
def o238_3 (P : Params) : Obj := ob nv (Data.func (fdm "_law_better" "_law_better" (topS 25) 0 [] nv nv nv nv .none nv nv 0))
def o239_3 (P : Params) : Obj := ob (Value.type "code") (Data.fields #[sv "_law_better" 507, sv "_law_better" 508, sv "/claim/cut.py" 509, iv 160, iv 3, iv 0, iv 0, iv 3, rv 234, Value.bool true, iv 181, rv 235, nv, rv 236, rv 237, rv 238, iv 514, iv 160, sv "/claim/cut.py" 515])
def o240_3 (P : Params) : Obj := ob (Value.type "function") (Data.func (fdm "_law_better" "_law_better" (topS 25) 3 [] nv nv nv (sv "law_oneheap_k16_nearest_integers" 438) .none (rv 239) nv 0))
def o241_3 (P : Params) : Obj := ob (Value.type "tuple") (Data.seq #[])
def o242_3 (P : Params) : Obj := ob nv (Data.fields #[])
def o243_3 (P : Params) : Obj := ob nv (Data.func (fdm "law" "law" (topS 26) 0 [] nv nv nv nv .none nv nv 0))
def o244_3 (P : Params) : Obj := ob (Value.type "code") (Data.fields #[sv "law" 517, sv "law" 518, sv "/claim/cut.py" 519, iv 172, iv 1, iv 0, iv 0, iv 3, rv 241, Value.bool true, iv 181, rv 242, nv, nv, nv, rv 243, iv 520, iv 172, sv "/claim/cut.py" 521])
def o245_3 (P : Params) : Obj := ob (Value.type "function") (Data.func (fdm "law" "law" (topS 26) 3 [] nv nv nv (sv "law_oneheap_k16_nearest_integers" 438) .none (rv 244) nv 0))
def tr3 (P : Params) : PySem.W.BT := (.node (PySem.W.boot_o_0 P) (.node (PySem.W.boot_o_1 P) (.node (o3_3 P) (.node (PySem.W.boot_o_7 P) (.node (o15_3 P) (.node (o31_3 P) (.node (o63_3 P) (.node (o127_3 P) .nil .nil) (.node (o191_3 P) .nil .nil)) (.node (o95_3 P) (.node (o159_3 P) .nil .nil) (.node (o223_3 P) .nil .nil))) (.node (o47_3 P) (.node (o79_3 P) (.node (o143_3 P) .nil .nil) (.node (o207_3 P) .nil .nil)) (.node (o111_3 P) (.node (o175_3 P) .nil .nil) (.node (o239_3 P) .nil .nil)))) (.node (o23_3 P) (.node (o39_3 P) (.node (o71_3 P) (.node (o135_3 P) .nil .nil) (.node (o199_3 P) .nil .nil)) (.node (o103_3 P) (.node (o167_3 P) .nil .nil) (.node (o231_3 P) .nil .nil))) (.node (o55_3 P) (.node (o87_3 P) (.node (o151_3 P) .nil .nil) (.node (o215_3 P) .nil .nil)) (.node (o119_3 P) (.node (o183_3 P) .nil .nil) .nil)))) (.node (o11_1 P) (.node (o19_3 P) (.node (o35_3 P) (.node (o67_3 P) (.node (o131_3 P) .nil .nil) (.node (o195_3 P) .nil .nil)) (.node (o99_3 P) (.node (o163_3 P) .nil .nil) (.node (o227_3 P) .nil .nil))) (.node (o51_3 P) (.node (o83_3 P) (.node (o147_3 P) .nil .nil) (.node (o211_3 P) .nil .nil)) (.node (o115_3 P) (.node (o179_3 P) .nil .nil) (.node (o243_3 P) .nil .nil)))) (.node (o27_3 P) (.node (o43_3 P) (.node (o75_3 P) (.node (o139_3 P) .nil .nil) (.node (o203_3 P) .nil .nil)) (.node (o107_3 P) (.node (o171_3 P) .nil .nil) (.node (o235_3 P) .nil .nil))) (.node (o59_3 P) (.node (o91_3 P) (.node (o155_3 P) .nil .nil) (.node (o219_3 P) .nil .nil)) (.node (o123_3 P) (.node (o187_3 P) .nil .nil) .nil))))) (.node (PySem.W.boot_o_5 P) (.node (PySem.W.boot_o_9 P) (.node (o17_3 P) (.node (o33_3 P) (.node (o65_3 P) (.node (o129_3 P) .nil .nil) (.node (o193_3 P) .nil .nil)) (.node (o97_3 P) (.node (o161_3 P) .nil .nil) (.node (o225_3 P) .nil .nil))) (.node (o49_3 P) (.node (o81_3 P) (.node (o145_3 P) .nil .nil) (.node (o209_3 P) .nil .nil)) (.node (o113_3 P) (.node (o177_3 P) .nil .nil) (.node (o241_3 P) .nil .nil)))) (.node (o25_3 P) (.node (o41_3 P) (.node (o73_3 P) (.node (o137_3 P) .nil .nil) (.node (o201_3 P) .nil .nil)) (.node (o105_3 P) (.node (o169_3 P) .nil .nil) (.node (o233_3 P) .nil .nil))) (.node (o57_3 P) (.node (o89_3 P) (.node (o153_3 P) .nil .nil) (.node (o217_3 P) .nil .nil)) (.node (o121_3 P) (.node (o185_3 P) .nil .nil) .nil)))) (.node (o13_1 P) (.node (o21_3 P) (.node (o37_3 P) (.node (o69_3 P) (.node (o133_3 P) .nil .nil) (.node (o197_3 P) .nil .nil)) (.node (o101_3 P) (.node (o165_3 P) .nil .nil) (.node (o229_3 P) .nil .nil))) (.node (o53_3 P) (.node (o85_3 P) (.node (o149_3 P) .nil .nil) (.node (o213_3 P) .nil .nil)) (.node (o117_3 P) (.node (o181_3 P) .nil .nil) (.node (o245_3 P) .nil .nil)))) (.node (o29_3 P) (.node (o45_3 P) (.node (o77_3 P) (.node (o141_3 P) .nil .nil) (.node (o205_3 P) .nil .nil)) (.node (o109_3 P) (.node (o173_3 P) .nil .nil) (.node (o237_3 P) .nil .nil))) (.node (o61_3 P) (.node (o93_3 P) (.node (o157_3 P) .nil .nil) (.node (o221_3 P) .nil .nil)) (.node (o125_3 P) (.node (o189_3 P) .nil .nil) .nil)))))) (.node (PySem.W.boot_o_2 P) (.node (PySem.W.boot_o_4 P) (.node (PySem.W.boot_o_8 P) (.node (o16_3 P) (.node (o32_3 P) (.node (o64_3 P) (.node (o128_3 P) .nil .nil) (.node (o192_3 P) .nil .nil)) (.node (o96_3 P) (.node (o160_3 P) .nil .nil) (.node (o224_3 P) .nil .nil))) (.node (o48_3 P) (.node (o80_3 P) (.node (o144_3 P) .nil .nil) (.node (o208_3 P) .nil .nil)) (.node (o112_3 P) (.node (o176_3 P) .nil .nil) (.node (o240_3 P) .nil .nil)))) (.node (o24_3 P) (.node (o40_3 P) (.node (o72_3 P) (.node (o136_3 P) .nil .nil) (.node (o200_3 P) .nil .nil)) (.node (o104_3 P) (.node (o168_3 P) .nil .nil) (.node (o232_3 P) .nil .nil))) (.node (o56_3 P) (.node (o88_3 P) (.node (o152_3 P) .nil .nil) (.node (o216_3 P) .nil .nil)) (.node (o120_3 P) (.node (o184_3 P) .nil .nil) .nil)))) (.node (o12_3 P) (.node (o20_3 P) (.node (o36_3 P) (.node (o68_3 P) (.node (o132_3 P) .nil .nil) (.node (o196_3 P) .nil .nil)) (.node (o100_3 P) (.node (o164_3 P) .nil .nil) (.node (o228_3 P) .nil .nil))) (.node (o52_3 P) (.node (o84_3 P) (.node (o148_3 P) .nil .nil) (.node (o212_3 P) .nil .nil)) (.node (o116_3 P) (.node (o180_3 P) .nil .nil) (.node (o244_3 P) .nil .nil)))) (.node (o28_3 P) (.node (o44_3 P) (.node (o76_3 P) (.node (o140_3 P) .nil .nil) (.node (o204_3 P) .nil .nil)) (.node (o108_3 P) (.node (o172_3 P) .nil .nil) (.node (o236_3 P) .nil .nil))) (.node (o60_3 P) (.node (o92_3 P) (.node (o156_3 P) .nil .nil) (.node (o220_3 P) .nil .nil)) (.node (o124_3 P) (.node (o188_3 P) .nil .nil) .nil))))) (.node (PySem.W.boot_o_6 P) (.node (PySem.W.boot_o_10 P) (.node (o18_3 P) (.node (o34_3 P) (.node (o66_3 P) (.node (o130_3 P) .nil .nil) (.node (o194_3 P) .nil .nil)) (.node (o98_3 P) (.node (o162_3 P) .nil .nil) (.node (o226_3 P) .nil .nil))) (.node (o50_3 P) (.node (o82_3 P) (.node (o146_3 P) .nil .nil) (.node (o210_3 P) .nil .nil)) (.node (o114_3 P) (.node (o178_3 P) .nil .nil) (.node (o242_3 P) .nil .nil)))) (.node (o26_3 P) (.node (o42_3 P) (.node (o74_3 P) (.node (o138_3 P) .nil .nil) (.node (o202_3 P) .nil .nil)) (.node (o106_3 P) (.node (o170_3 P) .nil .nil) (.node (o234_3 P) .nil .nil))) (.node (o58_3 P) (.node (o90_3 P) (.node (o154_3 P) .nil .nil) (.node (o218_3 P) .nil .nil)) (.node (o122_3 P) (.node (o186_3 P) .nil .nil) .nil)))) (.node (o14_1 P) (.node (o22_3 P) (.node (o38_3 P) (.node (o70_3 P) (.node (o134_3 P) .nil .nil) (.node (o198_3 P) .nil .nil)) (.node (o102_3 P) (.node (o166_3 P) .nil .nil) (.node (o230_3 P) .nil .nil))) (.node (o54_3 P) (.node (o86_3 P) (.node (o150_3 P) .nil .nil) (.node (o214_3 P) .nil .nil)) (.node (o118_3 P) (.node (o182_3 P) .nil .nil) .nil))) (.node (o30_3 P) (.node (o46_3 P) (.node (o78_3 P) (.node (o142_3 P) .nil .nil) (.node (o206_3 P) .nil .nil)) (.node (o110_3 P) (.node (o174_3 P) .nil .nil) (.node (o238_3 P) .nil .nil))) (.node (o62_3 P) (.node (o94_3 P) (.node (o158_3 P) .nil .nil) (.node (o222_3 P) .nil .nil)) (.node (o126_3 P) (.node (o190_3 P) .nil .nil) .nil)))))))
def sT3 (w : World) (os : OsState) : PySem.W.SharedT := ⟨tr3 w.params, 246, (Life.mk [] [] [] 0 [] [] false #[] [] 0 false false false 0 [2000, 10, 10] false 0 true [] [] 0 false), #[], (Drawn.mk 0 0 0 0), 523, os⟩
def sT4 (w : World) (os : OsState) : PySem.W.SharedT := ⟨tr3 w.params, 246, (Life.mk [] [] [] 0 [] [] false #[] [] 0 false false false 0 [2000, 10, 10] false 0 true [] [] 0 false), #[], (Drawn.mk 0 0 0 0), 523, os⟩
abbrev cAnn : Option Value := .some (Value.ref 6)
abbrev cFp : Pos := Pos.mk 0 0 0 0
abbrev cBody : List Stmt := PySem.W.behindTheImports RR.prog
abbrev cEnv : PySem.Env := { scope := RR.prog.main.scope, locals := mainNs, globals := mainNs, cells := [], code := Value.ref 13, frame := some 14 }
abbrev cCode : Code := .body cBody cEnv
def cSl (a n : Nat) : List Stmt := (cBody.drop a).take n
def cBt (w : World) : PySem.W.BT := match HandSHeadRun.putAll (PySem.W.boot_heap w.params).objs.toList .nil 0 with
  | some (t, _) => t
  | none => .nil
end
end K16
namespace K16
open PySem PySem.Spec PyProof.Rows L2
open Rn
set_option autoImplicit false
set_option maxHeartbeats 0
noncomputable section
theorem cPut (w : World) : HandSHeadRun.putAll (PySem.W.boot_heap w.params).objs.toList .nil 0 = some (cBt w, 11) := by kernel_rfl
theorem cSize (w : World) : (PySem.W.boot_heap w.params).objs.size = 11 := by kernel_rfl
theorem cAnnE (w : World) : HandSHeadRun.bootAnn w = cAnn := by kernel_rfl
theorem cPre (w : World) (os : OsState) : Ct.preF (Ct.stQ RR.prog w) 11 cAnn 12 (HandSHeadRun.bootT w os (cBt w, 11)) (PySem.W.topStub RR.prog) = some (sT1 w os, ⟨HandSHeadRun.denQ HandSHeadRun.tabQ cCode, cCode, (Pos.mk 0 0 0 0), [PySem.W.topFrame cFp]⟩) := by kernel_rfl
theorem cBlk (w : World) (os : OsState) : Ct.segF (Ct.stQ RR.prog w) 11 cAnn 1 1 (sT1 w os) (Ct.blockQ cBody cEnv cCode (Pos.mk 0 0 0 0) [PySem.W.topFrame cFp]) = some (.next, sT2 w os, cCode, (Pos.mk 0 0 0 0)) := by kernel_rfl
theorem cRun3 (w : World) (os : OsState) : Ct.segF (Ct.stQ RR.prog w) 11 cAnn 1 1382 (sT2 w os) (Ct.piecesQ (cSl 0 27) cEnv cCode (Pos.mk 0 0 0 0) [PySem.W.topFrame cFp]) = some (.next, sT3 w os, cCode, (Pos.mk 172 0 204 52)) := by kernel_rfl
theorem cFin (w : World) (os : OsState) : HandSHeadRun.goF (Ct.stQ RR.prog w) 11 cAnn 2 (sT3 w os) ⟨PySem.W.doneF .next, cCode, (Pos.mk 172 0 204 52), [PySem.W.topFrame cFp]⟩ = some (sT4 w os) := by kernel_rfl
theorem cAll : cBody = cSl 0 27 ++ [] := by kernel_rfl
theorem cTop (w : World) (os : OsState) : PySem.W.topRun treeTable RR.prog w (PySem.W.boot_heap w.params).objs.size (HandSHeadRun.bootAnn w) 1397 ⟨PySem.W.boot_heap w.params, #[], PySem.W.boot_drawn, PySem.W.boot_toks, os⟩ (PySem.W.topStub RR.prog) = some (sT4 w os).abs := by
  have eb : (HandSHeadRun.bootT w os (cBt w, 11)).abs = ⟨PySem.W.boot_heap w.params, #[], PySem.W.boot_drawn, PySem.W.boot_toks, os⟩ := by
    show (⟨PySem.W.absHeap (cBt w) 11 (PySem.W.boot_heap w.params).life, #[], PySem.W.boot_drawn, PySem.W.boot_toks, os⟩ : Shared) = _
    rw [HandSHeadRun.putAll_heap (cPut w)]
  rw [← eb, cSize w, cAnnE w]
  have z : PySem.W.topRun treeTable RR.prog w 11 cAnn (1+ (1382+ (2))) (sT1 w os).abs ⟨denote treeTable (.body cBody cEnv), cCode, (Pos.mk 0 0 0 0), [PySem.W.topFrame cFp]⟩ = some (sT4 w os).abs := by
    refine Ct.blockQ_ok (cBlk w os) ?_
    rw [cAll]
    exact Ct.pieceQ (cRun3 w os) (Ct.finQ (cFin w os))
  exact Ct.preQ (cPre w os) z
end
end K16
namespace K16
open PySem PySem.Spec PyProof.Rows L2 Dv
set_option autoImplicit false
noncomputable section
section
variable {P : Program} {w : World} {K : PySem.W.Frag} {mg : Str → Option Value} {base : Heap} {A : Ad}
theorem fl_first (T : Txt K mg A) : FldOk K (S A) "first" fc_first := (Dv.fo_cons (show Cls K (S A 0) ∧ NoAttr K (S A 0) "first" from ⟨T.cl_Equation, T.na_Equation_first⟩) Dv.fo_nil)
theorem fl_second (T : Txt K mg A) : FldOk K (S A) "second" fc_second := (Dv.fo_cons (show Cls K (S A 0) ∧ NoAttr K (S A 0) "second" from ⟨T.cl_Equation, T.na_Equation_second⟩) Dv.fo_nil)
theorem fl_total (T : Txt K mg A) : FldOk K (S A) "total" fc_total := (Dv.fo_cons (show Cls K (S A 0) ∧ NoAttr K (S A 0) "total" from ⟨T.cl_Equation, T.na_Equation_total⟩) Dv.fo_nil)
theorem fl_terms (T : Txt K mg A) : FldOk K (S A) "terms" fc_terms := (Dv.fo_cons (show Cls K (S A 1) ∧ NoAttr K (S A 1) "terms" from ⟨T.cl_Form, T.na_Form_terms⟩) Dv.fo_nil)
theorem isk (T : Txt K mg A) : IsOk K (S A) isOO isOB isBT := ⟨fun _ _ _ e => (by cases e),
  fun _ _ _ e => (by cases e),
  fun _ _ _ e => (by cases e)⟩
end
section
variable {P : Program} {w : World} {K : PySem.W.Frag} {mg : Str → Option Value} {base : Heap} {A : Ad}
theorem sc_Equation___init__ : FnScope ["self", "first", "second", "total"] ["self", "first", "second", "total"] (defScope (inClass (topS 2) 0)) := ⟨rfl, rfl, rfl, by decide +kernel, rfl, by decide +kernel, by decide +kernel⟩
theorem ok_Equation___init__ (T : Txt K mg A) : FnOk P w K mg base CX0 1 A.f_Equation___init__ A.fd_Equation___init__ ["self", "first", "second", "total"] (spD K (S A) false 4 d_Equation___init__) := by
  refine T.F_Equation___init__.ok sc_Equation___init__ (fun vs H Q E h => spD_len _ _ _ h) (fun cdv Ar outer s H vs Q E hr h => bodyD (N := ["self", "first", "second", "total"]) (f := b_Equation___init__) ?_ e_Equation___init__ (by decide) h)
  exact (s_cons (s_fld (fl_first T) (pv 0) (q_vl (pv 1)) rfl)
 (s_cons (s_fld (fl_second T) (pv 0) (q_vl (pv 2)) rfl)
 (s_one (s_fld (fl_total T) (pv 0) (q_vl (pv 3)) rfl))))
theorem sc_Equation_is_empty : FnScope ["self"] ["self"] (defScope (inClass (topS 2) 1)) := ⟨rfl, rfl, rfl, by decide +kernel, rfl, by decide +kernel, by decide +kernel⟩
theorem ok_Equation_is_empty (T : Txt K mg A) : FnOk P w K mg base CX0 1 A.f_Equation_is_empty A.fd_Equation_is_empty ["self"] (spD K (S A) false 1 d_Equation_is_empty) := by
  refine T.F_Equation_is_empty.ok sc_Equation_is_empty (fun vs H Q E h => spD_len _ _ _ h) (fun cdv Ar outer s H vs Q E hr h => bodyD (N := ["self"]) (f := b_Equation_is_empty) ?_ e_Equation_is_empty (by decide) h)
  exact (s_one (s_ret (q_and (q_cmp (opOr op_eq (op_eqD (u64 hr))) so_eq (q_fld (fl_first T) (q_vl (pv 0)) rfl) (q_c pe_int fun _ => rfl) (nomark _)) (q_one (q_cmp (opOr op_eq (op_eqD (u64 hr))) so_eq (q_fld (fl_second T) (q_vl (pv 0)) rfl) (q_c pe_int fun _ => rfl) (nomark _))))))
theorem sc_Equation_goes_with : FnScope ["self", "other"] ["self", "other"] (defScope (inClass (topS 2) 2)) := ⟨rfl, rfl, rfl, by decide +kernel, rfl, by decide +kernel, by decide +kernel⟩
theorem ok_Equation_goes_with (T : Txt K mg A) : FnOk P w K mg base CX0 1 A.f_Equation_goes_with A.fd_Equation_goes_with ["self", "other"] (spD K (S A) false 2 d_Equation_goes_with) := by
  refine T.F_Equation_goes_with.ok sc_Equation_goes_with (fun vs H Q E h => spD_len _ _ _ h) (fun cdv Ar outer s H vs Q E hr h => bodyD (N := ["self", "other"]) (f := b_Equation_goes_with) ?_ e_Equation_goes_with (by decide) h)
  exact (s_cons (s_if (q_cmpT (opOr op_ne (op_neD (u64 hr))) so_ne (q_op op_mul so_mul (q_fld (fl_first T) (q_vl (pv 0)) rfl) (q_fld (fl_total T) (q_vl (pv 1)) rfl)) (q_op op_mul so_mul (q_fld (fl_first T) (q_vl (pv 1)) rfl) (q_fld (fl_total T) (q_vl (pv 0)) rfl)) (nomark _))
 (s_one (s_ret (q_c pe_bl fun _ => rfl)))
 s_nil)
 (s_one (s_ret (q_cmp (opOr op_eq (op_eqD (u64 hr))) so_eq (q_op op_mul so_mul (q_fld (fl_second T) (q_vl (pv 0)) rfl) (q_fld (fl_total T) (q_vl (pv 1)) rfl)) (q_op op_mul so_mul (q_fld (fl_second T) (q_vl (pv 1)) rfl) (q_fld (fl_total T) (q_vl (pv 0)) rfl)) (nomark _)))))
theorem sc_Equation_crossed_with : FnScope ["self", "other"] ["self", "other"] (defScope (inClass (topS 2) 3)) := ⟨rfl, rfl, rfl, by decide +kernel, rfl, by decide +kernel, by decide +kernel⟩
theorem ok_Equation_crossed_with (T : Txt K mg A) : FnOk P w K mg base CX0 1 A.f_Equation_crossed_with A.fd_Equation_crossed_with ["self", "other"] (spD K (S A) false 2 d_Equation_crossed_with) := by
  refine T.F_Equation_crossed_with.ok sc_Equation_crossed_with (fun vs H Q E h => spD_len _ _ _ h) (fun cdv Ar outer s H vs Q E hr h => bodyD (N := ["self", "other"]) (f := b_Equation_crossed_with) ?_ e_Equation_crossed_with (by decide) h)
  exact (s_one (s_ret (q_op op_sub so_sub (q_op op_mul so_mul (q_fld (fl_first T) (q_vl (pv 0)) rfl) (q_fld (fl_second T) (q_vl (pv 1)) rfl)) (q_op op_mul so_mul (q_fld (fl_first T) (q_vl (pv 1)) rfl) (q_fld (fl_second T) (q_vl (pv 0)) rfl)))))
theorem sc_nearest_within : FnScope ["bounds", "goal", "low", "high"] ["bounds", "goal"] (defScope (topS 6)) := ⟨rfl, rfl, rfl, by decide +kernel, rfl, by decide +kernel, by decide +kernel⟩
theorem ok_nearest_within (T : Txt K mg A) : FnOk P w K mg base CX0 1 A.f_nearest_within A.fd_nearest_within ["bounds", "goal"] (spD K (S A) false 2 d_nearest_within) := by
  refine T.F_nearest_within.ok sc_nearest_within (fun vs H Q E h => spD_len _ _ _ h) (fun cdv Ar outer s H vs Q E hr h => bodyD (N := ["bounds", "goal", "low", "high"]) (f := b_nearest_within) ?_ e_nearest_within (by decide) h)
  exact (s_cons (s_asg (q_vl (pv 0)) (pg_tup rfl (pgs_cons (pg_name (i := 2) sc_nearest_within.nd rfl (.inl rfl)) (pgs_cons (pg_name (i := 3) sc_nearest_within.nd rfl (.inl rfl)) pgs_nil))) (Dv.g_tup (gs_cons (Dv.g_name 2) (gs_cons (Dv.g_name 3) gs_nil))))
 (s_one (s_ret (q_if (q_cmpT op_isN so_is (q_vl (pv 1)) (q_c pe_non fun _ => rfl) (nomark _)) (q_vl (pv 2)) (q_callB (call_min2 rfl) sc_I2 rfl T.b_min (by decide +kernel) (q_cons (q_callB (call_max2 rfl) sc_I2 rfl T.b_max (by decide +kernel) (q_cons (q_vl (pv 1)) (q_cons (q_vl (pv 2)) q_nil))) (q_cons (q_vl (pv 3)) q_nil)))))))
theorem sc_is_within : FnScope ["value", "bounds"] ["value", "bounds"] (defScope (topS 8)) := ⟨rfl, rfl, rfl, by decide +kernel, rfl, by decide +kernel, by decide +kernel⟩
theorem ok_is_within (T : Txt K mg A) : FnOk P w K mg base CX0 1 A.f_is_within A.fd_is_within ["value", "bounds"] (spD K (S A) false 2 d_is_within) := by
  refine T.F_is_within.ok sc_is_within (fun vs H Q E h => spD_len _ _ _ h) (fun cdv Ar outer s H vs Q E hr h => bodyD (N := ["value", "bounds"]) (f := b_is_within) ?_ e_is_within (by decide) h)
  exact (s_one (s_ret (q_chain (opOr op_le op_le_str) (opOr op_le op_le_str) so_cmp so_cmp (q_ix ix_seq so_ix (q_vl (pv 1)) (q_c pe_int fun _ => rfl) (fun _ _ => rfl)) (q_vl (pv 0)) (q_ix ix_seq so_ix (q_vl (pv 1)) (q_c pe_int fun _ => rfl) (fun _ _ => rfl)))))
theorem sc_common_divisor : FnScope ["first", "second", "part", "next_part", "share"] ["first", "second"] (defScope (topS 11)) := ⟨rfl, rfl, rfl, by decide +kernel, rfl, by decide +kernel, by decide +kernel⟩
theorem ok_common_divisor (T : Txt K mg A) : FnOk P w K mg base CX0 1 A.f_common_divisor A.fd_common_divisor ["first", "second"] (spD K (S A) false 2 d_common_divisor) := by
  refine T.F_common_divisor.ok sc_common_divisor (fun vs H Q E h => spD_len _ _ _ h) (fun cdv Ar outer s H vs Q E hr h => bodyD (N := ["first", "second", "part", "next_part", "share"]) (f := b_common_divisor) ?_ e_common_divisor (by decide) h)
  exact (s_cons (s_asg (q_tup (q_cons (q_c pe_int fun _ => rfl) (q_cons (q_c pe_int fun _ => rfl) q_nil))) (pg_tup rfl (pgs_cons (pg_name (i := 2) sc_common_divisor.nd rfl (.inl rfl)) (pgs_cons (pg_name (i := 3) sc_common_divisor.nd rfl (.inl rfl)) pgs_nil))) (Dv.g_tup (gs_cons (Dv.g_name 2) (gs_cons (Dv.g_name 3) gs_nil))))
 (s_cons (s_while 1000 PassesOwn.never (q_cmpT (opOr op_ne (op_neD (u64 hr))) so_ne (q_vl (pv 1)) (q_c pe_int fun _ => rfl) (nomark _))
 (s_cons (s_set (i := 4) sc_common_divisor.nd rfl (.inl rfl) (q_op op_fdivN so_fdv (q_vl (pv 0)) (q_vl (pv 1))))
 (s_cons (s_par (ps_par (i := 0) (j := 1) rfl sc_common_divisor.nd rfl rfl (by decide) rfl rfl (q_cons (q_vl (pv 1)) (q_cons (q_op op_sub so_sub (q_vl (pv 0)) (q_op op_mul so_mul (q_vl (pv 4)) (q_vl (pv 1)))) q_nil)) rfl))
 (s_one (s_par (ps_par (i := 2) (j := 3) rfl sc_common_divisor.nd rfl rfl (by decide) rfl rfl (q_cons (q_vl (pv 3)) (q_cons (q_op op_sub so_sub (q_vl (pv 2)) (q_op op_mul so_mul (q_vl (pv 4)) (q_vl (pv 3)))) q_nil)) rfl))))))
 (s_one (s_ret (q_tup (q_cons (q_vl (pv 0)) (q_cons (q_vl (pv 2)) q_nil)))))))
theorem sc_turns_within : FnScope ["start", "step", "bounds", "low", "high"] ["start", "step", "bounds"] (defScope (topS 13)) := ⟨rfl, rfl, rfl, by decide +kernel, rfl, by decide +kernel, by decide +kernel⟩
theorem ok_turns_within (T : Txt K mg A) : FnOk P w K mg base CX0 1 A.f_turns_within A.fd_turns_within ["start", "step", "bounds"] (spD K (S A) false 3 d_turns_within) := by
  refine T.F_turns_within.ok sc_turns_within (fun vs H Q E h => spD_len _ _ _ h) (fun cdv Ar outer s H vs Q E hr h => bodyD (N := ["start", "step", "bounds", "low", "high"]) (f := b_turns_within) ?_ e_turns_within (by decide) h)
  exact (s_cons (s_asg (q_vl (pv 2)) (pg_tup rfl (pgs_cons (pg_name (i := 3) sc_turns_within.nd rfl (.inl rfl)) (pgs_cons (pg_name (i := 4) sc_turns_within.nd rfl (.inl rfl)) pgs_nil))) (Dv.g_tup (gs_cons (Dv.g_name 3) (gs_cons (Dv.g_name 4) gs_nil))))
 (s_cons (s_if (q_cmpT (opOr op_lt op_lt_str) so_cmp (q_vl (pv 1)) (q_c pe_int fun _ => rfl) (nomark _))
 (s_one (s_asg (q_tup (q_cons (q_un un_neg su_neg (q_vl (pv 0))) (q_cons (q_un un_neg su_neg (q_vl (pv 1))) (q_cons (q_un un_neg su_neg (q_vl (pv 4))) (q_cons (q_un un_neg su_neg (q_vl (pv 3))) q_nil))))) (pg_tup rfl (pgs_cons (pg_name (i := 0) sc_turns_within.nd rfl (.inl rfl)) (pgs_cons (pg_name (i := 1) sc_turns_within.nd rfl (.inl rfl)) (pgs_cons (pg_name (i := 3) sc_turns_within.nd rfl (.inl rfl)) (pgs_cons (pg_name (i := 4) sc_turns_within.nd rfl (.inl rfl)) pgs_nil))))) (Dv.g_tup (gs_cons (Dv.g_name 0) (gs_cons (Dv.g_name 1) (gs_cons (Dv.g_name 3) (gs_cons (Dv.g_name 4) gs_nil)))))))
 s_nil)
 (s_one (s_ret (q_tup (q_cons (q_un un_neg su_neg (q_op op_fdivN so_fdv (q_op op_sub so_sub (q_vl (pv 0)) (q_vl (pv 3))) (q_vl (pv 1)))) (q_cons (q_op op_fdivN so_fdv (q_op op_sub so_sub (q_vl (pv 4)) (q_vl (pv 0))) (q_vl (pv 1))) q_nil)))))))
theorem sc_Form___init__ : FnScope ["self", "terms", "factor", "name"] ["self", "terms"] (defScope (inClass (topS 16) 0)) := ⟨rfl, rfl, rfl, by decide +kernel, rfl, by decide +kernel, by decide +kernel⟩
theorem ok_Form___init__ (T : Txt K mg A) : FnOk P w K mg base CX0 1 A.f_Form___init__ A.fd_Form___init__ ["self", "terms"] (spD K (S A) false 2 d_Form___init__) := by
  refine T.F_Form___init__.ok sc_Form___init__ (fun vs H Q E h => spD_len _ _ _ h) (fun cdv Ar outer s H vs Q E hr h => bodyD (N := ["self", "terms", "factor", "name"]) (f := b_Form___init__) ?_ e_Form___init__ (by decide) h)
  exact (s_one (s_fld (fl_terms T) (pv 0) (q_fr (qf_lc (vs := [2, 3]) rfl sc_Form___init__.nd (i_seq (q_vl (pv 1))) (blkOk_by (own := [("factor", 2), ("name", 3)]) (N := ["self", "terms", "factor", "name"]) (sc := defScope (inClass (topS 16) 0)) (by decide +kernel)) rfl (fun _ _ _ _ _ => (pg_tup rfl (pgs_cons (pg_name (i := 2) sc_Form___init__.nd rfl (Or.inl rfl)) (pgs_cons (pg_name (i := 3) sc_Form___init__.nd rfl (Or.inl rfl)) pgs_nil)))) (Dv.g_tup (gs_cons (Dv.g_name 2) (gs_cons (Dv.g_name 3) gs_nil))) (by decide) (fun _ _ _ _ _ => pts_nil) (fun _ _ _ h => yes_ok h) (fun _ _ _ _ _ => by exact (q_tup (q_cons (q_vl (pv 2)) (q_cons (q_vl (pv 3)) q_nil)))))) rfl))
theorem sc_Form_factor_of : FnScope ["self", "field", "factor", "name"] ["self", "field"] (defScope (inClass (topS 16) 3)) := ⟨rfl, rfl, rfl, by decide +kernel, rfl, by decide +kernel, by decide +kernel⟩
theorem ok_Form_factor_of (T : Txt K mg A) : FnOk P w K mg base CX0 1 A.f_Form_factor_of A.fd_Form_factor_of ["self", "field"] (spD K (S A) false 2 d_Form_factor_of) := by
  refine T.F_Form_factor_of.ok sc_Form_factor_of (fun vs H Q E h => spD_len _ _ _ h) (fun cdv Ar outer s H vs Q E hr h => bodyD (N := ["self", "field", "factor", "name"]) (f := b_Form_factor_of) ?_ e_Form_factor_of (by decide) h)
  exact (s_one (s_ret (q_callB (cr_sum rfl) sc_sum rfl T.b_sum (by decide +kernel) (q_cons (q_fr (qf_lc (vs := [2, 3]) rfl sc_Form_factor_of.nd (i_seq (q_fld (fl_terms T) (q_vl (pv 0)) rfl)) (blkOk_by (own := [("factor", 2), ("name", 3)]) (N := ["self", "field", "factor", "name"]) (sc := defScope (inClass (topS 16) 3)) (by decide +kernel)) rfl (fun _ _ _ _ _ => (pg_tup rfl (pgs_cons (pg_name (i := 2) sc_Form_factor_of.nd rfl (Or.inl rfl)) (pgs_cons (pg_name (i := 3) sc_Form_factor_of.nd rfl (Or.inl rfl)) pgs_nil)))) (Dv.g_tup (gs_cons (Dv.g_name 2) (gs_cons (Dv.g_name 3) gs_nil))) (by decide) (fun _ _ _ _ _ => pts_one (by exact (q_cmpT (opOr op_eq (op_eqD (u64 hr))) so_eq (q_vl (pv 3)) (q_vl (pv 1)) (nomark _)))) (fun _ _ _ h => h) (fun _ _ _ _ _ => by exact (q_vl (pv 2))))) q_nil))))
theorem sc__law_cells : FnScope ["script", "count", "cells", "k", "cell"] ["script", "count"] (defScope (topS 18)) := ⟨rfl, rfl, rfl, by decide +kernel, rfl, by decide +kernel, by decide +kernel⟩
theorem ok__law_cells (T : Txt K mg A) : FnOk P w K mg base CX0 1 A.f__law_cells A.fd__law_cells ["script", "count"] (spD K (S A) true 2 d__law_cells) := by
  refine T.F__law_cells.ok sc__law_cells (fun vs H Q E h => spD_len _ _ _ h) (fun cdv Ar outer s H vs Q E hr h => bodyD (N := ["script", "count", "cells", "k", "cell"]) (f := b__law_cells) ?_ e__law_cells (by decide) h)
  exact (s_cons (s_box (i := 2) sc__law_cells.nd rfl (.inl rfl) (qf_lst q_nil))
 (s_cons (s_for PassesOwn.never rfl (i_rng1 rfl T.b_range (q_cons (q_vl (pv 1)) q_nil)) (pg_name (i := 3) sc__law_cells.nd rfl (.inl rfl)) (Dv.g_name 3)
 (s_cons (s_set (i := 4) sc__law_cells.nd rfl (.inl rfl) (q_op (opOr op_add (opOr op_add_str op_cat)) so_add (q_op op_mul so_mul (q_c pe_int fun _ => rfl) (q_vl (pv 3))) (q_c pe_int fun _ => rfl)))
 (s_cons (s_if (q_cmpT (opOr op_lt op_lt_str) so_cmp (q_vl (pv 3)) (q_callB call_len sc_len rfl T.b_len (by decide +kernel) (q_cons (q_vl (pv 0)) q_nil)) (nomark _))
 (s_cons (s_set (i := 4) sc__law_cells.nd rfl (.inl rfl) (q_callTy call_int1 sc_int rfl T.b_int (by decide +kernel) (q_cons (q_ix ix_seq so_ix (q_vl (pv 0)) (q_vl (pv 3)) (fun _ _ => rfl)) q_nil)))
 (s_one (s_if (q_cmpT (opOr op_lt op_lt_str) so_cmp (q_vl (pv 4)) (q_c pe_int fun _ => rfl) (nomark _))
 (s_one (s_set (i := 4) sc__law_cells.nd rfl (.inl rfl) (q_op op_sub so_sub (q_c pe_int fun _ => rfl) (q_op op_mul so_mul (q_c pe_int fun _ => rfl) (q_vl (pv 4))))))
 s_nil)))
 s_nil)
 (s_cons (s_if (q_cmpT (opOr op_lt op_lt_str) so_cmp (q_vl (pv 4)) (q_c pe_int fun _ => rfl) (nomark _))
 (s_cons (s_set (i := 4) sc__law_cells.nd rfl (.inl rfl) (q_op op_modN so_mod (q_op (opOr op_add (opOr op_add_str op_cat)) so_add (q_op (opOr op_add (opOr op_add_str op_cat)) so_add (q_op op_mul so_mul (q_callTy call_int1 sc_int rfl T.b_int (by decide +kernel) (q_cons (q_vl (pv 4)) q_nil)) (q_c pe_int fun _ => rfl)) (q_c pe_int fun _ => rfl)) (q_op op_mul so_mul (q_c pe_int fun _ => rfl) (q_vl (pv 3)))) (q_c pe_int fun _ => rfl)))
 (s_one (s_set (i := 4) sc__law_cells.nd rfl (.inl rfl) (q_op op_modN so_mod (q_op (opOr op_add (opOr op_add_str op_cat)) so_add (q_op op_mul so_mul (q_callTy call_int1 sc_int rfl T.b_int (by decide +kernel) (q_cons (q_vl (pv 4)) q_nil)) (q_c pe_int fun _ => rfl)) (q_c pe_int fun _ => rfl)) (q_c pe_int fun _ => rfl)))))
 s_nil)
 (s_one (s_expr (q_own PySem.F.plainAttrs_list PySem.F.slot_list_append PySem.F.type_list_append mt_append sm_app (pv 2) (q_cons (q_vl (pv 4)) q_nil))))))))
 (s_one (s_retV (pv 2)))))
theorem sc__law_draw : FnScope ["draws", "bound", "value"] ["draws", "bound"] (defScope (topS 19)) := ⟨rfl, rfl, rfl, by decide +kernel, rfl, by decide +kernel, by decide +kernel⟩
theorem ok__law_draw (T : Txt K mg A) : FnOk P w K mg base CX0 1 A.f__law_draw A.fd__law_draw ["draws", "bound"] (spD K (S A) false 2 d__law_draw) := by
  refine T.F__law_draw.ok sc__law_draw (fun vs H Q E h => spD_len _ _ _ h) (fun cdv Ar outer s H vs Q E hr h => bodyD (N := ["draws", "bound", "value"]) (f := b__law_draw) ?_ e__law_draw (by decide) h)
  exact (s_cons (s_if (q_pt (q_wand (q_borT (q_cmpT (opOr op_eq (op_eqD (u64 hr))) so_eq (q_ix ix_seq so_ix (q_vl (pv 0)) (q_c pe_int fun _ => rfl) (fun _ _ => rfl)) (q_c pe_int fun _ => rfl) (nomark _))) (q_wand1 (q_borT (q_cmpT (opOr op_gt op_gt_str) so_cmp (q_callB call_len sc_len rfl T.b_len (by decide +kernel) (q_cons (q_vl (pv 0)) q_nil)) (q_c pe_int fun _ => rfl) (nomark _))))))
 (s_one (s_expr (q_own PySem.F.plainAttrs_list PySem.F.slot_list_pop PySem.F.type_list_pop mt_popAt sm_popAt (pv 0) (q_cons (q_c pe_int fun _ => rfl) q_nil))))
 s_nil)
 (s_cons (s_set (i := 2) sc__law_draw.nd rfl (.inl rfl) (q_bor (q_op op_modN so_mod (q_callTy call_int1 sc_int rfl T.b_int (by decide +kernel) (q_cons (q_ix ix_seq so_ix (q_vl (pv 0)) (q_c pe_int fun _ => rfl) (fun _ _ => rfl)) q_nil)) (q_vl (pv 1)))))
 (s_cons (s_setIx (pv 0) (q_c pe_int fun _ => rfl) (q_bor (q_op op_fdivN so_fdv (q_ix ix_seq so_ix (q_vl (pv 0)) (q_c pe_int fun _ => rfl) (fun _ _ => rfl)) (q_vl (pv 1)))) (pg_sub (pv 0) (q_c pe_int fun _ => rfl) set_list))
 (s_one (s_ret (q_vl (pv 2)))))))
theorem sc__law_value : FnScope ["terms", "names", "row", "total", "term"] ["terms", "names", "row"] (defScope (topS 22)) := ⟨rfl, rfl, rfl, by decide +kernel, rfl, by decide +kernel, by decide +kernel⟩
theorem ok__law_value (T : Txt K mg A) : FnOk P w K mg base CX0 1 A.f__law_value A.fd__law_value ["terms", "names", "row"] (spD K (S A) false 3 d__law_value) := by
  refine T.F__law_value.ok sc__law_value (fun vs H Q E h => spD_len _ _ _ h) (fun cdv Ar outer s H vs Q E hr h => bodyD (N := ["terms", "names", "row", "total", "term"]) (f := b__law_value) ?_ e__law_value (by decide) h)
  exact (s_cons (s_set (i := 3) sc__law_value.nd rfl (.inl rfl) (q_c pe_int fun _ => rfl))
 (s_cons (s_for PassesOwn.never rfl (i_seq (q_vl (pv 0))) (pg_name (i := 4) sc__law_value.nd rfl (.inl rfl)) (Dv.g_name 4)
 (s_one (s_if (q_cmpT op_isN so_is (q_ix ix_seq so_ix (q_vl (pv 4)) (q_c pe_int fun _ => rfl) (fun _ _ => rfl)) (q_c pe_non fun _ => rfl) (nomark _))
 (s_one (s_set (i := 3) sc__law_value.nd rfl (.inl rfl) (q_op (opOr op_add (opOr op_add_str op_cat)) so_add (q_vl (pv 3)) (q_ix ix_seq so_ix (q_vl (pv 4)) (q_c pe_int fun _ => rfl) (fun _ _ => rfl)))))
 (s_one (s_set (i := 3) sc__law_value.nd rfl (.inl rfl) (q_op (opOr op_add (opOr op_add_str op_cat)) so_add (q_vl (pv 3)) (q_op op_mul so_mul (q_ix ix_seq so_ix (q_vl (pv 4)) (q_c pe_int fun _ => rfl) (fun _ _ => rfl)) (q_ix ix_seq so_ix (q_vl (pv 2)) (q_index (u65 hr) (q_vl (pv 1)) (q_ix ix_seq so_ix (q_vl (pv 4)) (q_c pe_int fun _ => rfl) (fun _ _ => rfl))) (fun _ _ => rfl)))))))))
 (s_one (s_ret (q_vl (pv 3))))))
theorem sc__law_factor : FnScope ["terms", "name", "term"] ["terms", "name"] (defScope (topS 23)) := ⟨rfl, rfl, rfl, by decide +kernel, rfl, by decide +kernel, by decide +kernel⟩
theorem ok__law_factor (T : Txt K mg A) : FnOk P w K mg base CX0 1 A.f__law_factor A.fd__law_factor ["terms", "name"] (spD K (S A) false 2 d__law_factor) := by
  refine T.F__law_factor.ok sc__law_factor (fun vs H Q E h => spD_len _ _ _ h) (fun cdv Ar outer s H vs Q E hr h => bodyD (N := ["terms", "name", "term"]) (f := b__law_factor) ?_ e__law_factor (by decide) h)
  exact (s_one (s_ret (q_callB (cr_sum rfl) sc_sum rfl T.b_sum (by decide +kernel) (q_cons (q_fr (qf_lc (vs := [2]) rfl sc__law_factor.nd (i_seq (q_vl (pv 0))) (blkOk_by (own := [("term", 2)]) (N := ["terms", "name", "term"]) (sc := defScope (topS 23)) (by decide +kernel)) rfl (fun _ _ _ _ _ => (pg_name (i := 2) sc__law_factor.nd rfl (Or.inl rfl))) (Dv.g_name 2) (by decide) (fun _ _ _ _ _ => pts_one (by exact (q_cmpT (opOr op_eq (op_eqD (u64 hr))) so_eq (q_ix ix_seq so_ix (q_vl (pv 2)) (q_c pe_int fun _ => rfl) (fun _ _ => rfl)) (q_vl (pv 1)) (nomark _)))) (fun _ _ _ h => h) (fun _ _ _ _ _ => by exact (q_ix ix_seq so_ix (q_vl (pv 2)) (q_c pe_int fun _ => rfl) (fun _ _ => rfl))))) q_nil))))
theorem sc__law_rows : FnScope ["bounds", "rows", "pair", "longer", "row", "value"] ["bounds"] (defScope (topS 24)) := ⟨rfl, rfl, rfl, by decide +kernel, rfl, by decide +kernel, by decide +kernel⟩
theorem ok__law_rows (T : Txt K mg A) : FnOk P w K mg base CX0 1 A.f__law_rows A.fd__law_rows ["bounds"] (spD K (S A) false 1 d__law_rows) := by
  refine T.F__law_rows.ok sc__law_rows (fun vs H Q E h => spD_len _ _ _ h) (fun cdv Ar outer s H vs Q E hr h => bodyD (N := ["bounds", "rows", "pair", "longer", "row", "value"]) (f := b__law_rows) ?_ e__law_rows (by decide) h)
  exact (s_cons (s_set (i := 1) sc__law_rows.nd rfl (.inl rfl) (q_fr (qf_lst (q_cons (q_fr (qf_lst q_nil)) q_nil))))
 (s_cons (s_for PassesOwn.never rfl (i_seq (q_vl (pv 0))) (pg_name (i := 2) sc__law_rows.nd rfl (.inl rfl)) (Dv.g_name 2)
 (s_cons (s_box (i := 3) sc__law_rows.nd rfl (.inl rfl) (qf_lst q_nil))
 (s_cons (s_for PassesOwn.never rfl (i_seq (q_vl (pv 1))) (pg_name (i := 4) sc__law_rows.nd rfl (.inl rfl)) (Dv.g_name 4)
 (s_one (s_for PassesOwn.never rfl (i_rng2 rfl T.b_range (q_cons (q_ix ix_seq so_ix (q_vl (pv 2)) (q_c pe_int fun _ => rfl) (fun _ _ => rfl)) (q_cons (q_op (opOr op_add (opOr op_add_str op_cat)) so_add (q_ix ix_seq so_ix (q_vl (pv 2)) (q_c pe_int fun _ => rfl) (fun _ _ => rfl)) (q_c pe_int fun _ => rfl)) q_nil))) (pg_name (i := 5) sc__law_rows.nd rfl (.inl rfl)) (Dv.g_name 5)
 (s_one (s_expr (q_own PySem.F.plainAttrs_list PySem.F.slot_list_append PySem.F.type_list_append mt_append sm_app (pv 3) (q_cons (q_op (opOr op_add (opOr op_add_str op_cat)) so_add (q_vl (pv 4)) (q_fr (qf_lst (q_cons (q_vl (pv 5)) q_nil)))) q_nil)))))))
 (s_one (s_set (i := 1) sc__law_rows.nd rfl (.inl rfl) (q_var (pv 3)))))))
 (s_one (s_ret (q_vl (pv 1))))))
theorem sc__law_better : FnScope ["row", "best", "old", "k"] ["row", "best", "old"] (defScope (topS 25)) := ⟨rfl, rfl, rfl, by decide +kernel, rfl, by decide +kernel, by decide +kernel⟩
theorem ok__law_better (T : Txt K mg A) : FnOk P w K mg base CX0 1 A.f__law_better A.fd__law_better ["row", "best", "old"] (spD K (S A) false 3 d__law_better) := by
  refine T.F__law_better.ok sc__law_better (fun vs H Q E h => spD_len _ _ _ h) (fun cdv Ar outer s H vs Q E hr h => bodyD (N := ["row", "best", "old", "k"]) (f := b__law_better) ?_ e__law_better (by decide) h)
  exact (s_cons (s_if (q_cmpT op_isN so_is (q_vl (pv 1)) (q_c pe_non fun _ => rfl) (nomark _))
 (s_one (s_ret (q_c pe_bl fun _ => rfl)))
 s_nil)
 (s_cons (s_for PassesOwn.never rfl (i_rng1 rfl T.b_range (q_cons (q_callB call_len sc_len rfl T.b_len (by decide +kernel) (q_cons (q_vl (pv 0)) q_nil)) q_nil)) (pg_name (i := 3) sc__law_better.nd rfl (.inl rfl)) (Dv.g_name 3)
 (s_one (s_if (q_pt (q_wor (q_cmpT op_isN so_is (q_vl (pv 2)) (q_c pe_non fun _ => rfl) (nomark _)) (q_wor1 (q_cmpT (opOr op_in_seq (op_inD (u65 hr))) (so_or (so_in false) so_inD) (q_c pe_non fun _ => rfl) (q_vl (pv 2)) (by rfl)))))
 (s_one (s_if (q_cmpT (opOr op_ne (op_neD (u64 hr))) so_ne (q_ix ix_seq so_ix (q_vl (pv 0)) (q_vl (pv 3)) (fun _ _ => rfl)) (q_ix ix_seq so_ix (q_vl (pv 1)) (q_vl (pv 3)) (fun _ _ => rfl)) (nomark _))
 (s_one (s_ret (q_cmp (opOr op_lt op_lt_str) so_cmp (q_ix ix_seq so_ix (q_vl (pv 0)) (q_vl (pv 3)) (fun _ _ => rfl)) (q_ix ix_seq so_ix (q_vl (pv 1)) (q_vl (pv 3)) (fun _ _ => rfl)) (nomark _))))
 s_nil))
 (s_one (s_if (q_cmpT (opOr op_ne (op_neD (u64 hr))) so_ne (q_callB call_abs sc_abs rfl T.b_abs (by decide +kernel) (q_cons (q_op op_sub so_sub (q_ix ix_seq so_ix (q_vl (pv 0)) (q_vl (pv 3)) (fun _ _ => rfl)) (q_ix ix_seq so_ix (q_vl (pv 2)) (q_vl (pv 3)) (fun _ _ => rfl))) q_nil)) (q_callB call_abs sc_abs rfl T.b_abs (by decide +kernel) (q_cons (q_op op_sub so_sub (q_ix ix_seq so_ix (q_vl (pv 1)) (q_vl (pv 3)) (fun _ _ => rfl)) (q_ix ix_seq so_ix (q_vl (pv 2)) (q_vl (pv 3)) (fun _ _ => rfl))) q_nil)) (nomark _))
 (s_one (s_ret (q_cmp (opOr op_lt op_lt_str) so_cmp (q_callB call_abs sc_abs rfl T.b_abs (by decide +kernel) (q_cons (q_op op_sub so_sub (q_ix ix_seq so_ix (q_vl (pv 0)) (q_vl (pv 3)) (fun _ _ => rfl)) (q_ix ix_seq so_ix (q_vl (pv 2)) (q_vl (pv 3)) (fun _ _ => rfl))) q_nil)) (q_callB call_abs sc_abs rfl T.b_abs (by decide +kernel) (q_cons (q_op op_sub so_sub (q_ix ix_seq so_ix (q_vl (pv 1)) (q_vl (pv 3)) (fun _ _ => rfl)) (q_ix ix_seq so_ix (q_vl (pv 2)) (q_vl (pv 3)) (fun _ _ => rfl))) q_nil)) (nomark _))))
 (s_one (s_if (q_cmpT (opOr op_ne (op_neD (u64 hr))) so_ne (q_ix ix_seq so_ix (q_vl (pv 0)) (q_vl (pv 3)) (fun _ _ => rfl)) (q_ix ix_seq so_ix (q_vl (pv 1)) (q_vl (pv 3)) (fun _ _ => rfl)) (nomark _))
 (s_one (s_ret (q_cmp (opOr op_lt op_lt_str) so_cmp (q_ix ix_seq so_ix (q_vl (pv 0)) (q_vl (pv 3)) (fun _ _ => rfl)) (q_ix ix_seq so_ix (q_vl (pv 1)) (q_vl (pv 3)) (fun _ _ => rfl)) (nomark _))))
 s_nil)))))))
 (s_one (s_ret (q_c pe_bl fun _ => rfl)))))
theorem sc_crossing : FnScope ["first", "second", "bounds", "crossed", "one", "one_rest", "other", "other_rest"] ["first", "second", "bounds"] (defScope (topS 7)) := ⟨rfl, rfl, rfl, by decide +kernel, rfl, by decide +kernel, by decide +kernel⟩
theorem ok_crossing (T : Txt K mg A) : FnOk P w K mg base CX0 2 A.f_crossing A.fd_crossing ["first", "second", "bounds"] (spD K (S A) false 3 d_crossing) := by
  refine T.F_crossing.ok sc_crossing (fun vs H Q E h => spD_len _ _ _ h) (fun cdv Ar outer s H vs Q E hr h => bodyD (N := ["first", "second", "bounds", "crossed", "one", "one_rest", "other", "other_rest"]) (f := b_crossing) ?_ e_crossing (by decide) h)
  exact (s_cons (s_set (i := 3) sc_crossing.nd rfl (.inl rfl) (q_meth (q_vl (pv 0)) (mt_cons ⟨T.cl_Equation, T.me_Equation_crossed_with, _, _, (ok_Equation_crossed_with T).mono (show 1 ≤ 1 by decide), T.b_Equation_crossed_with⟩ mt_nil) (hr.mono (by decide)) pass0 (g_val (q_vl (pv 1)) g_nil)))
 (s_cons (s_asg (q_callB call_divmodN sc_divmod rfl T.b_divmod (by decide +kernel) (q_cons (q_op op_sub so_sub (q_op op_mul so_mul (q_fld (fl_total T) (q_vl (pv 0)) rfl) (q_fld (fl_second T) (q_vl (pv 1)) rfl)) (q_op op_mul so_mul (q_fld (fl_total T) (q_vl (pv 1)) rfl) (q_fld (fl_second T) (q_vl (pv 0)) rfl))) (q_cons (q_vl (pv 3)) q_nil))) (pg_tup rfl (pgs_cons (pg_name (i := 4) sc_crossing.nd rfl (.inl rfl)) (pgs_cons (pg_name (i := 5) sc_crossing.nd rfl (.inl rfl)) pgs_nil))) (Dv.g_tup (gs_cons (Dv.g_name 4) (gs_cons (Dv.g_name 5) gs_nil))))
 (s_cons (s_asg (q_callB call_divmodN sc_divmod rfl T.b_divmod (by decide +kernel) (q_cons (q_op op_sub so_sub (q_op op_mul so_mul (q_fld (fl_first T) (q_vl (pv 0)) rfl) (q_fld (fl_total T) (q_vl (pv 1)) rfl)) (q_op op_mul so_mul (q_fld (fl_first T) (q_vl (pv 1)) rfl) (q_fld (fl_total T) (q_vl (pv 0)) rfl))) (q_cons (q_vl (pv 3)) q_nil))) (pg_tup rfl (pgs_cons (pg_name (i := 6) sc_crossing.nd rfl (.inl rfl)) (pgs_cons (pg_name (i := 7) sc_crossing.nd rfl (.inl rfl)) pgs_nil))) (Dv.g_tup (gs_cons (Dv.g_name 6) (gs_cons (Dv.g_name 7) gs_nil))))
 (s_cons (s_if (q_pt (q_wor (q_cmpT (opOr op_ne (op_neD (u64 hr))) so_ne (q_vl (pv 5)) (q_c pe_int fun _ => rfl) (nomark _)) (q_wor (q_cmpT (opOr op_ne (op_neD (u64 hr))) so_ne (q_vl (pv 7)) (q_c pe_int fun _ => rfl) (nomark _)) (q_wor (q_notT (q_val (q_call (ok_is_within T) (hr.mono (by decide)) (by rfl) T.g_is_within T.F_is_within.kp T.b_is_within pass0 (g_val (q_vl (pv 4)) (g_val (q_ix ix_seq so_ix (q_vl (pv 2)) (q_c pe_int fun _ => rfl) (fun _ _ => rfl)) g_nil))))) (q_wor1 (q_notT (q_val (q_call (ok_is_within T) (hr.mono (by decide)) (by rfl) T.g_is_within T.F_is_within.kp T.b_is_within pass0 (g_val (q_vl (pv 6)) (g_val (q_ix ix_seq so_ix (q_vl (pv 2)) (q_c pe_int fun _ => rfl) (fun _ _ => rfl)) g_nil))))))))))
 (s_one (s_ret (q_c pe_non fun _ => rfl)))
 s_nil)
 (s_one (s_ret (q_fr (qf_lst (q_cons (q_vl (pv 4)) (q_cons (q_vl (pv 6)) q_nil))))))))))
theorem sc_exact_within : FnScope ["factor", "total", "bounds", "found", "rest"] ["factor", "total", "bounds"] (defScope (topS 10)) := ⟨rfl, rfl, rfl, by decide +kernel, rfl, by decide +kernel, by decide +kernel⟩
theorem ok_exact_within (T : Txt K mg A) : FnOk P w K mg base CX0 2 A.f_exact_within A.fd_exact_within ["factor", "total", "bounds"] (spD K (S A) false 3 d_exact_within) := by
  refine T.F_exact_within.ok sc_exact_within (fun vs H Q E h => spD_len _ _ _ h) (fun cdv Ar outer s H vs Q E hr h => bodyD (N := ["factor", "total", "bounds", "found", "rest"]) (f := b_exact_within) ?_ e_exact_within (by decide) h)
  exact (s_cons (s_asg (q_callB call_divmodN sc_divmod rfl T.b_divmod (by decide +kernel) (q_cons (q_vl (pv 1)) (q_cons (q_vl (pv 0)) q_nil))) (pg_tup rfl (pgs_cons (pg_name (i := 3) sc_exact_within.nd rfl (.inl rfl)) (pgs_cons (pg_name (i := 4) sc_exact_within.nd rfl (.inl rfl)) pgs_nil))) (Dv.g_tup (gs_cons (Dv.g_name 3) (gs_cons (Dv.g_name 4) gs_nil))))
 (s_one (s_ret (q_if (q_pt (q_wand (q_cmpT (opOr op_eq (op_eqD (u64 hr))) so_eq (q_vl (pv 4)) (q_c pe_int fun _ => rfl) (nomark _)) (q_wand1 (q_val (q_call (ok_is_within T) (hr.mono (by decide)) (by rfl) T.g_is_within T.F_is_within.kp T.b_is_within pass0 (g_val (q_vl (pv 3)) (g_val (q_vl (pv 2)) g_nil))))))) (q_vl (pv 3)) (q_c pe_non fun _ => rfl)))))
theorem sc_nearest_turn : FnScope ["start", "step", "turns", "goal", "below", "above", "is_nearer"] ["start", "step", "turns", "goal"] (defScope (topS 14)) := ⟨rfl, rfl, rfl, by decide +kernel, rfl, by decide +kernel, by decide +kernel⟩
theorem ok_nearest_turn (T : Txt K mg A) : FnOk P w K mg base CX0 2 A.f_nearest_turn A.fd_nearest_turn ["start", "step", "turns", "goal"] (spD K (S A) false 4 d_nearest_turn) := by
  refine T.F_nearest_turn.ok sc_nearest_turn (fun vs H Q E h => spD_len _ _ _ h) (fun cdv Ar outer s H vs Q E hr h => bodyD (N := ["start", "step", "turns", "goal", "below", "above", "is_nearer"]) (f := b_nearest_turn) ?_ e_nearest_turn (by decide) h)
  exact (s_cons (s_set (i := 4) sc_nearest_turn.nd rfl (.inl rfl) (q_call (ok_nearest_within T) (hr.mono (by decide)) (by rfl) T.g_nearest_within T.F_nearest_within.kp T.b_nearest_within pass0 (g_val (q_vl (pv 2)) (g_val (q_op op_fdivN so_fdv (q_op op_sub so_sub (q_vl (pv 3)) (q_vl (pv 0))) (q_vl (pv 1))) g_nil))))
 (s_cons (s_set (i := 5) sc_nearest_turn.nd rfl (.inl rfl) (q_call (ok_nearest_within T) (hr.mono (by decide)) (by rfl) T.g_nearest_within T.F_nearest_within.kp T.b_nearest_within pass0 (g_val (q_vl (pv 2)) (g_val (q_op (opOr op_add (opOr op_add_str op_cat)) so_add (q_vl (pv 4)) (q_c pe_int fun _ => rfl)) g_nil))))
 (s_cons (s_set (i := 6) sc_nearest_turn.nd rfl (.inl rfl) (q_cmp (opOr op_lt op_lt_str) so_cmp (q_callB call_abs sc_abs rfl T.b_abs (by decide +kernel) (q_cons (q_op op_sub so_sub (q_op (opOr op_add (opOr op_add_str op_cat)) so_add (q_vl (pv 0)) (q_op op_mul so_mul (q_vl (pv 5)) (q_vl (pv 1)))) (q_vl (pv 3))) q_nil)) (q_callB call_abs sc_abs rfl T.b_abs (by decide +kernel) (q_cons (q_op op_sub so_sub (q_op (opOr op_add (opOr op_add_str op_cat)) so_add (q_vl (pv 0)) (q_op op_mul so_mul (q_vl (pv 4)) (q_vl (pv 1)))) (q_vl (pv 3))) q_nil)) (nomark _)))
 (s_one (s_ret (q_if (q_val (q_vl (pv 6))) (q_vl (pv 5)) (q_vl (pv 4))))))))
theorem sc__law_pick : FnScope ["draws", "row"] ["draws", "row"] (defScope (topS 20)) := ⟨rfl, rfl, rfl, by decide +kernel, rfl, by decide +kernel, by decide +kernel⟩
theorem ok__law_pick (T : Txt K mg A) : FnOk P w K mg base CX0 2 A.f__law_pick A.fd__law_pick ["draws", "row"] (spD K (S A) false 2 d__law_pick) := by
  refine T.F__law_pick.ok sc__law_pick (fun vs H Q E h => spD_len _ _ _ h) (fun cdv Ar outer s H vs Q E hr h => bodyD (N := ["draws", "row"]) (f := b__law_pick) ?_ e__law_pick (by decide) h)
  exact (s_one (s_ret (q_ix ix_seq so_ix (q_vl (pv 1)) (q_call (ok__law_draw T) (hr.mono (by decide)) (by rfl) T.g__law_draw T.F__law_draw.kp T.b__law_draw pass0 (g_slot (pv 0) (g_val (q_callB call_len sc_len rfl T.b_len (by decide +kernel) (q_cons (q_vl (pv 1)) q_nil)) g_nil))) (fun _ _ => rfl))))
theorem sc_equation_of : FnScope ["form", "names", "value", "constant", "factors", "amount", "name"] ["form", "names", "value"] (defScope (topS 4)) := ⟨rfl, rfl, rfl, by decide +kernel, rfl, by decide +kernel, by decide +kernel⟩
theorem ok_equation_of (T : Txt K mg A) : FnOk P w K mg base CX0 3 A.f_equation_of A.fd_equation_of ["form", "names", "value"] (spD K (S A) false 3 d_equation_of) := by
  refine T.F_equation_of.ok sc_equation_of (fun vs H Q E h => spD_len _ _ _ h) (fun cdv Ar outer s H vs Q E hr h => bodyD (N := ["form", "names", "value", "constant", "factors", "amount", "name"]) (f := b_equation_of) ?_ e_equation_of (by decide) h)
  exact (s_cons (s_set (i := 3) sc_equation_of.nd rfl (.inl rfl) (q_callB (cr_sum rfl) sc_sum rfl T.b_sum (by decide +kernel) (q_cons (q_fr (qf_lc (vs := [5, 6]) rfl sc_equation_of.nd (i_seq (q_fld (fl_terms T) (q_vl (pv 0)) rfl)) (blkOk_by (own := [("amount", 5), ("name", 6)]) (N := ["form", "names", "value", "constant", "factors", "amount", "name"]) (sc := defScope (topS 4)) (by decide +kernel)) rfl (fun _ _ _ _ _ => (pg_tup rfl (pgs_cons (pg_name (i := 5) sc_equation_of.nd rfl (Or.inl rfl)) (pgs_cons (pg_name (i := 6) sc_equation_of.nd rfl (Or.inl rfl)) pgs_nil)))) (Dv.g_tup (gs_cons (Dv.g_name 5) (gs_cons (Dv.g_name 6) gs_nil))) (by decide) (fun _ _ _ _ _ => pts_one (by exact (q_cmpT op_isN so_is (q_vl (pv 6)) (q_c pe_non fun _ => rfl) (nomark _)))) (fun _ _ _ h => h) (fun _ _ _ _ _ => by exact (q_vl (pv 5))))) q_nil)))
 (s_cons (s_set (i := 4) sc_equation_of.nd rfl (.inl rfl) (q_op (opOr op_add (opOr op_add_str op_cat)) so_add (q_fr (qf_lc (vs := [6]) rfl sc_equation_of.nd (i_seq (q_vl (pv 1))) (blkOk_by (own := [("name", 6)]) (N := ["form", "names", "value", "constant", "factors", "amount", "name"]) (sc := defScope (topS 4)) (by decide +kernel)) rfl (fun _ _ _ _ _ => (pg_name (i := 6) sc_equation_of.nd rfl (Or.inl rfl))) (Dv.g_name 6) (by decide) (fun _ _ _ _ _ => pts_nil) (fun _ _ _ h => yes_ok h) (fun _ _ _ _ _ => by exact (q_meth (q_vl (pv 0)) (mt_cons ⟨T.cl_Form, T.me_Form_factor_of, _, _, (ok_Form_factor_of T).mono (show 1 ≤ 1 by decide), T.b_Form_factor_of⟩ mt_nil) (hr.mono (by decide)) pass0 (g_val (q_vl (pv 6)) g_nil))))) (q_fr (qf_lst (q_cons (q_c pe_int fun _ => rfl) q_nil)))))
 (s_one (s_ret (q_fr (qf_make (ci := 0) (dcs := []) (fun _ => rfl) T.mk_Equation (ok_Equation___init__ T) (hr.mono (by decide)) (by rfl) T.g_Equation T.b_Equation___init__ .nil pass0 (q_cons (q_ix ix_seq so_ix (q_vl (pv 4)) (q_c pe_int fun _ => rfl) (fun _ _ => rfl)) (q_cons (q_ix ix_seq so_ix (q_vl (pv 4)) (q_c pe_int fun _ => rfl) (fun _ _ => rfl)) (q_cons (q_op op_sub so_sub (q_vl (pv 2)) (q_vl (pv 3))) q_nil)))))))))
theorem sc_nearest_turned : FnScope ["equation", "divisor", "start", "bounds", "goal", "step", "other_step", "other_start", "least", "most", "other_least", "other_most", "turn"] ["equation", "divisor", "start", "bounds", "goal"] (defScope (topS 12)) := ⟨rfl, rfl, rfl, by decide +kernel, rfl, by decide +kernel, by decide +kernel⟩
theorem ok_nearest_turned (T : Txt K mg A) : FnOk P w K mg base CX0 3 A.f_nearest_turned A.fd_nearest_turned ["equation", "divisor", "start", "bounds", "goal"] (spD K (S A) false 5 d_nearest_turned) := by
  refine T.F_nearest_turned.ok sc_nearest_turned (fun vs H Q E h => spD_len _ _ _ h) (fun cdv Ar outer s H vs Q E hr h => bodyD (N := ["equation", "divisor", "start", "bounds", "goal", "step", "other_step", "other_start", "least", "most", "other_least", "other_most", "turn"]) (f := b_nearest_turned) ?_ e_nearest_turned (by decide) h)
  exact (s_cons (s_set (i := 5) sc_nearest_turned.nd rfl (.inl rfl) (q_op op_fdivN so_fdv (q_fld (fl_second T) (q_vl (pv 0)) rfl) (q_vl (pv 1))))
 (s_cons (s_set (i := 6) sc_nearest_turned.nd rfl (.inl rfl) (q_un un_neg su_neg (q_op op_fdivN so_fdv (q_fld (fl_first T) (q_vl (pv 0)) rfl) (q_vl (pv 1)))))
 (s_cons (s_set (i := 7) sc_nearest_turned.nd rfl (.inl rfl) (q_op op_fdivN so_fdv (q_op op_sub so_sub (q_fld (fl_total T) (q_vl (pv 0)) rfl) (q_op op_mul so_mul (q_fld (fl_first T) (q_vl (pv 0)) rfl) (q_vl (pv 2)))) (q_fld (fl_second T) (q_vl (pv 0)) rfl)))
 (s_cons (s_asg (q_call (ok_turns_within T) (hr.mono (by decide)) (by rfl) T.g_turns_within T.F_turns_within.kp T.b_turns_within pass0 (g_val (q_vl (pv 2)) (g_val (q_vl (pv 5)) (g_val (q_ix ix_seq so_ix (q_vl (pv 3)) (q_c pe_int fun _ => rfl) (fun _ _ => rfl)) g_nil)))) (pg_tup rfl (pgs_cons (pg_name (i := 8) sc_nearest_turned.nd rfl (.inl rfl)) (pgs_cons (pg_name (i := 9) sc_nearest_turned.nd rfl (.inl rfl)) pgs_nil))) (Dv.g_tup (gs_cons (Dv.g_name 8) (gs_cons (Dv.g_name 9) gs_nil))))
 (s_cons (s_asg (q_call (ok_turns_within T) (hr.mono (by decide)) (by rfl) T.g_turns_within T.F_turns_within.kp T.b_turns_within pass0 (g_val (q_vl (pv 7)) (g_val (q_vl (pv 6)) (g_val (q_ix ix_seq so_ix (q_vl (pv 3)) (q_c pe_int fun _ => rfl) (fun _ _ => rfl)) g_nil)))) (pg_tup rfl (pgs_cons (pg_name (i := 10) sc_nearest_turned.nd rfl (.inl rfl)) (pgs_cons (pg_name (i := 11) sc_nearest_turned.nd rfl (.inl rfl)) pgs_nil))) (Dv.g_tup (gs_cons (Dv.g_name 10) (gs_cons (Dv.g_name 11) gs_nil))))
 (s_cons (s_par (ps_par (i := 8) (j := 9) rfl sc_nearest_turned.nd rfl rfl (by decide) rfl rfl (q_cons (q_callB (call_max2 rfl) sc_I2 rfl T.b_max (by decide +kernel) (q_cons (q_vl (pv 8)) (q_cons (q_vl (pv 10)) q_nil))) (q_cons (q_callB (call_min2 rfl) sc_I2 rfl T.b_min (by decide +kernel) (q_cons (q_vl (pv 9)) (q_cons (q_vl (pv 11)) q_nil))) q_nil)) rfl))
 (s_cons (s_if (q_cmpT (opOr op_gt op_gt_str) so_cmp (q_vl (pv 8)) (q_vl (pv 9)) (nomark _))
 (s_one (s_ret (q_c pe_non fun _ => rfl)))
 s_nil)
 (s_cons (s_set (i := 12) sc_nearest_turned.nd rfl (.inl rfl) (q_if (q_cmpT op_isN so_is (q_vl (pv 4)) (q_c pe_non fun _ => rfl) (nomark _)) (q_vl (pv 8)) (q_call (ok_nearest_turn T) (hr.mono (by decide)) (by rfl) T.g_nearest_turn T.F_nearest_turn.kp T.b_nearest_turn pass0 (g_val (q_vl (pv 2)) (g_val (q_vl (pv 5)) (g_val (q_tup (q_cons (q_vl (pv 8)) (q_cons (q_vl (pv 9)) q_nil))) (g_val (q_vl (pv 4)) g_nil)))))))
 (s_one (s_ret (q_fr (qf_lst (q_cons (q_op (opOr op_add (opOr op_add_str op_cat)) so_add (q_vl (pv 2)) (q_op op_mul so_mul (q_vl (pv 12)) (q_vl (pv 5)))) (q_cons (q_op (opOr op_add (opOr op_add_str op_cat)) so_add (q_vl (pv 7)) (q_op op_mul so_mul (q_vl (pv 12)) (q_vl (pv 6)))) q_nil))))))))))))))
theorem sc__law_terms : FnScope ["draws", "names", "row", "_law_turn"] ["draws", "names"] (defScope (topS 21)) := ⟨rfl, rfl, rfl, by decide +kernel, rfl, by decide +kernel, by decide +kernel⟩
theorem ok__law_terms (T : Txt K mg A) : FnOk P w K mg base CX0 3 A.f__law_terms A.fd__law_terms ["draws", "names"] (spD K (S A) true 2 d__law_terms) := by
  refine T.F__law_terms.ok sc__law_terms (fun vs H Q E h => spD_len _ _ _ h) (fun cdv Ar outer s H vs Q E hr h => bodyD (N := ["draws", "names", "row", "_law_turn"]) (f := b__law_terms) ?_ e__law_terms (by decide) h)
  exact (s_cons (s_box (i := 2) sc__law_terms.nd rfl (.inl rfl) (qf_lst q_nil))
 (s_cons (s_for PassesOwn.never rfl (i_rng1 rfl T.b_range (q_cons (q_op (opOr op_add (opOr op_add_str op_cat)) so_add (q_c pe_int fun _ => rfl) (q_call (ok__law_draw T) (hr.mono (by decide)) (by rfl) T.g__law_draw T.F__law_draw.kp T.b__law_draw pass0 (g_slot (pv 0) (g_val (q_c pe_int fun _ => rfl) g_nil)))) q_nil)) (pg_name (i := 3) sc__law_terms.nd rfl (.inl rfl)) (Dv.g_name 3)
 (s_one (s_expr (q_own PySem.F.plainAttrs_list PySem.F.slot_list_append PySem.F.type_list_append mt_append sm_app (pv 2) (q_cons (q_tup (q_cons (q_op op_sub so_sub (q_call (ok__law_draw T) (hr.mono (by decide)) (by rfl) T.g__law_draw T.F__law_draw.kp T.b__law_draw pass0 (g_slot (pv 0) (g_val (q_c pe_int fun _ => rfl) g_nil))) (q_c pe_int fun _ => rfl)) (q_cons (q_call (ok__law_pick T) (hr.mono (by decide)) (by rfl) T.g__law_pick T.F__law_pick.kp T.b__law_pick pass0 (g_slot (pv 0) (g_val (q_op (opOr op_add (opOr op_add_str op_cat)) so_add (q_op (opOr op_add (opOr op_add_str op_cat)) so_add (q_fr (qf_lst (q_cons (q_c pe_non fun _ => rfl) q_nil))) (q_vl (pv 1))) (q_vl (pv 1))) g_nil))) q_nil))) q_nil)))))
 (s_one (s_retV (pv 2)))))
theorem sc_nearest_on_line : FnScope ["equation", "bounds", "goals", "found", "divisor", "part", "share", "rest"] ["equation", "bounds", "goals"] (defScope (topS 9)) := ⟨rfl, rfl, rfl, by decide +kernel, rfl, by decide +kernel, by decide +kernel⟩
theorem ok_nearest_on_line (T : Txt K mg A) : FnOk P w K mg base CX0 4 A.f_nearest_on_line A.fd_nearest_on_line ["equation", "bounds", "goals"] (spD K (S A) false 3 d_nearest_on_line) := by
  refine T.F_nearest_on_line.ok sc_nearest_on_line (fun vs H Q E h => spD_len _ _ _ h) (fun cdv Ar outer s H vs Q E hr h => bodyD (N := ["equation", "bounds", "goals", "found", "divisor", "part", "share", "rest"]) (f := b_nearest_on_line) ?_ e_nearest_on_line (by decide) h)
  exact (s_cons (s_if (q_cmpT (opOr op_eq (op_eqD (u64 hr))) so_eq (q_fld (fl_second T) (q_vl (pv 0)) rfl) (q_c pe_int fun _ => rfl) (nomark _))
 (s_cons (s_set (i := 3) sc_nearest_on_line.nd rfl (.inl rfl) (q_call (ok_exact_within T) (hr.mono (by decide)) (by rfl) T.g_exact_within T.F_exact_within.kp T.b_exact_within pass0 (g_val (q_fld (fl_first T) (q_vl (pv 0)) rfl) (g_val (q_fld (fl_total T) (q_vl (pv 0)) rfl) (g_val (q_ix ix_seq so_ix (q_vl (pv 1)) (q_c pe_int fun _ => rfl) (fun _ _ => rfl)) g_nil)))))
 (s_one (s_ret (q_if (q_cmpT op_isN so_is (q_vl (pv 3)) (q_c pe_non fun _ => rfl) (nomark _)) (q_c pe_non fun _ => rfl) (q_fr (qf_lst (q_cons (q_vl (pv 3)) (q_cons (q_call (ok_nearest_within T) (hr.mono (by decide)) (by rfl) T.g_nearest_within T.F_nearest_within.kp T.b_nearest_within pass0 (g_val (q_ix ix_seq so_ix (q_vl (pv 1)) (q_c pe_int fun _ => rfl) (fun _ _ => rfl)) (g_val (q_ix ix_seq so_ix (q_vl (pv 2)) (q_c pe_int fun _ => rfl) (fun _ _ => rfl)) g_nil))) q_nil))))))))
 s_nil)
 (s_cons (s_if (q_cmpT (opOr op_eq (op_eqD (u64 hr))) so_eq (q_fld (fl_first T) (q_vl (pv 0)) rfl) (q_c pe_int fun _ => rfl) (nomark _))
 (s_cons (s_set (i := 3) sc_nearest_on_line.nd rfl (.inl rfl) (q_call (ok_exact_within T) (hr.mono (by decide)) (by rfl) T.g_exact_within T.F_exact_within.kp T.b_exact_within pass0 (g_val (q_fld (fl_second T) (q_vl (pv 0)) rfl) (g_val (q_fld (fl_total T) (q_vl (pv 0)) rfl) (g_val (q_ix ix_seq so_ix (q_vl (pv 1)) (q_c pe_int fun _ => rfl) (fun _ _ => rfl)) g_nil)))))
 (s_one (s_ret (q_if (q_cmpT op_isN so_is (q_vl (pv 3)) (q_c pe_non fun _ => rfl) (nomark _)) (q_c pe_non fun _ => rfl) (q_fr (qf_lst (q_cons (q_call (ok_nearest_within T) (hr.mono (by decide)) (by rfl) T.g_nearest_within T.F_nearest_within.kp T.b_nearest_within pass0 (g_val (q_ix ix_seq so_ix (q_vl (pv 1)) (q_c pe_int fun _ => rfl) (fun _ _ => rfl)) (g_val (q_ix ix_seq so_ix (q_vl (pv 2)) (q_c pe_int fun _ => rfl) (fun _ _ => rfl)) g_nil))) (q_cons (q_vl (pv 3)) q_nil))))))))
 s_nil)
 (s_cons (s_asg (q_call (ok_common_divisor T) (hr.mono (by decide)) (by rfl) T.g_common_divisor T.F_common_divisor.kp T.b_common_divisor pass0 (g_val (q_fld (fl_first T) (q_vl (pv 0)) rfl) (g_val (q_fld (fl_second T) (q_vl (pv 0)) rfl) g_nil))) (pg_tup rfl (pgs_cons (pg_name (i := 4) sc_nearest_on_line.nd rfl (.inl rfl)) (pgs_cons (pg_name (i := 5) sc_nearest_on_line.nd rfl (.inl rfl)) pgs_nil))) (Dv.g_tup (gs_cons (Dv.g_name 4) (gs_cons (Dv.g_name 5) gs_nil))))
 (s_cons (s_asg (q_callB call_divmodN sc_divmod rfl T.b_divmod (by decide +kernel) (q_cons (q_fld (fl_total T) (q_vl (pv 0)) rfl) (q_cons (q_vl (pv 4)) q_nil))) (pg_tup rfl (pgs_cons (pg_name (i := 6) sc_nearest_on_line.nd rfl (.inl rfl)) (pgs_cons (pg_name (i := 7) sc_nearest_on_line.nd rfl (.inl rfl)) pgs_nil))) (Dv.g_tup (gs_cons (Dv.g_name 6) (gs_cons (Dv.g_name 7) gs_nil))))
 (s_one (s_ret (q_if (q_cmpT (opOr op_ne (op_neD (u64 hr))) so_ne (q_vl (pv 7)) (q_c pe_int fun _ => rfl) (nomark _)) (q_c pe_non fun _ => rfl) (q_call (ok_nearest_turned T) (hr.mono (by decide)) (by rfl) T.g_nearest_turned T.F_nearest_turned.kp T.b_nearest_turned pass0 (g_val (q_vl (pv 0)) (g_val (q_vl (pv 4)) (g_val (q_op op_mul so_mul (q_vl (pv 5)) (q_vl (pv 6))) (g_val (q_vl (pv 1)) (g_val (q_ix ix_seq so_ix (q_vl (pv 2)) (q_c pe_int fun _ => rfl) (fun _ _ => rfl)) g_nil)))))))))))))
theorem sc_nearest_pair : FnScope ["equations", "bounds", "goals", "leading", "first", "other", "equation"] ["equations", "bounds", "goals"] (defScope (topS 5)) := ⟨rfl, rfl, rfl, by decide +kernel, rfl, by decide +kernel, by decide +kernel⟩
theorem ok_nearest_pair (T : Txt K mg A) : FnOk P w K mg base CX0 5 A.f_nearest_pair A.fd_nearest_pair ["equations", "bounds", "goals"] (spD K (S A) false 3 d_nearest_pair) := by
  refine T.F_nearest_pair.ok sc_nearest_pair (fun vs H Q E h => spD_len _ _ _ h) (fun cdv Ar outer s H vs Q E hr h => bodyD (N := ["equations", "bounds", "goals", "leading", "first", "other", "equation"]) (f := b_nearest_pair) ?_ e_nearest_pair (by decide) h)
  exact (s_cons (s_setLc (i := 3) (vs := [6]) rfl sc_nearest_pair.nd rfl rfl (sw_true rfl rfl rfl (by decide +kernel)) (i_seq (q_vl (pv 0))) (blkOk_by (own := [("equation", 6)]) (N := ["equations", "bounds", "goals", "leading", "first", "other", "equation"]) (sc := defScope (topS 5)) (by decide +kernel)) rfl (fun _ _ _ _ _ => (pg_name (i := 6) sc_nearest_pair.nd rfl (Or.inl rfl))) (Dv.g_name 6) (by decide) (fun _ _ _ _ _ => pts_one (by exact (q_notT (q_val (q_meth0 (q_vl (pv 6)) (mt_cons ⟨T.cl_Equation, T.me_Equation_is_empty, _, _, (ok_Equation_is_empty T).mono (show 1 ≤ 1 by decide), T.b_Equation_is_empty⟩ mt_nil) (hr.mono (by decide)) pass0))))) (fun _ _ _ h => h) (fun _ _ _ _ _ => by exact (q_vl (pv 6))))
 (s_cons (s_if (q_val (q_callB (cr_any rfl) sc_any rfl T.b_any (by decide +kernel) (q_cons (q_fr (qf_lc (vs := [6]) rfl sc_nearest_pair.nd (i_seq (q_vl (pv 0))) (blkOk_by (own := [("equation", 6)]) (N := ["equations", "bounds", "goals", "leading", "first", "other", "equation"]) (sc := defScope (topS 5)) (by decide +kernel)) rfl (fun _ _ _ _ _ => (pg_name (i := 6) sc_nearest_pair.nd rfl (Or.inl rfl))) (Dv.g_name 6) (by decide) (fun _ _ _ _ _ => pts_nil) (fun _ _ _ h => yes_ok h) (fun _ _ _ _ _ => by exact (q_and (q_meth0 (q_vl (pv 6)) (mt_cons ⟨T.cl_Equation, T.me_Equation_is_empty, _, _, (ok_Equation_is_empty T).mono (show 1 ≤ 1 by decide), T.b_Equation_is_empty⟩ mt_nil) (hr.mono (by decide)) pass0) (q_one (q_cmp (opOr op_ne (op_neD (u64 hr))) so_ne (q_fld (fl_total T) (q_vl (pv 6)) rfl) (q_c pe_int fun _ => rfl) (nomark _))))))) q_nil)))
 (s_one (s_ret (q_c pe_non fun _ => rfl)))
 s_nil)
 (s_cons (s_if (q_cmpT (opOr op_eq (op_eqD (u64 hr))) so_eq (q_callB call_len sc_len rfl T.b_len (by decide +kernel) (q_cons (q_var (pv 3)) q_nil)) (q_c pe_int fun _ => rfl) (nomark _))
 (s_one (s_ret (q_fr (qf_lst (q_cons (q_call (ok_nearest_within T) (hr.mono (by decide)) (by rfl) T.g_nearest_within T.F_nearest_within.kp T.b_nearest_within pass0 (g_val (q_ix ix_seq so_ix (q_vl (pv 1)) (q_c pe_int fun _ => rfl) (fun _ _ => rfl)) (g_val (q_ix ix_seq so_ix (q_vl (pv 2)) (q_c pe_int fun _ => rfl) (fun _ _ => rfl)) g_nil))) (q_cons (q_call (ok_nearest_within T) (hr.mono (by decide)) (by rfl) T.g_nearest_within T.F_nearest_within.kp T.b_nearest_within pass0 (g_val (q_ix ix_seq so_ix (q_vl (pv 1)) (q_c pe_int fun _ => rfl) (fun _ _ => rfl)) (g_val (q_ix ix_seq so_ix (q_vl (pv 2)) (q_c pe_int fun _ => rfl) (fun _ _ => rfl)) g_nil))) q_nil))))))
 s_nil)
 (s_cons (s_set (i := 4) sc_nearest_pair.nd rfl (.inr rfl) (q_ix ix_seq so_ix (q_var (pv 3)) (q_c pe_int fun _ => rfl) (fun _ _ => rfl)))
 (s_cons (s_for PassesOwn.never rfl (i_seq (q_var (pv 3))) (pg_name (i := 5) sc_nearest_pair.nd rfl (.inl rfl)) (Dv.g_name 5)
 (s_one (s_if (q_cmpT (opOr op_ne (op_neD (u64 hr))) so_ne (q_meth (q_vl (pv 4)) (mt_cons ⟨T.cl_Equation, T.me_Equation_crossed_with, _, _, (ok_Equation_crossed_with T).mono (show 1 ≤ 1 by decide), T.b_Equation_crossed_with⟩ mt_nil) (hr.mono (by decide)) pass0 (g_val (q_vl (pv 5)) g_nil)) (q_c pe_int fun _ => rfl) (nomark _))
 (s_one (s_ret (q_call (ok_crossing T) (hr.mono (by decide)) (by rfl) T.g_crossing T.F_crossing.kp T.b_crossing pass0 (g_val (q_vl (pv 4)) (g_val (q_vl (pv 5)) (g_val (q_vl (pv 1)) g_nil))))))
 s_nil)))
 (s_cons (s_if (q_notT (q_val (q_callB (cr_all rfl) sc_all rfl T.b_all (by decide +kernel) (q_cons (q_fr (qf_lc (vs := [5]) rfl sc_nearest_pair.nd (i_seq (q_var (pv 3))) (blkOk_by (own := [("other", 5)]) (N := ["equations", "bounds", "goals", "leading", "first", "other", "equation"]) (sc := defScope (topS 5)) (by decide +kernel)) rfl (fun _ _ _ _ _ => (pg_name (i := 5) sc_nearest_pair.nd rfl (Or.inl rfl))) (Dv.g_name 5) (by decide) (fun _ _ _ _ _ => pts_nil) (fun _ _ _ h => yes_ok h) (fun _ _ _ _ _ => by exact (q_meth (q_vl (pv 4)) (mt_cons ⟨T.cl_Equation, T.me_Equation_goes_with, _, _, (ok_Equation_goes_with T).mono (show 1 ≤ 1 by decide), T.b_Equation_goes_with⟩ mt_nil) (hr.mono (by decide)) pass0 (g_val (q_vl (pv 5)) g_nil))))) q_nil))))
 (s_one (s_ret (q_c pe_non fun _ => rfl)))
 s_nil)
 (s_one (s_ret (q_call (ok_nearest_on_line T) (hr.mono (by decide)) (by rfl) T.g_nearest_on_line T.F_nearest_on_line.kp T.b_nearest_on_line pass0 (g_val (q_vl (pv 4)) (g_val (q_vl (pv 1)) (g_val (q_vl (pv 2)) g_nil))))))))))))
theorem sc_nearest_source : FnScope ["forms", "names", "bounds", "made", "old", "equations", "goals", "found", "form", "value"] ["forms", "names", "bounds", "made", "old"] (defScope (topS 3)) := ⟨rfl, rfl, rfl, by decide +kernel, rfl, by decide +kernel, by decide +kernel⟩
theorem ok_nearest_source (T : Txt K mg A) : FnOk P w K mg base CX0 6 A.f_nearest_source A.fd_nearest_source ["forms", "names", "bounds", "made", "old"] (spD K (S A) false 5 d_nearest_source) := by
  refine T.F_nearest_source.ok sc_nearest_source (fun vs H Q E h => spD_len _ _ _ h) (fun cdv Ar outer s H vs Q E hr h => bodyD (N := ["forms", "names", "bounds", "made", "old", "equations", "goals", "found", "form", "value"]) (f := b_nearest_source) ?_ e_nearest_source (by decide) h)
  exact (s_cons (s_setLc (i := 5) (vs := [8, 9]) rfl sc_nearest_source.nd rfl rfl (sw_true rfl rfl rfl (by decide +kernel)) (i_zip rfl T.b_zip (q_cons (q_vl (pv 0)) (q_cons (q_vl (pv 3)) q_nil))) (blkOk_by (own := [("form", 8), ("value", 9)]) (N := ["forms", "names", "bounds", "made", "old", "equations", "goals", "found", "form", "value"]) (sc := defScope (topS 3)) (by decide +kernel)) rfl (fun _ _ _ _ _ => (pg_tup rfl (pgs_cons (pg_name (i := 8) sc_nearest_source.nd rfl (Or.inl rfl)) (pgs_cons (pg_name (i := 9) sc_nearest_source.nd rfl (Or.inl rfl)) pgs_nil)))) (Dv.g_tup (gs_cons (Dv.g_name 8) (gs_cons (Dv.g_name 9) gs_nil))) (by decide) (fun _ _ _ _ _ => pts_nil) (fun _ _ _ h => yes_ok h) (fun _ _ _ _ _ => by exact (q_call (ok_equation_of T) (hr.mono (by decide)) (by rfl) T.g_equation_of T.F_equation_of.kp T.b_equation_of pass0 (g_val (q_vl (pv 8)) (g_val (q_vl (pv 1)) (g_val (q_vl (pv 9)) g_nil))))))
 (s_cons (s_set (i := 6) sc_nearest_source.nd rfl (.inl rfl) (q_if (q_pt (q_wor (q_cmpT op_isN so_is (q_vl (pv 4)) (q_c pe_non fun _ => rfl) (nomark _)) (q_wor1 (q_cmpT (opOr op_in_seq (op_inD (u65 hr))) (so_or (so_in false) so_inD) (q_c pe_non fun _ => rfl) (q_vl (pv 4)) (by rfl))))) (q_fr (qf_lst (q_cons (q_c pe_non fun _ => rfl) (q_cons (q_c pe_non fun _ => rfl) q_nil)))) (q_fr (qf_lst (q_star (q_vl (pv 4)) (q_cons (q_c pe_int fun _ => rfl) q_nil))))))
 (s_cons (s_set (i := 7) sc_nearest_source.nd rfl (.inl rfl) (q_call (ok_nearest_pair T) (hr.mono (by decide)) (by rfl) T.g_nearest_pair T.F_nearest_pair.kp T.b_nearest_pair pass0 (g_val (q_var (pv 5)) (g_val (q_fr (qf_lst (q_star (q_vl (pv 2)) (q_cons (q_tup (q_cons (q_c pe_int fun _ => rfl) (q_cons (q_c pe_int fun _ => rfl) q_nil))) q_nil)))) (g_val (q_vl (pv 6)) g_nil)))))
 (s_one (s_ret (q_if (q_cmpT op_isN so_is (q_vl (pv 7)) (q_c pe_non fun _ => rfl) (nomark _)) (q_c pe_non fun _ => rfl) (q_fr (qf_slL (q_vl (pv 7)) o_none (o_some (q_callB call_len sc_len rfl T.b_len (by decide +kernel) (q_cons (q_vl (pv 1)) q_nil)))))))))))
theorem sc_law : FnScope ["script", "draws", "names", "bounds", "name", "low", "forms", "rows", "row", "made", "old", "best", "told", "found", "_law_turn", "terms", "pair"] ["script"] (defScope (topS 26)) := ⟨rfl, rfl, rfl, by decide +kernel, rfl, by decide +kernel, by decide +kernel⟩
theorem ok_law (T : Txt K mg A) : FnOk P w K mg base CX0 7 A.f_law A.fd_law ["script"] (spD K (S A) false 1 d_law) := by
  refine T.F_law.ok sc_law (fun vs H Q E h => spD_len _ _ _ h) (fun cdv Ar outer s H vs Q E hr h => bodyD (N := ["script", "draws", "names", "bounds", "name", "low", "forms", "rows", "row", "made", "old", "best", "told", "found", "_law_turn", "terms", "pair"]) (f := b_law) ?_ e_law (by decide) h)
  exact (s_cons (s_box (i := 1) sc_law.nd rfl (.inr rfl) (qf_call (ok__law_cells T) (hr.mono (by decide)) (by rfl) T.g__law_cells T.F__law_cells.kp T.b__law_cells pass0 (g_val (q_vl (pv 0)) (g_val (q_c pe_int fun _ => rfl) g_nil))))
 (s_cons (s_set (i := 2) sc_law.nd rfl (.inr rfl) (q_call (ok__law_pick T) (hr.mono (by decide)) (by rfl) T.g__law_pick T.F__law_pick.kp T.b__law_pick pass0 (g_slot (pv 1) (g_val (q_fr (qf_lst (q_cons (q_fr (qf_lst (q_cons (q_c pe_str fun _ => rfl) q_nil))) (q_cons (q_fr (qf_lst (q_cons (q_c pe_str fun _ => rfl) (q_cons (q_c pe_str fun _ => rfl) q_nil)))) (q_cons (q_fr (qf_lst (q_cons (q_c pe_str fun _ => rfl) (q_cons (q_c pe_str fun _ => rfl) q_nil)))) q_nil))))) g_nil))))
 (s_cons (s_box (i := 3) sc_law.nd rfl (.inl rfl) (qf_lst q_nil))
 (s_cons (s_for PassesOwn.never rfl (i_seq (q_vl (pv 2))) (pg_name (i := 4) sc_law.nd rfl (.inr rfl)) (Dv.g_name 4)
 (s_cons (s_set (i := 5) sc_law.nd rfl (.inl rfl) (q_op op_sub so_sub (q_call (ok__law_draw T) (hr.mono (by decide)) (by rfl) T.g__law_draw T.F__law_draw.kp T.b__law_draw pass0 (g_slot (pv 1) (g_val (q_c pe_int fun _ => rfl) g_nil))) (q_c pe_int fun _ => rfl)))
 (s_one (s_expr (q_own PySem.F.plainAttrs_list PySem.F.slot_list_append PySem.F.type_list_append mt_append sm_app (pv 3) (q_cons (q_tup (q_cons (q_vl (pv 5)) (q_cons (q_op (opOr op_add (opOr op_add_str op_cat)) so_add (q_vl (pv 5)) (q_call (ok__law_draw T) (hr.mono (by decide)) (by rfl) T.g__law_draw T.F__law_draw.kp T.b__law_draw pass0 (g_slot (pv 1) (g_val (q_c pe_int fun _ => rfl) g_nil)))) q_nil))) q_nil))))))
 (ss_thaw 3 (s_nest (i := 6) (n := 2) (own := [("_law_turn", 14)]) rfl (ps_setLc (i := 6) rfl sc_law.nd rfl rfl (sw_true rfl rfl rfl (by decide +kernel)) (i_rng1 rfl T.b_range (q_cons (q_op (opOr op_add (opOr op_add_str op_cat)) so_add (q_c pe_int fun _ => rfl) (q_call (ok__law_draw T) (hr.mono (by decide)) (by rfl) T.g__law_draw T.F__law_draw.kp T.b__law_draw pass0 (g_slot (pv 1) (g_val (q_c pe_int fun _ => rfl) g_nil)))) q_nil)) (blkOk_by (own := [("_law_turn", 14)]) (N := ["script", "draws", "names", "bounds", "name", "low", "forms", "rows", "row", "made", "old", "best", "told", "found", "_law_turn", "terms", "pair"]) (sc := defScope (topS 26)) (by decide +kernel)) (fun _ _ _ _ _ => (pg_name (i := 14) sc_law.nd rfl (Or.inl rfl))) (fun _ _ _ _ _ => pts_nil) (fun _ _ _ _ _ => by exact (qf_call (ok__law_terms T) (hr.mono (by decide)) (by rfl) T.g__law_terms T.F__law_terms.kp T.b__law_terms pass0 (g_slot (pv 1) (g_val (q_vl (pv 2)) g_nil)))))
 (ps_if (q_cmpT (opOr op_eq (op_eqD (u64 hr))) so_eq (q_callB call_len sc_len rfl T.b_len (by decide +kernel) (q_cons (q_vl (pv 2)) q_nil)) (q_c pe_int fun _ => rfl) (nomark _)) (pss_one (ps_for PassesOwn.never rfl (pi_seq (pv 2)) (pg_name (i := 4) sc_law.nd rfl (.inr rfl)) (pss_one (ps_if (q_val (q_callB (cr_all rfl) sc_all rfl T.b_all (by decide +kernel) (q_cons (q_fr (qf_lc (vs := [15]) rfl sc_law.nd (i_seq (q_var (pv 6))) (blkOk_by (own := [("terms", 15)]) (N := ["script", "draws", "names", "bounds", "name", "low", "forms", "rows", "row", "made", "old", "best", "told", "found", "_law_turn", "terms", "pair"]) (sc := defScope (topS 26)) (by decide +kernel)) rfl (fun _ _ _ _ _ => (pg_name (i := 15) sc_law.nd rfl (Or.inl rfl))) (Dv.g_name 15) (by decide) (fun _ _ _ _ _ => pts_nil) (fun _ _ _ h => yes_ok h) (fun _ _ _ _ _ => by exact (q_cmp (opOr op_eq (op_eqD (u64 hr))) so_eq (q_call (ok__law_factor T) (hr.mono (by decide)) (by rfl) T.g__law_factor T.F__law_factor.kp T.b__law_factor pass0 (g_val (q_vl (pv 15)) (g_val (q_vl (pv 4)) g_nil))) (q_c pe_int fun _ => rfl) (nomark _))))) q_nil))) (pss_one (ps_expr (pe_bm PySem.F.plainAttrs_list PySem.F.slot_list_append PySem.F.type_list_append mt_append (pe_ix ix_seq (pv 6) pe_int (fun _ _ => rfl)) (q_cons (q_tup (q_cons (q_op (opOr op_add (opOr op_add_str op_cat)) so_add (q_c pe_int fun _ => rfl) (q_call (ok__law_draw T) (hr.mono (by decide)) (by rfl) T.g__law_draw T.F__law_draw.kp T.b__law_draw pass0 (g_slot (pv 1) (g_val (q_c pe_int fun _ => rfl) g_nil)))) (q_cons (q_vl (pv 4)) q_nil))) q_nil)))) pss_nil)))) pss_nil) (Dv.g_name 14) (by decide) (Dv.g_name 4) (by decide)
 (s_cons (s_set (i := 7) sc_law.nd rfl (.inl rfl) (q_call (ok__law_rows T) (hr.mono (by decide)) (by rfl) T.g__law_rows T.F__law_rows.kp T.b__law_rows pass0 (g_val (q_var (pv 3)) g_nil)))
 (s_cons (s_set (i := 8) sc_law.nd rfl (.inr rfl) (q_call (ok__law_pick T) (hr.mono (by decide)) (by rfl) T.g__law_pick T.F__law_pick.kp T.b__law_pick pass0 (g_slot (pv 1) (g_val (q_vl (pv 7)) g_nil))))
 (s_cons (s_setLc (i := 9) (vs := [15]) rfl sc_law.nd rfl rfl (sw_true rfl rfl rfl (by decide +kernel)) (i_seq (q_var (pv 6))) (blkOk_by (own := [("terms", 15)]) (N := ["script", "draws", "names", "bounds", "name", "low", "forms", "rows", "row", "made", "old", "best", "told", "found", "_law_turn", "terms", "pair"]) (sc := defScope (topS 26)) (by decide +kernel)) rfl (fun _ _ _ _ _ => (pg_name (i := 15) sc_law.nd rfl (Or.inl rfl))) (Dv.g_name 15) (by decide) (fun _ _ _ _ _ => pts_nil) (fun _ _ _ h => yes_ok h) (fun _ _ _ _ _ => by exact (q_call (ok__law_value T) (hr.mono (by decide)) (by rfl) T.g__law_value T.F__law_value.kp T.b__law_value pass0 (g_val (q_vl (pv 15)) (g_val (q_vl (pv 2)) (g_val (q_vl (pv 8)) g_nil))))))
 (s_cons (s_if (q_cmpT (opOr op_eq (op_eqD (u64 hr))) so_eq (q_call (ok__law_draw T) (hr.mono (by decide)) (by rfl) T.g__law_draw T.F__law_draw.kp T.b__law_draw pass0 (g_slot (pv 1) (g_val (q_c pe_int fun _ => rfl) g_nil))) (q_c pe_int fun _ => rfl) (nomark _))
 (s_one (s_setIx (pv 9) (q_c pe_int fun _ => rfl) (q_op op_sub so_sub (q_op (opOr op_add (opOr op_add_str op_cat)) so_add (q_bor (q_ix ix_seq so_ix (q_vl (pv 9)) (q_c pe_int fun _ => rfl) (fun _ _ => rfl))) (q_call (ok__law_draw T) (hr.mono (by decide)) (by rfl) T.g__law_draw T.F__law_draw.kp T.b__law_draw pass0 (g_slot (pv 1) (g_val (q_c pe_int fun _ => rfl) g_nil)))) (q_c pe_int fun _ => rfl)) (pg_sub (pv 9) (q_c pe_int fun _ => rfl) set_list)))
 s_nil)
 (s_cons (s_set (i := 10) sc_law.nd rfl (.inl rfl) (q_c pe_non fun _ => rfl))
 (s_cons (s_if (q_cmpT (opOr op_gt op_gt_str) so_cmp (q_call (ok__law_draw T) (hr.mono (by decide)) (by rfl) T.g__law_draw T.F__law_draw.kp T.b__law_draw pass0 (g_slot (pv 1) (g_val (q_c pe_int fun _ => rfl) g_nil))) (q_c pe_int fun _ => rfl) (nomark _))
 (s_cons (s_setLc (i := 10) (vs := [16]) rfl sc_law.nd rfl rfl (sw_true rfl rfl rfl (by decide +kernel)) (i_seq (q_var (pv 3))) (blkOk_by (own := [("pair", 16)]) (N := ["script", "draws", "names", "bounds", "name", "low", "forms", "rows", "row", "made", "old", "best", "told", "found", "_law_turn", "terms", "pair"]) (sc := defScope (topS 26)) (by decide +kernel)) rfl (fun _ _ _ _ _ => (pg_name (i := 16) sc_law.nd rfl (Or.inl rfl))) (Dv.g_name 16) (by decide) (fun _ _ _ _ _ => pts_nil) (fun _ _ _ h => yes_ok h) (fun _ _ _ _ _ => by exact (q_op (opOr op_add (opOr op_add_str op_cat)) so_add (q_ix ix_seq so_ix (q_vl (pv 16)) (q_c pe_int fun _ => rfl) (fun _ _ => rfl)) (q_call (ok__law_draw T) (hr.mono (by decide)) (by rfl) T.g__law_draw T.F__law_draw.kp T.b__law_draw pass0 (g_slot (pv 1) (g_val (q_op (opOr op_add (opOr op_add_str op_cat)) so_add (q_op op_sub so_sub (q_ix ix_seq so_ix (q_vl (pv 16)) (q_c pe_int fun _ => rfl) (fun _ _ => rfl)) (q_ix ix_seq so_ix (q_vl (pv 16)) (q_c pe_int fun _ => rfl) (fun _ _ => rfl))) (q_c pe_int fun _ => rfl)) g_nil))))))
 (s_one (s_if (q_cmpT (opOr op_eq (op_eqD (u64 hr))) so_eq (q_call (ok__law_draw T) (hr.mono (by decide)) (by rfl) T.g__law_draw T.F__law_draw.kp T.b__law_draw pass0 (g_slot (pv 1) (g_val (q_c pe_int fun _ => rfl) g_nil))) (q_c pe_int fun _ => rfl) (nomark _))
 (s_one (s_setIx (pv 10) (q_call (ok__law_draw T) (hr.mono (by decide)) (by rfl) T.g__law_draw T.F__law_draw.kp T.b__law_draw pass0 (g_slot (pv 1) (g_val (q_bor (q_callB call_len sc_len rfl T.b_len (by decide +kernel) (q_cons (q_vl (pv 10)) q_nil))) g_nil))) (q_c pe_non fun _ => rfl) (pg_sub (pv 10) (q_call (ok__law_draw T) (hr.mono (by decide)) (by rfl) T.g__law_draw T.F__law_draw.kp T.b__law_draw pass0 (g_slot (pv 1) (g_val (q_bor (q_callB call_len sc_len rfl T.b_len (by decide +kernel) (q_cons (q_vl (pv 10)) q_nil))) g_nil))) set_list)))
 s_nil)))
 s_nil)
 (s_cons (s_set (i := 11) sc_law.nd rfl (.inl rfl) (q_c pe_non fun _ => rfl))
 (s_cons (s_for PassesOwn.never rfl (i_seq (q_vl (pv 7))) (pg_name (i := 8) sc_law.nd rfl (.inr rfl)) (Dv.g_name 8)
 (s_one (s_if (q_pt (q_wand (q_cmpT (opOr op_eq (op_eqD (u64 hr))) so_eq (q_fr (qf_lc (vs := [15]) rfl sc_law.nd (i_seq (q_var (pv 6))) (blkOk_by (own := [("terms", 15)]) (N := ["script", "draws", "names", "bounds", "name", "low", "forms", "rows", "row", "made", "old", "best", "told", "found", "_law_turn", "terms", "pair"]) (sc := defScope (topS 26)) (by decide +kernel)) rfl (fun _ _ _ _ _ => (pg_name (i := 15) sc_law.nd rfl (Or.inl rfl))) (Dv.g_name 15) (by decide) (fun _ _ _ _ _ => pts_nil) (fun _ _ _ h => yes_ok h) (fun _ _ _ _ _ => by exact (q_call (ok__law_value T) (hr.mono (by decide)) (by rfl) T.g__law_value T.F__law_value.kp T.b__law_value pass0 (g_val (q_vl (pv 15)) (g_val (q_vl (pv 2)) (g_val (q_vl (pv 8)) g_nil))))))) (q_var (pv 9)) (nomark _)) (q_wand1 (q_val (q_call (ok__law_better T) (hr.mono (by decide)) (by rfl) T.g__law_better T.F__law_better.kp T.b__law_better pass0 (g_val (q_vl (pv 8)) (g_val (q_vl (pv 11)) (g_val (q_var (pv 10)) g_nil))))))))
 (s_one (s_set (i := 11) sc_law.nd rfl (.inl rfl) (q_vl (pv 8))))
 s_nil)))
 (s_cons (s_set (i := 12) sc_law.nd rfl (.inl rfl) (q_fr (qf_callTy (call_list_of) sc_list rfl T.b_list (by decide +kernel) (q_cons (q_var (pv 9)) q_nil))))
 (s_cons (s_set (i := 13) sc_law.nd rfl (.inl rfl) (q_call (ok_nearest_source T) (hr.mono (by decide)) (by rfl) T.g_nearest_source T.F_nearest_source.kp T.b_nearest_source pass0 (g_val (q_fr (qf_lc (vs := [15]) rfl sc_law.nd (i_seq (q_var (pv 6))) (blkOk_by (own := [("terms", 15)]) (N := ["script", "draws", "names", "bounds", "name", "low", "forms", "rows", "row", "made", "old", "best", "told", "found", "_law_turn", "terms", "pair"]) (sc := defScope (topS 26)) (by decide +kernel)) rfl (fun _ _ _ _ _ => (pg_name (i := 15) sc_law.nd rfl (Or.inl rfl))) (Dv.g_name 15) (by decide) (fun _ _ _ _ _ => pts_nil) (fun _ _ _ h => yes_ok h) (fun _ _ _ _ _ => by exact (q_fr (qf_make (ci := 1) (dcs := []) (fun _ => rfl) T.mk_Form (ok_Form___init__ T) (hr.mono (by decide)) (by rfl) T.g_Form T.b_Form___init__ .nil pass0 (q_cons (q_vl (pv 15)) q_nil)))))) (g_val (q_fr (qf_callTy (call_list_of) sc_list rfl T.b_list (by decide +kernel) (q_cons (q_vl (pv 2)) q_nil))) (g_val (q_fr (qf_callTy (call_list_of) sc_list rfl T.b_list (by decide +kernel) (q_cons (q_var (pv 3)) q_nil))) (g_val (q_vl (pv 12)) (g_val (q_var (pv 10)) g_nil)))))))
 (s_cons (s_if (q_cmpT (opOr op_ne (op_neD (u64 hr))) so_ne (q_vl (pv 12)) (q_var (pv 9)) (nomark _))
 (s_one (s_ret (q_c pe_bl fun _ => rfl)))
 s_nil)
 (s_cons (s_if (q_cmpT op_isN so_is (q_vl (pv 11)) (q_c pe_non fun _ => rfl) (nomark _))
 (s_one (s_ret (q_cmp op_isN so_is (q_vl (pv 13)) (q_c pe_non fun _ => rfl) (nomark _))))
 s_nil)
 (s_one (s_ret (q_and (q_callB call_isi (sc_is (isk T)) rfl T.b_isinstance (by decide +kernel) (q_cons (q_vl (pv 13)) (q_cons (q_c (pe_bltn (v := .ty "list") rfl T.b_list (by decide +kernel) rfl) fun _ => rfl) q_nil))) (q_one (q_cmp (opOr op_eq (op_eqD (u64 hr))) so_eq (q_vl (pv 13)) (q_vl (pv 11)) (nomark _))))))))))))))))))))))))
end
end
end K16
namespace K16
open PySem PySem.Spec PyProof.Rows L2 Dv
set_option autoImplicit false
noncomputable section
open Rn
set_option maxHeartbeats 0
def e0 (K : PySem.W.Frag) : List Bool := [eqN (PySem.W.nsIn K mainGlobals "abs"), eqN (PySem.W.nsIn K mainGlobals "all"), eqN (PySem.W.nsIn K mainGlobals "any"), eqN (PySem.W.nsIn K mainGlobals "divmod"), eqN (PySem.W.nsIn K mainGlobals "int"), eqN (PySem.W.nsIn K mainGlobals "isinstance"), eqN (PySem.W.nsIn K mainGlobals "len"), eqN (PySem.W.nsIn K mainGlobals "list"), eqN (PySem.W.nsIn K mainGlobals "max"), eqN (PySem.W.nsIn K mainGlobals "min"), eqN (PySem.W.nsIn K mainGlobals "range"), eqN (PySem.W.nsIn K mainGlobals "sum"), eqN (PySem.W.nsIn K mainGlobals "zip"), eqR (PySem.W.nsIn K mainGlobals "Equation") 59, eqR (PySem.W.nsIn K mainGlobals "Form") 182, eqR (PySem.W.nsIn K mainGlobals "nearest_source") 68, eqR (PySem.W.nsIn K mainGlobals "equation_of") 73, eqR (PySem.W.nsIn K mainGlobals "nearest_pair") 78, eqR (PySem.W.nsIn K mainGlobals "nearest_within") 85, eqR (PySem.W.nsIn K mainGlobals "crossing") 92, eqR (PySem.W.nsIn K mainGlobals "is_within") 99, eqR (PySem.W.nsIn K mainGlobals "nearest_on_line") 106, eqR (PySem.W.nsIn K mainGlobals "exact_within") 113, eqR (PySem.W.nsIn K mainGlobals "common_divisor") 120, eqR (PySem.W.nsIn K mainGlobals "nearest_turned") 127, eqR (PySem.W.nsIn K mainGlobals "turns_within") 134, eqR (PySem.W.nsIn K mainGlobals "nearest_turn") 141, eqR (PySem.W.nsIn K mainGlobals "_law_cells") 193, eqR (PySem.W.nsIn K mainGlobals "_law_draw") 200, eqR (PySem.W.nsIn K mainGlobals "_law_pick") 207, eqR (PySem.W.nsIn K mainGlobals "_law_terms") 214, eqR (PySem.W.nsIn K mainGlobals "_law_value") 221, eqR (PySem.W.nsIn K mainGlobals "_law_factor") 226, eqR (PySem.W.nsIn K mainGlobals "_law_rows") 233, eqR (PySem.W.nsIn K mainGlobals "_law_better") 240, eqR (PySem.W.nsIn K mainGlobals "law") 245]
def e1 (K : PySem.W.Frag) : List Bool := [PySem.W.plainGet K 59 Str.empty, PySem.W.hasDictIn K 59, PySem.W.plainOver K 59, eqF (PySem.W.findIn K (.ref 59) "__setattr__") "object.__setattr__", PySem.W.makesIn K 59, PySem.W.keepIn K (.ref 59), eqN (PySem.W.findIn K (.ref 59) "first"), eqN (PySem.W.findIn K (.ref 59) "second"), eqN (PySem.W.findIn K (.ref 59) "total"), eqR (PySem.W.findIn K (.ref 59) "__init__") 35, eqR (PySem.W.findIn K (.ref 59) "is_empty") 42, eqR (PySem.W.findIn K (.ref 59) "goes_with") 49, eqR (PySem.W.findIn K (.ref 59) "crossed_with") 56]
def e2 (K : PySem.W.Frag) : List Bool := [PySem.W.plainGet K 182 Str.empty, PySem.W.hasDictIn K 182, PySem.W.plainOver K 182, eqF (PySem.W.findIn K (.ref 182) "__setattr__") "object.__setattr__", PySem.W.makesIn K 182, PySem.W.keepIn K (.ref 182), eqN (PySem.W.findIn K (.ref 182) "terms"), eqR (PySem.W.findIn K (.ref 182) "__init__") 153, eqR (PySem.W.findIn K (.ref 182) "factor_of") 172]
def e3 (K : PySem.W.Frag) : List Bool := [eqF (PySem.W.specialIn K (.builtin "object.__class__") "__get__") "getset_descriptor.__get__", eqB (PySem.W.takesIn K (.builtin "object.__class__")) true]
def e4 (K : PySem.W.Frag) : List Bool := [fkB K 35 "Equation.__init__", fkB K 42 "Equation.is_empty", fkB K 49 "Equation.goes_with", fkB K 56 "Equation.crossed_with", fkB K 153 "Form.__init__", fkB K 172 "Form.factor_of", fkB K 68 "nearest_source", fkB K 73 "equation_of", fkB K 78 "nearest_pair", fkB K 85 "nearest_within", fkB K 92 "crossing", fkB K 99 "is_within", fkB K 106 "nearest_on_line", fkB K 113 "exact_within", fkB K 120 "common_divisor", fkB K 127 "nearest_turned", fkB K 134 "turns_within", fkB K 141 "nearest_turn", fkB K 193 "_law_cells", fkB K 200 "_law_draw", fkB K 207 "_law_pick", fkB K 214 "_law_terms", fkB K 221 "_law_value", fkB K 226 "_law_factor", fkB K 233 "_law_rows", fkB K 240 "_law_better", fkB K 245 "law"]
def eA (K : PySem.W.Frag) : List Bool := [allB (e0 K)]
def eB (K : PySem.W.Frag) : List Bool := [allB (e4 K)]
def eC (K : PySem.W.Frag) : List Bool := [allB (e3 K)]
def eP (K : PySem.W.Frag) : List Bool := [allB (e1 K), allB (e2 K)]
def exB (K : PySem.W.Frag) : Bool := allB [allB (eA K), allB (eB K), allB (eC K), allB (eP K)]
def asL0 : List Addr := [3, 2, 59, 58, 182, 181, 35, 34, 42, 41, 49, 48, 56, 55, 153, 152, 172, 171, 68, 67, 73, 72, 78, 77, 85, 84, 92, 91, 99, 98, 106, 105, 113, 112, 120, 119, 127, 126, 134, 133]
def asL1 : List Addr := [141, 140, 193, 192, 200, 199, 207, 206, 214, 213, 221, 220, 226, 225, 233, 232, 240, 239, 245, 244]
def asL : List Addr := asL0 ++ asL1
def fsL0 : List Addr := [35, 42, 49, 56, 153, 172, 68, 73, 78, 85, 92, 99, 106, 113, 120, 127, 134, 141, 193, 200, 207, 214, 221, 226, 233, 240, 245]
def fsL : List Addr := fsL0
def fvL0 : List FnX := [fnV "__init__" "Equation.__init__" (inClass (topS 2) 0), fnV "is_empty" "Equation.is_empty" (inClass (topS 2) 1), fnV "goes_with" "Equation.goes_with" (inClass (topS 2) 2), fnV "crossed_with" "Equation.crossed_with" (inClass (topS 2) 3), fnV "__init__" "Form.__init__" (inClass (topS 16) 0), fnV "factor_of" "Form.factor_of" (inClass (topS 16) 3), fnV "nearest_source" "nearest_source" (topS 3), fnV "equation_of" "equation_of" (topS 4), fnV "nearest_pair" "nearest_pair" (topS 5), fnV "nearest_within" "nearest_within" (topS 6), fnV "crossing" "crossing" (topS 7), fnV "is_within" "is_within" (topS 8), fnV "nearest_on_line" "nearest_on_line" (topS 9), fnV "exact_within" "exact_within" (topS 10), fnV "common_divisor" "common_divisor" (topS 11), fnV "nearest_turned" "nearest_turned" (topS 12), fnV "turns_within" "turns_within" (topS 13), fnV "nearest_turn" "nearest_turn" (topS 14), fnV "_law_cells" "_law_cells" (topS 18), fnV "_law_draw" "_law_draw" (topS 19), fnV "_law_pick" "_law_pick" (topS 20), fnV "_law_terms" "_law_terms" (topS 21), fnV "_law_value" "_law_value" (topS 22), fnV "_law_factor" "_law_factor" (topS 23), fnV "_law_rows" "_law_rows" (topS 24), fnV "_law_better" "_law_better" (topS 25), fnV "law" "law" (topS 26)]
def fvL : List FnX := fvL0
def HD : HdD := { as := asL, ex := exB, fs := fsL, fv := fvL, ds := [], dk := [] }
def adr (K : PySem.W.Frag) : Ad := {
  C_Equation := 59,
  C_Form := 182,
  f_Equation___init__ := 35,
  fd_Equation___init__ := fdOf K 35,
  f_Equation_is_empty := 42,
  fd_Equation_is_empty := fdOf K 42,
  f_Equation_goes_with := 49,
  fd_Equation_goes_with := fdOf K 49,
  f_Equation_crossed_with := 56,
  fd_Equation_crossed_with := fdOf K 56,
  f_Form___init__ := 153,
  fd_Form___init__ := fdOf K 153,
  f_Form_factor_of := 172,
  fd_Form_factor_of := fdOf K 172,
  f_nearest_source := 68,
  fd_nearest_source := fdOf K 68,
  f_equation_of := 73,
  fd_equation_of := fdOf K 73,
  f_nearest_pair := 78,
  fd_nearest_pair := fdOf K 78,
  f_nearest_within := 85,
  fd_nearest_within := fdOf K 85,
  f_crossing := 92,
  fd_crossing := fdOf K 92,
  f_is_within := 99,
  fd_is_within := fdOf K 99,
  f_nearest_on_line := 106,
  fd_nearest_on_line := fdOf K 106,
  f_exact_within := 113,
  fd_exact_within := fdOf K 113,
  f_common_divisor := 120,
  fd_common_divisor := fdOf K 120,
  f_nearest_turned := 127,
  fd_nearest_turned := fdOf K 127,
  f_turns_within := 134,
  fd_turns_within := fdOf K 134,
  f_nearest_turn := 141,
  fd_nearest_turn := fdOf K 141,
  f__law_cells := 193,
  fd__law_cells := fdOf K 193,
  f__law_draw := 200,
  fd__law_draw := fdOf K 200,
  f__law_pick := 207,
  fd__law_pick := fdOf K 207,
  f__law_terms := 214,
  fd__law_terms := fdOf K 214,
  f__law_value := 221,
  fd__law_value := fdOf K 221,
  f__law_factor := 226,
  fd__law_factor := fdOf K 226,
  f__law_rows := 233,
  fd__law_rows := fdOf K 233,
  f__law_better := 240,
  fd__law_better := fdOf K 240,
  f_law := 245,
  fd_law := fdOf K 245 }
def nm0 : List PySem.Str := ["_wall", "Equation", "nearest_source", "equation_of", "nearest_pair", "nearest_within", "crossing", "is_within", "nearest_on_line", "exact_within", "common_divisor", "nearest_turned", "turns_within", "nearest_turn", "Form", "_law_cells", "_law_draw", "_law_pick", "_law_terms", "_law_value", "_law_factor", "_law_rows", "_law_better"]
def nms : List PySem.Str := nm0
abbrev qv : Program := PySem.W.view RR.prog [26]
def finS (w : World) (os : OsState) : Option PySem.W.SharedT := some (sT4 w os)
abbrev wf (w : World) (b : Bool) : World := w.withFollow "special-get-raises" b
theorem runLf (w : World) (os : OsState) : (finS (wf w false) os).map (fun s => HandSHeadRun.looksF RR.prog (PySem.W.boot_heap (wf w false).params) s.abs) = some (true) := by kernel_rfl
theorem runSf (w : World) (os : OsState) : (finS (wf w false) os).map (fun s => (HandSHeadRun.seenQ qv nms (importedModules RR.prog.main.body) (fun s => PySem.W.xlAt qv [] s && PySem.W.recOk RR.records s) s.abs, HD.ds.map (He.dicW (He.frG (HandSHeadRun.getT s) asL)), allB (eC (He.frG (HandSHeadRun.getT s) asL)))) = some ((PySem.W.openGood qv nms, (HD.dk.map fun ks => some (He.keysIn (wf w false).params ks)), true)) := by kernel_rfl
theorem runAf (w : World) (os : OsState) : (finS (wf w false) os).map (fun s => allB (eA (He.frG (HandSHeadRun.getT s) asL))) = some (true) := by kernel_rfl
theorem runBf (w : World) (os : OsState) : (finS (wf w false) os).map (fun s => allB (eB (He.frG (HandSHeadRun.getT s) asL))) = some (true) := by kernel_rfl
theorem runFf (w : World) (os : OsState) : (finS (wf w false) os).map (fun s => (fsL.map (fnX (He.frG (HandSHeadRun.getT s) asL)), allB (eP (He.frG (HandSHeadRun.getT s) asL)))) = some ((fvL, true)) := by kernel_rfl
theorem runLt (w : World) (os : OsState) : (finS (wf w true) os).map (fun s => HandSHeadRun.looksF RR.prog (PySem.W.boot_heap (wf w true).params) s.abs) = some (true) := by kernel_rfl
theorem runSt (w : World) (os : OsState) : (finS (wf w true) os).map (fun s => (HandSHeadRun.seenQ qv nms (importedModules RR.prog.main.body) (fun s => PySem.W.xlAt qv [] s && PySem.W.recOk RR.records s) s.abs, HD.ds.map (He.dicW (He.frG (HandSHeadRun.getT s) asL)), allB (eC (He.frG (HandSHeadRun.getT s) asL)))) = some ((PySem.W.openGood qv nms, (HD.dk.map fun ks => some (He.keysIn (wf w true).params ks)), true)) := by kernel_rfl
theorem runAt (w : World) (os : OsState) : (finS (wf w true) os).map (fun s => allB (eA (He.frG (HandSHeadRun.getT s) asL))) = some (true) := by kernel_rfl
theorem runBt (w : World) (os : OsState) : (finS (wf w true) os).map (fun s => allB (eB (He.frG (HandSHeadRun.getT s) asL))) = some (true) := by kernel_rfl
theorem runFt (w : World) (os : OsState) : (finS (wf w true) os).map (fun s => (fsL.map (fnX (He.frG (HandSHeadRun.getT s) asL)), allB (eP (He.frG (HandSHeadRun.getT s) asL)))) = some ((fvL, true)) := by kernel_rfl
theorem join2 {α a b : Type} {o : Option α} {f1 : α → a} {f2 : α → b} {v1 : a} {v2 : b} (h1 : o.map f1 = some v1) (h2 : o.map f2 = some v2) : o.map (fun s => (f1 s, f2 s)) = some (v1, v2) := by
  cases o with
  | none => cases h1
  | some s =>
    rw [Option.map_some] at h1 h2 ⊢
    rw [Option.some.inj h1, Option.some.inj h2]
theorem runCf (w : World) (os : OsState) : (finS (wf w false) os).map (fun s => allB (eC (He.frG (HandSHeadRun.getT s) asL))) = some true := by
  have h := runSf w os
  generalize finS (wf w false) os = o at h ⊢
  cases o with
  | none => cases h
  | some s =>
    have h2 := Option.some.inj h
    exact congrArg some (congrArg (fun p => p.2.2) h2)
theorem runCt (w : World) (os : OsState) : (finS (wf w true) os).map (fun s => allB (eC (He.frG (HandSHeadRun.getT s) asL))) = some true := by
  have h := runSt w os
  generalize finS (wf w true) os = o at h ⊢
  cases o with
  | none => cases h
  | some s =>
    have h2 := Option.some.inj h
    exact congrArg some (congrArg (fun p => p.2.2) h2)
theorem runPf (w : World) (os : OsState) : (finS (wf w false) os).map (fun s => allB (eP (He.frG (HandSHeadRun.getT s) asL))) = some true := by
  have h := runFf w os
  generalize finS (wf w false) os = o at h ⊢
  cases o with
  | none => cases h
  | some s =>
    have h2 := Option.some.inj h
    exact congrArg some (congrArg Prod.snd h2)
theorem runPt (w : World) (os : OsState) : (finS (wf w true) os).map (fun s => allB (eP (He.frG (HandSHeadRun.getT s) asL))) = some true := by
  have h := runFt w os
  generalize finS (wf w true) os = o at h ⊢
  cases o with
  | none => cases h
  | some s =>
    have h2 := Option.some.inj h
    exact congrArg some (congrArg Prod.snd h2)
theorem ex_of {K : PySem.W.Frag} (a : allB (eA K) = true) (b : allB (eB K) = true) (c : allB (eC K) = true) (d : allB (eP K) = true) : exB K = true := by
  unfold exB
  rw [a, b, c, d]
  rfl
theorem exRun {o : Option PySem.W.SharedT} (a : o.map (fun s => allB (eA (He.frG (HandSHeadRun.getT s) asL))) = some true) (b : o.map (fun s => allB (eB (He.frG (HandSHeadRun.getT s) asL))) = some true) (c : o.map (fun s => allB (eC (He.frG (HandSHeadRun.getT s) asL))) = some true) (d : o.map (fun s => allB (eP (He.frG (HandSHeadRun.getT s) asL))) = some true) : o.map (fun s => exB (He.frG (HandSHeadRun.getT s) asL)) = some true := by
  cases o with
  | none => cases a
  | some s => exact congrArg some (ex_of (Option.some.inj a) (Option.some.inj b) (Option.some.inj c) (Option.some.inj d))
theorem runf (w : World) : Ct.RunEq RR qv (hookH HD) (obH HD) sT4 nms (wf w false) := by
  intro os
  refine Ct.joinC (D := HD) (finS (wf w false) os) rfl ?_ ?_ ?_ ?_ ?_
  · have h := runLf w os
    generalize finS (wf w false) os = o at h ⊢
    exact h
  · have h := runSf w os
    generalize finS (wf w false) os = o at h ⊢
    cases o with
    | none => cases h
    | some s =>
      have h2 := Option.some.inj h
      exact congrArg some (congrArg Prod.fst h2)
  · have h := exRun (runAf w os) (runBf w os) (runCf w os) (runPf w os)
    generalize finS (wf w false) os = o at h ⊢
    exact h
  · have h := runFf w os
    generalize finS (wf w false) os = o at h ⊢
    cases o with
    | none => cases h
    | some s =>
      have h2 := Option.some.inj h
      exact congrArg some (congrArg Prod.fst h2)
  · have h := runSf w os
    generalize finS (wf w false) os = o at h ⊢
    cases o with
    | none => cases h
    | some s =>
      have h2 := Option.some.inj h
      exact congrArg some (congrArg (fun p => p.2.1) h2)
theorem runt (w : World) : Ct.RunEq RR qv (hookH HD) (obH HD) sT4 nms (wf w true) := by
  intro os
  refine Ct.joinC (D := HD) (finS (wf w true) os) rfl ?_ ?_ ?_ ?_ ?_
  · have h := runLt w os
    generalize finS (wf w true) os = o at h ⊢
    exact h
  · have h := runSt w os
    generalize finS (wf w true) os = o at h ⊢
    cases o with
    | none => cases h
    | some s =>
      have h2 := Option.some.inj h
      exact congrArg some (congrArg Prod.fst h2)
  · have h := exRun (runAt w os) (runBt w os) (runCt w os) (runPt w os)
    generalize finS (wf w true) os = o at h ⊢
    exact h
  · have h := runFt w os
    generalize finS (wf w true) os = o at h ⊢
    cases o with
    | none => cases h
    | some s =>
      have h2 := Option.some.inj h
      exact congrArg some (congrArg Prod.fst h2)
  · have h := runSt w os
    generalize finS (wf w true) os = o at h ⊢
    cases o with
    | none => cases h
    | some s =>
      have h2 := Option.some.inj h
      exact congrArg some (congrArg (fun p => p.2.1) h2)
theorem runH (w : World) : Ct.RunEq RR qv (hookH HD) (obH HD) sT4 nms w :=
  PySem.W.byRow2 "special-get-raises" (P := fun w => Ct.RunEq RR qv (hookH HD) (obH HD) sT4 nms w) runf runt w
end
end K16
namespace K16
open PySem PySem.Spec PyProof.Rows L2 Dv
set_option autoImplicit false
noncomputable section
open Rn
set_option maxHeartbeats 0
set_option maxHeartbeats 0 in
theorem mk_txt {w : World} {K : PySem.W.Frag} {h : Heap} {mg : Str → Option Value} (X : K.In h) (G : h.Ns mainGlobals mg) (s : SaysH HD w K) : Txt K mg (adr K) := by
  have E : exB K = true := s.ex
  have gA : allB (eA K) = true := allB_at E 0 rfl
  have g0 : allB (e0 K) = true := allB_at gA 0 rfl
  have gB : allB (eB K) = true := allB_at E 1 rfl
  have g4 : allB (e4 K) = true := allB_at gB 0 rfl
  have gC : allB (eC K) = true := allB_at E 2 rfl
  have g3 : allB (e3 K) = true := allB_at gC 0 rfl
  have gP : allB (eP K) = true := allB_at E 3 rfl
  have g1 : allB (e1 K) = true := allB_at gP 0 rfl
  have g2 : allB (e2 K) = true := allB_at gP 1 rfl
  have F0 : Fun K "__init__" "Equation.__init__" (inClass (topS 2) 0) 35 (fdOf K 35) := fun_of (fn_at s 0 rfl rfl) (fk_ok (allB_at g4 0 rfl)).1 (fk_ok (allB_at g4 0 rfl)).2.1
  have b0 : Binds K (fdOf K 35) ["self", "first", "second", "total"] [] := F0.binds (ps := ["self", "first", "second", "total"]) fun _ _ _ _ _ _ us hl => match us, hl with | [_, _, _, _], _ => rfl
  have F1 : Fun K "is_empty" "Equation.is_empty" (inClass (topS 2) 1) 42 (fdOf K 42) := fun_of (fn_at s 1 rfl rfl) (fk_ok (allB_at g4 1 rfl)).1 (fk_ok (allB_at g4 1 rfl)).2.1
  have b1 : Binds K (fdOf K 42) ["self"] [] := F1.binds (ps := ["self"]) fun _ _ _ _ _ _ us hl => match us, hl with | [_], _ => rfl
  have F2 : Fun K "goes_with" "Equation.goes_with" (inClass (topS 2) 2) 49 (fdOf K 49) := fun_of (fn_at s 2 rfl rfl) (fk_ok (allB_at g4 2 rfl)).1 (fk_ok (allB_at g4 2 rfl)).2.1
  have b2 : Binds K (fdOf K 49) ["self", "other"] [] := F2.binds (ps := ["self", "other"]) fun _ _ _ _ _ _ us hl => match us, hl with | [_, _], _ => rfl
  have F3 : Fun K "crossed_with" "Equation.crossed_with" (inClass (topS 2) 3) 56 (fdOf K 56) := fun_of (fn_at s 3 rfl rfl) (fk_ok (allB_at g4 3 rfl)).1 (fk_ok (allB_at g4 3 rfl)).2.1
  have b3 : Binds K (fdOf K 56) ["self", "other"] [] := F3.binds (ps := ["self", "other"]) fun _ _ _ _ _ _ us hl => match us, hl with | [_, _], _ => rfl
  have F4 : Fun K "__init__" "Form.__init__" (inClass (topS 16) 0) 153 (fdOf K 153) := fun_of (fn_at s 4 rfl rfl) (fk_ok (allB_at g4 4 rfl)).1 (fk_ok (allB_at g4 4 rfl)).2.1
  have b4 : Binds K (fdOf K 153) ["self", "terms"] [] := F4.binds (ps := ["self", "terms"]) fun _ _ _ _ _ _ us hl => match us, hl with | [_, _], _ => rfl
  have F5 : Fun K "factor_of" "Form.factor_of" (inClass (topS 16) 3) 172 (fdOf K 172) := fun_of (fn_at s 5 rfl rfl) (fk_ok (allB_at g4 5 rfl)).1 (fk_ok (allB_at g4 5 rfl)).2.1
  have b5 : Binds K (fdOf K 172) ["self", "field"] [] := F5.binds (ps := ["self", "field"]) fun _ _ _ _ _ _ us hl => match us, hl with | [_, _], _ => rfl
  have F6 : Fun K "nearest_source" "nearest_source" (topS 3) 68 (fdOf K 68) := fun_of (fn_at s 6 rfl rfl) (fk_ok (allB_at g4 6 rfl)).1 (fk_ok (allB_at g4 6 rfl)).2.1
  have b6 : Binds K (fdOf K 68) ["forms", "names", "bounds", "made", "old"] [] := F6.binds (ps := ["forms", "names", "bounds", "made", "old"]) fun _ _ _ _ _ _ us hl => match us, hl with | [_, _, _, _, _], _ => rfl
  have F7 : Fun K "equation_of" "equation_of" (topS 4) 73 (fdOf K 73) := fun_of (fn_at s 7 rfl rfl) (fk_ok (allB_at g4 7 rfl)).1 (fk_ok (allB_at g4 7 rfl)).2.1
  have b7 : Binds K (fdOf K 73) ["form", "names", "value"] [] := F7.binds (ps := ["form", "names", "value"]) fun _ _ _ _ _ _ us hl => match us, hl with | [_, _, _], _ => rfl
  have F8 : Fun K "nearest_pair" "nearest_pair" (topS 5) 78 (fdOf K 78) := fun_of (fn_at s 8 rfl rfl) (fk_ok (allB_at g4 8 rfl)).1 (fk_ok (allB_at g4 8 rfl)).2.1
  have b8 : Binds K (fdOf K 78) ["equations", "bounds", "goals"] [] := F8.binds (ps := ["equations", "bounds", "goals"]) fun _ _ _ _ _ _ us hl => match us, hl with | [_, _, _], _ => rfl
  have F9 : Fun K "nearest_within" "nearest_within" (topS 6) 85 (fdOf K 85) := fun_of (fn_at s 9 rfl rfl) (fk_ok (allB_at g4 9 rfl)).1 (fk_ok (allB_at g4 9 rfl)).2.1
  have b9 : Binds K (fdOf K 85) ["bounds", "goal"] [] := F9.binds (ps := ["bounds", "goal"]) fun _ _ _ _ _ _ us hl => match us, hl with | [_, _], _ => rfl
  have F10 : Fun K "crossing" "crossing" (topS 7) 92 (fdOf K 92) := fun_of (fn_at s 10 rfl rfl) (fk_ok (allB_at g4 10 rfl)).1 (fk_ok (allB_at g4 10 rfl)).2.1
  have b10 : Binds K (fdOf K 92) ["first", "second", "bounds"] [] := F10.binds (ps := ["first", "second", "bounds"]) fun _ _ _ _ _ _ us hl => match us, hl with | [_, _, _], _ => rfl
  have F11 : Fun K "is_within" "is_within" (topS 8) 99 (fdOf K 99) := fun_of (fn_at s 11 rfl rfl) (fk_ok (allB_at g4 11 rfl)).1 (fk_ok (allB_at g4 11 rfl)).2.1
  have b11 : Binds K (fdOf K 99) ["value", "bounds"] [] := F11.binds (ps := ["value", "bounds"]) fun _ _ _ _ _ _ us hl => match us, hl with | [_, _], _ => rfl
  have F12 : Fun K "nearest_on_line" "nearest_on_line" (topS 9) 106 (fdOf K 106) := fun_of (fn_at s 12 rfl rfl) (fk_ok (allB_at g4 12 rfl)).1 (fk_ok (allB_at g4 12 rfl)).2.1
  have b12 : Binds K (fdOf K 106) ["equation", "bounds", "goals"] [] := F12.binds (ps := ["equation", "bounds", "goals"]) fun _ _ _ _ _ _ us hl => match us, hl with | [_, _, _], _ => rfl
  have F13 : Fun K "exact_within" "exact_within" (topS 10) 113 (fdOf K 113) := fun_of (fn_at s 13 rfl rfl) (fk_ok (allB_at g4 13 rfl)).1 (fk_ok (allB_at g4 13 rfl)).2.1
  have b13 : Binds K (fdOf K 113) ["factor", "total", "bounds"] [] := F13.binds (ps := ["factor", "total", "bounds"]) fun _ _ _ _ _ _ us hl => match us, hl with | [_, _, _], _ => rfl
  have F14 : Fun K "common_divisor" "common_divisor" (topS 11) 120 (fdOf K 120) := fun_of (fn_at s 14 rfl rfl) (fk_ok (allB_at g4 14 rfl)).1 (fk_ok (allB_at g4 14 rfl)).2.1
  have b14 : Binds K (fdOf K 120) ["first", "second"] [] := F14.binds (ps := ["first", "second"]) fun _ _ _ _ _ _ us hl => match us, hl with | [_, _], _ => rfl
  have F15 : Fun K "nearest_turned" "nearest_turned" (topS 12) 127 (fdOf K 127) := fun_of (fn_at s 15 rfl rfl) (fk_ok (allB_at g4 15 rfl)).1 (fk_ok (allB_at g4 15 rfl)).2.1
  have b15 : Binds K (fdOf K 127) ["equation", "divisor", "start", "bounds", "goal"] [] := F15.binds (ps := ["equation", "divisor", "start", "bounds", "goal"]) fun _ _ _ _ _ _ us hl => match us, hl with | [_, _, _, _, _], _ => rfl
  have F16 : Fun K "turns_within" "turns_within" (topS 13) 134 (fdOf K 134) := fun_of (fn_at s 16 rfl rfl) (fk_ok (allB_at g4 16 rfl)).1 (fk_ok (allB_at g4 16 rfl)).2.1
  have b16 : Binds K (fdOf K 134) ["start", "step", "bounds"] [] := F16.binds (ps := ["start", "step", "bounds"]) fun _ _ _ _ _ _ us hl => match us, hl with | [_, _, _], _ => rfl
  have F17 : Fun K "nearest_turn" "nearest_turn" (topS 14) 141 (fdOf K 141) := fun_of (fn_at s 17 rfl rfl) (fk_ok (allB_at g4 17 rfl)).1 (fk_ok (allB_at g4 17 rfl)).2.1
  have b17 : Binds K (fdOf K 141) ["start", "step", "turns", "goal"] [] := F17.binds (ps := ["start", "step", "turns", "goal"]) fun _ _ _ _ _ _ us hl => match us, hl with | [_, _, _, _], _ => rfl
  have F18 : Fun K "_law_cells" "_law_cells" (topS 18) 193 (fdOf K 193) := fun_of (fn_at s 18 rfl rfl) (fk_ok (allB_at g4 18 rfl)).1 (fk_ok (allB_at g4 18 rfl)).2.1
  have b18 : Binds K (fdOf K 193) ["script", "count"] [] := F18.binds (ps := ["script", "count"]) fun _ _ _ _ _ _ us hl => match us, hl with | [_, _], _ => rfl
  have F19 : Fun K "_law_draw" "_law_draw" (topS 19) 200 (fdOf K 200) := fun_of (fn_at s 19 rfl rfl) (fk_ok (allB_at g4 19 rfl)).1 (fk_ok (allB_at g4 19 rfl)).2.1
  have b19 : Binds K (fdOf K 200) ["draws", "bound"] [] := F19.binds (ps := ["draws", "bound"]) fun _ _ _ _ _ _ us hl => match us, hl with | [_, _], _ => rfl
  have F20 : Fun K "_law_pick" "_law_pick" (topS 20) 207 (fdOf K 207) := fun_of (fn_at s 20 rfl rfl) (fk_ok (allB_at g4 20 rfl)).1 (fk_ok (allB_at g4 20 rfl)).2.1
  have b20 : Binds K (fdOf K 207) ["draws", "row"] [] := F20.binds (ps := ["draws", "row"]) fun _ _ _ _ _ _ us hl => match us, hl with | [_, _], _ => rfl
  have F21 : Fun K "_law_terms" "_law_terms" (topS 21) 214 (fdOf K 214) := fun_of (fn_at s 21 rfl rfl) (fk_ok (allB_at g4 21 rfl)).1 (fk_ok (allB_at g4 21 rfl)).2.1
  have b21 : Binds K (fdOf K 214) ["draws", "names"] [] := F21.binds (ps := ["draws", "names"]) fun _ _ _ _ _ _ us hl => match us, hl with | [_, _], _ => rfl
  have F22 : Fun K "_law_value" "_law_value" (topS 22) 221 (fdOf K 221) := fun_of (fn_at s 22 rfl rfl) (fk_ok (allB_at g4 22 rfl)).1 (fk_ok (allB_at g4 22 rfl)).2.1
  have b22 : Binds K (fdOf K 221) ["terms", "names", "row"] [] := F22.binds (ps := ["terms", "names", "row"]) fun _ _ _ _ _ _ us hl => match us, hl with | [_, _, _], _ => rfl
  have F23 : Fun K "_law_factor" "_law_factor" (topS 23) 226 (fdOf K 226) := fun_of (fn_at s 23 rfl rfl) (fk_ok (allB_at g4 23 rfl)).1 (fk_ok (allB_at g4 23 rfl)).2.1
  have b23 : Binds K (fdOf K 226) ["terms", "name"] [] := F23.binds (ps := ["terms", "name"]) fun _ _ _ _ _ _ us hl => match us, hl with | [_, _], _ => rfl
  have F24 : Fun K "_law_rows" "_law_rows" (topS 24) 233 (fdOf K 233) := fun_of (fn_at s 24 rfl rfl) (fk_ok (allB_at g4 24 rfl)).1 (fk_ok (allB_at g4 24 rfl)).2.1
  have b24 : Binds K (fdOf K 233) ["bounds"] [] := F24.binds (ps := ["bounds"]) fun _ _ _ _ _ _ us hl => match us, hl with | [_], _ => rfl
  have F25 : Fun K "_law_better" "_law_better" (topS 25) 240 (fdOf K 240) := fun_of (fn_at s 25 rfl rfl) (fk_ok (allB_at g4 25 rfl)).1 (fk_ok (allB_at g4 25 rfl)).2.1
  have b25 : Binds K (fdOf K 240) ["row", "best", "old"] [] := F25.binds (ps := ["row", "best", "old"]) fun _ _ _ _ _ _ us hl => match us, hl with | [_, _, _], _ => rfl
  have F26 : Fun K "law" "law" (topS 26) 245 (fdOf K 245) := fun_of (fn_at s 26 rfl rfl) (fk_ok (allB_at g4 26 rfl)).1 (fk_ok (allB_at g4 26 rfl)).2.1
  have b26 : Binds K (fdOf K 245) ["script"] [] := F26.binds (ps := ["script"]) fun _ _ _ _ _ _ us hl => match us, hl with | [_], _ => rfl
  exact {
    b_abs := PySem.W.mg_none_of X G (eqN_ok (allB_at g0 0 rfl)),
    b_all := PySem.W.mg_none_of X G (eqN_ok (allB_at g0 1 rfl)),
    b_any := PySem.W.mg_none_of X G (eqN_ok (allB_at g0 2 rfl)),
    b_divmod := PySem.W.mg_none_of X G (eqN_ok (allB_at g0 3 rfl)),
    b_int := PySem.W.mg_none_of X G (eqN_ok (allB_at g0 4 rfl)),
    b_isinstance := PySem.W.mg_none_of X G (eqN_ok (allB_at g0 5 rfl)),
    b_len := PySem.W.mg_none_of X G (eqN_ok (allB_at g0 6 rfl)),
    b_list := PySem.W.mg_none_of X G (eqN_ok (allB_at g0 7 rfl)),
    b_max := PySem.W.mg_none_of X G (eqN_ok (allB_at g0 8 rfl)),
    b_min := PySem.W.mg_none_of X G (eqN_ok (allB_at g0 9 rfl)),
    b_range := PySem.W.mg_none_of X G (eqN_ok (allB_at g0 10 rfl)),
    b_sum := PySem.W.mg_none_of X G (eqN_ok (allB_at g0 11 rfl)),
    b_zip := PySem.W.mg_none_of X G (eqN_ok (allB_at g0 12 rfl)),
    g_Equation := PySem.W.mg_of X G (eqR_ok (allB_at g0 13 rfl)),
    cl_Equation := ⟨(allB_at g1 0 rfl), (allB_at g1 1 rfl), (allB_at g1 2 rfl), eqF_ok (allB_at g1 3 rfl)⟩,
    mk_Equation := ⟨(allB_at g1 4 rfl), eqR_ok (allB_at g1 9 rfl), (fk_ok (allB_at g4 0 rfl)).2.2, (allB_at g1 5 rfl)⟩,
    na_Equation_first := eqN_ok (allB_at g1 6 rfl),
    na_Equation_second := eqN_ok (allB_at g1 7 rfl),
    na_Equation_total := eqN_ok (allB_at g1 8 rfl),
    me_Equation_is_empty := ⟨eqR_ok (allB_at g1 10 rfl), (fk_ok (allB_at g4 1 rfl)).2.2, (fk_ok (allB_at g4 1 rfl)).2.1⟩,
    me_Equation_goes_with := ⟨eqR_ok (allB_at g1 11 rfl), (fk_ok (allB_at g4 2 rfl)).2.2, (fk_ok (allB_at g4 2 rfl)).2.1⟩,
    me_Equation_crossed_with := ⟨eqR_ok (allB_at g1 12 rfl), (fk_ok (allB_at g4 3 rfl)).2.2, (fk_ok (allB_at g4 3 rfl)).2.1⟩,
    g_Form := PySem.W.mg_of X G (eqR_ok (allB_at g0 14 rfl)),
    cl_Form := ⟨(allB_at g2 0 rfl), (allB_at g2 1 rfl), (allB_at g2 2 rfl), eqF_ok (allB_at g2 3 rfl)⟩,
    mk_Form := ⟨(allB_at g2 4 rfl), eqR_ok (allB_at g2 7 rfl), (fk_ok (allB_at g4 4 rfl)).2.2, (allB_at g2 5 rfl)⟩,
    na_Form_terms := eqN_ok (allB_at g2 6 rfl),
    me_Form_factor_of := ⟨eqR_ok (allB_at g2 8 rfl), (fk_ok (allB_at g4 5 rfl)).2.2, (fk_ok (allB_at g4 5 rfl)).2.1⟩,
    F_Equation___init__ := F0,
    b_Equation___init__ := b0,
    F_Equation_is_empty := F1,
    b_Equation_is_empty := b1,
    F_Equation_goes_with := F2,
    b_Equation_goes_with := b2,
    F_Equation_crossed_with := F3,
    b_Equation_crossed_with := b3,
    F_Form___init__ := F4,
    b_Form___init__ := b4,
    F_Form_factor_of := F5,
    b_Form_factor_of := b5,
    F_nearest_source := F6,
    b_nearest_source := b6,
    g_nearest_source := PySem.W.mg_of X G (eqR_ok (allB_at g0 15 rfl)),
    F_equation_of := F7,
    b_equation_of := b7,
    g_equation_of := PySem.W.mg_of X G (eqR_ok (allB_at g0 16 rfl)),
    F_nearest_pair := F8,
    b_nearest_pair := b8,
    g_nearest_pair := PySem.W.mg_of X G (eqR_ok (allB_at g0 17 rfl)),
    F_nearest_within := F9,
    b_nearest_within := b9,
    g_nearest_within := PySem.W.mg_of X G (eqR_ok (allB_at g0 18 rfl)),
    F_crossing := F10,
    b_crossing := b10,
    g_crossing := PySem.W.mg_of X G (eqR_ok (allB_at g0 19 rfl)),
    F_is_within := F11,
    b_is_within := b11,
    g_is_within := PySem.W.mg_of X G (eqR_ok (allB_at g0 20 rfl)),
    F_nearest_on_line := F12,
    b_nearest_on_line := b12,
    g_nearest_on_line := PySem.W.mg_of X G (eqR_ok (allB_at g0 21 rfl)),
    F_exact_within := F13,
    b_exact_within := b13,
    g_exact_within := PySem.W.mg_of X G (eqR_ok (allB_at g0 22 rfl)),
    F_common_divisor := F14,
    b_common_divisor := b14,
    g_common_divisor := PySem.W.mg_of X G (eqR_ok (allB_at g0 23 rfl)),
    F_nearest_turned := F15,
    b_nearest_turned := b15,
    g_nearest_turned := PySem.W.mg_of X G (eqR_ok (allB_at g0 24 rfl)),
    F_turns_within := F16,
    b_turns_within := b16,
    g_turns_within := PySem.W.mg_of X G (eqR_ok (allB_at g0 25 rfl)),
    F_nearest_turn := F17,
    b_nearest_turn := b17,
    g_nearest_turn := PySem.W.mg_of X G (eqR_ok (allB_at g0 26 rfl)),
    F__law_cells := F18,
    b__law_cells := b18,
    g__law_cells := PySem.W.mg_of X G (eqR_ok (allB_at g0 27 rfl)),
    F__law_draw := F19,
    b__law_draw := b19,
    g__law_draw := PySem.W.mg_of X G (eqR_ok (allB_at g0 28 rfl)),
    F__law_pick := F20,
    b__law_pick := b20,
    g__law_pick := PySem.W.mg_of X G (eqR_ok (allB_at g0 29 rfl)),
    F__law_terms := F21,
    b__law_terms := b21,
    g__law_terms := PySem.W.mg_of X G (eqR_ok (allB_at g0 30 rfl)),
    F__law_value := F22,
    b__law_value := b22,
    g__law_value := PySem.W.mg_of X G (eqR_ok (allB_at g0 31 rfl)),
    F__law_factor := F23,
    b__law_factor := b23,
    g__law_factor := PySem.W.mg_of X G (eqR_ok (allB_at g0 32 rfl)),
    F__law_rows := F24,
    b__law_rows := b24,
    g__law_rows := PySem.W.mg_of X G (eqR_ok (allB_at g0 33 rfl)),
    F__law_better := F25,
    b__law_better := b25,
    g__law_better := PySem.W.mg_of X G (eqR_ok (allB_at g0 34 rfl)),
    F_law := F26,
    b_law := b26 }
theorem law_at {w : World} {K : PySem.W.Frag} {h : Heap} {mg : Str → Option Value} (X : K.In h) (G : h.Ns mainGlobals mg) (s : SaysH HD w K) : mg "law" = some (.ref (adr K).f_law) := by
  have E : exB K = true := s.ex
  have gA : allB (eA K) = true := allB_at E 0 rfl
  have gB : allB (eB K) = true := allB_at E 1 rfl
  have gC : allB (eC K) = true := allB_at E 2 rfl
  have gP : allB (eP K) = true := allB_at E 3 rfl
  have g0 : allB (e0 K) = true := allB_at gA 0 rfl
  exact PySem.W.mg_of X G (eqR_ok (allB_at g0 35 rfl))
end
end K16
open PySem PySem.W PySem.Calls PyProof.Rows in
set_option maxRecDepth 100000 in
set_option maxHeartbeats 0 in
theorem K16.endPre (hc : PySem.W.WalkO K16.qv K16.nms (PySem.W.XL K16.qv []) (Rn.hookH K16.HD).says (PySem.W.OpenLaw.row PySem.Challenge.rw_oneheap_k16_nearest_integers).toRowW (HandSHeadRun.topDef (PySem.W.OpenLaw.row PySem.Challenge.rw_oneheap_k16_nearest_integers).prog 26) [] (fun f vs => PySem.call f vs)) : PySem.Challenge.rw_oneheap_k16_nearest_integers.Holds := by
  w_on; o_law
  refine Ct.head_cut (SF := K16.sT4) (r := PySem.W.OpenLaw.row PySem.Challenge.rw_oneheap_k16_nearest_integers) (q := K16.qv) (H := Rn.hookH K16.HD) (ob := Rn.obH K16.HD) (M := 1397) (loose := K16.nms) (d := HandSHeadRun.topDef (PySem.W.OpenLaw.row PySem.Challenge.rw_oneheap_k16_nearest_integers).prog 26) (kwd := []) (Rn.obH_eq K16.HD)
    (by kernel_rfl) (fun s => by kernel_rfl) K16.cTop K16.runH (by kernel_rfl) (by kernel_rfl) (by kernel_rfl) (by rfl) (by first | assumption | decide +kernel) (by decide +kernel) ⟨rfl, rfl, rfl, rfl, rfl, by decide +kernel⟩ ?hw hc
  case hw => w_witness2
namespace Dv
open PySem PySem.Spec PyProof.Rows L2
set_option autoImplicit false
noncomputable section
/-! ### the law's own promise -/
def spTrue (K : PySem.W.Frag) : Sp := fun vs H Q _ => ∃ (a : Addr) (ns : List Int), vs = [.ref a] ∧ SqL K H a (ns.map V.int) ∧ ns.length ≤ 63 ∧ ∀ H', Q (.bl true) H'
theorem law_imp {K : PySem.W.Frag} {S : Nat → Addr} {g : Fn} (h : ∀ ns : List Int, ns.length ≤ 63 → ∃ p, g [.val (.scr (ns.map .int))] = .ok (.bl true) p) (vs : List V) (H : Hp) (Q : VK) (E : XK) (q : spTrue K vs H Q E) : spD K S false 1 g vs H Q E := by
  obtain ⟨a, ns, rfl, hS, hl, q⟩ := q
  obtain ⟨p, hp⟩ := h ns hl
  refine ⟨H, [.val (.scr (ns.map .int))], none, fun a u e => .inl e, ⟨.cons ⟨a, _, rfl, hS, ints_rep ns⟩ .nil, Nat.zero_le _, fun a e => by cases e⟩, rfl, ?_⟩
  rw [hp]
  intro G' H' f pk
  show ∀ v, Rep K S G' (.bl true) v → Q v H'
  intro v hv
  cases hv
  exact q H'
end
end Dv
namespace Dv
open PySem PySem.Spec PyProof.Rows L2
set_option autoImplicit false
noncomputable section
/-! ### runs, told by rules -/
def selB {α : Type} (b : Bool) (x y : α) : α := match b with
  | true => x
  | false => y
/-- which of the two, told apart -/
structure Sel {α : Type} (b : Bool) (x y r : α) : Prop where
  of : selB b x y = r
section
variable {env e e' e1 e2 : Dv.Env} {a b c : Ev} {ta tb : EvT} {ra : EvA} {ga : EvG'} {sa sb : EvS} {i n : Nat} {d x y : D} {xs : List D} {f : FO} {fc : FC} {bb : Bool} {g : Fn} {as : List Ag} {ags : List Ar} {p : Option D} {cs : List Nat} {s : Str} {C : Nat} {fs : List (Str × D)} {kvs : List (Key × D)} {r : Res D} {rt : Res Bool} {rs : Sr}
theorem sel_t {α : Type} {b : Bool} {x y r : α} (h : b = true) (k : x = r) : Sel b x y r := by subst h; exact ⟨k⟩
theorem sel_f {α : Type} {b : Bool} {x y r : α} (h : b = false) (k : y = r) : Sel b x y r := by subst h; exact ⟨k⟩
theorem z_set0 {s x : Sl} {r : List Sl} : (s :: r).set 0 x = x :: r := rfl
theorem z_setS {s x : Sl} {r r' : List Sl} {i : Nat} (h : r.set i x = r') : (s :: r).set (i + 1) x = s :: r' := by rw [← h]; rfl
theorem z_at0 {s : Sl} {r : List Sl} : (s :: r)[0]? = some s := rfl
theorem z_atS {s : Sl} {o : Option Sl} {r : List Sl} {i : Nat} (h : r[i]? = o) : (s :: r)[i + 1]? = o := by rw [← h]; rfl
theorem z_putP {x q : D} : putSl (.par x) q = .par q := rfl
theorem z_putB {x q : D} : putSl (.box x) q = .box q := rfl
theorem z_st0 : Dv.start 0 [] = [] := rfl
theorem z_stN {n : Nat} {e : Dv.Env} (h : Dv.start n [] = e) : Dv.start (n + 1) [] = .no :: e := by rw [← h]; rfl
theorem z_stV {n : Nat} {d : D} {as : List Ar} {e : Dv.Env} (h : Dv.start n as = e) : Dv.start (n + 1) (.val d :: as) = .val d :: e := by
  rw [← h]
  unfold Dv.start
  rw [List.map_cons, List.length_cons, Nat.add_sub_add_right]
  rfl
theorem z_stP {n : Nat} {d : D} {as : List Ar} {e : Dv.Env} (h : Dv.start n as = e) : Dv.start (n + 1) (.par d :: as) = .par d :: e := by
  rw [← h]
  unfold Dv.start
  rw [List.map_cons, List.length_cons, Nat.add_sub_add_right]
  rfl
theorem z_bor0 : borE [] = [] := rfl
theorem z_borV {d : D} {e e' : Dv.Env} (h : borE e = e') : borE (.val d :: e) = .val d :: e' := by rw [← h]; rfl
theorem z_borB {d : D} {e e' : Dv.Env} (h : borE e = e') : borE (.box d :: e) = .val d :: e' := by rw [← h]; rfl
theorem z_borP {d : D} {e e' : Dv.Env} (h : borE e = e') : borE (.par d :: e) = .val d :: e' := by rw [← h]; rfl
theorem z_borN {e e' : Dv.Env} (h : borE e = e') : borE (.no :: e) = .no :: e' := by rw [← h]; rfl
theorem z_w0 : wipeE env [] = env := rfl
theorem z_wS {v : Nat} {vs : List Nat} {e1 e2 : Dv.Env} (h : wipeE env vs = e1) (h2 : e1.set v .no = e2) : wipeE env (v :: vs) = e2 := by rw [← h2, ← h]; rfl
theorem z_v0 {d x : D} {r : List Sl} : setE (.val x :: r) 0 d = some (.val d :: r) := rfl
theorem z_n0 {d : D} {r : List Sl} : setE (.no :: r) 0 d = some (.val d :: r) := rfl
theorem z_b0 {d x : D} {r : List Sl} : setE (.box x :: r) 0 d = some (.val d :: r) := rfl
theorem z_sS {d : D} {s : Sl} {r r' : List Sl} {i : Nat} (h : setE r i d = some r') : setE (s :: r) (i + 1) d = some (s :: r') := by
  unfold setE at h ⊢
  show (match r[i]? with | some (.par _) => none | some _ => some (s :: r.set i (.val d)) | none => none) = some (s :: r')
  revert h
  cases r[i]? with
  | none => intro h; cases h
  | some x => cases x <;> first
    | (intro h; cases h; done)
    | (intro h; rw [← Option.some.inj h])
theorem r_val (h : env[i]? = some (.val d)) : xVal i env = .ok d env := by unfold xVal; rw [h]
theorem r_var (h : env[i]? = some (.val d)) : xVar i env = .ok d env := by unfold xVar; rw [h]
theorem r_varB (h : env[i]? = some (.box d)) (he : env.set i (.val d) = e') : xVar i env = .ok d e' := by subst he; unfold xVar; rw [h]
theorem r_c : xC d env = .ok d env := rfl
theorem r_op (h1 : a env = .ok x e1) (h2 : b e1 = .ok y e2) (h3 : f x y = some d) : xOp f a b env = .ok d e2 := by unfold xOp; rw [h1]; show (b e1).bind _ = _; rw [h2]; show Res.of (f x y) e2 = _; rw [h3]; rfl
theorem r_nil : xNil env = .ok [] env := rfl
theorem r_cons (h1 : a env = .ok x e1) (h2 : ra e1 = .ok xs e2) : xCons a ra env = .ok (x :: xs) e2 := by unfold xCons; rw [h1]; show (ra e1).bind _ = _; rw [h2]; rfl
theorem r_cb (h1 : ra env = .ok xs e1) (h2 : fc xs = some d) : xCB fc ra env = .ok d e1 := by unfold xCB; rw [h1]; show Res.of (fc xs) e1 = _; rw [h2]; rfl
theorem r_lst (h1 : ra env = .ok xs e1) (h2 : xs.length ≤ 1000000) : xLst ra env = .ok (.lst xs) e1 := by unfold xLst; rw [h1]; exact if_pos h2
theorem r_tup (h1 : ra env = .ok xs e1) (h2 : xs.length ≤ 1000000) : xTup ra env = .ok (.tup xs) e1 := by unfold xTup; rw [h1]; exact if_pos h2
theorem r_fld (h1 : a env = .ok (.ins C fs) e1) (h2 : C ∈ cs) (h3 : fs.lookup s = some d) : xFld cs s a env = .ok d e1 := by unfold xFld; rw [h1]; show (if C ∈ cs then Res.of (fs.lookup s) e1 else Res.no) = _; rw [if_pos h2, h3]; rfl
theorem r_test (h1 : a env = .ok (.bl bb) e1) : xTest a env = .ok bb e1 := by unfold xTest; rw [h1]; rfl
theorem r_notT (h1 : ta env = .ok bb e1) : xNotT ta env = .ok (!bb) e1 := by unfold xNotT; rw [h1]; rfl
theorem r_andT (h1 : ta env = .ok bb e1) (h2 : Sel bb (tb e1) (.ok false e1) rt) : xAndT ta tb env = rt := by unfold xAndT; rw [h1, ← h2.of]; cases bb <;> rfl
theorem r_orT (h1 : ta env = .ok bb e1) (h2 : Sel bb (.ok true e1) (tb e1) rt) : xOrT ta tb env = rt := by unfold xOrT; rw [h1, ← h2.of]; cases bb <;> rfl
theorem r_andV (h1 : a env = .ok (.bl bb) e1) (h2 : Sel bb (b e1) (.ok (.bl false) e1) r) : xAndV a b env = r := by unfold xAndV; rw [h1, ← h2.of]; cases bb <;> rfl
theorem r_if (h1 : ta env = .ok bb e1) (h2 : Sel bb (a e1) (b e1) r) : xIf ta a b env = r := by unfold xIf; rw [h1, ← h2.of]; cases bb <;> rfl
theorem r_ifS (h1 : ta env = .ok bb e1) (h2 : Sel bb (sa e1) (sb e1) rs) : xIfS ta sa sb env = rs := by unfold xIfS; rw [h1, ← h2.of]; cases bb <;> rfl
structure SeqS (r : Sr) (k : EvS) (q : Sr) : Prop where
  of : r.seq k = q
theorem r_seq (h1 : sa env = rs) {q : Sr} (h2 : SeqS rs sb q) : xSeq sa sb env = q := by unfold xSeq; rw [h1]; exact h2.of
theorem sq_nx {q : Sr} (h : sb e = q) : SeqS (.nx e) sb q := ⟨h⟩
theorem sq_rt : SeqS (.rt d e) sb (.rt d e) := ⟨rfl⟩
theorem sq_rf : SeqS (.rf d e) sb (.rf d e) := ⟨rfl⟩
theorem sq_bk : SeqS (.bk e) sb (.bk e) := ⟨rfl⟩
theorem r_nx : xNx env = .nx env := rfl
theorem r_break : xBreak env = .bk env := rfl
theorem r_set (h1 : a env = .ok d e1) (h2 : setE e1 i d = some e2) : xSet i a env = .nx e2 := by unfold xSet; rw [h1]; show (match setE e1 i d with | some e' => Sr.nx e' | none => Sr.no) = _; rw [h2]
theorem r_ret (h1 : a env = .ok d e1) : xRet a env = .rt d e1 := by unfold xRet; rw [h1]; rfl
theorem r_retV (h1 : env[i]? = some (.box d)) (he : env.set i .no = e') : xRetV i env = .rf d e' := by subst he; unfold xRetV; rw [h1]
theorem r_drop (h1 : a env = .ok d e1) : xDrop a env = .nx e1 := by unfold xDrop; rw [h1]; rfl
def boxable : Option Sl → Bool
  | some (.par _) => false
  | some _ => true
  | none => false
theorem r_box {os : Option Sl} (h1 : a env = .ok d e1) (h0 : e1[i]? = os) (h2 : boxable os = true) (he : e1.set i (.box d) = e') : xBox i a env = .nx e' := by
  subst he
  subst h0
  unfold xBox
  rw [h1]
  show (match e1[i]? with | some (.par _) => Sr.no | some _ => Sr.nx (e1.set i (.box d)) | none => Sr.no) = _
  revert h2
  cases e1[i]? with
  | none => intro h; cases h
  | some s => cases s <;> first | (intro h; cases h; done) | (intro _; rfl)
theorem r_gnil : gNil env = .ok [] env := rfl
theorem r_gval (h1 : a env = .ok x e1) (h2 : ga e1 = .ok as e2) : gVal a ga env = .ok (.v x :: as) e2 := by unfold gVal; rw [h1]; show (ga e1).bind _ = _; rw [h2]; rfl
theorem r_gslot {sl : Sl} (h0 : env[i]? = some sl) (h1 : isOwn sl = true) (h2 : ga env = .ok as e2) : gSlot i ga env = .ok (.s i :: as) e2 := by unfold gSlot; rw [h0]; show (if isOwn sl = true then _ else _) = _; rw [if_pos h1, h2]; rfl
structure CallK (l : List Nat) (g : Fn) (ags : List Ar) (e1 : Dv.Env) (r : Res D) : Prop where
  of : (match l with
    | [] => match g ags with
      | .ok d _ => Res.ok d e1
      | .ex C fs _ => .ex C fs e1
      | .no => .no
    | [i] => match e1[i]? with
      | some s => match g ags with
        | .ok d (some p) => .ok d (e1.set i (putSl s p))
        | _ => .no
      | none => .no
    | _ => .no) = r
theorem ck_v (h : g ags = .ok d p) : CallK [] g ags e1 (.ok d e1) := ⟨by dsimp only; rw [h]⟩
theorem ck_s {sl sl' : Sl} {q : D} (h0 : e1[i]? = some sl) (h : g ags = .ok d (some q)) (hp : putSl sl q = sl') (he : e1.set i sl' = e') : CallK [i] g ags e1 (.ok d e') := ⟨by subst he; subst hp; dsimp only; rw [h0]; dsimp only; rw [h]⟩
theorem r_call {d : D} {e' : Dv.Env} (h1 : ga env = .ok as e1) (h2 : as.length = n) (h4 : resv as e1 = some ags) (h5 : CallK (slotOf as) g ags e1 (.ok d e')) : xCall n g ga env = .ok d e' := by
  unfold xCall
  rw [h1]
  show (if as.length = n then callG g as e1 else Res.no) = _
  rw [if_pos h2]
  unfold callG
  rw [h4]
  have := h5.of
  dsimp only
  revert this
  cases slotOf as with
  | nil => exact id
  | cons i l =>
    cases l with
    | cons _ _ => intro h; cases h
    | nil =>
      dsimp only
      cases e1[i]? with
      | none => intro h; cases h
      | some s =>
        dsimp only
        cases g ags with
        | no => intro h; cases h
        | ex C fs p => intro h; cases h
        | ok d p => cases p with
          | none => intro h; cases h
          | some p => exact id
theorem r_make {ci : Nat} {dcs : List D} {q : D} (h1 : ra env = .ok xs e1) (h2 : xs.length + 1 + dcs.length = n) (h3 : g (.par (.ins ci []) :: (xs ++ dcs).map Ar.val) = .ok .non (some q)) : xMake ci n dcs g ra env = .ok q e1 := by
  unfold xMake
  rw [h1]
  show (if xs.length + 1 + dcs.length = n then _ else _) = _
  rw [if_pos h2, h3]
theorem r_meth {m : Str} {t : MT} {j : Nat} (h1 : a env = .ok (.ins C fs) e1) (h2 : t.at C = some (j, g)) (h3 : fs.lookup m = none) (h4 : ga e1 = .ok as e2) (h5 : (Ag.v (.ins C fs) :: as).length = n) (h6 : slotOf (Ag.v (.ins C fs) :: as) = []) (h7 : resv (.v (.ins C fs) :: as) e2 = some ags) (h8 : g ags = .ok d p) : xMeth m n t a ga env = .ok d e2 := by
  unfold xMeth
  rw [h1]
  show (match t.at C with | some (_, g) => _ | none => _) = _
  rw [h2]
  dsimp only
  rw [if_pos h3, h4]
  show (if (Ag.v (.ins C fs) :: as).length = n then callG g (.v (.ins C fs) :: as) e2 else Res.no) = _
  rw [if_pos h5]
  unfold callG
  rw [h7, h6]
  dsimp only
  rw [h8]
theorem r_dget1 {k : Key} (h1 : a env = .ok (.dct kvs) e1) (h2 : b e1 = .ok y e2) (h3 : keyD y = some k) (h4 : (valD kvs k).getD .non = d) : xDGet1 a b env = .ok d e2 := by
  unfold xDGet1
  rw [h1]
  show (b e1).bind _ = _
  rw [h2]
  show Res.of ((keyD y).map _) e2 = _
  rw [h3, ← h4]
  rfl
theorem r_isq (h1 : a env = .ok d e1) (h2 : seqD d = some xs) : iSq a env = .ok xs e1 := by unfold iSq; rw [h1]; show Res.of (seqD d) e1 = _; rw [h2]; rfl
theorem r_for {ei : EvI} {eg : Eg} (h1 : ei env = .ok xs e1) (h2 : forL eg sa xs e1 = rs) : xFor ei eg sa env = rs := by unfold xFor; rw [h1]; exact h2
theorem r_run (hs : Dv.start n ags = e') (h : sa e' = .rt d e) (hp : parOf e = p) : runF false n sa ags = .ok d p := by subst hp; subst hs; unfold runF; rw [h]; rfl
theorem r_runN (hs : Dv.start n ags = e') (h : sa e' = .nx e) (hp : parOf e = p) : runF false n sa ags = .ok .non p := by subst hp; subst hs; unfold runF; rw [h]; rfl
theorem r_runF (hs : Dv.start n ags = e') (h : sa e' = .rf d e) (hp : parOf e = p) : runF true n sa ags = .ok d p := by subst hp; subst hs; unfold runF; rw [h]; rfl
theorem r_fldS {fs' : List (Str × D)} (h1 : a env = .ok d e1) (h0 : e1[i]? = some (.par (.ins C fs))) (h2 : C ∈ cs) (h3 : fs.length ≤ 900) (hp : putD s d fs = fs') (he : e1.set i (.par (.ins C fs')) = e') : xFldS cs s i a env = .nx e' := by
  subst he
  subst hp
  unfold xFldS
  rw [h1]
  show (match e1[i]? with | some (.par (.ins C fs)) => _ | some (.box (.ins C fs)) => _ | _ => _) = _
  rw [h0]
  exact if_pos ⟨h2, h3⟩
theorem r_bor (hb : borE env = e') (h : a e' = .ok d e1) (hs : scalR d = true) : xBor a env = .ok d env := by subst hb; unfold xBor; rw [h]; exact if_pos hs
theorem r_borT (hb : borE env = e') (h : ta e' = .ok bb e1) : xBorT ta env = .ok bb env := by subst hb; unfold xBorT; rw [h]
theorem r_ownM {fm : FM} {sl sl' : Sl} {l : List D} {c c' : D} (h1 : env[i]? = some sl) (h2 : cont sl = some (.lst l)) (h3 : ra env = .ok xs e1) (h4 : e1[i]? = some sl') (h5 : cont sl' = some c) (h6 : fm c xs = some (d, c')) {sl2 : Sl} (hp : putSl sl' c' = sl2) (he : e1.set i sl2 = e') : xOwnM fm i ra env = .ok d e' := by
  subst he
  subst hp
  unfold xOwnM
  rw [h1]
  dsimp only
  rw [h2]
  dsimp only
  rw [h3]
  show (match e1[i]? with | some t => _ | none => _) = _
  rw [h4]
  dsimp only
  rw [h5]
  dsimp only
  rw [h6]
theorem r_setIx {ek ev : Ev} {t0 t : Sl} {l : List D} {j : Int} {m : Nat} (h1 : ev env = .ok d e1) (h2 : e1[i]? = some t0) (h3 : isOwn t0 = true) (h4 : ek e1 = .ok (.int j) e2) (h5 : e2[i]? = some t) (h6 : cont t = some (.lst l)) (h7 : ixN l.length j = some m) {l' : List D} (hl : l.set m d = l') {sl2 : Sl} (hp : putSl t (.lst l') = sl2) (he : e2.set i sl2 = e') : xSetIx i ek ev env = .nx e' := by
  subst he
  subst hp
  subst hl
  unfold xSetIx
  rw [h1]
  show (match e1[i]? with | some t0 => _ | none => _) = _
  rw [h2]
  dsimp only
  rw [if_pos h3, h4]
  show (match e2[i]?, D.int j with | some t, .int j => _ | _, _ => _) = _
  rw [h5]
  dsimp only
  rw [h6]
  dsimp only
  rw [h7]
theorem r_dput {ek ev : Ev} {t0 t : Sl} {k : Key} (h1 : ev env = .ok d e1) (h2 : e1[i]? = some t0) (h3 : isOwn t0 = true) (h4 : ek e1 = .ok y e2) (h5 : e2[i]? = some t) (h5' : keyD y = some k) (h6 : cont t = some (.dct kvs)) (h7 : kvs.length < 1000000) {kvs' : List (Key × D)} (hl : putKD kvs k d = kvs') {sl2 : Sl} (hp : putSl t (.dct kvs') = sl2) (he : e2.set i sl2 = e') : xDPut i ek ev env = .nx e' := by
  subst he
  subst hp
  subst hl
  unfold xDPut
  rw [h1]
  show (match e1[i]? with | some t0 => _ | none => _) = _
  rw [h2]
  dsimp only
  rw [if_pos h3, h4]
  show (match e2[i]?, keyD y with | some t, some k => _ | _, _ => _) = _
  rw [h5, h5']
  dsimp only
  rw [h6]
  dsimp only
  rw [if_pos h7]
/-! loops and comprehensions -/
theorem wipe_wipeE {vs : List Nat} : wipeE (wipeE env vs) vs = wipeE env vs := by
  refine List.ext_getElem? fun j => ?_
  rw [wipeE_at, wipeE_at, wipeE_len]
  by_cases hj : j ∈ vs
  · rw [if_pos hj, if_pos hj]
  · simp [hj]
theorem cmp_ok {eg : Eg} {vs : List Nat} (W : Dv.Env) (q : D → Bool) (h : D → D) : ∀ (ds acc : List D) (env : Dv.Env), wipeE env vs = W → acc.length + ds.length < 1000000 →
    (∀ x ∈ ds, ∃ e1 e2, eg x W = some e1 ∧ ta e1 = .ok (q x) e2 ∧ wipeE e2 vs = W ∧ (q x = true → ∃ e3, a e2 = .ok (h x) e3 ∧ wipeE e3 vs = W)) → ∃ env', cmpL eg ta a vs ds acc env = .ok (acc ++ (ds.filter q).map h) env' ∧ wipeE env' vs = W
  | [], acc, env, hw, _, _ => ⟨env, by simp [cmpL], hw⟩
  | x :: ds, acc, env, hw, hl, hx => by
    obtain ⟨e1, e2, h1, h2, h3, h4⟩ := hx x (List.mem_cons_self ..)
    have ht := fun acc env hw hl => cmp_ok W q h ds acc env hw hl fun y hy => hx y (List.mem_cons_of_mem _ hy)
    rw [List.length_cons] at hl
    have e0 : cmpL eg ta a vs (x :: ds) acc env = match eg x (wipeE env vs) with
      | none => .no
      | some e1 => match ta e1 with
        | .ok true e2 => match a e2 with
          | .ok y e3 => if acc.length < 1000000 then cmpL eg ta a vs ds (acc ++ [y]) e3 else .no
          | _ => .no
        | .ok false e2 => cmpL eg ta a vs ds acc e2
        | _ => .no := rfl
    rw [e0, hw, h1]
    dsimp only
    rw [h2]
    cases hq : q x with
    | false =>
      dsimp only
      obtain ⟨env', k1, k2⟩ := ht acc e2 h3 (by omega)
      refine ⟨env', ?_, k2⟩
      rw [k1, List.filter_cons_of_neg (by rw [hq]; decide)]
    | true =>
      dsimp only
      obtain ⟨e3, h5, h6⟩ := h4 hq
      rw [h5]
      dsimp only
      rw [if_pos (by omega)]
      obtain ⟨env', k1, k2⟩ := ht (acc ++ [h x]) e3 h6 (by simp; omega)
      refine ⟨env', ?_, k2⟩
      rw [k1, List.filter_cons_of_pos hq]
      simp
theorem r_lc {ei : EvI} {eg : Eg} {vs : List Nat} {ds acc : List D} {e' : Dv.Env} (h1 : ei env = .ok ds e1) (h2 : cmpL eg ta a vs ds [] e1 = .ok acc e') (hw : wipeE e' vs = e) : xLc ei eg ta a vs env = .ok (.lst acc) e := by
  subst hw
  unfold xLc
  rw [h1]
  show (cmpL eg ta a vs ds [] e1).bind _ = _
  rw [h2]
  rfl
theorem r_lcD {pt : Pth} {w : Wk} {eg : Eg} {vs : List Nat} {acc : List D} {e' : Dv.Env} (h1 : pt env = some (.dct kvs, e1)) (h2 : cmpL eg ta a vs (w.ds kvs) [] e1 = .ok acc e') (hw : wipeE e' vs = e) : xLcD pt w eg ta a vs env = .ok (.lst acc) e := by
  subst hw
  unfold xLcD
  rw [h1]
  show noR ((cmpL eg ta a vs (w.ds kvs) [] e1).bind _) = _
  rw [h2]
  rfl
end
section
variable {env e e' e1 e2 e3 : Dv.Env} {a : Ev} {ta : EvT} {ra : EvA} {sb : EvS} {i : Nat} {d x y : D} {xs ds acc acc' : List D} {bb : Bool} {eg : Eg} {vs : List Nat} {r : Res (List D)} {rs q : Sr} {j k : Int}
theorem r_yes : xYes env = .ok true env := rfl
theorem cmp_nil : cmpL eg ta a vs [] acc env = .ok acc env := rfl
theorem cmp_cons (hw : wipeE env vs = e) (h1 : eg x e = some e1) (h2 : ta e1 = .ok bb e2) (h3 : Sel bb (match a e2 with | .ok y e3 => if acc.length < 1000000 then cmpL eg ta a vs xs (acc ++ [y]) e3 else .no | _ => .no) (cmpL eg ta a vs xs acc e2) r) : cmpL eg ta a vs (x :: xs) acc env = r := by
  have e0 : cmpL eg ta a vs (x :: xs) acc env = match eg x (wipeE env vs) with
      | none => .no
      | some e1 => match ta e1 with
        | .ok true e2 => match a e2 with
          | .ok y e3 => if acc.length < 1000000 then cmpL eg ta a vs xs (acc ++ [y]) e3 else .no
          | _ => .no
        | .ok false e2 => cmpL eg ta a vs xs acc e2
        | _ => .no := rfl
  subst hw
  rw [e0, h1]
  dsimp only
  rw [h2, ← h3.of]
  cases bb <;> rfl
theorem z_app0 : [] ++ [y] = [y] := rfl
theorem z_appS (h : acc ++ [y] = acc') : (x :: acc) ++ [y] = x :: acc' := by rw [← h]; rfl
theorem cmp_el (h1 : a e2 = .ok y e3) (h2 : acc.length < 1000000) (ha : acc ++ [y] = acc') (h3 : cmpL eg ta a vs xs acc' e3 = r) : (match a e2 with | .ok y e3 => if acc.length < 1000000 then cmpL eg ta a vs xs (acc ++ [y]) e3 else .no | _ => .no) = r := by
  subst ha
  rw [h1]
  dsimp only
  rw [if_pos h2, h3]
theorem z_pd0 {f : Str} {v : D} : putD f v [] = [(f, v)] := rfl
theorem z_pdS {f k : Str} {v w : D} {r r' : List (Str × D)} (hne : k ≠ f) (h : putD f v r = r') : putD f v ((k, w) :: r) = (k, w) :: r' := by
  rw [← h]
  show (if k = f then (k, v) :: r else (k, w) :: putD f v r) = _
  rw [if_neg hne]
theorem z_pk0 {k : Key} {v : D} : putKD [] k v = [(k, v)] := rfl
theorem z_pkS {k k' : Key} {v v' : D} {l l' : List (Key × D)} (hne : k' ≠ k) (h : putKD l k v = l') : putKD ((k', v') :: l) k v = (k', v') :: l' := by
  rw [← h]
  unfold putKD
  have e1 : decide (k' = k) = false := decide_eq_false hne
  simp only [List.any_cons, e1, Bool.false_or, List.map_cons, if_neg hne, List.cons_append]
  split <;> rfl
theorem dcmp_nil {ek : Ev} {acc : List (Key × D)} : dcmpL eg ta ek a vs [] acc env = .ok acc env := rfl
theorem dcmp_cons {ek : Ev} {acc acc' : List (Key × D)} {r : Res (List (Key × D))} {e4 : Dv.Env} {k : Key} {z : D} (hw : wipeE env vs = e) (h1 : eg x e = some e1) (h2 : ta e1 = .ok true e2) (h3 : ek e2 = .ok y e3) (h4 : a e3 = .ok z e4) (h5 : keyD y = some k) (h6 : acc.length < 1000000) (ha : putKD acc k z = acc') (h7 : dcmpL eg ta ek a vs xs acc' e4 = r) : dcmpL eg ta ek a vs (x :: xs) acc env = r := by
  have e0 : dcmpL eg ta ek a vs (x :: xs) acc env = match eg x (wipeE env vs) with
      | none => .no
      | some e1 => match ta e1 with
        | .ok true e2 => match ek e2 with
          | .ok y e3 => match a e3 with
            | .ok z e4 => match keyD y with
              | some k => if acc.length < 1000000 then dcmpL eg ta ek a vs xs (putKD acc k z) e4 else .no
              | none => .no
            | _ => .no
          | _ => .no
        | .ok false e2 => dcmpL eg ta ek a vs xs acc e2
        | _ => .no := rfl
  subst hw
  subst ha
  rw [e0, h1]
  dsimp only
  rw [h2]
  dsimp only
  rw [h3]
  dsimp only
  rw [h4]
  dsimp only
  rw [h5]
  dsimp only
  rw [if_pos h6, h7]
theorem r_dcD {pt : Pth} {w : Wk} {ek : Ev} {kvs acc : List (Key × D)} (h1 : pt env = some (.dct kvs, e1)) (h2 : dcmpL eg ta ek a vs (w.ds kvs) [] e1 = .ok acc e') (hw : wipeE e' vs = e) : xDcD pt w eg ta ek a vs env = .ok (.dct acc) e := by
  subst hw
  unfold xDcD
  rw [h1]
  show noR ((dcmpL eg ta ek a vs (w.ds kvs) [] e1).bind _) = _
  rw [h2]
  rfl
theorem r_dnew : xDNew env = .ok (.dct []) env := rfl
theorem z_tup2 {b c : Eg} {x y : D} (h1 : b x env = some e1) (h2 : c y e1 = some e2) : yTup 2 (yCons b (yCons c yNil)) (.tup [x, y]) env = some e2 := by
  show (if [x, y].length = 2 then (match b x env with | some e => (match c y e with | some e => some e | none => none) | none => none) else none) = _
  rw [if_pos (show [x, y].length = 2 from rfl), h1]
  dsimp only
  rw [h2]
structure ForK (eg : Eg) (sb : EvS) (xs : List D) (rs q : Sr) : Prop where
  of : (match rs with | .nx e2 => forL eg sb xs e2 | .ct e2 => forL eg sb xs e2 | .bk e2 => .nx e2 | r => r) = q
theorem for_nil : forL eg sb [] env = .nx env := rfl
theorem for_cons (h1 : eg x env = some e1) (h2 : sb e1 = rs) (h3 : ForK eg sb xs rs q) : forL eg sb (x :: xs) env = q := by
  have e0 : forL eg sb (x :: xs) env = match eg x env with
    | none => .no
    | some e1 => match sb e1 with
      | .nx e2 => forL eg sb xs e2
      | .ct e2 => forL eg sb xs e2
      | .bk e2 => .nx e2
      | r => r := rfl
  rw [e0, h1]
  dsimp only
  rw [h2]
  exact h3.of
theorem fk_nx (h : forL eg sb xs e = q) : ForK eg sb xs (.nx e) q := ⟨h⟩
theorem fk_bk : ForK eg sb xs (.bk e) (.nx e) := ⟨rfl⟩
theorem fk_rt : ForK eg sb xs (.rt d e) (.rt d e) := ⟨rfl⟩
theorem r_rg1 (h1 : ra env = .ok [.int j] e1) (h2 : -(2 ^ 62) ≤ j ∧ j < 2 ^ 62) : iRg1 ra env = .ok (rngD 0 j.toNat) e1 := by unfold iRg1; rw [h1]; exact if_pos h2
theorem r_rg2 (h1 : ra env = .ok [.int j, .int k] e1) (h2 : -(2 ^ 62) ≤ j ∧ j < 2 ^ 62 ∧ -(2 ^ 62) ≤ k ∧ k < 2 ^ 62) : iRg2 ra env = .ok (rngD j (k - j).toNat) e1 := by unfold iRg2; rw [h1]; exact if_pos h2
def isPar : Sl → Bool
  | .par _ => true
  | _ => false
theorem z_f0 {d : D} {s : Sl} {r : List Sl} (hf : isPar s = false) : setE (s :: r) 0 d = some (.val d :: r) := by
  cases s <;> first
    | (cases hf; done)
    | rfl
theorem z_name {d : D} (h : setE env i d = some e) : yName i d env = some e := h
theorem setE_at {s : Sl} (h : env[i]? = some s) (hf : isPar s = false) : setE env i d = some (env.set i (.val d)) := by
  unfold setE
  rw [h]
  cases s <;> first
    | (cases hf; done)
    | rfl
end
theorem ix0 {x : D} {r : List D} : oIx (.lst (x :: r)) (.int 0) = some x := by
  show atI (x :: r) 0 = some x
  unfold atI ixN
  rw [if_pos (by decide), if_pos (by rw [List.length_cons]; omega)]
  rfl
theorem ixn0 {x : D} {r : List D} : ixN (x :: r).length 0 = some 0 := by
  unfold ixN
  rw [if_pos (by decide), if_pos (by rw [List.length_cons]; omega)]
  rfl
theorem pop0 {x : D} {r : List D} : mPopAt (.lst (x :: r)) [.int 0] = some (x, .lst r) := rfl
section
variable {env e e' e1 e2 e3 : Dv.Env} {a b c : Ev} {ra : EvA} {i j : Nat} {d x y z : D} {bb b2 : Bool}
theorem r_un {f : FU} (h1 : a env = .ok x e1) (h2 : f x = some d) : xUn f a env = .ok d e1 := by unfold xUn; rw [h1]; show Res.of (f x) e1 = _; rw [h2]; rfl
theorem r_par (h1 : ra env = .ok [x, y] e1) (h2 : setE e1 i x = some e2) (h3 : setE e2 j y = some e) : xPar i j ra env = .nx e := by
  unfold xPar
  rw [h1]
  show (match setE e1 i x with | some e1 => (match setE e1 j y with | some e2 => Sr.nx e2 | none => .no) | none => .no) = _
  rw [h2]
  dsimp only
  rw [h3]
theorem r_asg {g : Eg} (h1 : a env = .ok d e1) (h2 : g d e1 = some e) : xAsg a g env = .nx e := by
  unfold xAsg
  rw [h1]
  show (match g d e1 with | some e' => Sr.nx e' | none => .no) = _
  rw [h2]
theorem r_chain {f g : FO} (h1 : a env = .ok x e1) (h2 : b e1 = .ok y e2) (h3 : f x y = some (.bl bb)) (h4 : c e2 = .ok z e2) (h5 : g y z = some (.bl b2)) : xChain f g a b c env = .ok (.bl (bb && b2)) e2 := by
  unfold xChain
  rw [h1]
  show ((b e1).bind _) = _
  rw [h2]
  show (match f x y with | some (.bl true) => (c e2).bind fun z e3 => Res.of (g y z) e3 | some (.bl false) => .ok (.bl false) e2 | _ => .no) = _
  rw [h3]
  cases bb with
  | false => rfl
  | true =>
    dsimp only
    rw [h4]
    show Res.of (g y z) e2 = _
    rw [h5]
    rfl
theorem z_tup4 {g1 g2 g3 g4 : Eg} {x1 x2 x3 x4 : D} {e4 : Dv.Env} (h1 : g1 x1 env = some e1) (h2 : g2 x2 e1 = some e2) (h3 : g3 x3 e2 = some e3) (h4 : g4 x4 e3 = some e4) : yTup 4 (yCons g1 (yCons g2 (yCons g3 (yCons g4 yNil)))) (.tup [x1, x2, x3, x4]) env = some e4 := by
  show (if [x1, x2, x3, x4].length = 4 then (match g1 x1 env with | some e => (match g2 x2 e with | some e => (match g3 x3 e with | some e => (match g4 x4 e with | some e => some e | none => none) | none => none) | none => none) | none => none) else none) = _
  rw [if_pos (show [x1, x2, x3, x4].length = 4 from rfl), h1]
  dsimp only
  rw [h2]
  dsimp only
  rw [h3]
  dsimp only
  rw [h4]
end
theorem z_setS4 {s0 s1 s2 s3 x : Sl} {r r' : List Sl} {i : Nat} (h : r.set i x = r') : (s0 :: s1 :: s2 :: s3 :: r).set (i + 4) x = s0 :: s1 :: s2 :: s3 :: r' := by rw [← h]; rfl
theorem z_atS4 {s0 s1 s2 s3 : Sl} {o : Option Sl} {r : List Sl} {i : Nat} (h : r[i]? = o) : (s0 :: s1 :: s2 :: s3 :: r)[i + 4]? = o := by rw [← h]; rfl
theorem z_stN4 {n : Nat} {e : Dv.Env} (h : Dv.start n [] = e) : Dv.start (n + 4) [] = .no :: .no :: .no :: .no :: e := by rw [← h]; rfl
theorem z_sS4 {d : D} {s0 s1 s2 s3 : Sl} {r r' : List Sl} {i : Nat} (h : setE r i d = some r') : setE (s0 :: s1 :: s2 :: s3 :: r) (i + 4) d = some (s0 :: s1 :: s2 :: s3 :: r') := z_sS (i := i + 3) (z_sS (i := i + 2) (z_sS (i := i + 1) (z_sS h)))
end
end Dv
section
open Dv
local macro_rules
  | `(tactic| exists $ts,*) => do
    let mut alts : Lean.TSyntaxArray `tactic := #[]
    for t in ts.getElems do alts := alts.push (← `(tactic| exact $t))
    let r ← `(tactic| first
      | with_reducible exact r_c | with_reducible exact r_nil | with_reducible exact r_gnil | with_reducible exact r_nx | with_reducible exact r_break | with_reducible exact sq_rt | with_reducible exact sq_rf | with_reducible exact sq_bk | with_reducible exact r_yes | with_reducible exact cmp_nil | with_reducible exact for_nil | with_reducible exact fk_bk | with_reducible exact fk_rt | with_reducible exact z_putP | with_reducible exact z_putB | with_reducible exact z_st0 | with_reducible exact z_bor0 | with_reducible exact z_w0 | with_reducible exact z_set0 | with_reducible exact z_v0 | with_reducible exact z_n0 | with_reducible exact z_b0 | with_reducible exact z_at0 | with_reducible exact z_app0 | with_reducible exact z_pk0 | with_reducible exact z_pd0 | with_reducible exact dcmp_nil | with_reducible exact r_dnew
      | ((with_reducible apply r_val); rfl) | ((with_reducible apply r_var); rfl) | ((with_reducible apply r_varB); rfl)
      | with_reducible apply r_op | with_reducible apply r_cons | with_reducible apply r_cb | with_reducible apply r_lst | with_reducible apply r_tup | with_reducible apply r_fld | with_reducible apply r_test | with_reducible apply r_notT | with_reducible apply r_andT | with_reducible apply r_orT | with_reducible apply r_andV | with_reducible apply r_if | with_reducible apply r_ifS | with_reducible apply r_seq | with_reducible apply sq_nx | with_reducible apply r_set | with_reducible apply r_ret | with_reducible apply r_retV | with_reducible apply r_drop | with_reducible apply r_box | with_reducible apply r_gval | with_reducible apply r_gslot | with_reducible apply r_call | with_reducible apply r_make | with_reducible apply r_meth | with_reducible apply r_dget1 | with_reducible apply r_isq | with_reducible apply r_for | with_reducible apply r_bor | with_reducible apply r_borT | with_reducible apply r_fldS | with_reducible apply r_ownM | with_reducible apply r_setIx | with_reducible apply r_un | with_reducible apply r_par | with_reducible apply r_asg | with_reducible apply r_chain | with_reducible apply z_tup4 | with_reducible apply r_dput | with_reducible apply r_run | with_reducible apply r_runN | with_reducible apply r_runF | with_reducible apply cmp_el | with_reducible apply fk_nx | with_reducible apply r_lc | with_reducible apply r_lcD | with_reducible apply r_rg1 | with_reducible apply r_rg2 | with_reducible apply z_name | with_reducible apply z_setS4 | with_reducible apply z_setS | with_reducible apply z_atS4 | with_reducible apply z_atS | with_reducible apply z_stN4 | with_reducible apply z_stN | with_reducible apply z_stV | with_reducible apply z_stP | with_reducible apply z_borV | with_reducible apply z_borB | with_reducible apply z_borP | with_reducible apply z_borN | with_reducible apply z_wS | with_reducible apply z_sS4 | with_reducible apply z_sS | with_reducible apply z_pkS | with_reducible apply z_pdS | with_reducible apply r_dcD | with_reducible apply z_tup2 | with_reducible apply z_f0 | with_reducible apply z_appS
      | ((with_reducible apply sel_t); (first | assumption | rfl)) | ((with_reducible apply sel_f); (first | assumption | rfl))
      | apply ck_v | apply ck_s | apply cmp_cons | apply for_cons | apply dcmp_cons | exact sq_rt | exact sq_rf | exact fk_rt)
    let rest ← `(tactic| first | assumption | rfl | decide | exact Nat.le_of_ble_eq_true rfl)
    let alts2 := alts ++ #[r] ++ #[rest]
    `(tactic| repeat' (first $[| $alts2:tactic]*))
namespace K16M
/-! ### nearest integers: the mathematics of k16 -/
/-- the loop of common_divisor -/
def cdl : Nat → Int → Int → Int → Int → Option (Int × Int)
  | 0, _, _, _, _ => none
  | n + 1, f, s, p, q => if s = 0 then some (f, p) else cdl n s (f - f.fdiv s * s) q (p - f.fdiv s * q)
theorem fmod_eq' (f s : Int) : f - f.fdiv s * s = f.fmod s := by
  have := Int.mul_fdiv_add_fmod f s
  rw [Int.mul_comm] at this
  omega
theorem fmod_pos {f s : Int} (h : 0 < s) : 0 ≤ f.fmod s ∧ f.fmod s < s := ⟨Int.fmod_nonneg_of_pos _ h, Int.fmod_lt_of_pos _ h⟩
theorem fmod_neg {f s : Int} (h : s < 0) : f.fmod s ≤ 0 ∧ s < f.fmod s := by
  have h1 : f.fmod s = -((-f).fmod (-s)) := by
    have := Int.neg_fmod_neg f s
    omega
  have h2 := fmod_pos (f := -f) (s := -s) (by omega)
  omega
theorem cdl_some : ∀ (n : Nat) (f s p q : Int), s.natAbs < n → ∃ r, cdl n f s p q = some r
  | 0, _, s, _, _, h => by omega
  | n + 1, f, s, p, q, h => by
    unfold cdl
    split
    · exact ⟨_, rfl⟩
    · rename_i hs
      rw [fmod_eq']
      refine cdl_some n s _ q _ ?_
      rcases Int.lt_or_gt_of_ne hs with h1 | h1
      · have := fmod_neg (f := f) h1; omega
      · have := fmod_pos (f := f) h1; omega
/-- what the loop keeps -/
theorem cdl_inv (f0 s0 : Int) : ∀ (n : Nat) (f s p q g r : Int), cdl n f s p q = some (g, r) → (∃ u, f = f0 * p + s0 * u) → (∃ u, s = f0 * q + s0 * u) → (∃ u, g = f0 * r + s0 * u) ∧ (g ∣ f) ∧ g ∣ s
  | 0, _, _, _, _, _, _, h, _, _ => by cases h
  | n + 1, f, s, p, q, g, r, h, ⟨u, hu⟩, ⟨v, hv⟩ => by
    unfold cdl at h
    split at h
    · rename_i hs
      cases h
      refine ⟨⟨u, hu⟩, Int.dvd_refl _, ?_⟩
      rw [hs]
      exact Int.dvd_zero _
    · obtain ⟨h1, h2, h3⟩ := cdl_inv f0 s0 n s (f - f.fdiv s * s) q (p - f.fdiv s * q) g r h ⟨v, hv⟩ ⟨u - f.fdiv s * v, by
        generalize f.fdiv s = k
        rw [Int.mul_sub, Int.mul_sub, hu, hv, Int.mul_add]
        rw [Int.mul_left_comm f0 k q, Int.mul_left_comm s0 k v]
        omega⟩
      refine ⟨h1, ?_, h2⟩
      have : f = (f - f.fdiv s * s) + f.fdiv s * s := by omega
      rw [this]
      exact Int.dvd_add h3 (Int.dvd_mul_of_dvd_right h2)
theorem cdl_sign : ∀ (n : Nat) (f s p q g r : Int), cdl n f s p q = some (g, r) → (0 < s → 0 < g) ∧ (s < 0 → g < 0) ∧ (s = 0 → g = f)
  | 0, _, _, _, _, _, _, h => by cases h
  | n + 1, f, s, p, q, g, r, h => by
    unfold cdl at h
    split at h
    · cases h
      exact ⟨by omega, by omega, fun _ => rfl⟩
    · rename_i hs
      rw [fmod_eq'] at h
      have ih := cdl_sign n s (f.fmod s) q _ g r h
      refine ⟨fun hp => ?_, fun hp => ?_, fun hp => (hs hp).elim⟩
      · have := fmod_pos (f := f) hp
        by_cases h0 : f.fmod s = 0
        · have := ih.2.2 h0; omega
        · exact ih.1 (by omega)
      · have := fmod_neg (f := f) hp
        by_cases h0 : f.fmod s = 0
        · have := ih.2.2 h0; omega
        · exact ih.2.1 (by omega)
/-- common_divisor -/
theorem cd_ok (a b : Int) (hb : b ≠ 0) : ∃ g p, (∀ n, b.natAbs < n → cdl n a b 1 0 = some (g, p)) ∧ g ∣ a ∧ g ∣ b ∧ (∃ u, g = a * p + b * u) ∧ 0 < b.fdiv g ∧ g ≠ 0 := by
  have mono : ∀ (n m : Nat) (f s p q : Int) (r : Int × Int), n ≤ m → cdl n f s p q = some r → cdl m f s p q = some r := by
    intro n
    induction n with
    | zero => intro m f s p q r _ h; cases h
    | succ n ih =>
      intro m f s p q r hm h
      obtain ⟨k, rfl⟩ : ∃ k, m = k + 1 := ⟨m - 1, by omega⟩
      unfold cdl at h ⊢
      split
      · rename_i hs
        rw [if_pos hs] at h
        exact h
      · rename_i hs
        rw [if_neg hs] at h
        exact ih k _ _ _ _ _ (by omega) h
  obtain ⟨⟨g, p⟩, h⟩ := cdl_some (b.natAbs + 1) a b 1 0 (by omega)
  obtain ⟨h1, h2, h3⟩ := cdl_inv a b _ _ _ _ _ _ _ h ⟨0, by omega⟩ ⟨1, by omega⟩
  obtain ⟨s1, s2, _⟩ := cdl_sign _ _ _ _ _ _ _ h
  have g0 : g ≠ 0 := by
    rcases Int.lt_or_gt_of_ne hb with q | q
    · have := s2 q; omega
    · have := s1 q; omega
  refine ⟨g, p, fun n hn => mono _ _ _ _ _ _ _ (by omega) h, h2, h3, h1, ?_, g0⟩
  obtain ⟨k, hk⟩ := h3
  rw [hk, Int.mul_fdiv_cancel_left _ g0]
  rcases Int.lt_or_gt_of_ne hb with q | q
  · have := s2 q
    rcases Int.lt_or_gt_of_ne (show k ≠ 0 from fun e => by rw [e] at hk; omega) with z | z
    · have : 0 < g * k := Int.mul_pos_of_neg_of_neg (s2 q) z
      omega
    · exact z
  · have := s1 q
    rcases Int.lt_or_gt_of_ne (show k ≠ 0 from fun e => by rw [e] at hk; omega) with z | z
    · have : g * k < 0 := Int.mul_neg_of_pos_of_neg (s1 q) z
      omega
    · exact z
/-! ### the solutions of a x + b y = c -/
theorem line_sol {a b c g p x y : Int} (hb : b ≠ 0) (ga : g ∣ a) (gb : g ∣ b) (bz : ∃ u, g = a * p + b * u) (g0 : g ≠ 0) (hc : c.fmod g = 0) :
    a * x + b * y = c ↔ ∃ t, x = p * c.fdiv g + t * b.fdiv g ∧ y = (c - a * (p * c.fdiv g)).fdiv b + t * -(a.fdiv g) := by
  obtain ⟨a', rfl⟩ := ga
  obtain ⟨b', rfl⟩ := gb
  obtain ⟨u, hu⟩ := bz
  have hc2 : c = g * c.fdiv g := by have := Int.mul_fdiv_add_fmod c g; omega
  generalize c.fdiv g = c' at hc2 ⊢
  subst hc2
  have b0 : b' ≠ 0 := fun e => hb (by rw [e, Int.mul_zero])
  have hu' : a' * p + b' * u = 1 := by
    have : g * (a' * p + b' * u) = g * 1 := by rw [Int.mul_add, Int.mul_one, ← Int.mul_assoc, ← Int.mul_assoc]; omega
    exact Int.eq_of_mul_eq_mul_left g0 this
  have e1 : g * c' - g * a' * (p * c') = g * b' * (u * c') := by
    have h1 : g * c' * (a' * p + b' * u) = g * c' := by rw [hu', Int.mul_one]
    rw [Int.mul_add] at h1
    have h2 : g * c' * (a' * p) = g * a' * (p * c') := by ac_rfl
    have h3 : g * c' * (b' * u) = g * b' * (u * c') := by ac_rfl
    omega
  rw [e1, Int.mul_fdiv_cancel_left _ hb, Int.mul_fdiv_cancel_left _ g0, Int.mul_fdiv_cancel_left _ g0]
  have e2 : g * a' * x + g * b' * y = g * c' ↔ a' * x + b' * y = c' := by
    constructor
    · intro h
      refine Int.eq_of_mul_eq_mul_left g0 ?_
      rw [Int.mul_add, ← Int.mul_assoc, ← Int.mul_assoc]
      exact h
    · intro h
      rw [← h, Int.mul_add, ← Int.mul_assoc, ← Int.mul_assoc]
  rw [e2]
  constructor
  · intro h
    refine ⟨p * (u * c' - y) + u * (x - p * c'), ?_, ?_⟩
    · have k : a' * (x - p * c') = b' * (u * c' - y) := by
        have h1 : c' * (a' * p + b' * u) = c' := by rw [hu', Int.mul_one]
        rw [Int.mul_add] at h1
        have h2 : c' * (a' * p) = a' * (p * c') := by ac_rfl
        have h3 : c' * (b' * u) = b' * (u * c') := by ac_rfl
        rw [Int.mul_sub, Int.mul_sub]
        omega
      have h1 : (x - p * c') * (a' * p + b' * u) = x - p * c' := by rw [hu', Int.mul_one]
      rw [Int.mul_add] at h1
      have h2 : (x - p * c') * (a' * p) = p * (a' * (x - p * c')) := by ac_rfl
      have h3 : (x - p * c') * (b' * u) = u * (x - p * c') * b' := by ac_rfl
      rw [k] at h2
      have h4 : p * (b' * (u * c' - y)) = p * (u * c' - y) * b' := by ac_rfl
      rw [Int.add_mul]
      omega
    · have h1 : (u * c' - y) * (a' * p + b' * u) = u * c' - y := by rw [hu', Int.mul_one]
      rw [Int.mul_add] at h1
      have k : a' * (x - p * c') = b' * (u * c' - y) := by
        have h1 : c' * (a' * p + b' * u) = c' := by rw [hu', Int.mul_one]
        rw [Int.mul_add] at h1
        have h2 : c' * (a' * p) = a' * (p * c') := by ac_rfl
        have h3 : c' * (b' * u) = b' * (u * c') := by ac_rfl
        rw [Int.mul_sub, Int.mul_sub]
        omega
      have h2 : (u * c' - y) * (b' * u) = u * (b' * (u * c' - y)) := by ac_rfl
      rw [← k] at h2
      have h3 : (u * c' - y) * (a' * p) = p * (u * c' - y) * a' := by ac_rfl
      have h4 : u * (a' * (x - p * c')) = u * (x - p * c') * a' := by ac_rfl
      rw [Int.mul_neg, Int.add_mul]
      omega
  · rintro ⟨t, rfl, rfl⟩
    have h1 : c' * (a' * p + b' * u) = c' := by rw [hu', Int.mul_one]
    rw [Int.mul_add] at h1
    rw [Int.mul_add, Int.mul_add, Int.mul_neg, Int.mul_neg]
    have h2 : c' * (a' * p) = a' * (p * c') := by ac_rfl
    have h3 : c' * (b' * u) = b' * (u * c') := by ac_rfl
    have h4 : a' * (t * b') = b' * (t * a') := by ac_rfl
    omega
/-! ### turns -/
theorem up {s t t' st : Int} (hs : 0 < st) (h : t < t') : s + t * st + st ≤ s + t' * st := by
  have h1 : (t + 1) * st ≤ t' * st := Int.mul_le_mul_of_nonneg_right (by omega) (by omega)
  rw [Int.add_mul, Int.one_mul] at h1
  omega
theorem fl {n d : Int} (hd : 0 < d) : n.fdiv d * d ≤ n ∧ n < n.fdiv d * d + d := by
  have h1 := Int.mul_fdiv_add_fmod n d
  have h2 := fmod_pos (f := n) hd
  rw [Int.mul_comm] at h1
  omega
/-- turns_within, a step above 0 -/
theorem turns_pos {s st lo hi t : Int} (hs : 0 < st) : (-((s - lo).fdiv st) ≤ t ∧ t ≤ (hi - s).fdiv st) ↔ (lo ≤ s + t * st ∧ s + t * st ≤ hi) := by
  have h1 := fl (n := s - lo) hs
  have h2 := fl (n := hi - s) hs
  generalize (s - lo).fdiv st = q at h1 ⊢
  generalize (hi - s).fdiv st = r at h2 ⊢
  constructor
  · rintro ⟨a, b⟩
    have m1 : -q * st ≤ t * st := Int.mul_le_mul_of_nonneg_right a (by omega)
    have m2 : t * st ≤ r * st := Int.mul_le_mul_of_nonneg_right b (by omega)
    rw [Int.neg_mul] at m1
    omega
  · rintro ⟨a, b⟩
    refine ⟨?_, ?_⟩
    · by_cases h : -q ≤ t
      · exact h
      · have := up (s := 0) hs (show t < -q by omega)
        rw [Int.neg_mul] at this
        omega
    · by_cases h : t ≤ r
      · exact h
      · have := up (s := 0) hs (show r < t by omega)
        omega
theorem turns_neg {s st lo hi t : Int} (hs : st < 0) : (-((-s - -hi).fdiv (-st)) ≤ t ∧ t ≤ (-lo - -s).fdiv (-st)) ↔ (lo ≤ s + t * st ∧ s + t * st ≤ hi) := by
  rw [turns_pos (s := -s) (lo := -hi) (hi := -lo) (by omega), Int.mul_neg]
  constructor <;> rintro ⟨a, b⟩ <;> constructor <;> omega
def clamp (lo hi g : Int) : Int := min (max g lo) hi
def nearT (s st l m g : Int) : Int :=
  let b := clamp l m ((g - s).fdiv st)
  let a := clamp l m (b + 1)
  if ((s + a * st - g).natAbs : Int) < ((s + b * st - g).natAbs : Int) then a else b
theorem nearT_ok {s st l m g : Int} (hs : 0 < st) (hlm : l ≤ m) : (l ≤ nearT s st l m g ∧ nearT s st l m g ≤ m) ∧ ∀ t, l ≤ t → t ≤ m → (s + nearT s st l m g * st - g).natAbs < (s + t * st - g).natAbs ∨ ((s + nearT s st l m g * st - g).natAbs = (s + t * st - g).natAbs ∧ nearT s st l m g ≤ t) := by
  have h1 := fl (n := g - s) hs
  unfold nearT
  dsimp only
  generalize (g - s).fdiv st = q at h1 ⊢
  have key : ∀ b a : Int, clamp l m q = b → clamp l m (b + 1) = a → (l ≤ (if ((s + a * st - g).natAbs : Int) < ((s + b * st - g).natAbs : Int) then a else b) ∧ (if ((s + a * st - g).natAbs : Int) < ((s + b * st - g).natAbs : Int) then a else b) ≤ m) ∧ ∀ t, l ≤ t → t ≤ m → (s + (if ((s + a * st - g).natAbs : Int) < ((s + b * st - g).natAbs : Int) then a else b) * st - g).natAbs < (s + t * st - g).natAbs ∨ ((s + (if ((s + a * st - g).natAbs : Int) < ((s + b * st - g).natAbs : Int) then a else b) * st - g).natAbs = (s + t * st - g).natAbs ∧ (if ((s + a * st - g).natAbs : Int) < ((s + b * st - g).natAbs : Int) then a else b) ≤ t) := by
    intro b a hb ha
    unfold clamp at hb ha
    have mono : ∀ t t' : Int, t < t' → s + t * st + st ≤ s + t' * st := fun t t' h => up hs h
    split
    · rename_i hn
      refine ⟨by omega, fun t t1 t2 => ?_⟩
      have m1 := mono b a
      have m2 := mono a t
      have m3 := mono t b
      have m4 := mono q b
      have m5 := mono b q
      have m6 := mono t a
      have m7 := mono q a
      by_cases e : t = a
      · subst e; exact .inr ⟨rfl, Int.le_refl _⟩
      · by_cases e2 : t = b
        · subst e2; left; omega
        · by_cases e3 : b = q
          · subst e3; omega
          · omega
    · rename_i hn
      refine ⟨by omega, fun t t1 t2 => ?_⟩
      have m1 := mono b a
      have m2 := mono b t
      have m3 := mono t b
      have m4 := mono q b
      have m5 := mono b q
      have m6 := mono a t
      have m7 := mono q t
      have m8 := mono t q
      by_cases e : t = b
      · subst e; exact .inr ⟨rfl, Int.le_refl _⟩
      · by_cases e2 : t = a
        · subst e2
          by_cases e3 : b = q
          · subst e3; omega
          · omega
        · by_cases e3 : b = q
          · subst e3; omega
          · omega
  exact key _ _ rfl rfl
end K16M
namespace K16M
open PySem PySem.Spec PyProof.Rows L2 Dv K16
set_option autoImplicit false
set_option maxHeartbeats 0
noncomputable section
abbrev oiD : Option Int → D
  | some k => .int k
  | none => .non
abbrev bD (lo hi : Int) : D := .tup [.int lo, .int hi]
theorem addI {a b : Int} : oAdd (.int a) (.int b) = some (.int (a + b)) := rfl
theorem subI {a b : Int} : oSub (.int a) (.int b) = some (.int (a - b)) := rfl
theorem negI {a : Int} : uNeg (.int a) = some (.int (-a)) := rfl
theorem ltI {a b : Int} : oLt (.int a) (.int b) = some (.bl (decide (a < b))) := rfl
theorem gtI {a b : Int} : oGt (.int a) (.int b) = some (.bl (decide (b < a))) := rfl
theorem leI {a b : Int} : oLe (.int a) (.int b) = some (.bl (decide (a ≤ b))) := rfl
theorem eqI {a b : Int} : oEq (.int a) (.int b) = some (.bl (decide (a = b))) := rfl
theorem neI {a b : Int} : oNe (.int a) (.int b) = some (.bl (!decide (a = b))) := rfl
theorem maxI {a b : Int} : fMax2 [.int a, .int b] = some (.int (max a b)) := by
  show some (D.int (if b > a then b else a)) = _
  congr 2
  split <;> omega
theorem minI {a b : Int} : fMin2 [.int a, .int b] = some (.int (min a b)) := by
  show some (D.int (if b < a then b else a)) = _
  congr 2
  split <;> omega
theorem absI {a : Int} : fAbs [.int a] = some (.int (a.natAbs : Int)) := by
  show some (D.int (if a < 0 then -a else a)) = _
  congr 2
  split <;> omega
theorem mulR {i j : Int} (h : -(2 ^ 64) < j ∧ j < 2 ^ 64) : oMul (.int i) (.int j) = some (.int (i * j)) := by
  show (if cMul i j = true then some (D.int (i * j)) else none) = _
  rw [if_pos (by unfold cMul; rw [Bool.or_eq_true]; exact .inr (decide_eq_true (by first | omega | (constructor <;> omega))))]
theorem fdvI {x b : Int} (hb : b ≠ 0 ∧ b.natAbs < 1073741824) : oFdv (.int x) (.int b) = some (.int (x.fdiv b)) := by
  show (if decide (b ≠ 0 ∧ b.natAbs < 1073741824) = true then some (D.int (x.fdiv b)) else none) = _
  rw [if_pos (decide_eq_true hb)]
theorem dmI {x b : Int} (hb : b ≠ 0 ∧ b.natAbs < 1073741824) : fDivmod [.int x, .int b] = some (.tup [.int (x.fdiv b), .int (x.fmod b)]) := if_pos (decide_eq_true hb)
/-- nearest_within -/
def within (lo hi : Int) : Option Int → Int
  | none => lo
  | some g => clamp lo hi g
theorem p_within (lo hi : Int) (g : Option Int) : d_nearest_within [.val (bD lo hi), .val (oiD g)] = .ok (.int (within lo hi g)) none := by
  unfold d_nearest_within b_nearest_within
  cases g with
  | none => (exists trivial)
  | some k =>
    have h1 := maxI (a := k) (b := lo)
    have h2 := minI (a := max k lo) (b := hi)
    show _ = FRes.ok (.int (min (max k lo) hi)) none
    (exists h1, h2)
/-- turns_within -/
def turnsW (s st lo hi : Int) : Int × Int := if st < 0 then (-((-s - -hi).fdiv (-st)), (-lo - -s).fdiv (-st)) else (-((s - lo).fdiv st), (hi - s).fdiv st)
theorem p_turns (s st lo hi : Int) (h0 : st ≠ 0) (hb : st.natAbs < 1000) : d_turns_within [.val (.int s), .val (.int st), .val (bD lo hi)] = .ok (.tup [.int (turnsW s st lo hi).1, .int (turnsW s st lo hi).2]) none := by
  have h1 : oLt (.int st) (.int 0) = some (.bl (decide (st < 0))) := ltI
  unfold turnsW d_turns_within b_turns_within
  cases hd : decide (st < 0) with
  | true =>
    rw [hd] at h1
    rw [if_pos (of_decide_eq_true hd)]
    have f1 := fdvI (x := -s - -hi) (b := -st) ⟨by omega, by omega⟩
    have f2 := fdvI (x := -lo - -s) (b := -st) ⟨by omega, by omega⟩
    have n1 := negI (a := s)
    have n2 := negI (a := st)
    have n3 := negI (a := hi)
    have n4 := negI (a := lo)
    have n5 := negI (a := (-s - -hi).fdiv (-st))
    have s1 := subI (a := -s) (b := -hi)
    have s2 := subI (a := -lo) (b := -s)
    (exists h1, f1, f2, n1, n2, n3, n4, n5, s1, s2)
  | false =>
    rw [hd] at h1
    rw [if_neg (of_decide_eq_false hd)]
    have f1 := fdvI (x := s - lo) (b := st) ⟨by omega, by omega⟩
    have f2 := fdvI (x := hi - s) (b := st) ⟨by omega, by omega⟩
    have n5 := negI (a := (s - lo).fdiv st)
    have s1 := subI (a := s) (b := lo)
    have s2 := subI (a := hi) (b := s)
    (exists h1, f1, f2, n5, s1, s2)
/-- nearest_turn -/
theorem p_turn (s st l m g : Int) (h0 : st ≠ 0) (hb : st.natAbs < 1000) : d_nearest_turn [.val (.int s), .val (.int st), .val (bD l m), .val (.int g)] = .ok (.int (nearT s st l m g)) none := by
  have f1 := fdvI (x := g - s) (b := st) ⟨by omega, by omega⟩
  have s1 := subI (a := g) (b := s)
  have w1 := p_within l m (some ((g - s).fdiv st))
  have w2 := p_within l m (some (clamp l m ((g - s).fdiv st) + 1))
  have w1 : d_nearest_within [.val (bD l m), .val (.int ((g - s).fdiv st))] = .ok (.int (clamp l m ((g - s).fdiv st))) none := w1
  have w2 : d_nearest_within [.val (bD l m), .val (.int (clamp l m ((g - s).fdiv st) + 1))] = .ok (.int (clamp l m (clamp l m ((g - s).fdiv st) + 1))) none := w2
  unfold nearT d_nearest_turn b_nearest_turn
  dsimp only
  generalize clamp l m (clamp l m ((g - s).fdiv st) + 1) = A at w2 ⊢
  generalize clamp l m ((g - s).fdiv st) = Bt at w1 w2 ⊢
  have a0 := addI (a := Bt) (b := 1)
  have m1 := mulR (i := A) (j := st) (by omega)
  have m2 := mulR (i := Bt) (j := st) (by omega)
  have a1 := addI (a := s) (b := A * st)
  have a2 := addI (a := s) (b := Bt * st)
  have b1 := subI (a := s + A * st) (b := g)
  have b2 := subI (a := s + Bt * st) (b := g)
  have c1 := absI (a := s + A * st - g)
  have c2 := absI (a := s + Bt * st - g)
  have lt := ltI (a := ((s + A * st - g).natAbs : Int)) (b := ((s + Bt * st - g).natAbs : Int))
  cases hd : decide (((s + A * st - g).natAbs : Int) < ((s + Bt * st - g).natAbs : Int)) with
  | true =>
    rw [hd] at lt
    rw [if_pos (of_decide_eq_true hd)]
    (exists s1, f1, w1, w2, a0, m1, m2, a1, a2, b1, b2, c1, c2, lt)
  | false =>
    rw [hd] at lt
    rw [if_neg (of_decide_eq_false hd)]
    (exists s1, f1, w1, w2, a0, m1, m2, a1, a2, b1, b2, c1, c2, lt)
end
end K16M
namespace K16M
open PySem PySem.Spec PyProof.Rows L2 Dv K16
set_option autoImplicit false
set_option maxHeartbeats 0
noncomputable section
structure Eqn where
  a : Int
  b : Int
  c : Int
def Eqn.d (e : Eqn) : D := .ins 0 [("first", .int e.a), ("second", .int e.b), ("total", .int e.c)]
def Eqn.Bd (e : Eqn) : Prop := e.a.natAbs ≤ 100 ∧ e.b.natAbs ≤ 100 ∧ e.c.natAbs ≤ 100000
theorem ixB0 {lo hi : Int} : oIx (bD lo hi) (.int 0) = some (.int lo) := rfl
theorem ixB1 {lo hi : Int} : oIx (bD lo hi) (.int 1) = some (.int hi) := rfl
abbrev bsD (x0 x1 y0 y1 : Int) (r : List D) : D := .lst (bD x0 x1 :: bD y0 y1 :: r)
theorem ixS0 {x y : D} {r : List D} : oIx (.lst (x :: y :: r)) (.int 0) = some x := ix0
theorem ixS1 {x y : D} {r : List D} : oIx (.lst (x :: y :: r)) (.int 1) = some y := by
  show atI (x :: y :: r) 1 = some y
  unfold atI ixN
  rw [if_pos (by decide), if_pos (by rw [List.length_cons, List.length_cons]; omega)]
  rfl
theorem p_iswithin (v lo hi : Int) : d_is_within [.val (.int v), .val (bD lo hi)] = .ok (.bl (decide (lo ≤ v) && decide (v ≤ hi))) none := by
  have h1 := leI (a := lo) (b := v)
  have h2 := leI (a := v) (b := hi)
  have h3 := ixB0 (lo := lo) (hi := hi)
  have h4 := ixB1 (lo := lo) (hi := hi)
  unfold d_is_within b_is_within
  (exists h1, h2, h3, h4)
def exact' (f t lo hi : Int) : Option Int := if t.fmod f = 0 ∧ lo ≤ t.fdiv f ∧ t.fdiv f ≤ hi then some (t.fdiv f) else none
theorem p_exact (f t lo hi : Int) (h0 : f ≠ 0) (hb : f.natAbs < 1000) : d_exact_within [.val (.int f), .val (.int t), .val (bD lo hi)] = .ok (oiD (exact' f t lo hi)) none := by
  have h1 := dmI (x := t) (b := f) ⟨h0, by omega⟩
  have h2 : oEq (.int (t.fmod f)) (.int 0) = some (.bl (decide (t.fmod f = 0))) := eqI
  have h3 := p_iswithin (t.fdiv f) lo hi
  unfold exact' d_exact_within b_exact_within
  by_cases c1 : t.fmod f = 0
  · rw [decide_eq_true c1] at h2
    by_cases c2 : lo ≤ t.fdiv f ∧ t.fdiv f ≤ hi
    · rw [decide_eq_true c2.1, decide_eq_true c2.2] at h3
      rw [if_pos ⟨c1, c2⟩]
      (exists h1, h2, h3)
    · have h4 : (decide (lo ≤ t.fdiv f) && decide (t.fdiv f ≤ hi)) = false := by
        rw [Bool.and_eq_false_iff, decide_eq_false_iff_not, decide_eq_false_iff_not]
        omega
      rw [h4] at h3
      rw [if_neg (fun z => c2 z.2)]
      (exists h1, h2, h3)
  · rw [decide_eq_false c1] at h2
    rw [if_neg (fun z => c1 z.1)]
    (exists h1, h2)
theorem fdiv_le {f s : Int} (h : s ≠ 0) : (f.fdiv s).natAbs ≤ f.natAbs + s.natAbs := by
  have h1 := Int.mul_fdiv_add_fmod f s
  have h2 : (f.fmod s).natAbs ≤ s.natAbs := by
    rcases Int.lt_or_gt_of_ne h with q | q
    · have := fmod_neg (f := f) q; omega
    · have := fmod_pos (f := f) q; omega
  have h3 : (s * f.fdiv s).natAbs = s.natAbs * (f.fdiv s).natAbs := Int.natAbs_mul _ _
  have h4 : (f.fdiv s).natAbs ≤ s.natAbs * (f.fdiv s).natAbs := Nat.le_mul_of_pos_left _ (by omega)
  omega
def bodyC : EvS := (xSeq (xSet 4 (xOp oFdv (xVal 0) (xVal 1)))
 (xSeq (xPar 0 1 (xCons (xVal 1) (xCons (xOp oSub (xVal 0) (xOp oMul (xVal 4) (xVal 1))) xNil)))
 (xPar 2 3 (xCons (xVal 3) (xCons (xOp oSub (xVal 2) (xOp oMul (xVal 4) (xVal 3))) xNil)))))
theorem mulL {i j : Int} (h : -(2 ^ 64) < i ∧ i < 2 ^ 64) : oMul (.int i) (.int j) = some (.int (i * j)) := by
  show (if cMul i j = true then some (D.int (i * j)) else none) = _
  rw [if_pos (by unfold cMul; rw [Bool.or_eq_true]; exact .inl (decide_eq_true (by first | omega | (constructor <;> omega))))]
theorem while_cd : ∀ (n : Nat) (f s p q g r : Int) (s4 : Sl), isPar s4 = false → f.natAbs ≤ 1000 → s.natAbs ≤ 1000 → cdl n f s p q = some (g, r) → ∃ q' s4', isPar s4' = false ∧ whileL (xTest (xOp oNe (xVal 1) (xC (.int 0)))) bodyC n [.val (.int f), .val (.int s), .val (.int p), .val (.int q), s4] = .nx [.val (.int g), .val (.int 0), .val (.int r), .val (.int q'), s4']
  | 0, _, _, _, _, _, _, _, _, _, _, h => by cases h
  | n + 1, f, s, p, q, g, r, s4, h4, hf, hs, h => by
    have nz : oNe (.int s) (.int 0) = some (.bl (!decide (s = 0))) := neI
    unfold cdl at h
    have e0 : whileL (xTest (xOp oNe (xVal 1) (xC (.int 0)))) bodyC (n + 1) [.val (.int f), .val (.int s), .val (.int p), .val (.int q), s4] = (((xTest (xOp oNe (xVal 1) (xC (.int 0)))) [.val (.int f), .val (.int s), .val (.int p), .val (.int q), s4]).st fun x e => match x with
      | true => match bodyC e with
        | .nx e2 => whileL (xTest (xOp oNe (xVal 1) (xC (.int 0)))) bodyC n e2
        | .ct e2 => whileL (xTest (xOp oNe (xVal 1) (xC (.int 0)))) bodyC n e2
        | .bk e2 => .nx e2
        | r => r
      | false => .nx e) := rfl
    have et : xTest (xOp oNe (xVal 1) (xC (.int 0))) [.val (.int f), .val (.int s), .val (.int p), .val (.int q), s4] = .ok (!decide (s = 0)) [.val (.int f), .val (.int s), .val (.int p), .val (.int q), s4] := by (exists nz)
    rw [e0, et]
    by_cases hz : s = 0
    · rw [if_pos hz] at h
      cases h
      rw [decide_eq_true hz]
      subst hz
      exact ⟨q, s4, h4, rfl⟩
    · rw [if_neg hz] at h
      rw [decide_eq_false hz]
      have f1 := fdvI (x := f) (b := s) ⟨hz, by omega⟩
      have bq := fdiv_le (f := f) hz
      have m1 := mulL (i := f.fdiv s) (j := s) (by omega)
      have m2 := mulL (i := f.fdiv s) (j := q) (by omega)
      have s1 := subI (a := f) (b := f.fdiv s * s)
      have s2 := subI (a := p) (b := f.fdiv s * q)
      have eb : bodyC [.val (.int f), .val (.int s), .val (.int p), .val (.int q), s4] = .nx [.val (.int s), .val (.int (f - f.fdiv s * s)), .val (.int q), .val (.int (p - f.fdiv s * q)), .val (.int (f.fdiv s))] := by
        unfold bodyC
        (exists f1, m1, m2, s1, s2)
      show ∃ q' s4', isPar s4' = false ∧ (match bodyC [.val (.int f), .val (.int s), .val (.int p), .val (.int q), s4] with
        | .nx e2 => whileL (xTest (xOp oNe (xVal 1) (xC (.int 0)))) bodyC n e2
        | .ct e2 => whileL (xTest (xOp oNe (xVal 1) (xC (.int 0)))) bodyC n e2
        | .bk e2 => .nx e2
        | r => r) = _
      rw [eb]
      have hm : (f - f.fdiv s * s).natAbs ≤ 1000 := by
        rw [fmod_eq']
        rcases Int.lt_or_gt_of_ne hz with z | z
        · have := fmod_neg (f := f) z; omega
        · have := fmod_pos (f := f) z; omega
      exact while_cd n s _ q _ g r _ rfl hs hm h
theorem p_cd (a b g p : Int) (ha : a.natAbs ≤ 100) (hb : b.natAbs ≤ 100) (h : ∀ n, b.natAbs < n → cdl n a b 1 0 = some (g, p)) : d_common_divisor [.val (.int a), .val (.int b)] = .ok (.tup [.int g, .int p]) none := by
  obtain ⟨q', s4', i4, w⟩ := while_cd 1000 a b 1 0 g p .no rfl (by omega) (by omega) (h 1000 (by omega))
  unfold bodyC at w
  have po : parOf [.val (.int g), .val (.int 0), .val (.int p), .val (.int q'), s4'] = none := by
    cases s4' <;> first | rfl | (cases i4; done)
  unfold d_common_divisor b_common_divisor
  (exists w, po)
end
end K16M
namespace K16M
open PySem PySem.Spec PyProof.Rows L2 Dv K16
set_option autoImplicit false
set_option maxHeartbeats 0
noncomputable section
variable {rb rg : List D}
abbrev ptD : Option (Int × Int) → D
  | none => .non
  | some (x, y) => .lst [.int x, .int y]
abbrev glD (g0 g1 : Option Int) (r : List D) : D := .lst (oiD g0 :: oiD g1 :: r)
def turned (e : Eqn) (g s x0 x1 y0 y1 : Int) (goal : Option Int) : Option (Int × Int) :=
  let l := max (turnsW s (e.b.fdiv g) x0 x1).1 (turnsW ((e.c - e.a * s).fdiv e.b) (-(e.a.fdiv g)) y0 y1).1
  let m := min (turnsW s (e.b.fdiv g) x0 x1).2 (turnsW ((e.c - e.a * s).fdiv e.b) (-(e.a.fdiv g)) y0 y1).2
  if m < l then none else
    let t := match goal with
      | none => l
      | some G => nearT s (e.b.fdiv g) l m G
    some (s + t * e.b.fdiv g, (e.c - e.a * s).fdiv e.b + t * -(e.a.fdiv g))
theorem isO (g : Option Int) : oIs (oiD g) .non = some (.bl g.isNone) := by cases g <;> rfl
theorem p_turned (e : Eqn) (g s x0 x1 y0 y1 : Int) (goal : Option Int) (he : e.Bd) (hb : e.b ≠ 0) (hg : g ≠ 0) (h1 : e.b.fdiv g ≠ 0) (h2 : e.a.fdiv g ≠ 0) (gb : g.natAbs ≤ 200) : d_nearest_turned [.val e.d, .val (.int g), .val (.int s), .val (bsD x0 x1 y0 y1 rb), .val (oiD goal)] = .ok (ptD (turned e g s x0 x1 y0 y1 goal)) none := by
  obtain ⟨a, b, c⟩ := e
  obtain ⟨ba, bb, bc⟩ := he
  dsimp only at ba bb bc hb h1 h2
  have k1 := fdiv_le (f := b) hg
  have k2 := fdiv_le (f := a) hg
  have f1 := fdvI (x := b) (b := g) ⟨hg, by omega⟩
  have f2 := fdvI (x := a) (b := g) ⟨hg, by omega⟩
  have n1 := negI (a := a.fdiv g)
  have m0 := mulL (i := a) (j := s) (by omega)
  have s0 := subI (a := c) (b := a * s)
  have f3 := fdvI (x := c - a * s) (b := b) ⟨hb, by omega⟩
  have t1 := p_turns s (b.fdiv g) x0 x1 h1 (by omega)
  have t2 := p_turns ((c - a * s).fdiv b) (-(a.fdiv g)) y0 y1 (by omega) (by omega)
  have i0 := ixS0 (x := bD x0 x1) (y := bD y0 y1) (r := rb)
  have i1 := ixS1 (x := bD x0 x1) (y := bD y0 y1) (r := rb)
  unfold turned d_nearest_turned b_nearest_turned
  dsimp only
  generalize hO : (c - a * s).fdiv b = O at t2 f3 ⊢
  generalize hS : b.fdiv g = S at t1 f1 h1 k1 ⊢
  generalize hT : a.fdiv g = A at t2 f2 n1 h2 k2 ⊢
  generalize turnsW s S x0 x1 = T1 at t1 ⊢
  generalize turnsW O (-A) y0 y1 = T2 at t2 ⊢
  obtain ⟨l1, m1⟩ := T1
  obtain ⟨l2, m2⟩ := T2
  dsimp only at t1 t2 ⊢
  have mx := maxI (a := l1) (b := l2)
  have mn := minI (a := m1) (b := m2)
  generalize max l1 l2 = l at mx ⊢
  generalize min m1 m2 = m at mn ⊢
  have gt := gtI (a := l) (b := m)
  have go := isO goal
  by_cases c1 : m < l
  · rw [decide_eq_true c1] at gt
    rw [if_pos c1]
    show _ = FRes.ok .non none
    (exists f1, f2, n1, m0, s0, f3, i0, i1, t1, t2, mx, mn, gt)
  · rw [decide_eq_false c1] at gt
    rw [if_neg c1]
    have fin : ∀ t : Int, oAdd (.int s) (.int (t * S)) = some (.int (s + t * S)) ∧ oAdd (.int O) (.int (t * -A)) = some (.int (O + t * -A)) ∧ oMul (.int t) (.int S) = some (.int (t * S)) ∧ oMul (.int t) (.int (-A)) = some (.int (t * -A)) := fun t => ⟨addI, addI, mulR (by omega), mulR (by omega)⟩
    cases goal with
    | none =>
      obtain ⟨q1, q2, q3, q4⟩ := fin l
      show _ = FRes.ok (.lst [.int (s + l * S), .int (O + l * -A)]) none
      (exists f1, f2, n1, m0, s0, f3, i0, i1, t1, t2, mx, mn, gt, go, q1, q2, q3, q4)
    | some G =>
      have pt := p_turn s S l m G h1 (by omega)
      obtain ⟨q1, q2, q3, q4⟩ := fin (nearT s S l m G)
      show _ = FRes.ok (.lst [.int (s + nearT s S l m G * S), .int (O + nearT s S l m G * -A)]) none
      (exists f1, f2, n1, m0, s0, f3, i0, i1, t1, t2, mx, mn, gt, go, pt, q1, q2, q3, q4)
def line (e : Eqn) (x0 x1 y0 y1 : Int) (g0 g1 : Option Int) : Option (Int × Int) :=
  if e.b = 0 then (exact' e.a e.c x0 x1).map fun x => (x, within y0 y1 g1)
  else if e.a = 0 then (exact' e.b e.c y0 y1).map fun y => (within x0 x1 g0, y)
  else match cdl 1000 e.a e.b 1 0 with
    | none => none
    | some (g, p) => if e.c.fmod g = 0 then turned e g (p * e.c.fdiv g) x0 x1 y0 y1 g0 else none
theorem p_line (e : Eqn) (x0 x1 y0 y1 : Int) (g0 g1 : Option Int) (he : e.Bd) (h0 : e.a ≠ 0 ∨ e.b ≠ 0) : d_nearest_on_line [.val e.d, .val (bsD x0 x1 y0 y1 rb), .val (glD g0 g1 rg)] = .ok (ptD (line e x0 x1 y0 y1 g0 g1)) none := by
  obtain ⟨a, b, c⟩ := e
  obtain ⟨ba, bb, bc⟩ := id he
  dsimp only at ba bb bc h0
  have i0 := ixS0 (x := bD x0 x1) (y := bD y0 y1) (r := rb)
  have i1 := ixS1 (x := bD x0 x1) (y := bD y0 y1) (r := rb)
  have j0 := ixS0 (x := oiD g0) (y := oiD g1) (r := rg)
  have j1 := ixS1 (x := oiD g0) (y := oiD g1) (r := rg)
  have z1 : oEq (.int b) (.int 0) = some (.bl (decide (b = 0))) := eqI
  have z2 : oEq (.int a) (.int 0) = some (.bl (decide (a = 0))) := eqI
  have w0 := p_within x0 x1 g0
  have w1 := p_within y0 y1 g1
  unfold line d_nearest_on_line b_nearest_on_line
  dsimp only
  by_cases hb : b = 0
  · rw [decide_eq_true hb] at z1
    rw [if_pos hb]
    have x := p_exact a c x0 x1 (by omega) (by omega)
    have xs := isO (exact' a c x0 x1)
    generalize exact' a c x0 x1 = X at x xs ⊢
    cases X with
    | none =>
      show _ = FRes.ok .non none
      (exists z1, i0, i1, j0, j1, x, xs, w1)
    | some v =>
      show _ = FRes.ok (.lst [.int v, .int (within y0 y1 g1)]) none
      (exists z1, i0, i1, j0, j1, x, xs, w1)
  · rw [decide_eq_false hb] at z1
    rw [if_neg hb]
    by_cases ha : a = 0
    · rw [decide_eq_true ha] at z2
      rw [if_pos ha]
      have x := p_exact b c y0 y1 (by omega) (by omega)
      have xs := isO (exact' b c y0 y1)
      generalize exact' b c y0 y1 = X at x xs ⊢
      cases X with
      | none =>
        show _ = FRes.ok .non none
        (exists z1, z2, i0, i1, j0, j1, x, xs, w0)
      | some v =>
        show _ = FRes.ok (.lst [.int (within x0 x1 g0), .int v]) none
        (exists z1, z2, i0, i1, j0, j1, x, xs, w0)
    · rw [decide_eq_false ha] at z2
      rw [if_neg ha]
      obtain ⟨g, p, hc, ga, gb, bz, stp, g0'⟩ := cd_ok a b hb
      rw [hc 1000 (by omega)]
      dsimp only
      have cd := p_cd a b g p ba bb hc
      have gb2 : g.natAbs ≤ 100 := by
        have := Int.natAbs_dvd_natAbs.mpr gb
        have := Nat.le_of_dvd (by omega) this
        omega
      have dm := dmI (x := c) (b := g) ⟨g0', by omega⟩
      have k1 := fdiv_le (f := c) g0'
      have mu := mulR (i := p) (j := c.fdiv g) (by omega)
      have ne : oNe (.int (c.fmod g)) (.int 0) = some (.bl (!decide (c.fmod g = 0))) := neI
      have ad : a.fdiv g ≠ 0 := by
        intro z
        obtain ⟨k, hk⟩ := ga
        rw [hk, Int.mul_fdiv_cancel_left _ g0'] at z
        rw [z, Int.mul_zero] at hk
        exact ha hk
      by_cases hr : c.fmod g = 0
      · rw [decide_eq_true hr] at ne
        rw [if_pos hr]
        have tu := p_turned (rb := rb) ⟨a, b, c⟩ g (p * c.fdiv g) x0 x1 y0 y1 g0 he hb g0' (show b.fdiv g ≠ 0 by omega) ad (by omega)
        (exists z1, z2, cd, dm, ne, mu, j0, tu)
      · rw [decide_eq_false hr] at ne
        rw [if_neg hr]
        show _ = FRes.ok .non none
        (exists z1, z2, cd, dm, ne, mu, j0)
end
end K16M
namespace K16M
set_option autoImplicit false
/-! ### what is best -/
/-- v is nearer than w -/
def ltg (g : Option Int) (v w : Int) : Prop := match g with
  | none => v < w
  | some G => (v - G).natAbs < (w - G).natAbs ∨ ((v - G).natAbs = (w - G).natAbs ∧ v < w)
def better (g0 g1 : Option Int) (p q : Int × Int) : Prop := ltg g0 p.1 q.1 ∨ (p.1 = q.1 ∧ ltg g1 p.2 q.2)
def IsBest (S : Int → Int → Prop) (g0 g1 : Option Int) : Option (Int × Int) → Prop
  | none => ∀ x y, ¬ S x y
  | some p => S p.1 p.2 ∧ ∀ x y, S x y → (x, y) = p ∨ better g0 g1 p (x, y)
theorem within_ok {lo hi : Int} (h : lo ≤ hi) (g : Option Int) : (lo ≤ within lo hi g ∧ within lo hi g ≤ hi) ∧ ∀ v, lo ≤ v → v ≤ hi → v = within lo hi g ∨ ltg g (within lo hi g) v := by
  cases g with
  | none =>
    refine ⟨⟨Int.le_refl _, h⟩, fun v h1 h2 => ?_⟩
    show v = lo ∨ lo < v
    omega
  | some G =>
    show (lo ≤ clamp lo hi G ∧ clamp lo hi G ≤ hi) ∧ ∀ v, lo ≤ v → v ≤ hi → v = clamp lo hi G ∨ ((clamp lo hi G - G).natAbs < (v - G).natAbs ∨ ((clamp lo hi G - G).natAbs = (v - G).natAbs ∧ clamp lo hi G < v))
    unfold clamp
    refine ⟨by omega, fun v h1 h2 => ?_⟩
    omega
theorem exact_ok {f t lo hi : Int} (hf : f ≠ 0) : (∀ v, exact' f t lo hi = some v → f * v = t ∧ lo ≤ v ∧ v ≤ hi) ∧ (exact' f t lo hi = none → ∀ v, f * v = t → lo ≤ v → v ≤ hi → False) ∧ ∀ v w, f * v = t → f * w = t → v = w := by
  unfold exact'
  have h1 := Int.mul_fdiv_add_fmod t f
  refine ⟨fun v h => ?_, fun h v hv a b => ?_, fun v w hv hw => Int.eq_of_mul_eq_mul_left hf (hv.trans hw.symm)⟩
  · split at h
    · rename_i c
      cases h
      exact ⟨by omega, c.2⟩
    · cases h
  · split at h
    · cases h
    · rename_i c
      refine c ?_
      subst hv
      rw [Int.mul_fdiv_cancel_left _ hf] at h1 ⊢
      exact ⟨by omega, a, b⟩
theorem turnsW_ok {s st lo hi t : Int} (h : st ≠ 0) : ((turnsW s st lo hi).1 ≤ t ∧ t ≤ (turnsW s st lo hi).2) ↔ (lo ≤ s + t * st ∧ s + t * st ≤ hi) := by
  unfold turnsW
  split
  · rename_i c
    exact turns_neg c
  · rename_i c
    exact turns_pos (by omega)
def InB (x0 x1 y0 y1 x y : Int) : Prop := (x0 ≤ x ∧ x ≤ x1) ∧ y0 ≤ y ∧ y ≤ y1
theorem line_ok (e : Eqn) (x0 x1 y0 y1 : Int) (g0 g1 : Option Int) (hx : x0 ≤ x1) (hy : y0 ≤ y1) (hb : e.b.natAbs < 1000) (h0 : e.a ≠ 0 ∨ e.b ≠ 0) : IsBest (fun x y => InB x0 x1 y0 y1 x y ∧ e.a * x + e.b * y = e.c) g0 g1 (line e x0 x1 y0 y1 g0 g1) := by
  obtain ⟨a, b, c⟩ := e
  dsimp only at hb h0 ⊢
  unfold line
  dsimp only
  by_cases b0 : b = 0
  · rw [if_pos b0]
    have ha : a ≠ 0 := by omega
    obtain ⟨e1, e2, e3⟩ := exact_ok (f := a) (t := c) (lo := x0) (hi := x1) ha
    obtain ⟨w1, w2⟩ := within_ok hy g1
    cases hX : exact' a c x0 x1 with
    | none =>
      rintro x y ⟨⟨h1, h2⟩, h3⟩
      rw [b0, Int.zero_mul, Int.add_zero] at h3
      exact e2 hX x h3 h1.1 h1.2
    | some v =>
      obtain ⟨q1, q2⟩ := e1 v hX
      refine ⟨⟨⟨q2, w1⟩, ?_⟩, ?_⟩
      · show a * v + b * _ = c
        rw [b0, Int.zero_mul, Int.add_zero, q1]
      · rintro x y ⟨⟨h1, h2⟩, h3⟩
        rw [b0, Int.zero_mul, Int.add_zero] at h3
        have hv := e3 x v h3 q1
        subst hv
        rcases w2 y h2.1 h2.2 with z | z
        · exact .inl (by rw [← z])
        · exact .inr (.inr ⟨rfl, z⟩)
  · rw [if_neg b0]
    by_cases a0 : a = 0
    · rw [if_pos a0]
      obtain ⟨e1, e2, e3⟩ := exact_ok (f := b) (t := c) (lo := y0) (hi := y1) b0
      obtain ⟨w1, w2⟩ := within_ok hx g0
      cases hX : exact' b c y0 y1 with
      | none =>
        rintro x y ⟨⟨h1, h2⟩, h3⟩
        rw [a0, Int.zero_mul, Int.zero_add] at h3
        exact e2 hX y h3 h2.1 h2.2
      | some v =>
        obtain ⟨q1, q2⟩ := e1 v hX
        refine ⟨⟨⟨w1, q2⟩, ?_⟩, ?_⟩
        · show a * _ + b * v = c
          rw [a0, Int.zero_mul, Int.zero_add, q1]
        · rintro x y ⟨⟨h1, h2⟩, h3⟩
          rw [a0, Int.zero_mul, Int.zero_add] at h3
          have hv := e3 y v h3 q1
          subst hv
          rcases w2 x h1.1 h1.2 with z | z
          · exact .inl (by rw [← z])
          · exact .inr (.inl z)
    · rw [if_neg a0]
      obtain ⟨g, p, hc, ga, gb, bz, stp, g0'⟩ := cd_ok a b b0
      rw [hc 1000 (by omega)]
      dsimp only
      have ad : a.fdiv g ≠ 0 := by
        intro z
        obtain ⟨k, hk⟩ := ga
        rw [hk, Int.mul_fdiv_cancel_left _ g0'] at z
        rw [z, Int.mul_zero] at hk
        exact a0 hk
      by_cases hr : c.fmod g = 0
      · rw [if_pos hr]
        have sol := fun x y => line_sol (x := x) (y := y) b0 ga gb bz g0' hr
        unfold turned
        dsimp only
        generalize p * c.fdiv g = s at sol ⊢
        generalize (c - a * s).fdiv b = O at sol ⊢
        have t1 := fun t => turnsW_ok (s := s) (st := b.fdiv g) (lo := x0) (hi := x1) (t := t) (by omega)
        have t2 := fun t => turnsW_ok (s := O) (st := -(a.fdiv g)) (lo := y0) (hi := y1) (t := t) (by omega)
        generalize b.fdiv g = S at sol t1 stp ⊢
        generalize -(a.fdiv g) = A at sol t2 ⊢
        generalize turnsW s S x0 x1 = T1 at t1 ⊢
        generalize turnsW O A y0 y1 = T2 at t2 ⊢
        obtain ⟨l1, m1⟩ := T1
        obtain ⟨l2, m2⟩ := T2
        dsimp only at t1 t2 ⊢
        have both : ∀ t, (max l1 l2 ≤ t ∧ t ≤ min m1 m2) ↔ InB x0 x1 y0 y1 (s + t * S) (O + t * A) := fun t => by
          unfold InB
          rw [← t1 t, ← t2 t]
          omega
        generalize max l1 l2 = l at both ⊢
        generalize min m1 m2 = m at both ⊢
        split
        · rename_i c1
          rintro x y ⟨h1, h2⟩
          obtain ⟨t, rfl, rfl⟩ := (sol x y).mp h2
          have := (both t).mpr h1
          omega
        · rename_i c1
          have X : ∀ t t' : Int, t < t' → s + t * S < s + t' * S := fun t t' h => by have := up (s := s) stp h; omega
          have fin : ∀ t, l ≤ t → t ≤ m → (∀ t', l ≤ t' → t' ≤ m → t' = t ∨ ltg g0 (s + t * S) (s + t' * S)) → IsBest (fun x y => InB x0 x1 y0 y1 x y ∧ a * x + b * y = c) g0 g1 (some (s + t * S, O + t * A)) := fun t h1 h2 h3 => by
            refine ⟨⟨(both t).mp ⟨h1, h2⟩, (sol _ _).mpr ⟨t, rfl, rfl⟩⟩, ?_⟩
            rintro x y ⟨h4, h5⟩
            obtain ⟨t', rfl, rfl⟩ := (sol x y).mp h5
            have h6 := (both t').mpr h4
            rcases h3 t' h6.1 h6.2 with rfl | h7
            · exact .inl rfl
            · exact .inr (.inl h7)
          cases g0 with
          | none =>
            refine fin l (by omega) (by omega) fun t' a1 a2 => ?_
            by_cases q : t' = l
            · exact .inl q
            · exact .inr (X l t' (by omega))
          | some G =>
            obtain ⟨n1, n2⟩ := nearT_ok (s := s) (st := S) (l := l) (m := m) (g := G) stp (by omega)
            refine fin _ n1.1 n1.2 fun t' a1 a2 => ?_
            by_cases q : t' = nearT s S l m G
            · exact .inl q
            · right
              rcases n2 t' a1 a2 with h | ⟨h, h'⟩
              · exact .inl h
              · exact .inr ⟨h, X (nearT s S l m G) t' (by omega)⟩
      · rw [if_neg hr]
        rintro x y ⟨h1, h2⟩
        refine hr ?_
        obtain ⟨a', rfl⟩ := ga
        obtain ⟨b', rfl⟩ := gb
        have e1 : c = g * (a' * x + b' * y) := by rw [← h2, Int.mul_add, Int.mul_assoc, Int.mul_assoc]
        have h3 := Int.mul_fdiv_add_fmod c g
        rw [e1, Int.mul_fdiv_cancel_left _ g0'] at h3
        rw [e1]
        omega
end K16M
namespace K16M
open PySem PySem.Spec PyProof.Rows L2 Dv K16
set_option autoImplicit false
set_option maxHeartbeats 0
noncomputable section
variable {rb rg : List D}
def em (e : Eqn) : Bool := decide (e.a = 0) && decide (e.b = 0)
def cr (e f : Eqn) : Int := e.a * f.b - f.a * e.b
def go (e f : Eqn) : Bool := decide (e.a * f.c = f.a * e.c) && decide (e.b * f.c = f.b * e.c)
theorem p_empty (e : Eqn) : d_Equation_is_empty [.val e.d] = .ok (.bl (em e)) none := by
  obtain ⟨a, b, c⟩ := e
  have h1 : oEq (.int a) (.int 0) = some (.bl (decide (a = 0))) := eqI
  have h2 : oEq (.int b) (.int 0) = some (.bl (decide (b = 0))) := eqI
  show _ = FRes.ok (.bl (decide (a = 0) && decide (b = 0))) none
  unfold d_Equation_is_empty b_Equation_is_empty
  cases hd : decide (a = 0) with
  | true => rw [hd] at h1; (exists h1, h2)
  | false => rw [hd] at h1; (exists h1, h2)
theorem p_cross (e f : Eqn) (he : e.Bd) (hf : f.Bd) : d_Equation_crossed_with [.val e.d, .val f.d] = .ok (.int (cr e f)) none := by
  obtain ⟨a, b, c⟩ := e
  obtain ⟨a', b', c'⟩ := f
  obtain ⟨h1, h2, h3⟩ := he
  obtain ⟨k1, k2, k3⟩ := hf
  dsimp only at h1 h2 h3 k1 k2 k3
  have m1 := mulR (i := a) (j := b') (by omega)
  have m2 := mulR (i := a') (j := b) (by omega)
  have s := subI (a := a * b') (b := a' * b)
  show _ = FRes.ok (.int (a * b' - a' * b)) none
  unfold d_Equation_crossed_with b_Equation_crossed_with
  (exists m1, m2, s)
theorem p_goes (e f : Eqn) (he : e.Bd) (hf : f.Bd) : d_Equation_goes_with [.val e.d, .val f.d] = .ok (.bl (go e f)) none := by
  obtain ⟨a, b, c⟩ := e
  obtain ⟨a', b', c'⟩ := f
  obtain ⟨h1, h2, h3⟩ := he
  obtain ⟨k1, k2, k3⟩ := hf
  dsimp only at h1 h2 h3 k1 k2 k3
  have m1 := mulR (i := a) (j := c') (by omega)
  have m2 := mulR (i := a') (j := c) (by omega)
  have m3 := mulR (i := b) (j := c') (by omega)
  have m4 := mulR (i := b') (j := c) (by omega)
  have n := neI (a := a * c') (b := a' * c)
  have q := eqI (a := b * c') (b := b' * c)
  show _ = FRes.ok (.bl (decide (a * c' = a' * c) && decide (b * c' = b' * c))) none
  unfold d_Equation_goes_with b_Equation_goes_with
  cases hd : decide (a * c' = a' * c) with
  | true =>
    rw [hd] at n
    (exists m1, m2, m3, m4, n, q)
  | false =>
    rw [hd] at n
    (exists m1, m2, m3, m4, n, q)
def inB (lo hi v : Int) : Bool := decide (lo ≤ v) && decide (v ≤ hi)
def cro (e f : Eqn) (x0 x1 y0 y1 : Int) : Option (Int × Int) :=
  if decide ((e.c * f.b - f.c * e.b).fmod (cr e f) = 0) && (decide ((e.a * f.c - f.a * e.c).fmod (cr e f) = 0) && (inB x0 x1 ((e.c * f.b - f.c * e.b).fdiv (cr e f)) && inB y0 y1 ((e.a * f.c - f.a * e.c).fdiv (cr e f)))) then some ((e.c * f.b - f.c * e.b).fdiv (cr e f), (e.a * f.c - f.a * e.c).fdiv (cr e f)) else none
theorem cr_bd (e f : Eqn) (he : e.Bd) (hf : f.Bd) : (cr e f).natAbs ≤ 20000 := by
  obtain ⟨h1, h2, h3⟩ := he
  obtain ⟨k1, k2, k3⟩ := hf
  have m1 : (e.a * f.b).natAbs ≤ 100 * 100 := by rw [Int.natAbs_mul]; exact Nat.mul_le_mul h1 k2
  have m2 : (f.a * e.b).natAbs ≤ 100 * 100 := by rw [Int.natAbs_mul]; exact Nat.mul_le_mul k1 h2
  unfold cr
  omega
theorem p_crossing (e f : Eqn) (x0 x1 y0 y1 : Int) (he : e.Bd) (hf : f.Bd) (hc : cr e f ≠ 0) : d_crossing [.val e.d, .val f.d, .val (bsD x0 x1 y0 y1 rb)] = .ok (ptD (cro e f x0 x1 y0 y1)) none := by
  have pc := p_cross e f he hf
  have cb := cr_bd e f he hf
  unfold cro
  generalize cr e f = k at pc cb hc ⊢
  obtain ⟨a, b, c⟩ := e
  obtain ⟨a', b', c'⟩ := f
  obtain ⟨h1, h2, h3⟩ := he
  obtain ⟨k1, k2, k3⟩ := hf
  dsimp only at h1 h2 h3 k1 k2 k3 ⊢
  have m1 := mulR (i := c) (j := b') (by omega)
  have m2 := mulR (i := c') (j := b) (by omega)
  have m3 := mulR (i := a) (j := c') (by omega)
  have m4 := mulR (i := a') (j := c) (by omega)
  have s1 := subI (a := c * b') (b := c' * b)
  have s2 := subI (a := a * c') (b := a' * c)
  have d1 := dmI (x := c * b' - c' * b) (b := k) ⟨hc, by omega⟩
  have d2 := dmI (x := a * c' - a' * c) (b := k) ⟨hc, by omega⟩
  have n1 : oNe (.int ((c * b' - c' * b).fmod k)) (.int 0) = some (.bl (!decide ((c * b' - c' * b).fmod k = 0))) := neI
  have n2 : oNe (.int ((a * c' - a' * c).fmod k)) (.int 0) = some (.bl (!decide ((a * c' - a' * c).fmod k = 0))) := neI
  have w1 : d_is_within [.val (.int ((c * b' - c' * b).fdiv k)), .val (bD x0 x1)] = .ok (.bl (inB x0 x1 ((c * b' - c' * b).fdiv k))) none := p_iswithin _ _ _
  have w2 : d_is_within [.val (.int ((a * c' - a' * c).fdiv k)), .val (bD y0 y1)] = .ok (.bl (inB y0 y1 ((a * c' - a' * c).fdiv k))) none := p_iswithin _ _ _
  have i0 := ixS0 (x := bD x0 x1) (y := bD y0 y1) (r := rb)
  have i1 := ixS1 (x := bD x0 x1) (y := bD y0 y1) (r := rb)
  generalize (c * b' - c' * b).fdiv k = X at d1 w1 ⊢
  generalize (a * c' - a' * c).fdiv k = Y at d2 w2 ⊢
  generalize decide ((c * b' - c' * b).fmod k = 0) = B1 at n1 ⊢
  generalize decide ((a * c' - a' * c).fmod k = 0) = B2 at n2 ⊢
  generalize inB x0 x1 X = B3 at w1 ⊢
  generalize inB y0 y1 Y = B4 at w2 ⊢
  unfold d_crossing b_crossing
  cases B1 with
  | false =>
    show _ = FRes.ok .non none
    (exists pc, m1, m2, m3, m4, s1, s2, d1, d2, n1, i0, i1)
  | true => cases B2 with
    | false =>
      show _ = FRes.ok .non none
      (exists pc, m1, m2, m3, m4, s1, s2, d1, d2, n1, n2, i0, i1)
    | true => cases B3 with
      | false =>
        show _ = FRes.ok .non none
        (exists pc, m1, m2, m3, m4, s1, s2, d1, d2, n1, n2, w1, i0, i1)
      | true => cases B4 with
        | false =>
          show _ = FRes.ok .non none
          (exists pc, m1, m2, m3, m4, s1, s2, d1, d2, n1, n2, w1, w2, i0, i1)
        | true =>
          show _ = FRes.ok (.lst [.int X, .int Y]) none
          (exists pc, m1, m2, m3, m4, s1, s2, d1, d2, n1, n2, w1, w2, i0, i1)
end
end K16M
namespace K16M
open PySem PySem.Spec PyProof.Rows L2 Dv K16
set_option autoImplicit false
set_option maxHeartbeats 0
noncomputable section
variable {rb rg : List D}
theorem any1 (a : Bool) : fAny [.lst [.bl a]] = some (.bl (a || false)) := rfl
theorem any2 (a b : Bool) : fAny [.lst [.bl a, .bl b]] = some (.bl (a || (b || false))) := rfl
theorem all1 (a : Bool) : fAll [.lst [.bl a]] = some (.bl (a && true)) := rfl
theorem all2 (a b : Bool) : fAll [.lst [.bl a, .bl b]] = some (.bl (a && (b && true))) := rfl
theorem ln0 : fLen [.lst []] = some (.int 0) := rfl
theorem ln1 {x : D} : fLen [.lst [x]] = some (.int 1) := rfl
theorem ln2 {x y : D} : fLen [.lst [x, y]] = some (.int 2) := rfl
theorem eq00 : oEq (.int 0) (.int 0) = some (.bl true) := rfl
theorem eq10 : oEq (.int 1) (.int 0) = some (.bl false) := rfl
theorem eq20 : oEq (.int 2) (.int 0) = some (.bl false) := rfl
theorem cr_self (e : Eqn) : cr e e = 0 := by unfold cr; omega
theorem go_self (e : Eqn) : go e e = true := by
  unfold go
  rw [decide_eq_true rfl, decide_eq_true rfl]
  rfl
def mid (x0 x1 y0 y1 : Int) (g0 g1 : Option Int) : Option (Int × Int) := some (within x0 x1 g0, within y0 y1 g1)
def pr1 (e : Eqn) (x0 x1 y0 y1 : Int) (g0 g1 : Option Int) : Option (Int × Int) :=
  if em e = true then (if decide (e.c = 0) = true then mid x0 x1 y0 y1 g0 g1 else none) else line e x0 x1 y0 y1 g0 g1
def pr2 (e f : Eqn) (x0 x1 y0 y1 : Int) (g0 g1 : Option Int) : Option (Int × Int) :=
  if ((em e && !decide (e.c = 0)) || (em f && !decide (f.c = 0))) = true then none else
  if em e = true then (if em f = true then mid x0 x1 y0 y1 g0 g1 else line f x0 x1 y0 y1 g0 g1)
  else if em f = true then line e x0 x1 y0 y1 g0 g1
  else if decide (cr e f = 0) = true then (if go e f = true then line e x0 x1 y0 y1 g0 g1 else none) else cro e f x0 x1 y0 y1
theorem em_no {e : Eqn} (h : em e = false) : e.a ≠ 0 ∨ e.b ≠ 0 := by
  unfold em at h
  rw [Bool.and_eq_false_iff, decide_eq_false_iff_not, decide_eq_false_iff_not] at h
  exact h
theorem p_pair1 (e : Eqn) (x0 x1 y0 y1 : Int) (g0 g1 : Option Int) (he : e.Bd) : d_nearest_pair [.val (.lst [e.d]), .val (bsD x0 x1 y0 y1 rb), .val (glD g0 g1 rg)] = .ok (ptD (pr1 e x0 x1 y0 y1 g0 g1)) none := by
  have pe := p_empty e
  have pc := p_cross e e he he
  rw [cr_self] at pc
  have pg := p_goes e e he he
  rw [go_self] at pg
  have nc : oNe (.int e.c) (.int 0) = some (.bl (!decide (e.c = 0))) := neI
  have n0 : oNe (.int 0) (.int 0) = some (.bl false) := rfl
  have i0 := ixS0 (x := bD x0 x1) (y := bD y0 y1) (r := rb)
  have i1 := ixS1 (x := bD x0 x1) (y := bD y0 y1) (r := rb)
  have j0 := ixS0 (x := oiD g0) (y := oiD g1) (r := rg)
  have j1 := ixS1 (x := oiD g0) (y := oiD g1) (r := rg)
  have w0 := p_within x0 x1 g0
  have w1 := p_within y0 y1 g1
  have k0 : oIx (.lst [e.d]) (.int 0) = some e.d := ix0
  have l0 := ln0
  have l1 := ln1 (x := e.d)
  have q0 := eq00
  have q1 := eq10
  unfold pr1 d_nearest_pair b_nearest_pair
  cases hE : em e with
  | true =>
    rw [hE] at pe
    rw [if_pos rfl]
    cases hZ : decide (e.c = 0) with
    | true =>
      rw [hZ] at nc
      rw [if_pos rfl]
      have an : fAny [.lst [.bl false]] = some (.bl false) := rfl
      show _ = FRes.ok (.lst [.int (within x0 x1 g0), .int (within y0 y1 g1)]) none
      (exists pe, nc, an, l0, q0, i0, i1, j0, j1, w0, w1)
    | false =>
      rw [hZ] at nc
      rw [if_neg (by decide)]
      have an : fAny [.lst [.bl true]] = some (.bl true) := rfl
      show _ = FRes.ok .non none
      (exists pe, nc, an)
  | false =>
    rw [hE] at pe
    rw [if_neg (by decide)]
    have pl := p_line (rb := rb) (rg := rg) e x0 x1 y0 y1 g0 g1 he (em_no hE)
    have an : fAny [.lst [.bl false]] = some (.bl false) := rfl
    have al : fAll [.lst [.bl true]] = some (.bl true) := rfl
    (exists pe, an, l1, q1, k0, pc, n0, pg, al, pl)
theorem p_pair2 (e f : Eqn) (x0 x1 y0 y1 : Int) (g0 g1 : Option Int) (he : e.Bd) (hf : f.Bd) : d_nearest_pair [.val (.lst [e.d, f.d]), .val (bsD x0 x1 y0 y1 rb), .val (glD g0 g1 rg)] = .ok (ptD (pr2 e f x0 x1 y0 y1 g0 g1)) none := by
  have pe := p_empty e
  have pf := p_empty f
  have pc := p_cross e e he he
  rw [cr_self] at pc
  have pcf := p_cross f f hf hf
  rw [cr_self] at pcf
  have pg := p_goes e e he he
  rw [go_self] at pg
  have pgf := p_goes f f hf hf
  rw [go_self] at pgf
  have pc2 := p_cross e f he hf
  have pg2 := p_goes e f he hf
  have nc : oNe (.int e.c) (.int 0) = some (.bl (!decide (e.c = 0))) := neI
  have nf : oNe (.int f.c) (.int 0) = some (.bl (!decide (f.c = 0))) := neI
  have n0 : oNe (.int 0) (.int 0) = some (.bl false) := rfl
  have nk : oNe (.int (cr e f)) (.int 0) = some (.bl (!decide (cr e f = 0))) := neI
  have i0 := ixS0 (x := bD x0 x1) (y := bD y0 y1) (r := rb)
  have i1 := ixS1 (x := bD x0 x1) (y := bD y0 y1) (r := rb)
  have j0 := ixS0 (x := oiD g0) (y := oiD g1) (r := rg)
  have j1 := ixS1 (x := oiD g0) (y := oiD g1) (r := rg)
  have w0 := p_within x0 x1 g0
  have w1 := p_within y0 y1 g1
  have ke : oIx (.lst [e.d]) (.int 0) = some e.d := ix0
  have kf : oIx (.lst [f.d]) (.int 0) = some f.d := ix0
  have k2 : oIx (.lst [e.d, f.d]) (.int 0) = some e.d := ix0
  have l0 := ln0
  have le := ln1 (x := e.d)
  have lf := ln1 (x := f.d)
  have l2 := ln2 (x := e.d) (y := f.d)
  have q0 := eq00
  have q1 := eq10
  have q2 := eq20
  have aff : fAny [.lst [.bl false, .bl false]] = some (.bl false) := rfl
  have atf : fAny [.lst [.bl true, .bl false]] = some (.bl true) := rfl
  have aft : fAny [.lst [.bl false, .bl true]] = some (.bl true) := rfl
  have att : fAny [.lst [.bl true, .bl true]] = some (.bl true) := rfl
  have al1 : fAll [.lst [.bl true]] = some (.bl true) := rfl
  have bt : fAll [.lst [.bl true, .bl true]] = some (.bl true) := rfl
  have bf : fAll [.lst [.bl true, .bl false]] = some (.bl false) := rfl
  unfold pr2 d_nearest_pair b_nearest_pair
  cases hE : em e with
  | true =>
    rw [hE] at pe
    cases hF : em f with
    | true =>
      rw [hF] at pf
      cases hZ : decide (e.c = 0) with
      | true =>
        rw [hZ] at nc
        cases hW : decide (f.c = 0) with
        | true =>
          rw [hW] at nf
          show _ = FRes.ok (.lst [.int (within x0 x1 g0), .int (within y0 y1 g1)]) none
          (exists pe, pf, nc, nf, aff, l0, q0, i0, i1, j0, j1, w0, w1)
        | false =>
          rw [hW] at nf
          show _ = FRes.ok .non none
          (exists pe, pf, nc, nf, aft)
      | false =>
        rw [hZ] at nc
        cases hW : decide (f.c = 0) with
        | true =>
          rw [hW] at nf
          show _ = FRes.ok .non none
          (exists pe, pf, nc, nf, atf)
        | false =>
          rw [hW] at nf
          show _ = FRes.ok .non none
          (exists pe, pf, nc, nf, att)
    | false =>
      rw [hF] at pf
      cases hZ : decide (e.c = 0) with
      | true =>
        rw [hZ] at nc
        have pl := p_line (rb := rb) (rg := rg) f x0 x1 y0 y1 g0 g1 hf (em_no hF)
        show _ = FRes.ok (ptD (line f x0 x1 y0 y1 g0 g1)) none
        (exists pe, pf, nc, aff, lf, q1, kf, pcf, n0, pgf, al1, pl)
      | false =>
        rw [hZ] at nc
        show _ = FRes.ok .non none
        (exists pe, pf, nc, atf)
  | false =>
    rw [hE] at pe
    have pl := p_line (rb := rb) (rg := rg) e x0 x1 y0 y1 g0 g1 he (em_no hE)
    cases hF : em f with
    | true =>
      rw [hF] at pf
      cases hW : decide (f.c = 0) with
      | true =>
        rw [hW] at nf
        show _ = FRes.ok (ptD (line e x0 x1 y0 y1 g0 g1)) none
        (exists pe, pf, nf, aff, le, q1, ke, pc, n0, pg, al1, pl)
      | false =>
        rw [hW] at nf
        show _ = FRes.ok .non none
        (exists pe, pf, nf, aft)
    | false =>
      rw [hF] at pf
      cases hK : decide (cr e f = 0) with
      | true =>
        rw [hK] at nk
        cases hG : go e f with
        | true =>
          rw [hG] at pg2
          show _ = FRes.ok (ptD (line e x0 x1 y0 y1 g0 g1)) none
          (exists pe, pf, aff, l2, q2, k2, pc, n0, pc2, nk, pg, pg2, bt, pl)
        | false =>
          rw [hG] at pg2
          show _ = FRes.ok .non none
          (exists pe, pf, aff, l2, q2, k2, pc, n0, pc2, nk, pg, pg2, bf)
      | false =>
        rw [hK] at nk
        have px := p_crossing (rb := rb) e f x0 x1 y0 y1 he hf (of_decide_eq_false hK)
        show _ = FRes.ok (ptD (cro e f x0 x1 y0 y1)) none
        (exists pe, pf, aff, l2, q2, k2, pc, n0, pc2, nk, px)
end
end K16M
namespace K16M
set_option autoImplicit false
noncomputable section
def Eqn.on (e : Eqn) (x y : Int) : Prop := e.a * x + e.b * y = e.c
theorem IsBest.of {S T : Int → Int → Prop} {g0 g1 : Option Int} {r : Option (Int × Int)} (h : IsBest S g0 g1 r) (e : ∀ x y, T x y ↔ S x y) : IsBest T g0 g1 r := by
  cases r with
  | none => exact fun x y z => h x y ((e x y).mp z)
  | some p => exact ⟨(e _ _).mpr h.1, fun x y z => h.2 x y ((e x y).mp z)⟩
theorem mid_ok {x0 x1 y0 y1 : Int} (g0 g1 : Option Int) (hx : x0 ≤ x1) (hy : y0 ≤ y1) : IsBest (InB x0 x1 y0 y1) g0 g1 (mid x0 x1 y0 y1 g0 g1) := by
  obtain ⟨a1, a2⟩ := within_ok hx g0
  obtain ⟨b1, b2⟩ := within_ok hy g1
  refine ⟨⟨a1, b1⟩, ?_⟩
  rintro x y ⟨h1, h2⟩
  rcases a2 x h1.1 h1.2 with rfl | h
  · rcases b2 y h2.1 h2.2 with rfl | h
    · exact .inl rfl
    · exact .inr (.inr ⟨rfl, h⟩)
  · exact .inr (.inl h)
theorem em_on {e : Eqn} (h : em e = true) (x y : Int) : e.on x y ↔ e.c = 0 := by
  unfold em at h
  rw [Bool.and_eq_true, decide_eq_true_iff, decide_eq_true_iff] at h
  unfold Eqn.on
  rw [h.1, h.2]
  omega
theorem pr1_ok (e : Eqn) {x0 x1 y0 y1 : Int} (g0 g1 : Option Int) (hx : x0 ≤ x1) (hy : y0 ≤ y1) (he : e.Bd) : IsBest (fun x y => InB x0 x1 y0 y1 x y ∧ e.on x y) g0 g1 (pr1 e x0 x1 y0 y1 g0 g1) := by
  unfold pr1
  split
  · rename_i hE
    split
    · rename_i hZ
      exact (mid_ok g0 g1 hx hy).of fun x y => by rw [em_on hE]; have := of_decide_eq_true hZ; simp [this]
    · rename_i hZ
      rintro x y ⟨_, h⟩
      rw [em_on hE] at h
      exact hZ (decide_eq_true h)
  · rename_i hE
    have h2 := he.2.1
    exact line_ok e x0 x1 y0 y1 g0 g1 hx hy (by omega) (em_no (by simpa using hE))
theorem cross_on {e f : Eqn} (hc : cr e f ≠ 0) (x y : Int) : (e.on x y ∧ f.on x y) ↔ (cr e f * x = e.c * f.b - f.c * e.b ∧ cr e f * y = e.a * f.c - f.a * e.c) := by
  obtain ⟨a, b, c⟩ := e
  obtain ⟨a', b', c'⟩ := f
  unfold Eqn.on
  unfold cr at hc ⊢
  dsimp only at hc ⊢
  constructor
  · rintro ⟨h1, h2⟩
    subst h1
    subst h2
    constructor <;> grind
  · rintro ⟨h1, h2⟩
    constructor
    · refine Int.eq_of_mul_eq_mul_left hc ?_
      grind
    · refine Int.eq_of_mul_eq_mul_left hc ?_
      grind
theorem cro_ok (e f : Eqn) {x0 x1 y0 y1 : Int} (g0 g1 : Option Int) (hc : cr e f ≠ 0) : IsBest (fun x y => InB x0 x1 y0 y1 x y ∧ e.on x y ∧ f.on x y) g0 g1 (cro e f x0 x1 y0 y1) := by
  have co := cross_on hc
  unfold cro
  have h1 := Int.mul_fdiv_add_fmod (e.c * f.b - f.c * e.b) (cr e f)
  have h2 := Int.mul_fdiv_add_fmod (e.a * f.c - f.a * e.c) (cr e f)
  generalize e.c * f.b - f.c * e.b = X at co h1 ⊢
  generalize e.a * f.c - f.a * e.c = Y at co h2 ⊢
  generalize cr e f = k at co hc h1 h2 ⊢
  split
  · rename_i h
    simp only [Bool.and_eq_true, decide_eq_true_iff, inB] at h
    obtain ⟨m1, m2, ⟨i1, i2⟩, i3, i4⟩ := h
    refine ⟨⟨⟨⟨i1, i2⟩, i3, i4⟩, (co _ _).mpr ⟨by dsimp only; omega, by dsimp only; omega⟩⟩, ?_⟩
    rintro x y ⟨_, h⟩
    obtain ⟨q1, q2⟩ := (co x y).mp h
    left
    have e1 : x = X.fdiv k := Int.eq_of_mul_eq_mul_left hc (by omega)
    have e2 : y = Y.fdiv k := Int.eq_of_mul_eq_mul_left hc (by omega)
    rw [e1, e2]
  · rename_i h
    rintro x y ⟨⟨i1, i2⟩, hh⟩
    obtain ⟨q1, q2⟩ := (co x y).mp hh
    refine h ?_
    subst q1
    subst q2
    rw [Int.mul_fdiv_cancel_left _ hc, Int.mul_fdiv_cancel_left _ hc, Int.mul_fmod_right, Int.mul_fmod_right]
    simp [inB, i1.1, i1.2, i2.1, i2.2]
theorem goes_on {e f : Eqn} (hk : cr e f = 0) (he : e.a ≠ 0 ∨ e.b ≠ 0) (hf : f.a ≠ 0 ∨ f.b ≠ 0) (x y : Int) (h : e.on x y) : f.on x y ↔ go e f = true := by
  obtain ⟨a, b, c⟩ := e
  obtain ⟨a', b', c'⟩ := f
  unfold Eqn.on at h ⊢
  unfold cr at hk
  unfold go
  dsimp only at hk he hf h ⊢
  rw [Bool.and_eq_true, decide_eq_true_iff, decide_eq_true_iff]
  subst h
  constructor
  · intro h
    subst h
    constructor <;> grind
  · rintro ⟨h1, h2⟩
    rcases he with z | z
    · refine Int.eq_of_mul_eq_mul_left z ?_
      grind
    · refine Int.eq_of_mul_eq_mul_left z ?_
      grind
theorem pr2_ok (e f : Eqn) {x0 x1 y0 y1 : Int} (g0 g1 : Option Int) (hx : x0 ≤ x1) (hy : y0 ≤ y1) (he : e.Bd) (hf : f.Bd) : IsBest (fun x y => InB x0 x1 y0 y1 x y ∧ e.on x y ∧ f.on x y) g0 g1 (pr2 e f x0 x1 y0 y1 g0 g1) := by
  have be := he.2.1
  have bf := hf.2.1
  unfold pr2
  split
  · rename_i h
    rintro x y ⟨_, h1, h2⟩
    simp only [Bool.or_eq_true, Bool.and_eq_true, Bool.not_eq_true', decide_eq_false_iff_not] at h
    rcases h with ⟨q1, q2⟩ | ⟨q1, q2⟩
    · exact q2 ((em_on q1 x y).mp h1)
    · exact q2 ((em_on q1 x y).mp h2)
  · rename_i h0
    simp only [Bool.or_eq_true, Bool.and_eq_true, Bool.not_eq_true', decide_eq_false_iff_not, not_or, not_and, Classical.not_not] at h0
    split
    · rename_i hE
      have z1 := h0.1 hE
      split
      · rename_i hF
        have z2 := h0.2 hF
        exact (mid_ok g0 g1 hx hy).of fun x y => by rw [em_on hE, em_on hF]; simp [z1, z2]
      · rename_i hF
        exact (line_ok f x0 x1 y0 y1 g0 g1 hx hy (by omega) (em_no (by simpa using hF))).of fun x y => by rw [em_on hE]; simp [z1, Eqn.on]
    · rename_i hE
      have nE := em_no (by simpa using hE)
      split
      · rename_i hF
        have z2 := h0.2 hF
        exact (line_ok e x0 x1 y0 y1 g0 g1 hx hy (by omega) nE).of fun x y => by rw [em_on hF]; simp [z2, Eqn.on]
      · rename_i hF
        have nF := em_no (by simpa using hF)
        split
        · rename_i hK
          have hK := of_decide_eq_true hK
          split
          · rename_i hG
            exact (line_ok e x0 x1 y0 y1 g0 g1 hx hy (by omega) nE).of fun x y => ⟨fun z => ⟨z.1, z.2.1⟩, fun z => ⟨z.1, z.2, (goes_on hK nE nF x y z.2).mpr hG⟩⟩
          · rename_i hG
            rintro x y ⟨_, h1, h2⟩
            exact hG ((goes_on hK nE nF x y h1).mp h2)
        · rename_i hK
          exact cro_ok e f g0 g1 (fun z => hK (decide_eq_true z))
end
end K16M
namespace K16M
open PySem PySem.Spec PyProof.Rows L2 Dv K16
set_option autoImplicit false
set_option maxHeartbeats 0
noncomputable section
abbrev Term := Int × Option Str
abbrev osD : Option Str → D
  | some s => .str s
  | none => .non
abbrev tmD (t : Term) : D := .tup [.int t.1, osD t.2]
abbrev tsD (ts : List Term) : D := .lst (ts.map tmD)
abbrev fmD (ts : List Term) : D := .ins 1 [("terms", tsD ts)]
def const (ts : List Term) : Int := ((ts.filter fun t => t.2.isNone).map (·.1)).sum
def fac (ts : List Term) (n : Str) : Int := ((ts.filter fun t => decide (t.2 = some n)).map (·.1)).sum
theorem intL_map : ∀ ns : List Int, intL (ns.map .int) = some ns
  | [] => rfl
  | n :: r => by
    show (intL (r.map .int)).map (n :: ·) = _
    rw [intL_map r]
    rfl
theorem sumI (ns : List Int) : fSum [.lst (ns.map .int)] = some (.int ns.sum) := by
  show (intL (ns.map .int)).map (fun l => D.int l.sum) = _
  rw [intL_map]
  rfl
theorem isN (o : Option Str) : oIs (osD o) .non = some (.bl o.isNone) := by cases o <;> rfl
theorem eqN (o : Option Str) (n : Str) : oEq (osD o) (.str n) = some (.bl (decide (o = some n))) := by
  cases o with
  | none => rfl
  | some m =>
    show some (D.bl (decide (m = n))) = _
    by_cases h : m = n <;> simp [h]
/-- a comprehension with a test, over given values -/
theorem cmp_gen {ta : EvT} {a : Ev} {eg : Eg} {vs : List Nat} {α : Type} (W : Dv.Env) (f : α → D) (q : α → Bool) (h : α → D) : ∀ (L : List α) (acc : List D) (env : Dv.Env), wipeE env vs = W → acc.length + L.length < 1000000 →
    (∀ x ∈ L, ∃ e1 e2, eg (f x) W = some e1 ∧ ta e1 = .ok (q x) e2 ∧ wipeE e2 vs = W ∧ (q x = true → ∃ e3, a e2 = .ok (h x) e3 ∧ wipeE e3 vs = W)) → ∃ env', cmpL eg ta a vs (L.map f) acc env = .ok (acc ++ (L.filter q).map h) env' ∧ wipeE env' vs = W
  | [], acc, env, hw, _, _ => ⟨env, by simp [cmpL], hw⟩
  | x :: L, acc, env, hw, hl, hx => by
    obtain ⟨e1, e2, h1, h2, h3, h4⟩ := hx x (List.mem_cons_self ..)
    rw [List.length_cons] at hl
    cases hq : q x with
    | false =>
      rw [hq] at h2
      obtain ⟨env', k1, k2⟩ := cmp_gen W f q h L acc e2 h3 (by omega) fun y hy => hx y (List.mem_cons_of_mem _ hy)
      refine ⟨env', ?_, k2⟩
      rw [List.map_cons, List.filter_cons_of_neg (by rw [hq]; decide)]
      exact cmp_cons hw h1 h2 (sel_f rfl k1)
    | true =>
      rw [hq] at h2
      obtain ⟨e3, h5, h6⟩ := h4 hq
      obtain ⟨env', k1, k2⟩ := cmp_gen W f q h L (acc ++ [h x]) e3 h6 (by simp; omega) fun y hy => hx y (List.mem_cons_of_mem _ hy)
      refine ⟨env', ?_, k2⟩
      rw [List.map_cons, List.filter_cons_of_pos hq]
      refine cmp_cons hw h1 h2 (sel_t rfl (cmp_el h5 (by omega) rfl ?_))
      rw [k1]
      simp
theorem p_factor (ts : List Term) (n : Str) (hl : ts.length < 1000) : d_Form_factor_of [.val (fmD ts), .val (.str n)] = .ok (.int (fac ts n)) none := by
  obtain ⟨env', c1, c2⟩ := cmp_gen (ta := xTest (xOp oEq (xVal 3) (xVal 1))) (a := xVal 2) (eg := yTup 2 (yCons (yName 2) (yCons (yName 3) yNil))) (vs := [2, 3]) [.val (fmD ts), .val (.str n), .no, .no] tmD (fun t => decide (t.2 = some n)) (fun t => .int t.1) ts [] [.val (fmD ts), .val (.str n), .no, .no] rfl (by simp; omega) (fun t _ => by
    have e := eqN t.2 n
    exact ⟨[.val (fmD ts), .val (.str n), .val (.int t.1), .val (osD t.2)], [.val (fmD ts), .val (.str n), .val (.int t.1), .val (osD t.2)], by (exists trivial), by (exists e), rfl, fun _ => ⟨[.val (fmD ts), .val (.str n), .val (.int t.1), .val (osD t.2)], by (exists trivial), rfl⟩⟩)
  have sm := sumI ((ts.filter fun t => decide (t.2 = some n)).map (·.1))
  rw [List.map_map] at sm
  rw [List.nil_append] at c1
  have c1 : cmpL (yTup 2 (yCons (yName 2) (yCons (yName 3) yNil))) (xTest (xOp oEq (xVal 3) (xVal 1))) (xVal 2) [2, 3] (ts.map tmD) [] [.val (fmD ts), .val (.str n), .no, .no] = .ok ((ts.filter fun t => decide (t.2 = some n)).map (D.int ∘ fun x => x.1)) env' := c1
  unfold fac d_Form_factor_of b_Form_factor_of
  (exists c1, c2, sm)
theorem i_Eqn (a b c : Int) : d_Equation___init__ [.par (.ins 0 []), .val (.int a), .val (.int b), .val (.int c)] = .ok .non (some (Eqn.d ⟨a, b, c⟩)) := by
  unfold d_Equation___init__ b_Equation___init__
  apply r_runN
  (exists trivial)
def eq1 (ts : List Term) (v : Int) : Eqn := ⟨fac ts "x", 0, v - const ts⟩
def eq2 (ts : List Term) (v : Int) : Eqn := ⟨fac ts "x", fac ts "z", v - const ts⟩
theorem cmp_const (ts : List Term) (N : D) (v : Int) (hl : ts.length < 1000) : ∃ env', cmpL (yTup 2 (yCons (yName 5) (yCons (yName 6) yNil))) (xTest (xOp oIs (xVal 6) (xC .non))) (xVal 5) [5, 6] (ts.map tmD) [] [.val (fmD ts), .val N, .val (.int v), .no, .no, .no, .no] = .ok ((ts.filter fun t => t.2.isNone).map (D.int ∘ fun x => x.1)) env' ∧ wipeE env' [5, 6] = [.val (fmD ts), .val N, .val (.int v), .no, .no, .no, .no] := by
  obtain ⟨env', c1, c2⟩ := cmp_gen (ta := xTest (xOp oIs (xVal 6) (xC .non))) (a := xVal 5) (eg := yTup 2 (yCons (yName 5) (yCons (yName 6) yNil))) (vs := [5, 6]) [.val (fmD ts), .val N, .val (.int v), .no, .no, .no, .no] tmD (fun t => t.2.isNone) (fun t => .int t.1) ts [] [.val (fmD ts), .val N, .val (.int v), .no, .no, .no, .no] rfl (by simp; omega) (fun t _ => by
    have e := isN t.2
    exact ⟨[.val (fmD ts), .val N, .val (.int v), .no, .no, .val (.int t.1), .val (osD t.2)], [.val (fmD ts), .val N, .val (.int v), .no, .no, .val (.int t.1), .val (osD t.2)], by (exists trivial), by (exists e), rfl, fun _ => ⟨[.val (fmD ts), .val N, .val (.int v), .no, .no, .val (.int t.1), .val (osD t.2)], by (exists trivial), rfl⟩⟩)
  rw [List.nil_append] at c1
  exact ⟨env', c1, c2⟩
theorem catD {l r : List D} (h : l.length + r.length < 1000000) : oAdd (.lst l) (.lst r) = some (.lst (l ++ r)) := by
  first
    | rfl
    | exact if_pos h
    | exact if_pos (by omega)
theorem p_eq1 (ts : List Term) (v : Int) (hl : ts.length < 1000) : d_equation_of [.val (fmD ts), .val (.lst [.str "x"]), .val (.int v)] = .ok (Eqn.d (eq1 ts v)) none := by
  obtain ⟨env', c1, c2⟩ := cmp_const ts (.lst [.str "x"]) v hl
  have sm := sumI ((ts.filter fun t => t.2.isNone).map (·.1))
  rw [List.map_map] at sm
  have f1 := p_factor ts "x" hl
  have ca : oAdd (.lst [.int (fac ts "x")]) (.lst [.int 0]) = some (.lst [.int (fac ts "x"), .int 0]) := catD (by simp)
  have x0 := ixS0 (x := .int (fac ts "x")) (y := .int 0) (r := [])
  have x1 := ixS1 (x := .int (fac ts "x")) (y := .int 0) (r := [])
  have sb := subI (a := v) (b := const ts)
  have ii := i_Eqn (fac ts "x") 0 (v - const ts)
  unfold const at sb ii
  unfold eq1 const d_equation_of b_equation_of
  (exists c1, c2, sm, f1, ca, x0, x1, sb, ii)
theorem p_eq2 (ts : List Term) (v : Int) (hl : ts.length < 1000) : d_equation_of [.val (fmD ts), .val (.lst [.str "x", .str "z"]), .val (.int v)] = .ok (Eqn.d (eq2 ts v)) none := by
  obtain ⟨env', c1, c2⟩ := cmp_const ts (.lst [.str "x", .str "z"]) v hl
  have sm := sumI ((ts.filter fun t => t.2.isNone).map (·.1))
  rw [List.map_map] at sm
  have f1 := p_factor ts "x" hl
  have f2 := p_factor ts "z" hl
  have ca : oAdd (.lst [.int (fac ts "x"), .int (fac ts "z")]) (.lst [.int 0]) = some (.lst [.int (fac ts "x"), .int (fac ts "z"), .int 0]) := catD (by simp)
  have x0 := ixS0 (x := .int (fac ts "x")) (y := .int (fac ts "z")) (r := [.int 0])
  have x1 := ixS1 (x := .int (fac ts "x")) (y := .int (fac ts "z")) (r := [.int 0])
  have sb := subI (a := v) (b := const ts)
  have ii := i_Eqn (fac ts "x") (fac ts "z") (v - const ts)
  unfold const at sb ii
  unfold eq2 const d_equation_of b_equation_of
  (exists c1, c2, sm, f1, f2, ca, x0, x1, sb, ii)
end
end K16M
namespace K16M
open PySem PySem.Spec PyProof.Rows L2 Dv K16
set_option autoImplicit false
set_option maxHeartbeats 0
noncomputable section
/-- what a goal list becomes -/
def gls (a b : Option Int) : Option Int × Option Int := if a.isNone || b.isNone then (none, none) else (a, b)
def glo (old : Option (Option Int × Option Int)) : Option Int × Option Int := match old with
  | none => (none, none)
  | some (a, b) => gls a b
theorem inNon (a b : Option Int) : oOr (oIn false) (oInD false) .non (.lst [oiD a, oiD b]) = some (.bl (a.isNone || b.isNone)) := by
  cases a <;> cases b <;> rfl
theorem cut2 (x y : D) : cutD [x, y] none (some 2) = [x, y] := by rfl
theorem r_slice {a : Ev} {env : Dv.Env} {xs l : List D} {h : Ev} {k : Int} (h1 : a env = .ok (.lst xs) env) (h2 : h env = .ok (.int k) env) (hc : cutD xs none (some k) = l) : xSlL a pNone (pSome h) env = .ok (.lst l) env := by
  subst hc
  unfold xSlL
  rw [h1]
  show ((pSome h env).bind fun j e3 => match lstD (.lst xs) with | some xs => Res.ok (D.lst (cutD xs none j)) e3 | none => .no) = _
  unfold pSome
  rw [h2]
  rfl
theorem goals2 (old : Option (Option Int × Option Int)) (F N Bs M s5 : D) : ∃ g0 g1 rg, glo old = (g0, g1) ∧ xIf (xOrT (xTest (xOp oIs (xVal 4) (xC .non))) (xTest (xOp (oOr (oIn false) (oInD false)) (xC .non) (xVal 4)))) (xLst (xCons (xC .non) (xCons (xC .non) xNil))) (xLst (xStar (xVal 4) (xCons (xC (.int 0)) xNil))) [.val F, .val N, .val Bs, .val M, .val (match old with | none => .non | some (a, b) => .lst [oiD a, oiD b]), .box s5, .no, .no, .no, .no] = .ok (glD g0 g1 rg) [.val F, .val N, .val Bs, .val M, .val (match old with | none => .non | some (a, b) => .lst [oiD a, oiD b]), .box s5, .no, .no, .no, .no] := by
  cases old with
  | none => exact ⟨none, none, [], rfl, by (exists trivial)⟩
  | some p =>
    obtain ⟨a, b⟩ := p
    have i := inNon a b
    unfold glo gls
    cases a with
    | none => exact ⟨none, none, [], rfl, by cases b <;> rfl⟩
    | some x => cases b with
      | none => exact ⟨none, none, [], rfl, rfl⟩
      | some y => exact ⟨some x, some y, [.int 0], rfl, rfl⟩
abbrev oldD (old : Option (Option Int × Option Int)) : D := match old with | none => .non | some (a, b) => .lst [oiD a, oiD b]
theorem isOld (x : Option (Int × Int)) : oIs (ptD x) .non = some (.bl x.isNone) := by cases x <;> rfl
abbrev n2D : D := .lst [.str "x", .str "z"]
theorem p_src21 (ts : List Term) (v x0 x1 y0 y1 : Int) (old : Option (Option Int × Option Int)) (hl : ts.length < 1000) (hb : (eq2 ts v).Bd) : ∃ g0 g1, glo old = (g0, g1) ∧ d_nearest_source [.val (.lst [fmD ts]), .val n2D, .val (.lst [bD x0 x1, bD y0 y1]), .val (.lst [.int v]), .val (oldD old)] = .ok (ptD (pr1 (eq2 ts v) x0 x1 y0 y1 g0 g1)) none := by
  obtain ⟨g0, g1, rg, hg, gl⟩ := goals2 old (.lst [fmD ts]) n2D (.lst [bD x0 x1, bD y0 y1]) (.lst [.int v]) (.lst [(eq2 ts v).d])
  refine ⟨g0, g1, hg, ?_⟩
  have q := p_eq2 ts v hl
  have pp := p_pair1 (rb := [bD 0 0]) (rg := rg) (eq2 ts v) x0 x1 y0 y1 g0 g1 hb
  have is := isOld (pr1 (eq2 ts v) x0 x1 y0 y1 g0 g1)
  generalize pr1 (eq2 ts v) x0 x1 y0 y1 g0 g1 = R at pp is ⊢
  generalize (eq2 ts v).d = E at q pp gl
  have zp : iZp (xCons (xVal 0) (xCons (xVal 3) xNil)) [.val (.lst [fmD ts]), .val n2D, .val (.lst [bD x0 x1, bD y0 y1]), .val (.lst [.int v]), .val (oldD old), .no, .no, .no, .no, .no] = .ok [.tup [fmD ts, .int v]] [.val (.lst [fmD ts]), .val n2D, .val (.lst [bD x0 x1, bD y0 y1]), .val (.lst [.int v]), .val (oldD old), .no, .no, .no, .no, .no] := rfl
  have sb : xLst (xStar (xVal 2) (xCons (xTup (xCons (xC (.int 0)) (xCons (xC (.int 0)) xNil))) xNil)) [.val (.lst [fmD ts]), .val n2D, .val (.lst [bD x0 x1, bD y0 y1]), .val (.lst [.int v]), .val (oldD old), .val (.lst [E]), .val (glD g0 g1 rg), .no, .no, .no] = .ok (bsD x0 x1 y0 y1 [bD 0 0]) [.val (.lst [fmD ts]), .val n2D, .val (.lst [bD x0 x1, bD y0 y1]), .val (.lst [.int v]), .val (oldD old), .val (.lst [E]), .val (glD g0 g1 rg), .no, .no, .no] := rfl
  have l2 := ln2 (x := .str "x") (y := .str "z")
  unfold d_nearest_source b_nearest_source
  cases R with
  | none =>
    show _ = FRes.ok .non none
    (exists zp, q, gl, sb, pp, is)
  | some p =>
    have sl := r_slice (a := xVal 7) (h := xCB fLen (xCons (xVal 1) xNil)) (env := [.val (.lst [fmD ts]), .val n2D, .val (.lst [bD x0 x1, bD y0 y1]), .val (.lst [.int v]), .val (oldD old), .val (.lst [E]), .val (glD g0 g1 rg), .val (.lst [.int p.1, .int p.2]), .no, .no]) (xs := [.int p.1, .int p.2]) (k := 2) (by (exists trivial)) (by (exists l2)) (cut2 _ _)
    show _ = FRes.ok (.lst [.int p.1, .int p.2]) none
    (exists zp, q, gl, sb, pp, is, sl)
end
end K16M
namespace K16M
open PySem PySem.Spec PyProof.Rows L2 Dv K16
set_option autoImplicit false
set_option maxHeartbeats 0
noncomputable section
abbrev n1D : D := .lst [.str "x"]
abbrev old1D (old : Option (Option Int)) : D := match old with | none => .non | some a => .lst [oiD a]
def glo1 (old : Option (Option Int)) : Option Int × Option Int := match old with
  | none => (none, none)
  | some none => (none, none)
  | some (some a) => (some a, some 0)
theorem cut1 (x y : D) : cutD [x, y] none (some 1) = [x] := by rfl
abbrev pt1D : Option (Int × Int) → D
  | none => .non
  | some p => .lst [.int p.1]
theorem goals1 (old : Option (Option Int)) (F N Bs M s5 : D) : ∃ g0 g1 rg, glo1 old = (g0, g1) ∧ xIf (xOrT (xTest (xOp oIs (xVal 4) (xC .non))) (xTest (xOp (oOr (oIn false) (oInD false)) (xC .non) (xVal 4)))) (xLst (xCons (xC .non) (xCons (xC .non) xNil))) (xLst (xStar (xVal 4) (xCons (xC (.int 0)) xNil))) [.val F, .val N, .val Bs, .val M, .val (old1D old), .box s5, .no, .no, .no, .no] = .ok (glD g0 g1 rg) [.val F, .val N, .val Bs, .val M, .val (old1D old), .box s5, .no, .no, .no, .no] := by
  cases old with
  | none => exact ⟨none, none, [], rfl, by (exists trivial)⟩
  | some a => cases a with
    | none => exact ⟨none, none, [], rfl, rfl⟩
    | some x => exact ⟨some x, some 0, [], rfl, rfl⟩
theorem q_src11 (ts0 : List Term) (v0 x0 x1 : Int) (old : Option (Option Int)) (hl0 : ts0.length < 1000) (hb0 : (eq1 ts0 v0).Bd) : ∃ g0 g1, glo1 old = (g0, g1) ∧ d_nearest_source [.val (.lst [fmD ts0]), .val n1D, .val (.lst [bD x0 x1]), .val (.lst [.int v0]), .val (old1D old)] = .ok (pt1D (pr1 (eq1 ts0 v0) x0 x1 0 0 g0 g1)) none := by
  obtain ⟨g0, g1, rg, hg, gl⟩ := goals1 old (.lst [fmD ts0]) n1D (.lst [bD x0 x1]) (.lst [.int v0]) (.lst [(eq1 ts0 v0).d])
  refine ⟨g0, g1, hg, ?_⟩
  have q0 := p_eq1 ts0 v0 hl0
  have pp := p_pair1 (rb := []) (rg := rg) (eq1 ts0 v0) x0 x1 0 0 g0 g1 hb0
  have is := isOld (pr1 (eq1 ts0 v0) x0 x1 0 0 g0 g1)
  generalize pr1 (eq1 ts0 v0) x0 x1 0 0 g0 g1 = R at pp is ⊢
  generalize (eq1 ts0 v0).d = E at q0 pp gl
  have zp : iZp (xCons (xVal 0) (xCons (xVal 3) xNil)) [.val (.lst [fmD ts0]), .val n1D, .val (.lst [bD x0 x1]), .val (.lst [.int v0]), .val (old1D old), .no, .no, .no, .no, .no] = .ok [.tup [fmD ts0, .int v0]] [.val (.lst [fmD ts0]), .val n1D, .val (.lst [bD x0 x1]), .val (.lst [.int v0]), .val (old1D old), .no, .no, .no, .no, .no] := rfl
  have sb : xLst (xStar (xVal 2) (xCons (xTup (xCons (xC (.int 0)) (xCons (xC (.int 0)) xNil))) xNil)) [.val (.lst [fmD ts0]), .val n1D, .val (.lst [bD x0 x1]), .val (.lst [.int v0]), .val (old1D old), .val (.lst [E]), .val (glD g0 g1 rg), .no, .no, .no] = .ok (bsD x0 x1 0 0 []) [.val (.lst [fmD ts0]), .val n1D, .val (.lst [bD x0 x1]), .val (.lst [.int v0]), .val (old1D old), .val (.lst [E]), .val (glD g0 g1 rg), .no, .no, .no] := rfl
  have l2 : fLen [.lst [.str "x"]] = some (.int 1) := rfl
  unfold d_nearest_source b_nearest_source
  cases R with
  | none =>
    show _ = FRes.ok .non none
    (exists zp, q0, gl, sb, pp, is)
  | some p =>
    have sl := r_slice (a := xVal 7) (h := xCB fLen (xCons (xVal 1) xNil)) (env := [.val (.lst [fmD ts0]), .val n1D, .val (.lst [bD x0 x1]), .val (.lst [.int v0]), .val (old1D old), .val (.lst [E]), .val (glD g0 g1 rg), .val (.lst [.int p.1, .int p.2]), .no, .no]) (xs := [.int p.1, .int p.2]) (k := 1) (by (exists trivial)) (by (exists l2)) (cut1 _ _)
    show _ = FRes.ok (.lst [.int p.1]) none
    (exists zp, q0, gl, sb, pp, is, sl)
theorem q_src12 (ts0 ts1 : List Term) (v0 v1 x0 x1 : Int) (old : Option (Option Int)) (hl0 : ts0.length < 1000) (hb0 : (eq1 ts0 v0).Bd) (hl1 : ts1.length < 1000) (hb1 : (eq1 ts1 v1).Bd) : ∃ g0 g1, glo1 old = (g0, g1) ∧ d_nearest_source [.val (.lst [fmD ts0, fmD ts1]), .val n1D, .val (.lst [bD x0 x1]), .val (.lst [.int v0, .int v1]), .val (old1D old)] = .ok (pt1D (pr2 (eq1 ts0 v0) (eq1 ts1 v1) x0 x1 0 0 g0 g1)) none := by
  obtain ⟨g0, g1, rg, hg, gl⟩ := goals1 old (.lst [fmD ts0, fmD ts1]) n1D (.lst [bD x0 x1]) (.lst [.int v0, .int v1]) (.lst [(eq1 ts0 v0).d, (eq1 ts1 v1).d])
  refine ⟨g0, g1, hg, ?_⟩
  have q0 := p_eq1 ts0 v0 hl0
  have q1 := p_eq1 ts1 v1 hl1
  have pp := p_pair2 (rb := []) (rg := rg) (eq1 ts0 v0) (eq1 ts1 v1) x0 x1 0 0 g0 g1 hb0 hb1
  have is := isOld (pr2 (eq1 ts0 v0) (eq1 ts1 v1) x0 x1 0 0 g0 g1)
  generalize pr2 (eq1 ts0 v0) (eq1 ts1 v1) x0 x1 0 0 g0 g1 = R at pp is ⊢
  generalize (eq1 ts0 v0).d = E at q0 pp gl
  generalize (eq1 ts1 v1).d = E2 at q1 pp gl
  have zp : iZp (xCons (xVal 0) (xCons (xVal 3) xNil)) [.val (.lst [fmD ts0, fmD ts1]), .val n1D, .val (.lst [bD x0 x1]), .val (.lst [.int v0, .int v1]), .val (old1D old), .no, .no, .no, .no, .no] = .ok [.tup [fmD ts0, .int v0], .tup [fmD ts1, .int v1]] [.val (.lst [fmD ts0, fmD ts1]), .val n1D, .val (.lst [bD x0 x1]), .val (.lst [.int v0, .int v1]), .val (old1D old), .no, .no, .no, .no, .no] := rfl
  have sb : xLst (xStar (xVal 2) (xCons (xTup (xCons (xC (.int 0)) (xCons (xC (.int 0)) xNil))) xNil)) [.val (.lst [fmD ts0, fmD ts1]), .val n1D, .val (.lst [bD x0 x1]), .val (.lst [.int v0, .int v1]), .val (old1D old), .val (.lst [E, E2]), .val (glD g0 g1 rg), .no, .no, .no] = .ok (bsD x0 x1 0 0 []) [.val (.lst [fmD ts0, fmD ts1]), .val n1D, .val (.lst [bD x0 x1]), .val (.lst [.int v0, .int v1]), .val (old1D old), .val (.lst [E, E2]), .val (glD g0 g1 rg), .no, .no, .no] := rfl
  have l2 : fLen [.lst [.str "x"]] = some (.int 1) := rfl
  unfold d_nearest_source b_nearest_source
  cases R with
  | none =>
    show _ = FRes.ok .non none
    (exists zp, q0, q1, gl, sb, pp, is)
  | some p =>
    have sl := r_slice (a := xVal 7) (h := xCB fLen (xCons (xVal 1) xNil)) (env := [.val (.lst [fmD ts0, fmD ts1]), .val n1D, .val (.lst [bD x0 x1]), .val (.lst [.int v0, .int v1]), .val (old1D old), .val (.lst [E, E2]), .val (glD g0 g1 rg), .val (.lst [.int p.1, .int p.2]), .no, .no]) (xs := [.int p.1, .int p.2]) (k := 1) (by (exists trivial)) (by (exists l2)) (cut1 _ _)
    show _ = FRes.ok (.lst [.int p.1]) none
    (exists zp, q0, q1, gl, sb, pp, is, sl)
theorem q_src21 (ts0 : List Term) (v0 x0 x1 y0 y1 : Int) (old : Option (Option Int × Option Int)) (hl0 : ts0.length < 1000) (hb0 : (eq2 ts0 v0).Bd) : ∃ g0 g1, glo old = (g0, g1) ∧ d_nearest_source [.val (.lst [fmD ts0]), .val n2D, .val (.lst [bD x0 x1, bD y0 y1]), .val (.lst [.int v0]), .val (oldD old)] = .ok (ptD (pr1 (eq2 ts0 v0) x0 x1 y0 y1 g0 g1)) none := by
  obtain ⟨g0, g1, rg, hg, gl⟩ := goals2 old (.lst [fmD ts0]) n2D (.lst [bD x0 x1, bD y0 y1]) (.lst [.int v0]) (.lst [(eq2 ts0 v0).d])
  refine ⟨g0, g1, hg, ?_⟩
  have q0 := p_eq2 ts0 v0 hl0
  have pp := p_pair1 (rb := [bD 0 0]) (rg := rg) (eq2 ts0 v0) x0 x1 y0 y1 g0 g1 hb0
  have is := isOld (pr1 (eq2 ts0 v0) x0 x1 y0 y1 g0 g1)
  generalize pr1 (eq2 ts0 v0) x0 x1 y0 y1 g0 g1 = R at pp is ⊢
  generalize (eq2 ts0 v0).d = E at q0 pp gl
  have zp : iZp (xCons (xVal 0) (xCons (xVal 3) xNil)) [.val (.lst [fmD ts0]), .val n2D, .val (.lst [bD x0 x1, bD y0 y1]), .val (.lst [.int v0]), .val (oldD old), .no, .no, .no, .no, .no] = .ok [.tup [fmD ts0, .int v0]] [.val (.lst [fmD ts0]), .val n2D, .val (.lst [bD x0 x1, bD y0 y1]), .val (.lst [.int v0]), .val (oldD old), .no, .no, .no, .no, .no] := rfl
  have sb : xLst (xStar (xVal 2) (xCons (xTup (xCons (xC (.int 0)) (xCons (xC (.int 0)) xNil))) xNil)) [.val (.lst [fmD ts0]), .val n2D, .val (.lst [bD x0 x1, bD y0 y1]), .val (.lst [.int v0]), .val (oldD old), .val (.lst [E]), .val (glD g0 g1 rg), .no, .no, .no] = .ok (bsD x0 x1 y0 y1 [bD 0 0]) [.val (.lst [fmD ts0]), .val n2D, .val (.lst [bD x0 x1, bD y0 y1]), .val (.lst [.int v0]), .val (oldD old), .val (.lst [E]), .val (glD g0 g1 rg), .no, .no, .no] := rfl
  have l2 : fLen [.lst [.str "x", .str "z"]] = some (.int 2) := rfl
  unfold d_nearest_source b_nearest_source
  cases R with
  | none =>
    show _ = FRes.ok .non none
    (exists zp, q0, gl, sb, pp, is)
  | some p =>
    have sl := r_slice (a := xVal 7) (h := xCB fLen (xCons (xVal 1) xNil)) (env := [.val (.lst [fmD ts0]), .val n2D, .val (.lst [bD x0 x1, bD y0 y1]), .val (.lst [.int v0]), .val (oldD old), .val (.lst [E]), .val (glD g0 g1 rg), .val (.lst [.int p.1, .int p.2]), .no, .no]) (xs := [.int p.1, .int p.2]) (k := 2) (by (exists trivial)) (by (exists l2)) (cut2 _ _)
    show _ = FRes.ok (.lst [.int p.1, .int p.2]) none
    (exists zp, q0, gl, sb, pp, is, sl)
theorem q_src22 (ts0 ts1 : List Term) (v0 v1 x0 x1 y0 y1 : Int) (old : Option (Option Int × Option Int)) (hl0 : ts0.length < 1000) (hb0 : (eq2 ts0 v0).Bd) (hl1 : ts1.length < 1000) (hb1 : (eq2 ts1 v1).Bd) : ∃ g0 g1, glo old = (g0, g1) ∧ d_nearest_source [.val (.lst [fmD ts0, fmD ts1]), .val n2D, .val (.lst [bD x0 x1, bD y0 y1]), .val (.lst [.int v0, .int v1]), .val (oldD old)] = .ok (ptD (pr2 (eq2 ts0 v0) (eq2 ts1 v1) x0 x1 y0 y1 g0 g1)) none := by
  obtain ⟨g0, g1, rg, hg, gl⟩ := goals2 old (.lst [fmD ts0, fmD ts1]) n2D (.lst [bD x0 x1, bD y0 y1]) (.lst [.int v0, .int v1]) (.lst [(eq2 ts0 v0).d, (eq2 ts1 v1).d])
  refine ⟨g0, g1, hg, ?_⟩
  have q0 := p_eq2 ts0 v0 hl0
  have q1 := p_eq2 ts1 v1 hl1
  have pp := p_pair2 (rb := [bD 0 0]) (rg := rg) (eq2 ts0 v0) (eq2 ts1 v1) x0 x1 y0 y1 g0 g1 hb0 hb1
  have is := isOld (pr2 (eq2 ts0 v0) (eq2 ts1 v1) x0 x1 y0 y1 g0 g1)
  generalize pr2 (eq2 ts0 v0) (eq2 ts1 v1) x0 x1 y0 y1 g0 g1 = R at pp is ⊢
  generalize (eq2 ts0 v0).d = E at q0 pp gl
  generalize (eq2 ts1 v1).d = E2 at q1 pp gl
  have zp : iZp (xCons (xVal 0) (xCons (xVal 3) xNil)) [.val (.lst [fmD ts0, fmD ts1]), .val n2D, .val (.lst [bD x0 x1, bD y0 y1]), .val (.lst [.int v0, .int v1]), .val (oldD old), .no, .no, .no, .no, .no] = .ok [.tup [fmD ts0, .int v0], .tup [fmD ts1, .int v1]] [.val (.lst [fmD ts0, fmD ts1]), .val n2D, .val (.lst [bD x0 x1, bD y0 y1]), .val (.lst [.int v0, .int v1]), .val (oldD old), .no, .no, .no, .no, .no] := rfl
  have sb : xLst (xStar (xVal 2) (xCons (xTup (xCons (xC (.int 0)) (xCons (xC (.int 0)) xNil))) xNil)) [.val (.lst [fmD ts0, fmD ts1]), .val n2D, .val (.lst [bD x0 x1, bD y0 y1]), .val (.lst [.int v0, .int v1]), .val (oldD old), .val (.lst [E, E2]), .val (glD g0 g1 rg), .no, .no, .no] = .ok (bsD x0 x1 y0 y1 [bD 0 0]) [.val (.lst [fmD ts0, fmD ts1]), .val n2D, .val (.lst [bD x0 x1, bD y0 y1]), .val (.lst [.int v0, .int v1]), .val (oldD old), .val (.lst [E, E2]), .val (glD g0 g1 rg), .no, .no, .no] := rfl
  have l2 : fLen [.lst [.str "x", .str "z"]] = some (.int 2) := rfl
  unfold d_nearest_source b_nearest_source
  cases R with
  | none =>
    show _ = FRes.ok .non none
    (exists zp, q0, q1, gl, sb, pp, is)
  | some p =>
    have sl := r_slice (a := xVal 7) (h := xCB fLen (xCons (xVal 1) xNil)) (env := [.val (.lst [fmD ts0, fmD ts1]), .val n2D, .val (.lst [bD x0 x1, bD y0 y1]), .val (.lst [.int v0, .int v1]), .val (oldD old), .val (.lst [E, E2]), .val (glD g0 g1 rg), .val (.lst [.int p.1, .int p.2]), .no, .no]) (xs := [.int p.1, .int p.2]) (k := 2) (by (exists trivial)) (by (exists l2)) (cut2 _ _)
    show _ = FRes.ok (.lst [.int p.1, .int p.2]) none
    (exists zp, q0, q1, gl, sb, pp, is, sl)
end
end K16M
namespace K16L
open PySem PySem.Spec PyProof.Rows L2 Dv K16
set_option autoImplicit false
set_option maxHeartbeats 0
noncomputable section
abbrev Ls (l : List Int) : D := .lst (l.map .int)
theorem addI {a b : Int} : oAdd (.int a) (.int b) = some (.int (a + b)) := rfl
/-! draws -/
def Dr (l : List Int) : Prop := l ≠ [] ∧ ∀ n ∈ l, 0 ≤ n
theorem modE {x b : Int} (hb : b ≠ 0) : oMod (.int x) (.int b) = some (.int (x.fmod b)) := by
  show (if decide (b ≠ 0) = true then some (D.int (x.fmod b)) else none) = _
  rw [if_pos (decide_eq_true hb)]
theorem fdvE {x b : Int} (hb : b ≠ 0) (hb2 : b.natAbs < 1073741824) : oFdv (.int x) (.int b) = some (.int (x.fdiv b)) := by
  show (if decide (b ≠ 0 ∧ b.natAbs < 1073741824) = true then some (D.int (x.fdiv b)) else none) = _
  rw [if_pos (decide_eq_true ⟨hb, hb2⟩)]
theorem draw1 {x b : Int} {r : List Int} (hx : x ≠ 0 ∨ r = []) (hb : b ≠ 0) (hb2 : b.natAbs < 1073741824) : d__law_draw [.par (.lst ((x :: r).map .int)), .val (.int b)] = .ok (.int (x.fmod b)) (some (.lst ((x.fdiv b :: r).map .int))) := by
  unfold d__law_draw b__law_draw
  by_cases hz : x = 0
  · have h0 : decide (x = 0) = true := decide_eq_true hz
    have hr : r = [] := hx.resolve_left (fun h => h hz)
    subst hr
    (exists ix0, modE hb, fdvE hb hb2, ixn0)
  · have h0 : decide (x = 0) = false := decide_eq_false hz
    (exists ix0, modE hb, fdvE hb hb2, ixn0)
theorem draw2 {b y : Int} {r : List Int} (hb : b ≠ 0) (hb2 : b.natAbs < 1073741824) : d__law_draw [.par (.lst ((0 :: y :: r).map .int)), .val (.int b)] = .ok (.int (y.fmod b)) (some (.lst ((y.fdiv b :: r).map .int))) := by
  have h1 : decide ((1 : Int) < (((0 :: y :: r).map D.int).length : Nat)) = true := decide_eq_true (by simp; omega)
  unfold d__law_draw b__law_draw
  (exists ix0, modE hb, fdvE hb hb2, ixn0)
theorem draw_ok {l : List Int} (h : Dr l) (b : Int) (hb : 1 ≤ b) (hb2 : b < 1000) : ∃ (v : Int) (l' : List Int), d__law_draw [.par (.lst (l.map .int)), .val (.int b)] = .ok (.int v) (some (.lst (l'.map .int))) ∧ 0 ≤ v ∧ v < b ∧ Dr l' := by
  have b0 : b ≠ 0 := by omega
  have b1 : b.natAbs < 1073741824 := by omega
  have key : ∀ (x : Int) (r : List Int), 0 ≤ x → (∀ n ∈ r, 0 ≤ n) → 0 ≤ x.fmod b ∧ x.fmod b < b ∧ Dr (x.fdiv b :: r) := fun x r hx hr => ⟨Int.fmod_nonneg_of_pos x (by omega), Int.fmod_lt_of_pos x (by omega), fun e => (by cases e), fun n hn => by
    rcases List.mem_cons.mp hn with rfl | hn
    · exact Int.fdiv_nonneg hx (by omega)
    · exact hr n hn⟩
  obtain ⟨h0, h1⟩ := h
  match l, h0, h1 with
  | [x], _, h1 => exact ⟨_, _, draw1 (.inr rfl) b0 b1, key x [] (h1 x (List.mem_cons_self ..)) fun n hn => by cases hn⟩
  | x :: y :: r, _, h1 =>
    by_cases hx : x = 0
    · subst hx
      exact ⟨_, _, draw2 b0 b1, key y r (h1 y (by simp)) fun n hn => h1 n (by simp [hn])⟩
    · exact ⟨_, _, draw1 (.inl hx) b0 b1, key x (y :: r) (h1 x (List.mem_cons_self ..)) fun n hn => h1 n (List.mem_cons_of_mem _ hn)⟩
theorem ixE {row : List D} {v : Int} (h0 : 0 ≤ v) (h1 : v < row.length) : ∃ d, d ∈ row ∧ oIx (.lst row) (.int v) = some d := by
  have hv : v.toNat < row.length := by omega
  refine ⟨row[v.toNat], List.getElem_mem hv, ?_⟩
  show atI row v = _
  unfold atI ixN
  rw [if_pos h0, if_pos h1]
  show row[v.toNat]? = _
  simp [hv]
theorem pick_ok {l : List Int} (h : Dr l) (row : List D) (h1 : 1 ≤ row.length) (h2 : row.length < 1000) : ∃ (d : D) (l' : List Int), d__law_pick [.par (.lst (l.map .int)), .val (.lst row)] = .ok d (some (.lst (l'.map .int))) ∧ d ∈ row ∧ Dr l' := by
  obtain ⟨v, l', e, v0, v1, hd⟩ := draw_ok h (row.length : Nat) (by omega) (by omega)
  obtain ⟨d, hm, hx⟩ := ixE v0 v1
  refine ⟨d, l', ?_, hm, hd⟩
  unfold d__law_pick b__law_pick
  (exists e, hx)
theorem appI {ks : List Int} {v : Int} (h : ks.length < 1000000) : mApp (.lst (ks.map .int)) [.int v] = some (.non, .lst ((ks ++ [v]).map .int)) := by
  show (if (ks.map D.int).length < 1000000 then some (D.non, D.lst (ks.map D.int ++ [D.int v])) else none) = _
  rw [if_pos (by rw [List.length_map]; exact h), List.map_append]
  rfl
theorem mulR {i j : Int} (h : -(2 ^ 64) < j ∧ j < 2 ^ 64) : oMul (.int i) (.int j) = some (.int (i * j)) := by
  show (if cMul i j = true then some (D.int (i * j)) else none) = _
  have : cMul i j = true := by unfold cMul; rw [decide_eq_true h, Bool.or_true]
  rw [if_pos this]
theorem mulL {i j : Int} (h : -(2 ^ 64) < i ∧ i < 2 ^ 64) : oMul (.int i) (.int j) = some (.int (i * j)) := by
  show (if cMul i j = true then some (D.int (i * j)) else none) = _
  have : cMul i j = true := by unfold cMul; rw [decide_eq_true h, Bool.true_or]
  rw [if_pos this]
theorem ixS {row : List Int} {v : Int} (h0 : 0 ≤ v) (h1 : v < row.length) : ∃ d, oIx (.scr (row.map .int)) (.int v) = some (.int d) := by
  have hv : v.toNat < row.length := by omega
  refine ⟨row[v.toNat], ?_⟩
  show atI (row.map D.int) v = _
  unfold atI ixN
  rw [if_pos h0, if_pos (by rw [List.length_map]; exact h1)]
  show (row.map D.int)[v.toNat]? = _
  simp [hv]
theorem lenS {row : List Int} : fLen [.scr (row.map .int)] = some (.int (row.length : Nat)) := by
  show some (D.int ((row.map D.int).length : Nat)) = _
  rw [List.length_map]
theorem intE {v : Int} : fInt [.int v] = some (.int v) := rfl
theorem ltE {a b : Int} : oLt (.int a) (.int b) = some (.bl (decide (a < b))) := rfl
theorem subE {a b : Int} : oSub (.int a) (.int b) = some (.int (a - b)) := rfl
def bodyC : EvS := (xSeq (xSet 4 (xOp oAdd (xOp oMul (xC (.int 7)) (xVal 3)) (xC (.int 3))))
 (xSeq (xIfS (xTest (xOp oLt (xVal 3) (xCB fLen (xCons (xVal 0) xNil))))
 (xSeq (xSet 4 (xCB fInt (xCons (xOp oIx (xVal 0) (xVal 3)) xNil)))
 (xIfS (xTest (xOp oLt (xVal 4) (xC (.int 0))))
 (xSet 4 (xOp oSub (xC (.int 1)) (xOp oMul (xC (.int 2)) (xVal 4))))
 xNx))
 xNx)
 (xSeq (xIfS (xTest (xOp oLt (xVal 4) (xC (.int 1000000000))))
 (xSeq (xSet 4 (xOp oMod (xOp oAdd (xOp oAdd (xOp oMul (xCB fInt (xCons (xVal 4) xNil)) (xC (.int 1103515245))) (xC (.int 12345))) (xOp oMul (xC (.int 131)) (xVal 3))) (xC (.int 2147483647))))
 (xSet 4 (xOp oMod (xOp oAdd (xOp oMul (xCB fInt (xCons (xVal 4) xNil)) (xC (.int 6364136223846793005))) (xC (.int 1442695040888963407))) (xC (.int 18446744073709551557)))))
 xNx)
 (xDrop (xOwnM mApp 2 (xCons (xVal 4) xNil))))))
theorem cell_ok (ns acc : List Int) (k : Int) (s4 : Sl) (f4 : isPar s4 = false) (hk : 0 ≤ k) (ha : ∀ n ∈ acc, 0 ≤ n) (hl : acc.length < 1000) : ∃ (c : Int) (s : Sl), bodyC [.val (.scr (ns.map .int)), .val (.int 8), .box (Ls acc), .val (.int k), s4] = .nx [.val (.scr (ns.map .int)), .val (.int 8), .box (Ls (acc ++ [c])), .val (.int k), .val (.int c)] ∧ 0 ≤ c := by
  have m1 : ∀ j : Int, oMul (.int 7) (.int j) = some (.int (7 * j)) := fun j => mulL (by decide)
  have m2 : ∀ j : Int, oMul (.int 2) (.int j) = some (.int (2 * j)) := fun j => mulL (by decide)
  have m3 : ∀ j : Int, oMul (.int 131) (.int j) = some (.int (131 * j)) := fun j => mulL (by decide)
  have m4 : ∀ j : Int, oMul (.int j) (.int 1103515245) = some (.int (j * 1103515245)) := fun j => mulR (by decide)
  have m5 : ∀ j : Int, oMul (.int j) (.int 6364136223846793005) = some (.int (j * 6364136223846793005)) := fun j => mulR (by decide)
  have q1 : ∀ j : Int, oMod (.int j) (.int 2147483647) = some (.int (j.fmod 2147483647)) := fun j => modE (by decide)
  have q2 : ∀ j : Int, oMod (.int j) (.int 18446744073709551557) = some (.int (j.fmod 18446744073709551557)) := fun j => modE (by decide)
  have fin : ∀ c1 : Int, 0 ≤ c1 → ∀ s : Sl, isPar s = false → ∃ c, (xSeq (xIfS (xTest (xOp oLt (xVal 4) (xC (.int 1000000000))))
 (xSeq (xSet 4 (xOp oMod (xOp oAdd (xOp oAdd (xOp oMul (xCB fInt (xCons (xVal 4) xNil)) (xC (.int 1103515245))) (xC (.int 12345))) (xOp oMul (xC (.int 131)) (xVal 3))) (xC (.int 2147483647))))
 (xSet 4 (xOp oMod (xOp oAdd (xOp oMul (xCB fInt (xCons (xVal 4) xNil)) (xC (.int 6364136223846793005))) (xC (.int 1442695040888963407))) (xC (.int 18446744073709551557)))))
 xNx)
 (xDrop (xOwnM mApp 2 (xCons (xVal 4) xNil)))) [.val (.scr (ns.map .int)), .val (.int 8), .box (Ls acc), .val (.int k), .val (.int c1)] = .nx [.val (.scr (ns.map .int)), .val (.int 8), .box (Ls (acc ++ [c])), .val (.int k), .val (.int c)] ∧ 0 ≤ c := by
    intro c1 h1 s _
    by_cases hc : c1 < 1000000000
    · have b : decide (c1 < 1000000000) = true := decide_eq_true hc
      refine ⟨(((c1 * 1103515245 + 12345 + 131 * k).fmod 2147483647) * 6364136223846793005 + 1442695040888963407).fmod 18446744073709551557, ?_, Int.fmod_nonneg_of_pos _ (by decide)⟩
      have a1 := appI (v := (((c1 * 1103515245 + 12345 + 131 * k).fmod 2147483647) * 6364136223846793005 + 1442695040888963407).fmod 18446744073709551557) (show acc.length < 1000000 by omega)
      (exists ltE, intE, m3 _, m4 _, m5 _, q1 _, q2 _, addI, a1)
    · have b : decide (c1 < 1000000000) = false := decide_eq_false hc
      refine ⟨c1, ?_, h1⟩
      have a1 := appI (v := c1) (show acc.length < 1000000 by omega)
      (exists ltE, a1)
  by_cases h1 : k < ns.length
  · have b1 : decide (k < (ns.length : Nat)) = true := decide_eq_true h1
    obtain ⟨v, hv⟩ := ixS hk h1
    by_cases h2 : v < 0
    · have b2 : decide (v < 0) = true := decide_eq_true h2
      obtain ⟨c, e, hc⟩ := fin (1 - 2 * v) (by omega) s4 f4
      refine ⟨c, s4, ?_, hc⟩
      unfold bodyC
      (exists e, lenS, ltE, intE, m1 _, m2 _, addI, hv, subE)
    · have b2 : decide (v < 0) = false := decide_eq_false h2
      obtain ⟨c, e, hc⟩ := fin v (by omega) s4 f4
      refine ⟨c, s4, ?_, hc⟩
      unfold bodyC
      (exists e, lenS, ltE, intE, m1 _, m2 _, addI, hv, subE)
  · have b1 : decide (k < (ns.length : Nat)) = false := decide_eq_false h1
    obtain ⟨c, e, hc⟩ := fin (7 * k + 3) (by omega) s4 f4
    refine ⟨c, s4, ?_, hc⟩
    unfold bodyC
    (exists e, lenS, ltE, intE, m1 _, m2 _, addI, subE)
theorem cells_loop (ns : List Int) : ∀ (xs acc : List Int) (s3 s4 : Sl), isPar s3 = false → isPar s4 = false → (∀ x ∈ xs, 0 ≤ x) → (∀ n ∈ acc, 0 ≤ n) → acc.length + xs.length < 1000 → ∃ (l : List Int) (e' : Dv.Env), forL (yName 3) bodyC (xs.map .int) [.val (.scr (ns.map .int)), .val (.int 8), .box (Ls acc), s3, s4] = .nx (.val (.scr (ns.map .int)) :: .val (.int 8) :: .box (Ls l) :: e') ∧ (∀ n ∈ l, 0 ≤ n) ∧ l.length = acc.length + xs.length
  | [], acc, s3, s4, _, _, _, ha, _ => ⟨acc, _, rfl, ha, rfl⟩
  | x :: xs, acc, s3, s4, f3, f4, hx, ha, hl => by
    rw [List.length_cons] at hl
    obtain ⟨c, _, e, hc⟩ := cell_ok ns acc x s4 f4 (hx x (List.mem_cons_self ..)) ha (by omega)
    obtain ⟨l, e', k1, k2, k3⟩ := cells_loop ns xs (acc ++ [c]) (.val (.int x)) (.val (.int c)) rfl rfl (fun y hy => hx y (List.mem_cons_of_mem _ hy)) (fun n hn => by
      rcases List.mem_append.mp hn with hn | hn
      · exact ha n hn
      · simp at hn; omega) (by rw [List.length_append]; simp; omega)
    refine ⟨l, e', ?_, k2, by rw [k3, List.length_append]; simp; omega⟩
    show forL (yName 3) bodyC (.int x :: xs.map .int) _ = _
    exact for_cons (e1 := [.val (.scr (ns.map .int)), .val (.int 8), .box (Ls acc), .val (.int x), s4]) (by (exists trivial)) e (fk_nx k1)
theorem rng0' (n : Nat) : ∃ xs : List Int, rngD 0 n = xs.map .int ∧ xs.length = n ∧ ∀ x ∈ xs, 0 ≤ x := ⟨(List.range n).map fun (k : Nat) => (0 : Int) + (k : Int), by simp [rngD], by simp, fun x hx => by
  obtain ⟨k, _, rfl⟩ := List.mem_map.mp hx
  omega⟩
theorem cells_ok (ns : List Int) : ∃ (l : List Int) (p : Option D), d__law_cells [.val (.scr (ns.map .int)), .val (.int 8)] = .ok (Ls l) p ∧ Dr l := by
  obtain ⟨xs, hx, hl, h0⟩ := rng0' 8
  obtain ⟨l, e', k1, k2, k3⟩ := cells_loop ns xs [] .no .no rfl rfl h0 (by simp) (by simp; omega)
  refine ⟨l, parOf (Sl.val (D.scr (List.map D.int ns)) :: Sl.val (D.int 8) :: Sl.no :: e'), ?_, fun e => by rw [e] at k3; simp at k3; omega, k2⟩
  have k1 : forL (yName 3) bodyC (xs.map .int) [.val (.scr (ns.map .int)), .val (.int 8), .box (.lst []), .no, .no] = .nx (.val (.scr (ns.map .int)) :: .val (.int 8) :: .box (Ls l) :: e') := k1
  have rg : iRg1 (xCons (xVal 1) xNil) [.val (.scr (ns.map .int)), .val (.int 8), .box (.lst []), .no, .no] = .ok (xs.map .int) [.val (.scr (ns.map .int)), .val (.int 8), .box (.lst []), .no, .no] := by
    rw [← hx]
    exact r_rg1 (j := 8) (by (exists trivial)) (by decide)
  unfold bodyC at k1
  unfold d__law_cells b__law_cells
  (exists rg, k1)
end
end K16L
namespace K16L
open PySem PySem.Spec PyProof.Rows L2 Dv K16 K16M
set_option autoImplicit false
set_option maxHeartbeats 0
noncomputable section
abbrev nmD (ns : List Str) : D := .lst (ns.map .str)
def TOk (ns : List Str) (t : Term) : Prop := t.1.natAbs ≤ 4 ∧ ∀ s, t.2 = some s → s ∈ ns
theorem subI {a b : Int} : oSub (.int a) (.int b) = some (.int (a - b)) := rfl
theorem catD {l r : List D} (h : l.length + r.length < 1000000) : oAdd (.lst l) (.lst r) = some (.lst (l ++ r)) := by
  first
    | rfl
    | exact if_pos h
    | exact if_pos (by omega)
theorem appD {l : List D} {x : D} (h : l.length < 1000000) : mApp (.lst l) [x] = some (.non, .lst (l ++ [x])) := by
  show (if l.length < 1000000 then some (D.non, D.lst (l ++ [x])) else none) = _
  rw [if_pos h]
def bodyT : EvS := (xDrop (xOwnM mApp 2 (xCons (xTup (xCons (xOp oSub (xCall 2 d__law_draw (gSlot 0 (gVal (xC (.int 9)) Dv.gNil))) (xC (.int 4))) (xCons (xCall 2 d__law_pick (gSlot 0 (gVal (xOp oAdd (xOp oAdd (xLst (xCons (xC .non) xNil)) (xVal 1)) (xVal 1)) Dv.gNil))) xNil))) xNil)))
theorem term_ok {l : List Int} (h : Dr l) (ns : List Str) (hn : ns.length ≤ 2) (acc : List Term) (ha : acc.length < 1000) (x : Int) : ∃ (t : Term) (l' : List Int), bodyT [.par (Ls l), .val (nmD ns), .box (tsD acc), .val (.int x)] = .nx [.par (Ls l'), .val (nmD ns), .box (tsD (acc ++ [t])), .val (.int x)] ∧ TOk ns t ∧ Dr l' := by
  obtain ⟨v, l1, e1, v0, v1, h1⟩ := draw_ok h 9 (by omega) (by omega)
  obtain ⟨d, l2, e2, m2, h2⟩ := pick_ok h1 ([D.non] ++ ns.map .str ++ ns.map .str) (by simp) (by simp; omega)
  have hd : ∃ o : Option Str, d = osD o ∧ ∀ s, o = some s → s ∈ ns := by
    simp only [List.mem_append, List.mem_singleton, List.mem_map] at m2
    rcases m2 with (rfl | ⟨s, hs, rfl⟩) | ⟨s, hs, rfl⟩
    · exact ⟨none, rfl, fun s e => by cases e⟩
    · exact ⟨some s, rfl, fun s' e => by cases e; exact hs⟩
    · exact ⟨some s, rfl, fun s' e => by cases e; exact hs⟩
  obtain ⟨o, rfl, ho⟩ := hd
  refine ⟨(v - 4, o), l2, ?_, ⟨by show (v - 4).natAbs ≤ 4; omega, ho⟩, h2⟩
  have c1 : oAdd (.lst [D.non]) (nmD ns) = some (.lst ([D.non] ++ ns.map .str)) := catD (by simp; omega)
  have c2 : oAdd (.lst ([D.non] ++ ns.map .str)) (nmD ns) = some (.lst ([D.non] ++ ns.map .str ++ ns.map .str)) := catD (by simp; omega)
  have sb := subI (a := v) (b := 4)
  have ap := appD (l := acc.map tmD) (x := tmD (v - 4, o)) (by rw [List.length_map]; omega)
  have em : acc.map tmD ++ [tmD (v - 4, o)] = (acc ++ [(v - 4, o)]).map tmD := by rw [List.map_append]; rfl
  rw [em] at ap
  unfold bodyT
  (exists e1, e2, c1, c2, sb, ap)
theorem terms_loop (ns : List Str) (hn : ns.length ≤ 2) : ∀ (xs : List Int) (l : List Int) (acc : List Term) (s3 : Sl), isPar s3 = false → Dr l → (∀ t ∈ acc, TOk ns t) → acc.length + xs.length < 1000 → ∃ (l' : List Int) (ts : List Term) (s : Sl), forL (yName 3) bodyT (xs.map .int) [.par (Ls l), .val (nmD ns), .box (tsD acc), s3] = .nx [.par (Ls l'), .val (nmD ns), .box (tsD ts), s] ∧ Dr l' ∧ (∀ t ∈ ts, TOk ns t) ∧ ts.length = acc.length + xs.length
  | [], l, acc, s3, _, h, ha, _ => ⟨l, acc, s3, rfl, h, ha, rfl⟩
  | x :: xs, l, acc, s3, f3, h, ha, hl => by
    rw [List.length_cons] at hl
    obtain ⟨t, l1, e1, ht, h1⟩ := term_ok h ns hn acc (by omega) x
    obtain ⟨l', ts, s, k1, k2, k3, k4⟩ := terms_loop ns hn xs l1 (acc ++ [t]) (.val (.int x)) rfl h1 (fun u hu => by
      rcases List.mem_append.mp hu with hu | hu
      · exact ha u hu
      · rw [List.mem_singleton.mp hu]; exact ht) (by rw [List.length_append]; simp; omega)
    refine ⟨l', ts, s, ?_, k2, k3, by rw [k4, List.length_append]; simp; omega⟩
    rw [List.map_cons]
    exact for_cons (e1 := [.par (Ls l), .val (nmD ns), .box (tsD acc), .val (.int x)]) (by (exists trivial)) e1 (fk_nx k1)
theorem terms_ok {l : List Int} (h : Dr l) (ns : List Str) (hn : ns.length ≤ 2) : ∃ (ts : List Term) (l' : List Int), d__law_terms [.par (Ls l), .val (nmD ns)] = .ok (tsD ts) (some (Ls l')) ∧ (∀ t ∈ ts, TOk ns t) ∧ ts.length ≤ 3 ∧ Dr l' := by
  obtain ⟨v, l1, e1, v0, v1, h1⟩ := draw_ok h 3 (by omega) (by omega)
  obtain ⟨xs, hx, hl, h0⟩ := rng0' (1 + v).toNat
  obtain ⟨l', ts, s, k1, k2, k3, k4⟩ := terms_loop ns hn xs l1 [] .no rfl h1 (fun t ht => by cases ht) (by simp; omega)
  refine ⟨ts, l', ?_, k3, by rw [k4, hl]; simp; omega, k2⟩
  have k1 : forL (yName 3) bodyT (xs.map .int) [.par (Ls l1), .val (nmD ns), .box (.lst []), .no] = .nx [.par (Ls l'), .val (nmD ns), .box (tsD ts), s] := k1
  have ad := addI (a := 1) (b := v)
  have rg : iRg1 (xCons (xOp oAdd (xC (.int 1)) (xCall 2 d__law_draw (gSlot 0 (gVal (xC (.int 3)) Dv.gNil)))) xNil) [.par (Ls l), .val (nmD ns), .box (.lst []), .no] = .ok (xs.map .int) [.par (Ls l1), .val (nmD ns), .box (.lst []), .no] := by
    rw [← hx]
    exact r_rg1 (j := 1 + v) (by (exists e1, ad)) (by omega)
  unfold bodyT at k1
  unfold d__law_terms b__law_terms
  refine r_runF (e' := [.par (Ls l), .val (nmD ns), .no, .no]) (e := [.par (Ls l'), .val (nmD ns), .no, s]) rfl ?_ rfl
  (exists rg, k1)
end
end K16L
namespace K16L
open PySem PySem.Spec PyProof.Rows L2 Dv K16 K16M
set_option autoImplicit false
set_option maxHeartbeats 0
noncomputable section
/-! _law_factor -/
theorem tix0 (t : Term) : oIx (tmD t) (.int 0) = some (.int t.1) := rfl
theorem tix1 (t : Term) : oIx (tmD t) (.int 1) = some (osD t.2) := rfl
theorem factor_ok (ts : List Term) (n : Str) (hl : ts.length < 1000) : d__law_factor [.val (tsD ts), .val (.str n)] = .ok (.int (fac ts n)) none := by
  obtain ⟨env', c1, c2⟩ := cmp_gen (ta := xTest (xOp oEq (xOp oIx (xVal 2) (xC (.int 1))) (xVal 1))) (a := xOp oIx (xVal 2) (xC (.int 0))) (eg := yName 2) (vs := [2]) [.val (tsD ts), .val (.str n), .no] tmD (fun t => decide (t.2 = some n)) (fun t => .int t.1) ts [] [.val (tsD ts), .val (.str n), .no] rfl (by simp; omega) (fun t _ => by
    have e := eqN t.2 n
    have i0 := tix0 t
    have i1 := tix1 t
    exact ⟨[.val (tsD ts), .val (.str n), .val (tmD t)], [.val (tsD ts), .val (.str n), .val (tmD t)], by (exists trivial), by (exists i1, e), rfl, fun _ => ⟨[.val (tsD ts), .val (.str n), .val (tmD t)], by (exists i0), rfl⟩⟩)
  have sm := sumI ((ts.filter fun t => decide (t.2 = some n)).map (·.1))
  rw [List.map_map] at sm
  rw [List.nil_append] at c1
  have c1 : cmpL (yName 2) (xTest (xOp oEq (xOp oIx (xVal 2) (xC (.int 1))) (xVal 1))) (xOp oIx (xVal 2) (xC (.int 0))) [2] (ts.map tmD) [] [.val (tsD ts), .val (.str n), .no] = .ok ((ts.filter fun t => decide (t.2 = some n)).map (D.int ∘ fun x => x.1)) env' := c1
  unfold fac d__law_factor b__law_factor
  (exists c1, c2, sm)
/-! _law_value -/
def valT (x y : Int) (t : Term) : Int := match t.2 with
  | none => t.1
  | some s => if s = "x" then t.1 * x else t.1 * y
def valF (x y : Int) : List Term → Int
  | [] => 0
  | t :: r => valT x y t + valF x y r
def bodyV : EvS := (xIfS (xTest (xOp oIs (xOp oIx (xVal 4) (xC (.int 1))) (xC .non)))
 (xSet 3 (xOp oAdd (xVal 3) (xOp oIx (xVal 4) (xC (.int 0)))))
 (xSet 3 (xOp oAdd (xVal 3) (xOp oMul (xOp oIx (xVal 4) (xC (.int 0))) (xOp oIx (xVal 2) (xIndex (xVal 1) (xOp oIx (xVal 4) (xC (.int 1)))))))))
/-- two names or one -/
abbrev nmL : Bool → List Str
  | true => ["x", "z"]
  | false => ["x"]
abbrev rwL : Bool → Int → Int → List Int
  | true, x, y => [x, y]
  | false, x, _ => [x]
theorem mulL' {i j : Int} (h : i.natAbs ≤ 4) : oMul (.int i) (.int j) = some (.int (i * j)) := K16M.mulL (by omega)
theorem r_index {o a : Ev} {env : Dv.Env} {l : List D} {ds : List PyData} {y : D} {d : PyData} {j : Nat} (h1 : o env = .ok (.lst l) env) (h2 : a env = .ok y env) (h3 : datL l = some ds) (h4 : dat y = some d) (h5 : SeqAt.shaped (.list ds) = true ∧ SeqAt.shaped d = true) (h6 : idxD d ds = some j) : xIndex o a env = .ok (.int (j : Int)) env := by
  unfold xIndex
  rw [h1]
  show (a env).bind _ = _
  rw [h2]
  show (match datL l, dat y with | some ds, some d => _ | _, _ => _) = _
  rw [h3, h4]
  dsimp only
  rw [if_pos h5, h6]
theorem nvp {s : Sl} (h : isPar s = false) : parOf [s] = none := by cases s <;> first | rfl | (cases h; done)
theorem val_step (b : Bool) (x y : Int) (t : Term) (ht : TOk (nmL b) t) (F : D) (a : Int) : bodyV [.val F, .val (nmD (nmL b)), .val (Ls (rwL b x y)), .val (.int a), .val (tmD t)] = .nx [.val F, .val (nmD (nmL b)), .val (Ls (rwL b x y)), .val (.int (a + valT x y t)), .val (tmD t)] := by
  obtain ⟨f, o⟩ := t
  obtain ⟨h4, hm⟩ := ht
  have h4 : f.natAbs ≤ 4 := h4
  unfold valT bodyV
  cases o with
  | none =>
    have i0 : oIx (tmD (f, none)) (.int 0) = some (.int f) := rfl
    have i1 : oIx (tmD (f, none)) (.int 1) = some .non := rfl
    have n0 : oIs .non .non = some (.bl true) := rfl
    have ad := addI (a := a) (b := f)
    (exists i0, i1, n0, ad)
  | some s =>
    have hs := hm s rfl
    have i0 : oIx (tmD (f, some s)) (.int 0) = some (.int f) := rfl
    have i1 : oIx (tmD (f, some s)) (.int 1) = some (.str s) := rfl
    have n0 : oIs (.str s) .non = some (.bl false) := rfl
    cases b with
    | false =>
      have e : s = "x" := List.mem_singleton.mp hs
      subst e
      have m := mulL' (j := x) h4
      have ad := addI (a := a) (b := f * x)
      have r0 : oIx (Ls (rwL false x y)) (.int 0) = some (.int x) := rfl
      have ix : xIndex (xVal 1) (xOp oIx (xVal 4) (xC (.int 1))) [.val F, .val (nmD (nmL false)), .val (Ls (rwL false x y)), .val (.int a), .val (tmD (f, some "x"))] = .ok (.int 0) [.val F, .val (nmD (nmL false)), .val (Ls (rwL false x y)), .val (.int a), .val (tmD (f, some "x"))] := r_index (y := .str "x") (ds := [.str "x"]) (by (exists trivial)) (by (exists i1)) rfl rfl (by decide +kernel) (by decide +kernel)
      (exists i0, i1, n0, m, ad, r0, ix)
    | true =>
      have e : s = "x" ∨ s = "z" := by simpa using hs
      rcases e with e | e
      · subst e
        have m := mulL' (j := x) h4
        have ad := addI (a := a) (b := f * x)
        have r0 : oIx (Ls (rwL true x y)) (.int 0) = some (.int x) := rfl
        have ix : xIndex (xVal 1) (xOp oIx (xVal 4) (xC (.int 1))) [.val F, .val (nmD (nmL true)), .val (Ls (rwL true x y)), .val (.int a), .val (tmD (f, some "x"))] = .ok (.int 0) [.val F, .val (nmD (nmL true)), .val (Ls (rwL true x y)), .val (.int a), .val (tmD (f, some "x"))] := r_index (y := .str "x") (ds := [.str "x", .str "z"]) (by (exists trivial)) (by (exists i1)) rfl rfl (by decide +kernel) (by decide +kernel)
        (exists i0, i1, n0, m, ad, r0, ix)
      · subst e
        have m := mulL' (j := y) h4
        have ad := addI (a := a) (b := f * y)
        have r0 : oIx (Ls (rwL true x y)) (.int 1) = some (.int y) := rfl
        have ix : xIndex (xVal 1) (xOp oIx (xVal 4) (xC (.int 1))) [.val F, .val (nmD (nmL true)), .val (Ls (rwL true x y)), .val (.int a), .val (tmD (f, some "z"))] = .ok (.int 1) [.val F, .val (nmD (nmL true)), .val (Ls (rwL true x y)), .val (.int a), .val (tmD (f, some "z"))] := r_index (y := .str "z") (ds := [.str "x", .str "z"]) (by (exists trivial)) (by (exists i1)) rfl rfl (by decide +kernel) (by decide +kernel)
        have ne : ¬ ("z" : Str) = "x" := by decide
        show _ = Sr.nx [.val F, .val (nmD (nmL true)), .val (Ls (rwL true x y)), .val (.int (a + if ("z" : Str) = "x" then f * x else f * y)), .val (tmD (f, some "z"))]
        rw [if_neg ne]
        (exists i0, i1, n0, m, ad, r0, ix)
theorem val_loop (b : Bool) (x y : Int) (F : D) : ∀ (ts : List Term) (a : Int) (s4 : Sl), isPar s4 = false → (∀ t ∈ ts, TOk (nmL b) t) → ∃ s, isPar s = false ∧ forL (yName 4) bodyV (ts.map tmD) [.val F, .val (nmD (nmL b)), .val (Ls (rwL b x y)), .val (.int a), s4] = .nx [.val F, .val (nmD (nmL b)), .val (Ls (rwL b x y)), .val (.int (a + valF x y ts)), s]
  | [], a, s4, f4, _ => ⟨s4, f4, by unfold valF; rw [Int.add_zero]; rfl⟩
  | t :: ts, a, s4, f4, ht => by
    obtain ⟨s, fs, k⟩ := val_loop b x y F ts (a + valT x y t) (.val (tmD t)) rfl fun u hu => ht u (List.mem_cons_of_mem _ hu)
    refine ⟨s, fs, ?_⟩
    rw [List.map_cons]
    unfold valF
    rw [← Int.add_assoc]
    exact for_cons (e1 := [.val F, .val (nmD (nmL b)), .val (Ls (rwL b x y)), .val (.int a), .val (tmD t)]) (by (exists trivial)) (val_step b x y t (ht t (List.mem_cons_self ..)) F a) (fk_nx k)
theorem value_ok (b : Bool) (x y : Int) (ts : List Term) (ht : ∀ t ∈ ts, TOk (nmL b) t) : d__law_value [.val (tsD ts), .val (nmD (nmL b)), .val (Ls (rwL b x y))] = .ok (.int (valF x y ts)) none := by
  obtain ⟨s, fs, k⟩ := val_loop b x y (tsD ts) ts 0 .no rfl ht
  have np := nvp fs
  rw [Int.zero_add] at k
  unfold bodyV at k
  unfold d__law_value b__law_value
  (exists k)
/-! what the value is -/
theorem valF_eq (x y : Int) : ∀ ts : List Term, (∀ t ∈ ts, TOk ["x", "z"] t) → valF x y ts = const ts + fac ts "x" * x + fac ts "z" * y
  | [], _ => by unfold valF const fac; simp
  | (f, o) :: ts, ht => by
    have ih := valF_eq x y ts fun u hu => ht u (List.mem_cons_of_mem _ hu)
    have h1 := (ht (f, o) (List.mem_cons_self ..)).2
    unfold valF
    rw [ih]
    cases o with
    | none =>
      have e1 : const ((f, none) :: ts) = f + const ts := by unfold const; rw [List.filter_cons_of_pos (by rfl)]; simp
      have e2 : ∀ n, fac ((f, none) :: ts) n = fac ts n := fun n => by unfold fac; rw [List.filter_cons_of_neg (by simp)]
      rw [e1, e2, e2]
      show f + _ = _
      omega
    | some s =>
      have e1 : const ((f, some s) :: ts) = const ts := by unfold const; rw [List.filter_cons_of_neg (by simp)]
      have e2 : fac ((f, some s) :: ts) s = f + fac ts s := by unfold fac; rw [List.filter_cons_of_pos (by simp)]; simp
      have e3 : ∀ n, s ≠ n → fac ((f, some s) :: ts) n = fac ts n := fun n hn => by unfold fac; rw [List.filter_cons_of_neg (by simp [hn])]
      have hs : s = "x" ∨ s = "z" := by simpa using h1 s rfl
      rcases hs with rfl | rfl
      · rw [e1, e2, e3 "z" (by decide), Int.add_mul]
        show f * x + _ = _
        omega
      · rw [e1, e2, e3 "x" (by decide), Int.add_mul]
        show (if ("z" : Str) = "x" then f * x else f * y) + _ = _
        rw [if_neg (by decide)]
        omega
theorem fac_none (ts : List Term) (ht : ∀ t ∈ ts, TOk ["x"] t) : fac ts "z" = 0 := by
  unfold fac
  rw [List.filter_eq_nil_iff.mpr]
  · rfl
  · intro t h
    have := (ht t h).2
    simp only [decide_eq_true_eq]
    intro e
    have := this _ e
    revert this
    decide
theorem fac_bd (ts : List Term) (n : Str) (ht : ∀ t ∈ ts, t.1.natAbs ≤ 4) : (fac ts n).natAbs ≤ 4 * ts.length := by
  induction ts with
  | nil => simp [fac]
  | cons t ts ih =>
    have ih := ih fun u hu => ht u (List.mem_cons_of_mem _ hu)
    have h := ht t (List.mem_cons_self ..)
    rw [List.length_cons]
    unfold fac at ih ⊢
    rw [List.filter_cons]
    split
    · rw [List.map_cons, List.sum_cons]; omega
    · omega
theorem const_bd (ts : List Term) (ht : ∀ t ∈ ts, t.1.natAbs ≤ 4) : (const ts).natAbs ≤ 4 * ts.length := by
  induction ts with
  | nil => simp [const]
  | cons t ts ih =>
    have ih := ih fun u hu => ht u (List.mem_cons_of_mem _ hu)
    have h := ht t (List.mem_cons_self ..)
    rw [List.length_cons]
    unfold const at ih ⊢
    rw [List.filter_cons]
    split
    · rw [List.map_cons, List.sum_cons]; omega
    · omega
end
end K16L
namespace K16L
open PySem PySem.Spec PyProof.Rows L2 Dv K16 K16M
set_option autoImplicit false
set_option maxHeartbeats 0
noncomputable section
/-! _law_rows -/
def rngI (lo : Int) (n : Nat) : List Int := (List.range n).map fun (k : Nat) => lo + (k : Int)
theorem rngI_D (lo : Int) (n : Nat) : rngD lo n = (rngI lo n).map .int := by
  unfold rngD rngI
  rw [List.map_map]
  rfl
theorem rngI_len (lo : Int) (n : Nat) : (rngI lo n).length = n := by simp [rngI]
theorem rngI_mem {lo v : Int} {n : Nat} : v ∈ rngI lo n ↔ lo ≤ v ∧ v < lo + n := by
  unfold rngI
  rw [List.mem_map]
  constructor
  · rintro ⟨k, hk, rfl⟩
    have := List.mem_range.mp hk
    omega
  · rintro ⟨h1, h2⟩
    exact ⟨(v - lo).toNat, List.mem_range.mpr (by omega), by omega⟩
abbrev rsD (rows : List (List Int)) : D := .lst (rows.map Ls)
def body1 : EvS := (xDrop (xOwnM mApp 3 (xCons (xOp oAdd (xVal 4) (xLst (xCons (xVal 5) xNil))) xNil)))
theorem rows1 (b0 b1 b2 : D) (r : List Int) (hr : r.length < 10) : ∀ (vs : List Int) (acc : List (List Int)) (s5 : Sl), isPar s5 = false → acc.length + vs.length < 1000 → ∃ s, isPar s = false ∧ forL (yName 5) body1 (vs.map .int) [.val b0, .val b1, .val b2, .box (rsD acc), .val (Ls r), s5] = .nx [.val b0, .val b1, .val b2, .box (rsD (acc ++ vs.map fun v => r ++ [v])), .val (Ls r), s]
  | [], acc, s5, f5, _ => ⟨s5, f5, by simp [forL]⟩
  | v :: vs, acc, s5, f5, hl => by
    rw [List.length_cons] at hl
    obtain ⟨s, fs, k⟩ := rows1 b0 b1 b2 r hr vs (acc ++ [r ++ [v]]) (.val (.int v)) rfl (by rw [List.length_append]; simp; omega)
    refine ⟨s, fs, ?_⟩
    rw [List.map_cons, List.map_cons, show acc ++ (r ++ [v]) :: vs.map (fun v => r ++ [v]) = acc ++ [r ++ [v]] ++ vs.map (fun v => r ++ [v]) by simp]
    have c : oAdd (Ls r) (.lst [.int v]) = some (Ls (r ++ [v])) := by
      rw [catD (by simp; omega), Ls, List.map_append]
      rfl
    have ap : mApp (rsD acc) [Ls (r ++ [v])] = some (.non, rsD (acc ++ [r ++ [v]])) := by
      rw [appD (by rw [List.length_map]; omega), rsD, List.map_append]
      rfl
    refine for_cons (e1 := [.val b0, .val b1, .val b2, .box (rsD acc), .val (Ls r), .val (.int v)]) (rs := .nx [.val b0, .val b1, .val b2, .box (rsD (acc ++ [r ++ [v]])), .val (Ls r), .val (.int v)]) (by (exists trivial)) ?_ (fk_nx k)
    unfold body1
    (exists c, ap)
def body2 : EvS := (xFor (iRg2 (xCons (xOp oIx (xVal 2) (xC (.int 0))) (xCons (xOp oAdd (xOp oIx (xVal 2) (xC (.int 1))) (xC (.int 1))) xNil))) (yName 5) body1)
def ext (rows : List (List Int)) (vs : List Int) : List (List Int) := rows.flatMap fun r => vs.map fun v => r ++ [v]
theorem rows2 (b0 b1 : D) (lo hi : Int) (hb : -100 ≤ lo ∧ lo ≤ hi ∧ hi ≤ lo + 9 ∧ hi ≤ 100) : ∀ (rs : List (List Int)) (acc : List (List Int)) (s4 s5 : Sl), isPar s4 = false → isPar s5 = false → (∀ r ∈ rs, r.length < 10) → acc.length + 10 * rs.length < 1000 → ∃ s s', isPar s = false ∧ isPar s' = false ∧ forL (yName 4) body2 (rs.map Ls) [.val b0, .val b1, .val (bD lo hi), .box (rsD acc), s4, s5] = .nx [.val b0, .val b1, .val (bD lo hi), .box (rsD (acc ++ ext rs (rngI lo (hi + 1 - lo).toNat))), s, s']
  | [], acc, s4, s5, f4, f5, _, _ => ⟨s4, s5, f4, f5, by simp [forL, ext]⟩
  | r :: rs, acc, s4, s5, f4, f5, hr, hl => by
    rw [List.length_cons] at hl
    have ln := rngI_len lo (hi + 1 - lo).toNat
    obtain ⟨s, fs, k⟩ := rows1 b0 b1 (bD lo hi) r (hr r (List.mem_cons_self ..)) (rngI lo (hi + 1 - lo).toNat) acc s5 f5 (by omega)
    obtain ⟨s', s2, f', f2, k2⟩ := rows2 b0 b1 lo hi hb rs (acc ++ (rngI lo (hi + 1 - lo).toNat).map fun v => r ++ [v]) (.val (Ls r)) s rfl fs (fun q hq => hr q (List.mem_cons_of_mem _ hq)) (by rw [List.length_append, List.length_map, ln]; omega)
    refine ⟨s', s2, f', f2, ?_⟩
    have ex : ext (r :: rs) (rngI lo (hi + 1 - lo).toNat) = ((rngI lo (hi + 1 - lo).toNat).map fun v => r ++ [v]) ++ ext rs (rngI lo (hi + 1 - lo).toNat) := by unfold ext; rw [List.flatMap_cons]
    rw [List.map_cons, ex, ← List.append_assoc]
    have i0 : oIx (bD lo hi) (.int 0) = some (.int lo) := rfl
    have i1 : oIx (bD lo hi) (.int 1) = some (.int hi) := rfl
    have ad := addI (a := hi) (b := 1)
    have rg : iRg2 (xCons (xOp oIx (xVal 2) (xC (.int 0))) (xCons (xOp oAdd (xOp oIx (xVal 2) (xC (.int 1))) (xC (.int 1))) xNil)) [.val b0, .val b1, .val (bD lo hi), .box (rsD acc), .val (Ls r), s5] = .ok ((rngI lo (hi + 1 - lo).toNat).map .int) [.val b0, .val b1, .val (bD lo hi), .box (rsD acc), .val (Ls r), s5] := by
      rw [← rngI_D]
      exact r_rg2 (j := lo) (k := hi + 1) (by (exists i0, i1, ad)) (by omega)
    refine for_cons (e1 := [.val b0, .val b1, .val (bD lo hi), .box (rsD acc), .val (Ls r), s5]) (rs := .nx [.val b0, .val b1, .val (bD lo hi), .box (rsD (acc ++ (rngI lo (hi + 1 - lo).toNat).map fun v => r ++ [v])), .val (Ls r), s]) (by (exists trivial)) ?_ (fk_nx k2)
    unfold body2
    exact r_for rg k
def body3 : EvS := (xSeq (xBox 3 (xLst xNil))
 (xSeq (xFor (iSq (xVal 1)) (yName 4) body2)
 (xSet 1 (xVar 3))))
theorem rows3 (b0 : D) (lo hi : Int) (hb : -100 ≤ lo ∧ lo ≤ hi ∧ hi ≤ lo + 9 ∧ hi ≤ 100) (rows : List (List Int)) (s3 s4 s5 : Sl) (f3 : isPar s3 = false) (f4 : isPar s4 = false) (f5 : isPar s5 = false) (hr : ∀ r ∈ rows, r.length < 10) (hl : rows.length < 50) : ∃ t3 t4 t5, isPar t3 = false ∧ isPar t4 = false ∧ isPar t5 = false ∧ body3 [.val b0, .val (rsD rows), .val (bD lo hi), s3, s4, s5] = .nx [.val b0, .val (rsD (ext rows (rngI lo (hi + 1 - lo).toNat))), .val (bD lo hi), t3, t4, t5] := by
  obtain ⟨s, s', fs, fs', k⟩ := rows2 b0 (rsD rows) lo hi hb rows [] s4 s5 f4 f5 hr (by simp; omega)
  refine ⟨.val (rsD (ext rows (rngI lo (hi + 1 - lo).toNat))), s, s', rfl, fs, fs', ?_⟩
  rw [List.nil_append] at k
  have bx : boxable (some s3) = true := by cases s3 <;> first | rfl | (cases f3; done)
  have k : forL (yName 4) body2 (rows.map Ls) [.val b0, .val (rsD rows), .val (bD lo hi), .box (.lst []), s4, s5] = _ := k
  unfold body3
  (exists bx, k)
theorem rows_1 (x0 x1 : Int) (hx : -100 ≤ x0 ∧ x0 ≤ x1 ∧ x1 ≤ x0 + 9 ∧ x1 ≤ 100) : d__law_rows [.val (.lst [bD x0 x1])] = .ok (rsD (ext [[]] (rngI x0 (x1 + 1 - x0).toNat))) none := by
  obtain ⟨t3, t4, t5, f3, f4, f5, k⟩ := rows3 (.lst [bD x0 x1]) x0 x1 hx [[]] .no .no .no rfl rfl rfl (fun r hr => by rw [List.mem_singleton.mp hr]; decide) (by decide)
  have np : parOf [.val (.lst [bD x0 x1]), .val (rsD (ext [[]] (rngI x0 (x1 + 1 - x0).toNat))), .val (bD x0 x1), t3, t4, t5] = none := by
    cases t3 <;> cases t4 <;> cases t5 <;> first | rfl | (cases f3; done) | (cases f4; done) | (cases f5; done)
  have k : body3 [.val (.lst [bD x0 x1]), .val (.lst [.lst []]), .val (bD x0 x1), .no, .no, .no] = _ := k
  have fr : forL (yName 2) body3 [bD x0 x1] [.val (.lst [bD x0 x1]), .val (.lst [.lst []]), .no, .no, .no, .no] = .nx [.val (.lst [bD x0 x1]), .val (rsD (ext [[]] (rngI x0 (x1 + 1 - x0).toNat))), .val (bD x0 x1), t3, t4, t5] := for_cons (e1 := [.val (.lst [bD x0 x1]), .val (.lst [.lst []]), .val (bD x0 x1), .no, .no, .no]) (by (exists trivial)) k (fk_nx rfl)
  unfold body3 body2 body1 at fr
  unfold d__law_rows b__law_rows
  (exists fr, np)
theorem rows_2 (x0 x1 y0 y1 : Int) (hx : -100 ≤ x0 ∧ x0 ≤ x1 ∧ x1 ≤ x0 + 9 ∧ x1 ≤ 100) (hy : -100 ≤ y0 ∧ y0 ≤ y1 ∧ y1 ≤ y0 + 9 ∧ y1 ≤ 100) : d__law_rows [.val (.lst [bD x0 x1, bD y0 y1])] = .ok (rsD (ext (ext [[]] (rngI x0 (x1 + 1 - x0).toNat)) (rngI y0 (y1 + 1 - y0).toNat))) none := by
  obtain ⟨t3, t4, t5, f3, f4, f5, k⟩ := rows3 (.lst [bD x0 x1, bD y0 y1]) x0 x1 hx [[]] .no .no .no rfl rfl rfl (fun r hr => by rw [List.mem_singleton.mp hr]; decide) (by decide)
  have e1 : ext [[]] (rngI x0 (x1 + 1 - x0).toNat) = (rngI x0 (x1 + 1 - x0).toNat).map fun v => [v] := by unfold ext; simp
  obtain ⟨u3, u4, u5, g3, g4, g5, k2⟩ := rows3 (.lst [bD x0 x1, bD y0 y1]) y0 y1 hy (ext [[]] (rngI x0 (x1 + 1 - x0).toNat)) t3 t4 t5 f3 f4 f5 (fun r hr => by
    rw [e1] at hr
    obtain ⟨v, _, rfl⟩ := List.mem_map.mp hr
    simp) (by rw [e1, List.length_map, rngI_len]; omega)
  have np : parOf [.val (.lst [bD x0 x1, bD y0 y1]), .val (rsD (ext (ext [[]] (rngI x0 (x1 + 1 - x0).toNat)) (rngI y0 (y1 + 1 - y0).toNat))), .val (bD y0 y1), u3, u4, u5] = none := by
    cases u3 <;> cases u4 <;> cases u5 <;> first | rfl | (cases g3; done) | (cases g4; done) | (cases g5; done)
  have k : body3 [.val (.lst [bD x0 x1, bD y0 y1]), .val (.lst [.lst []]), .val (bD x0 x1), .no, .no, .no] = _ := k
  have fr : forL (yName 2) body3 [bD x0 x1, bD y0 y1] [.val (.lst [bD x0 x1, bD y0 y1]), .val (.lst [.lst []]), .no, .no, .no, .no] = .nx [.val (.lst [bD x0 x1, bD y0 y1]), .val (rsD (ext (ext [[]] (rngI x0 (x1 + 1 - x0).toNat)) (rngI y0 (y1 + 1 - y0).toNat))), .val (bD y0 y1), u3, u4, u5] :=
    for_cons (e1 := [.val (.lst [bD x0 x1, bD y0 y1]), .val (.lst [.lst []]), .val (bD x0 x1), .no, .no, .no]) (by (exists trivial)) k (fk_nx (for_cons (e1 := [.val (.lst [bD x0 x1, bD y0 y1]), .val (rsD (ext [[]] (rngI x0 (x1 + 1 - x0).toNat))), .val (bD y0 y1), t3, t4, t5]) (by (exists trivial)) k2 (fk_nx rfl)))
  unfold body3 body2 body1 at fr
  unfold d__law_rows b__law_rows
  (exists fr, np)
end
end K16L
namespace K16L
open PySem PySem.Spec PyProof.Rows L2 Dv K16 K16M
set_option autoImplicit false
set_option maxHeartbeats 0
noncomputable section
/-! _law_better -/
def tOld : EvT := xOrT (xTest (xOp oIs (xVal 2) (xC .non))) (xTest (xOp (oOr (oIn false) (oInD false)) (xC .non) (xVal 2)))
structure OldR (b : Bool) (d : D) (gl : Option (Int × Int)) : Prop where
  tst : ∀ (r q : D) (k : Int), tOld [.val r, .val q, .val d, .val (.int k)] = .ok gl.isNone [.val r, .val q, .val d, .val (.int k)]
  i0 : ∀ p, gl = some p → oIx d (.int 0) = some (.int p.1)
  i1 : ∀ p, b = true → gl = some p → oIx d (.int 1) = some (.int p.2)
theorem old_none (b : Bool) : OldR b .non none := ⟨fun r q k => by unfold tOld; (exists trivial), fun p e => (by cases e), fun p _ e => (by cases e)⟩
theorem old_1 (a : Option Int) : OldR false (.lst [oiD a]) (match a with | none => none | some x => some (x, 0)) := by
  cases a with
  | none => exact ⟨fun r q k => rfl, fun p e => (by cases e), fun p _ e => (by cases e)⟩
  | some x => exact ⟨fun r q k => rfl, fun p e => (by cases e; rfl), fun p h e => (by cases h)⟩
theorem old_2 (a c : Option Int) : OldR true (.lst [oiD a, oiD c]) (match a, c with | some x, some y => some (x, y) | _, _ => none) := by
  cases a with
  | none => cases c <;> exact ⟨fun r q k => rfl, fun p e => (by cases e), fun p _ e => (by cases e)⟩
  | some x => cases c with
    | none => exact ⟨fun r q k => rfl, fun p e => (by cases e), fun p _ e => (by cases e)⟩
    | some y => exact ⟨fun r q k => rfl, fun p e => (by cases e; rfl), fun p h e => (by cases e; rfl)⟩
def ltB (g : Option Int) (v w : Int) : Bool := match g with
  | none => decide (v < w)
  | some G => if (v - G).natAbs = (w - G).natAbs then decide (v < w) else decide ((v - G).natAbs < (w - G).natAbs)
theorem ltB_iff (g : Option Int) (v w : Int) : ltB g v w = true ↔ ltg g v w := by
  unfold ltB ltg
  cases g with
  | none => simp
  | some G =>
    dsimp only
    split
    · rename_i h; rw [decide_eq_true_iff]; omega
    · rename_i h; rw [decide_eq_true_iff]; omega
def bodyB : EvS := (xIfS (xOrT (xTest (xOp oIs (xVal 2) (xC .non))) (xTest (xOp (oOr (oIn false) (oInD false)) (xC .non) (xVal 2))))
 (xIfS (xTest (xOp oNe (xOp oIx (xVal 0) (xVal 3)) (xOp oIx (xVal 1) (xVal 3))))
 (xRet (xOp oLt (xOp oIx (xVal 0) (xVal 3)) (xOp oIx (xVal 1) (xVal 3))))
 xNx)
 (xIfS (xTest (xOp oNe (xCB fAbs (xCons (xOp oSub (xOp oIx (xVal 0) (xVal 3)) (xOp oIx (xVal 2) (xVal 3))) xNil)) (xCB fAbs (xCons (xOp oSub (xOp oIx (xVal 1) (xVal 3)) (xOp oIx (xVal 2) (xVal 3))) xNil))))
 (xRet (xOp oLt (xCB fAbs (xCons (xOp oSub (xOp oIx (xVal 0) (xVal 3)) (xOp oIx (xVal 2) (xVal 3))) xNil)) (xCB fAbs (xCons (xOp oSub (xOp oIx (xVal 1) (xVal 3)) (xOp oIx (xVal 2) (xVal 3))) xNil))))
 (xIfS (xTest (xOp oNe (xOp oIx (xVal 0) (xVal 3)) (xOp oIx (xVal 1) (xVal 3))))
 (xRet (xOp oLt (xOp oIx (xVal 0) (xVal 3)) (xOp oIx (xVal 1) (xVal 3))))
 xNx)))
theorem better_step (R Q O : D) (k u v : Int) (gl : Option Int) (ht : tOld [.val R, .val Q, .val O, .val (.int k)] = .ok gl.isNone [.val R, .val Q, .val O, .val (.int k)]) (hg : ∀ G, gl = some G → oIx O (.int k) = some (.int G)) (hr : oIx R (.int k) = some (.int u)) (hq : oIx Q (.int k) = some (.int v)) :
    (u = v → bodyB [.val R, .val Q, .val O, .val (.int k)] = .nx [.val R, .val Q, .val O, .val (.int k)]) ∧ (u ≠ v → bodyB [.val R, .val Q, .val O, .val (.int k)] = .rt (.bl (ltB gl u v)) [.val R, .val Q, .val O, .val (.int k)]) := by
  have ne : oNe (.int u) (.int v) = some (.bl (!decide (u = v))) := neI
  have lt : oLt (.int u) (.int v) = some (.bl (decide (u < v))) := ltI
  unfold tOld at ht
  unfold bodyB
  cases gl with
  | none =>
    have ht : _ = Res.ok true _ := ht
    refine ⟨fun h => ?_, fun h => ?_⟩
    · rw [decide_eq_true h] at ne
      (exists ht, hr, hq, ne)
    · rw [decide_eq_false h] at ne
      show _ = Sr.rt (.bl (decide (u < v))) _
      (exists ht, hr, hq, ne, lt)
  | some G =>
    have ht : _ = Res.ok false _ := ht
    have io := hg G rfl
    have s1 := K16M.subI (a := u) (b := G)
    have s2 := K16M.subI (a := v) (b := G)
    have a1 := absI (a := u - G)
    have a2 := absI (a := v - G)
    have na : oNe (.int ((u - G).natAbs : Int)) (.int ((v - G).natAbs : Int)) = some (.bl (!decide (((u - G).natAbs : Int) = ((v - G).natAbs : Int)))) := neI
    have la : oLt (.int ((u - G).natAbs : Int)) (.int ((v - G).natAbs : Int)) = some (.bl (decide (((u - G).natAbs : Int) < ((v - G).natAbs : Int)))) := ltI
    refine ⟨fun h => ?_, fun h => ?_⟩
    · rw [decide_eq_true h] at ne
      rw [decide_eq_true (show ((u - G).natAbs : Int) = ((v - G).natAbs : Int) by rw [h])] at na
      (exists ht, hr, hq, io, s1, s2, a1, a2, na, ne)
    · rw [decide_eq_false h] at ne
      by_cases hh : (u - G).natAbs = (v - G).natAbs
      · rw [decide_eq_true (show ((u - G).natAbs : Int) = ((v - G).natAbs : Int) by rw [hh])] at na
        show _ = Sr.rt (.bl (if (u - G).natAbs = (v - G).natAbs then decide (u < v) else decide ((u - G).natAbs < (v - G).natAbs))) _
        rw [if_pos hh]
        (exists ht, hr, hq, io, s1, s2, a1, a2, na, ne, lt)
      · rw [decide_eq_false (show ¬ ((u - G).natAbs : Int) = ((v - G).natAbs : Int) by omega)] at na
        show _ = Sr.rt (.bl (if (u - G).natAbs = (v - G).natAbs then decide (u < v) else decide ((u - G).natAbs < (v - G).natAbs))) _
        rw [if_neg hh]
        rw [show decide (((u - G).natAbs : Int) < ((v - G).natAbs : Int)) = decide ((u - G).natAbs < (v - G).natAbs) by rw [decide_eq_decide]; omega] at la
        (exists ht, hr, hq, io, s1, s2, a1, a2, na, ne, la)
def bet (b : Bool) (gl : Option (Int × Int)) (p q : Int × Int) : Bool :=
  if p.1 = q.1 then (match b with
    | true => if p.2 = q.2 then false else ltB (gl.map (·.2)) p.2 q.2
    | false => false) else ltB (gl.map (·.1)) p.1 q.1
theorem better_non (R O : D) : d__law_better [.val R, .val .non, .val O] = .ok (.bl true) none := by
  have i : oIs .non .non = some (.bl true) := rfl
  unfold d__law_better b__law_better
  (exists i)
theorem bt_nx {R Q O : D} {xs : List D} {s : Sl} (fs : isPar s = false) (i : oIs Q .non = some (.bl false)) (rg : iRg1 (xCons (xCB fLen (xCons (xVal 0) xNil)) xNil) [.val R, .val Q, .val O, .no] = .ok xs [.val R, .val Q, .val O, .no]) (fr : forL (yName 3) bodyB xs [.val R, .val Q, .val O, .no] = .nx [.val R, .val Q, .val O, s]) : d__law_better [.val R, .val Q, .val O] = .ok (.bl false) none := by
  have np : parOf [.val R, .val Q, .val O, s] = none := nvp fs
  unfold bodyB at fr
  unfold d__law_better b__law_better
  refine r_run (e' := [.val R, .val Q, .val O, .no]) (e := [.val R, .val Q, .val O, s]) rfl ?_ np
  refine r_seq (rs := .nx [.val R, .val Q, .val O, .no]) ?_ (sq_nx ?_)
  · (exists i)
  refine r_seq (rs := .nx [.val R, .val Q, .val O, s]) (r_for rg fr) (sq_nx ?_)
  exact r_ret r_c
theorem bt_rt {R Q O d : D} {xs : List D} {s : Sl} (fs : isPar s = false) (i : oIs Q .non = some (.bl false)) (rg : iRg1 (xCons (xCB fLen (xCons (xVal 0) xNil)) xNil) [.val R, .val Q, .val O, .no] = .ok xs [.val R, .val Q, .val O, .no]) (fr : forL (yName 3) bodyB xs [.val R, .val Q, .val O, .no] = .rt d [.val R, .val Q, .val O, s]) : d__law_better [.val R, .val Q, .val O] = .ok d none := by
  have np : parOf [.val R, .val Q, .val O, s] = none := nvp fs
  unfold bodyB at fr
  unfold d__law_better b__law_better
  refine r_run (e' := [.val R, .val Q, .val O, .no]) (e := [.val R, .val Q, .val O, s]) rfl ?_ np
  refine r_seq (rs := .nx [.val R, .val Q, .val O, .no]) ?_ (sq_nx ?_)
  · (exists i)
  exact r_seq (rs := .rt d [.val R, .val Q, .val O, s]) (r_for rg fr) sq_rt
theorem better_ok (b : Bool) (p q : Int × Int) (O : D) (gl : Option (Int × Int)) (h : OldR b O gl) : d__law_better [.val (Ls (rwL b p.1 p.2)), .val (Ls (rwL b q.1 q.2)), .val O] = .ok (.bl (bet b gl p q)) none := by
  obtain ⟨p1, p2⟩ := p
  obtain ⟨q1, q2⟩ := q
  have isn : ∀ l, oIs (.lst l) .non = some (.bl false) := fun l => rfl
  have t0 : ∀ (g : Option (Int × Int)), (g.map (·.1)).isNone = g.isNone := fun g => by cases g <;> rfl
  have t1 : ∀ (g : Option (Int × Int)), (g.map (·.2)).isNone = g.isNone := fun g => by cases g <;> rfl
  cases b with
  | false =>
    obtain ⟨a1, a2⟩ := better_step (Ls (rwL false p1 p2)) (Ls (rwL false q1 q2)) O 0 p1 q1 (gl.map (·.1)) (by rw [t0]; exact h.tst _ _ _) (fun G hG => by
      cases gl with
      | none => cases hG
      | some g => cases hG; exact h.i0 g rfl) rfl rfl
    have ln : fLen [Ls (rwL false p1 p2)] = some (.int 1) := rfl
    have rg : iRg1 (xCons (xCB fLen (xCons (xVal 0) xNil)) xNil) [.val (Ls (rwL false p1 p2)), .val (Ls (rwL false q1 q2)), .val O, .no] = .ok [.int 0] [.val (Ls (rwL false p1 p2)), .val (Ls (rwL false q1 q2)), .val O, .no] := r_rg1 (j := 1) (by (exists ln)) (by decide)
    have i := isn ((rwL false q1 q2).map .int)
    unfold bet
    by_cases e : p1 = q1
    · have fr : forL (yName 3) bodyB [.int 0] [.val (Ls (rwL false p1 p2)), .val (Ls (rwL false q1 q2)), .val O, .no] = .nx [.val (Ls (rwL false p1 p2)), .val (Ls (rwL false q1 q2)), .val O, .val (.int 0)] := for_cons (e1 := [.val (Ls (rwL false p1 p2)), .val (Ls (rwL false q1 q2)), .val O, .val (.int 0)]) (by (exists trivial)) (a1 e) (fk_nx rfl)
      rw [if_pos e]
      exact bt_nx rfl i rg fr
    · have fr : forL (yName 3) bodyB [.int 0] [.val (Ls (rwL false p1 p2)), .val (Ls (rwL false q1 q2)), .val O, .no] = .rt (.bl (ltB (gl.map (·.1)) p1 q1)) [.val (Ls (rwL false p1 p2)), .val (Ls (rwL false q1 q2)), .val O, .val (.int 0)] := for_cons (e1 := [.val (Ls (rwL false p1 p2)), .val (Ls (rwL false q1 q2)), .val O, .val (.int 0)]) (by (exists trivial)) (a2 e) fk_rt
      rw [if_neg e]
      exact bt_rt rfl i rg fr
  | true =>
    obtain ⟨a1, a2⟩ := better_step (Ls (rwL true p1 p2)) (Ls (rwL true q1 q2)) O 0 p1 q1 (gl.map (·.1)) (by rw [t0]; exact h.tst _ _ _) (fun G hG => by
      cases gl with
      | none => cases hG
      | some g => cases hG; exact h.i0 g rfl) rfl rfl
    obtain ⟨b1, b2⟩ := better_step (Ls (rwL true p1 p2)) (Ls (rwL true q1 q2)) O 1 p2 q2 (gl.map (·.2)) (by rw [t1]; exact h.tst _ _ _) (fun G hG => by
      cases gl with
      | none => cases hG
      | some g => cases hG; exact h.i1 g rfl rfl) rfl rfl
    have ln : fLen [Ls (rwL true p1 p2)] = some (.int 2) := rfl
    have rg : iRg1 (xCons (xCB fLen (xCons (xVal 0) xNil)) xNil) [.val (Ls (rwL true p1 p2)), .val (Ls (rwL true q1 q2)), .val O, .no] = .ok [.int 0, .int 1] [.val (Ls (rwL true p1 p2)), .val (Ls (rwL true q1 q2)), .val O, .no] := r_rg1 (j := 2) (by (exists ln)) (by decide)
    have i := isn ((rwL true q1 q2).map .int)
    unfold bet
    by_cases e : p1 = q1
    · rw [if_pos e]
      dsimp only
      by_cases e2 : p2 = q2
      · have fr : forL (yName 3) bodyB [.int 0, .int 1] [.val (Ls (rwL true p1 p2)), .val (Ls (rwL true q1 q2)), .val O, .no] = .nx [.val (Ls (rwL true p1 p2)), .val (Ls (rwL true q1 q2)), .val O, .val (.int 1)] := for_cons (e1 := [.val (Ls (rwL true p1 p2)), .val (Ls (rwL true q1 q2)), .val O, .val (.int 0)]) (by (exists trivial)) (a1 e) (fk_nx (for_cons (e1 := [.val (Ls (rwL true p1 p2)), .val (Ls (rwL true q1 q2)), .val O, .val (.int 1)]) (by (exists trivial)) (b1 e2) (fk_nx rfl)))
        rw [if_pos e2]
        exact bt_nx rfl i rg fr
      · have fr : forL (yName 3) bodyB [.int 0, .int 1] [.val (Ls (rwL true p1 p2)), .val (Ls (rwL true q1 q2)), .val O, .no] = .rt (.bl (ltB (gl.map (·.2)) p2 q2)) [.val (Ls (rwL true p1 p2)), .val (Ls (rwL true q1 q2)), .val O, .val (.int 1)] := for_cons (e1 := [.val (Ls (rwL true p1 p2)), .val (Ls (rwL true q1 q2)), .val O, .val (.int 0)]) (by (exists trivial)) (a1 e) (fk_nx (for_cons (e1 := [.val (Ls (rwL true p1 p2)), .val (Ls (rwL true q1 q2)), .val O, .val (.int 1)]) (by (exists trivial)) (b2 e2) fk_rt))
        rw [if_neg e2]
        exact bt_rt rfl i rg fr
    · have fr : forL (yName 3) bodyB [.int 0, .int 1] [.val (Ls (rwL true p1 p2)), .val (Ls (rwL true q1 q2)), .val O, .no] = .rt (.bl (ltB (gl.map (·.1)) p1 q1)) [.val (Ls (rwL true p1 p2)), .val (Ls (rwL true q1 q2)), .val O, .val (.int 0)] := for_cons (e1 := [.val (Ls (rwL true p1 p2)), .val (Ls (rwL true q1 q2)), .val O, .val (.int 0)]) (by (exists trivial)) (a2 e) fk_rt
      rw [if_neg e]
      exact bt_rt rfl i rg fr
/-- what better tells is better -/
theorem bet_iff (b : Bool) (gl : Option (Int × Int)) (p q : Int × Int) (hb : b = false → p.2 = q.2) : bet b gl p q = true ↔ better (gl.map (·.1)) (gl.map (·.2)) p q := by
  obtain ⟨p1, p2⟩ := p
  obtain ⟨q1, q2⟩ := q
  have nlt : ∀ (g : Option Int) (v : Int), ¬ ltg g v v := fun g v => by unfold ltg; cases g <;> simp
  unfold bet better
  dsimp only at hb ⊢
  by_cases e : p1 = q1
  · rw [if_pos e]
    subst e
    cases b with
    | false =>
      have := hb rfl
      subst this
      simp [nlt]
    | true =>
      dsimp only
      by_cases e2 : p2 = q2
      · rw [if_pos e2]
        subst e2
        simp [nlt]
      · rw [if_neg e2, ltB_iff]
        simp [nlt]
  · rw [if_neg e, ltB_iff]
    simp [e]
end
end K16L
namespace K16L
open PySem PySem.Spec PyProof.Rows L2 Dv K16 K16M
set_option autoImplicit false
set_option maxHeartbeats 0
noncomputable section
/-! the best of all -/
theorem lt_asym {g : Option Int} {v w : Int} (h1 : ltg g v w) (h2 : ltg g w v) : False := by
  unfold ltg at h1 h2
  cases g with
  | none => dsimp only at h1 h2; omega
  | some G => dsimp only at h1 h2; omega
theorem lt_irr {g : Option Int} {v : Int} (h : ltg g v v) : False := lt_asym h h
theorem lt_trans {g : Option Int} {u v w : Int} (h1 : ltg g u v) (h2 : ltg g v w) : ltg g u w := by
  unfold ltg at h1 h2 ⊢
  cases g with
  | none => dsimp only at h1 h2 ⊢; omega
  | some G => dsimp only at h1 h2 ⊢; omega
theorem lt_total (g : Option Int) (v w : Int) : ltg g v w ∨ v = w ∨ ltg g w v := by
  unfold ltg
  cases g with
  | none => dsimp only; omega
  | some G => dsimp only; omega
theorem be_asym {g0 g1 : Option Int} {p q : Int × Int} (h1 : better g0 g1 p q) (h2 : better g0 g1 q p) : False := by
  rcases h1 with h1 | ⟨e1, h1⟩
  · rcases h2 with h2 | ⟨e2, h2⟩
    · exact lt_asym h1 h2
    · rw [e2] at h1; exact lt_irr h1
  · rcases h2 with h2 | ⟨e2, h2⟩
    · rw [e1] at h2; exact lt_irr h2
    · exact lt_asym h1 h2
theorem be_trans {g0 g1 : Option Int} {p q r : Int × Int} (h1 : better g0 g1 p q) (h2 : better g0 g1 q r) : better g0 g1 p r := by
  rcases h1 with h1 | ⟨e1, h1⟩
  · rcases h2 with h2 | ⟨e2, h2⟩
    · exact .inl (lt_trans h1 h2)
    · exact .inl (e2 ▸ h1)
  · rcases h2 with h2 | ⟨e2, h2⟩
    · exact .inl (e1 ▸ h2)
    · exact .inr ⟨e1.trans e2, lt_trans h1 h2⟩
theorem be_total (g0 g1 : Option Int) (p q : Int × Int) : better g0 g1 p q ∨ p = q ∨ better g0 g1 q p := by
  rcases lt_total g0 p.1 q.1 with h | h | h
  · exact .inl (.inl h)
  · rcases lt_total g1 p.2 q.2 with h' | h' | h'
    · exact .inl (.inr ⟨h, h'⟩)
    · exact .inr (.inl (Prod.ext h h'))
    · exact .inr (.inr (.inr ⟨h.symm, h'⟩))
  · exact .inr (.inr (.inl h))
theorem best_uniq {S : Int → Int → Prop} {g0 g1 : Option Int} {r s : Option (Int × Int)} (h1 : IsBest S g0 g1 r) (h2 : IsBest S g0 g1 s) : r = s := by
  cases r with
  | none =>
    cases s with
    | none => rfl
    | some q => exact (h1 q.1 q.2 h2.1).elim
  | some p =>
    cases s with
    | none => exact (h2 p.1 p.2 h1.1).elim
    | some q =>
      rcases h1.2 q.1 q.2 h2.1 with e | e
      · exact congrArg some e.symm
      · rcases h2.2 p.1 p.2 h1.1 with e' | e'
        · exact congrArg some e'
        · exact (be_asym e e').elim
/-- what the loop holds -/
def Best (S : Int × Int → Prop) (g0 g1 : Option Int) (L : List (Int × Int)) : Option (Int × Int) → Prop
  | none => ∀ q ∈ L, ¬ S q
  | some p => p ∈ L ∧ S p ∧ ∀ q ∈ L, S q → q = p ∨ better g0 g1 p q
theorem best_no {S : Int × Int → Prop} {g0 g1 : Option Int} {L : List (Int × Int)} {o : Option (Int × Int)} {q : Int × Int} (h : Best S g0 g1 L o) (hq : ¬ S q) : Best S g0 g1 (L ++ [q]) o := by
  cases o with
  | none =>
    intro r hr
    rcases List.mem_append.mp hr with hr | hr
    · exact h r hr
    · rw [List.mem_singleton.mp hr]; exact hq
  | some p =>
    obtain ⟨h1, h2, h3⟩ := h
    refine ⟨List.mem_append_left _ h1, h2, fun r hr hs => ?_⟩
    rcases List.mem_append.mp hr with hr | hr
    · exact h3 r hr hs
    · rw [List.mem_singleton.mp hr] at hs; exact (hq hs).elim
theorem best_new {S : Int × Int → Prop} {g0 g1 : Option Int} {L : List (Int × Int)} {o : Option (Int × Int)} {q : Int × Int} (h : Best S g0 g1 L o) (hq : S q) (hb : ∀ p, o = some p → better g0 g1 q p) : Best S g0 g1 (L ++ [q]) (some q) := by
  refine ⟨List.mem_append_right _ (List.mem_singleton.mpr rfl), hq, fun r hr hs => ?_⟩
  rcases List.mem_append.mp hr with hr | hr
  · cases o with
    | none => exact (h r hr hs).elim
    | some p =>
      have b := hb p rfl
      rcases h.2.2 r hr hs with rfl | h3
      · exact .inr b
      · exact .inr (be_trans b h3)
  · exact .inl (List.mem_singleton.mp hr)
theorem best_old {S : Int × Int → Prop} {g0 g1 : Option Int} {L : List (Int × Int)} {p q : Int × Int} (h : Best S g0 g1 L (some p)) (hb : ¬ better g0 g1 q p) : Best S g0 g1 (L ++ [q]) (some p) := by
  obtain ⟨h1, h2, h3⟩ := h
  refine ⟨List.mem_append_left _ h1, h2, fun r hr hs => ?_⟩
  rcases List.mem_append.mp hr with hr | hr
  · exact h3 r hr hs
  · rw [List.mem_singleton.mp hr]
    rcases be_total g0 g1 q p with h | h | h
    · exact (hb h).elim
    · exact .inl h
    · exact .inr h
/-! the rows -/
def rowsP (b : Bool) (x0 x1 y0 y1 : Int) : List (Int × Int) := match b with
  | true => (rngI x0 (x1 + 1 - x0).toNat).flatMap fun x => (rngI y0 (y1 + 1 - y0).toNat).map fun y => (x, y)
  | false => (rngI x0 (x1 + 1 - x0).toNat).map fun x => (x, 0)
abbrev bdD (b : Bool) (x0 x1 y0 y1 : Int) : D := match b with
  | true => .lst [bD x0 x1, bD y0 y1]
  | false => .lst [bD x0 x1]
structure BOk (b : Bool) (x0 x1 y0 y1 : Int) : Prop where
  x : -5 ≤ x0 ∧ x0 ≤ x1 ∧ x1 ≤ x0 + 9 ∧ x1 ≤ 12
  y : -5 ≤ y0 ∧ y0 ≤ y1 ∧ y1 ≤ y0 + 9 ∧ y1 ≤ 12
  z : b = false → y0 = 0 ∧ y1 = 0
theorem rows_ok {b : Bool} {x0 x1 y0 y1 : Int} (h : BOk b x0 x1 y0 y1) : d__law_rows [.val (bdD b x0 x1 y0 y1)] = .ok (.lst ((rowsP b x0 x1 y0 y1).map fun p => Ls (rwL b p.1 p.2))) none := by
  obtain ⟨hx, hy, hz⟩ := h
  cases b with
  | false =>
    rw [show bdD false x0 x1 y0 y1 = .lst [bD x0 x1] from rfl, rows_1 x0 x1 (by omega)]
    congr 2
    unfold rsD ext rowsP
    simp [List.map_map, Function.comp_def]
  | true =>
    rw [show bdD true x0 x1 y0 y1 = .lst [bD x0 x1, bD y0 y1] from rfl, rows_2 x0 x1 y0 y1 (by omega) (by omega)]
    congr 2
    unfold rsD ext rowsP
    simp [List.map_map, Function.comp_def, List.flatMap_map, List.map_flatMap, List.flatMap_assoc]
theorem rows_mem {b : Bool} {x0 x1 y0 y1 : Int} (h : BOk b x0 x1 y0 y1) (p : Int × Int) : p ∈ rowsP b x0 x1 y0 y1 ↔ InB x0 x1 y0 y1 p.1 p.2 := by
  obtain ⟨hx, hy, hz⟩ := h
  obtain ⟨a, c⟩ := p
  unfold rowsP InB
  cases b with
  | false =>
    obtain ⟨z1, z2⟩ := hz rfl
    subst z1
    subst z2
    simp only [List.mem_map, Prod.mk.injEq]
    constructor
    · rintro ⟨v, hv, rfl, rfl⟩
      have := rngI_mem.mp hv
      omega
    · rintro ⟨h1, h2⟩
      exact ⟨a, rngI_mem.mpr (by omega), rfl, by omega⟩
  | true =>
    simp only [List.mem_flatMap, List.mem_map, Prod.mk.injEq]
    constructor
    · rintro ⟨v, hv, w, hw, rfl, rfl⟩
      have := rngI_mem.mp hv
      have := rngI_mem.mp hw
      omega
    · rintro ⟨h1, h2⟩
      exact ⟨a, rngI_mem.mpr (by omega), c, rngI_mem.mpr (by omega), rfl, rfl⟩
theorem rows_len {b : Bool} {x0 x1 y0 y1 : Int} (h : BOk b x0 x1 y0 y1) : 1 ≤ (rowsP b x0 x1 y0 y1).length ∧ (rowsP b x0 x1 y0 y1).length < 1000 := by
  have hm := (rows_mem h (x0, y0)).mpr (by have := h.x; have := h.y; unfold InB; dsimp only; omega)
  refine ⟨List.length_pos_of_mem hm, ?_⟩
  obtain ⟨hx, hy, hz⟩ := h
  unfold rowsP
  cases b with
  | false => simp [rngI_len]; omega
  | true =>
    have e : ∀ (A B : List Int), (A.flatMap fun x => B.map fun y => (x, y)).length = A.length * B.length := fun A B => by
      induction A with
      | nil => simp
      | cons a A ih => rw [List.flatMap_cons, List.length_append, ih, List.length_map, List.length_cons, Nat.succ_mul]; omega
    rw [e, rngI_len, rngI_len]
    have h1 : (x1 + 1 - x0).toNat ≤ 10 := by omega
    have h2 : (y1 + 1 - y0).toNat ≤ 10 := by omega
    have := Nat.mul_le_mul h1 h2
    omega
theorem best_all {b : Bool} {x0 x1 y0 y1 : Int} (h : BOk b x0 x1 y0 y1) {S : Int × Int → Prop} {g0 g1 : Option Int} {o : Option (Int × Int)} (hb : Best S g0 g1 (rowsP b x0 x1 y0 y1) o) : IsBest (fun x y => InB x0 x1 y0 y1 x y ∧ S (x, y)) g0 g1 o := by
  cases o with
  | none => exact fun x y hs => hb (x, y) ((rows_mem h _).mpr hs.1) hs.2
  | some p => exact ⟨⟨(rows_mem h p).mp hb.1, hb.2.1⟩, fun x y hs => hb.2.2 (x, y) ((rows_mem h _).mpr hs.1) hs.2⟩
/-! values -/
theorem val_bd {b : Bool} {x0 x1 y0 y1 : Int} (h : BOk b x0 x1 y0 y1) {p : Int × Int} (hp : InB x0 x1 y0 y1 p.1 p.2) : ∀ ts : List Term, (∀ t ∈ ts, t.1.natAbs ≤ 4) → (valF p.1 p.2 ts).natAbs ≤ 48 * ts.length
  | [], _ => by simp [valF]
  | t :: ts, ht => by
    have ih := val_bd h hp ts fun u hu => ht u (List.mem_cons_of_mem _ hu)
    have h4 := ht t (List.mem_cons_self ..)
    have hx := h.x
    have hy := h.y
    obtain ⟨⟨i1, i2⟩, i3, i4⟩ := hp
    have m : ∀ v : Int, v.natAbs ≤ 12 → (t.1 * v).natAbs ≤ 48 := fun v hv => by
      rw [Int.natAbs_mul]
      exact Nat.mul_le_mul h4 hv
    have hv : (valT p.1 p.2 t).natAbs ≤ 48 := by
      unfold valT
      split
      · omega
      · split
        · exact m _ (by omega)
        · exact m _ (by omega)
    unfold valF
    rw [List.length_cons]
    omega
abbrev eqB (b : Bool) : List Term → Int → Eqn := match b with
  | true => eq2
  | false => eq1
theorem on_val {b : Bool} {ts : List Term} (ht : ∀ t ∈ ts, TOk (nmL b) t) (v x y : Int) : (eqB b ts v).on x y ↔ valF x y ts = v := by
  have e : valF x y ts = const ts + fac ts "x" * x + fac ts "z" * y := valF_eq x y ts fun t h => ⟨(ht t h).1, fun s hs => by
    have := (ht t h).2 s hs
    cases b with
    | true => exact this
    | false => rw [List.mem_singleton.mp this]; exact List.mem_cons_self ..⟩
  rw [e]
  cases b with
  | true =>
    show fac ts "x" * x + fac ts "z" * y = v - const ts ↔ _
    omega
  | false =>
    have z := fac_none ts ht
    show fac ts "x" * x + 0 * y = v - const ts ↔ _
    rw [z, Int.zero_mul]
    omega
theorem eq_bd {b : Bool} {ts : List Term} (ht : ∀ t ∈ ts, TOk (nmL b) t) (hl : ts.length ≤ 5) {v : Int} (hv : v.natAbs ≤ 1000) : (eqB b ts v).Bd := by
  have f1 := fac_bd ts "x" fun t h => (ht t h).1
  have f2 := fac_bd ts "z" fun t h => (ht t h).1
  have f3 := const_bd ts fun t h => (ht t h).1
  cases b with
  | true =>
    refine ⟨?_, ?_, ?_⟩
    · show (fac ts "x").natAbs ≤ 100; omega
    · show (fac ts "z").natAbs ≤ 100; omega
    · show (v - const ts).natAbs ≤ 100000; omega
  | false =>
    refine ⟨?_, ?_, ?_⟩
    · show (fac ts "x").natAbs ≤ 100; omega
    · show (0 : Int).natAbs ≤ 100; decide
    · show (v - const ts).natAbs ≤ 100000; omega
end
end K16L
namespace K16L
open PySem PySem.Spec PyProof.Rows L2 Dv K16 K16M
set_option autoImplicit false
set_option maxHeartbeats 0
noncomputable section
theorem dat_ints : ∀ ns : List Int, datL (ns.map .int) = some (ns.map PyData.int)
  | [] => rfl
  | n :: r => by
    show (match dat (.int n), datL (r.map .int) with | some a, some r => some (a :: r) | _, _ => none) = _
    rw [dat_ints r]
    rfl
theorem eqv_ints : ∀ a c : List Int, PyData.eqvAll (a.map PyData.int) (c.map PyData.int) = decide (a = c)
  | [], [] => by simp [PyData.eqvAll]
  | [], _ :: _ => by simp [PyData.eqvAll]
  | _ :: _, [] => by simp [PyData.eqvAll]
  | x :: a, y :: c => by
    rw [List.map_cons, List.map_cons]
    show (PyData.eqv (.int x) (.int y) && PyData.eqvAll _ _) = _
    rw [eqv_ints a c]
    show ((x == y) && decide (a = c)) = _
    by_cases h : x = y <;> by_cases h2 : a = c <;> simp [h, h2]
theorem eqLs' (a c : List Int) : eqD (Ls a) (Ls c) = some (decide (a = c)) := by
  show (match dat (Ls a), dat (Ls c) with | some a, some b => if SeqAt.shaped a = true ∧ SeqAt.shaped b = true then some (PyData.eqv a b) else none | _, _ => none) = _
  have d : ∀ l : List Int, dat (Ls l) = some (.list (l.map .int)) := fun l => by
    show (datL (l.map .int)).map PyData.list = _
    rw [dat_ints]
    rfl
  rw [d, d]
  dsimp only
  rw [if_pos ⟨PySem.W.ke_shaped_ints a, PySem.W.ke_shaped_ints c⟩]
  show some (PyData.eqvAll _ _) = _
  rw [eqv_ints]
theorem eqLs (a c : List Int) : oEq (Ls a) (Ls c) = some (.bl (decide (a = c))) := by unfold oEq; rw [eqLs']; rfl
theorem neLs (a c : List Int) : oNe (Ls a) (Ls c) = some (.bl (!decide (a = c))) := by unfold oNe; rw [eqLs']; rfl
theorem cmp_map {a : Ev} {eg : Eg} {vs : List Nat} {α : Type} (W : Dv.Env) (f h : α → D) (L : List α) (env : Dv.Env) (hw : wipeE env vs = W) (hl : L.length < 1000000) (hx : ∀ x ∈ L, ∃ e1 e3, eg (f x) W = some e1 ∧ wipeE e1 vs = W ∧ a e1 = .ok (h x) e3 ∧ wipeE e3 vs = W) : ∃ env', cmpL eg xYes a vs (L.map f) [] env = .ok (L.map h) env' ∧ wipeE env' vs = W := by
  obtain ⟨env', c1, c2⟩ := cmp_gen (ta := xYes) (a := a) (eg := eg) (vs := vs) W f (fun _ => true) h L [] env hw (by simpa using hl) (fun x hx' => by
    obtain ⟨e1, e3, h1, h0, h2, h3⟩ := hx x hx'
    exact ⟨e1, e1, h1, rfl, h0, fun _ => ⟨e3, h2, h3⟩⟩)
  rw [List.nil_append, List.filter_eq_self.mpr (fun _ _ => rfl)] at c1
  exact ⟨env', c1, c2⟩
/-! Form(..) -/
theorem form_ok (ts : List Term) (hl : ts.length < 1000) : d_Form___init__ [.par (.ins 1 []), .val (tsD ts)] = .ok .non (some (fmD ts)) := by
  obtain ⟨env', c1, c2⟩ := cmp_map (a := xTup (xCons (xVal 2) (xCons (xVal 3) xNil))) (eg := yTup 2 (yCons (yName 2) (yCons (yName 3) yNil))) (vs := [2, 3]) [.par (.ins 1 []), .val (tsD ts), .no, .no] tmD tmD ts [.par (.ins 1 []), .val (tsD ts), .no, .no] rfl (by omega) (fun t _ => ⟨[.par (.ins 1 []), .val (tsD ts), .val (.int t.1), .val (osD t.2)], [.par (.ins 1 []), .val (tsD ts), .val (.int t.1), .val (osD t.2)], by (exists trivial), rfl, by (exists trivial), rfl⟩)
  unfold d_Form___init__ b_Form___init__
  apply r_runN
  (exists c1, c2)
/-! the old values -/
abbrev oldB (b : Bool) (old : Option (Option Int × Option Int)) : D := match b, old with
  | _, none => .non
  | true, some (a, c) => .lst [oiD a, oiD c]
  | false, some (a, _) => .lst [oiD a]
def glB (b : Bool) (old : Option (Option Int × Option Int)) : Option (Int × Int) := match b, old with
  | _, none => none
  | true, some (a, c) => (match a, c with | some x, some y => some (x, y) | _, _ => none)
  | false, some (a, _) => (match a with | none => none | some x => some (x, 0))
theorem oldR_ok (b : Bool) (old : Option (Option Int × Option Int)) : OldR b (oldB b old) (glB b old) := by
  cases old with
  | none => cases b <;> exact old_none _
  | some p =>
    obtain ⟨a, c⟩ := p
    cases b with
    | true => exact old_2 a c
    | false => exact old_1 a
theorem glo_ok (old : Option (Option Int × Option Int)) : glo old = ((glB true old).map (·.1), (glB true old).map (·.2)) := by
  cases old with
  | none => rfl
  | some p => obtain ⟨a, c⟩ := p; cases a <;> cases c <;> rfl
theorem glo1_ok (old : Option (Option Int × Option Int)) : glo1 (old.map (·.1)) = ((glB false old).map (·.1), (glB false old).map (·.2)) := by
  cases old with
  | none => rfl
  | some p => obtain ⟨a, c⟩ := p; cases a <;> rfl
theorem old1_eq (old : Option (Option Int × Option Int)) : old1D (old.map (·.1)) = oldB false old := by cases old <;> rfl
theorem old2_eq (old : Option (Option Int × Option Int)) : oldD old = oldB true old := by cases old <;> rfl
abbrev ptB (b : Bool) : Option (Int × Int) → D
  | none => .non
  | some p => Ls (rwL b p.1 p.2)
theorem pt2_eq (r : Option (Int × Int)) : ptD r = ptB true r := by cases r <;> rfl
theorem pt1_eq (r : Option (Int × Int)) : pt1D r = ptB false r := by cases r <;> rfl
abbrev Sat (tss : List (List Term)) (ms : List Int) (p : Int × Int) : Prop := tss.map (fun ts => valF p.1 p.2 ts) = ms
structure FOk (b : Bool) (ts : List Term) : Prop where
  t : ∀ t ∈ ts, TOk (nmL b) t
  l : ts.length ≤ 5
theorem src_ok {b : Bool} {x0 x1 y0 y1 : Int} (h : BOk b x0 x1 y0 y1) (tss : List (List Term)) (hf : ∀ ts ∈ tss, FOk b ts) (ht : tss.length = 1 ∨ tss.length = 2) (ms : List Int) (hm : ms.length = tss.length) (hv : ∀ v ∈ ms, v.natAbs ≤ 1000) (old : Option (Option Int × Option Int)) :
    ∃ R : Option (Int × Int), d_nearest_source [.val (.lst (tss.map fmD)), .val (nmD (nmL b)), .val (bdD b x0 x1 y0 y1), .val (Ls ms), .val (oldB b old)] = .ok (ptB b R) none ∧ IsBest (fun x y => InB x0 x1 y0 y1 x y ∧ Sat tss ms (x, y)) ((glB b old).map (·.1)) ((glB b old).map (·.2)) R := by
  have hx := h.x
  have hy := h.y
  match tss, ms, ht, hm with
  | [ts], [v], _, _ =>
    have f := hf ts (List.mem_cons_self ..)
    have bd := eq_bd f.t f.l (hv v (List.mem_cons_self ..))
    have hl := f.l
    have on := on_val f.t v
    have st : ∀ x y, (InB x0 x1 y0 y1 x y ∧ Sat [ts] [v] (x, y)) ↔ (InB x0 x1 y0 y1 x y ∧ (eqB b ts v).on x y) := fun x y => by
      rw [on]
      unfold Sat
      simp
    cases b with
    | true =>
      obtain ⟨g0, g1, hg, e⟩ := q_src21 ts v x0 x1 y0 y1 old (by omega) bd
      rw [glo_ok] at hg
      cases hg
      rw [old2_eq, pt2_eq] at e
      exact ⟨_, e, (pr1_ok (eq2 ts v) _ _ hx.2.1 hy.2.1 bd).of st⟩
    | false =>
      obtain ⟨z1, z2⟩ := h.z rfl
      subst z1
      subst z2
      obtain ⟨g0, g1, hg, e⟩ := q_src11 ts v x0 x1 (old.map (·.1)) (by omega) bd
      rw [glo1_ok] at hg
      cases hg
      rw [old1_eq, pt1_eq] at e
      exact ⟨_, e, (pr1_ok (eq1 ts v) _ _ hx.2.1 hy.2.1 bd).of st⟩
  | [ts, us], [v, w], _, _ =>
    have f := hf ts (List.mem_cons_self ..)
    have f2 := hf us (by simp)
    have bd := eq_bd f.t f.l (hv v (List.mem_cons_self ..))
    have bd2 := eq_bd f2.t f2.l (hv w (by simp))
    have hl := f.l
    have hl2 := f2.l
    have on := on_val f.t v
    have on2 := on_val f2.t w
    have st : ∀ x y, (InB x0 x1 y0 y1 x y ∧ Sat [ts, us] [v, w] (x, y)) ↔ (InB x0 x1 y0 y1 x y ∧ (eqB b ts v).on x y ∧ (eqB b us w).on x y) := fun x y => by
      rw [on, on2]
      unfold Sat
      simp
    cases b with
    | true =>
      obtain ⟨g0, g1, hg, e⟩ := q_src22 ts us v w x0 x1 y0 y1 old (by omega) bd (by omega) bd2
      rw [glo_ok] at hg
      cases hg
      rw [old2_eq, pt2_eq] at e
      exact ⟨_, e, (pr2_ok (eq2 ts v) (eq2 us w) _ _ hx.2.1 hy.2.1 bd bd2).of st⟩
    | false =>
      obtain ⟨z1, z2⟩ := h.z rfl
      subst z1
      subst z2
      obtain ⟨g0, g1, hg, e⟩ := q_src12 ts us v w x0 x1 (old.map (·.1)) (by omega) bd (by omega) bd2
      rw [glo1_ok] at hg
      cases hg
      rw [old1_eq, pt1_eq] at e
      exact ⟨_, e, (pr2_ok (eq1 ts v) (eq1 us w) _ _ hx.2.1 hy.2.1 bd bd2).of st⟩
end
end K16L
namespace K16L
open PySem PySem.Spec PyProof.Rows L2 Dv K16 K16M
set_option autoImplicit false
set_option maxHeartbeats 0
noncomputable section
/-! the loop over the rows -/
def Vs (s : Sl) (d : D) : Prop := s = .val d ∨ s = .box d
abbrev enG (sc : D) (l : List Int) (N Bs F Rw : D) (s4 s5 s8 s9 s10 s11 : Sl) : Dv.Env := [.val sc, .box (Ls l), .val N, .val Bs, s4, s5, .val F, .val Rw, s8, s9, s10, s11, .no, .no, .no, .no, .no]
abbrev enF (sc : D) (l : List Int) (N Bs F Rw : D) (s4 s5 s8 s9 s10 : Sl) (best : D) : Dv.Env := enG sc l N Bs F Rw s4 s5 s8 s9 s10 (.val best)
abbrev fsD (tss : List (List Term)) : D := .lst (tss.map tsD)
def xVals : Ev := xLc (iSq (xVar 6)) (yName 15) xYes (xCall 3 d__law_value (gVal (xVal 15) (gVal (xVal 2) (gVal (xVal 8) Dv.gNil)))) [15]
theorem vals_ok (b : Bool) (sc : D) (l : List Int) (Bs Rw : D) (tss : List (List Term)) (hf : ∀ ts ∈ tss, FOk b ts) (hl : tss.length < 10) (p : Int × Int) (s4 s5 s9 s10 : Sl) (s11 : Sl) : xVals (enG sc l (nmD (nmL b)) Bs (fsD tss) Rw s4 s5 (.val (Ls (rwL b p.1 p.2))) s9 s10 s11) = .ok (Ls (tss.map fun ts => valF p.1 p.2 ts)) (enG sc l (nmD (nmL b)) Bs (fsD tss) Rw s4 s5 (.val (Ls (rwL b p.1 p.2))) s9 s10 s11) := by
  obtain ⟨env', c1, c2⟩ := cmp_map (a := xCall 3 d__law_value (gVal (xVal 15) (gVal (xVal 2) (gVal (xVal 8) Dv.gNil)))) (eg := yName 15) (vs := [15]) (enG sc l (nmD (nmL b)) Bs (fsD tss) Rw s4 s5 (.val (Ls (rwL b p.1 p.2))) s9 s10 s11) tsD (fun ts => .int (valF p.1 p.2 ts)) tss (enG sc l (nmD (nmL b)) Bs (fsD tss) Rw s4 s5 (.val (Ls (rwL b p.1 p.2))) s9 s10 s11) rfl (by omega) (fun ts hts => by
    have v := value_ok b p.1 p.2 ts (hf ts hts).t
    refine ⟨[.val sc, .box (Ls l), .val (nmD (nmL b)), .val Bs, s4, s5, .val (fsD tss), .val Rw, .val (Ls (rwL b p.1 p.2)), s9, s10, s11, .no, .no, .no, .val (tsD ts), .no], [.val sc, .box (Ls l), .val (nmD (nmL b)), .val Bs, s4, s5, .val (fsD tss), .val Rw, .val (Ls (rwL b p.1 p.2)), s9, s10, s11, .no, .no, .no, .val (tsD ts), .no], ?_, rfl, ?_, rfl⟩
    · rfl
    · (exists v))
  have e : (tss.map fun ts => D.int (valF p.1 p.2 ts)) = (tss.map fun ts => valF p.1 p.2 ts).map D.int := by rw [List.map_map]; rfl
  rw [e] at c1
  unfold xVals
  exact r_lc (e1 := enG sc l (nmD (nmL b)) Bs (fsD tss) Rw s4 s5 (.val (Ls (rwL b p.1 p.2))) s9 s10 s11) (by (exists trivial)) c1 c2
def tA : EvT := xTest (xOp oEq xVals (xVar 9))
def tB : EvT := xTest (xCall 3 d__law_better (gVal (xVal 8) (gVal (xVal 11) (gVal (xVar 10) Dv.gNil))))
def bodyR : EvS := xIfS (xAndT tA tB) (xSet 11 (xVal 8)) xNx
theorem tA_ok (b : Bool) (sc : D) (l : List Int) (Bs Rw : D) (tss : List (List Term)) (hf : ∀ ts ∈ tss, FOk b ts) (hl : tss.length < 10) (p : Int × Int) (ms : List Int) (s4 s5 s9 s10 : Sl) (h9 : Vs s9 (Ls ms)) (best : D) : tA (enF sc l (nmD (nmL b)) Bs (fsD tss) Rw s4 s5 (.val (Ls (rwL b p.1 p.2))) s9 s10 best) = .ok (decide (Sat tss ms p)) (enF sc l (nmD (nmL b)) Bs (fsD tss) Rw s4 s5 (.val (Ls (rwL b p.1 p.2))) (.val (Ls ms)) s10 best) := by
  have v := vals_ok b sc l Bs Rw tss hf hl p s4 s5 s9 s10 (.val best)
  have q := eqLs (tss.map fun ts => valF p.1 p.2 ts) ms
  have q : _ = some (D.bl (decide (Sat tss ms p))) := q
  unfold tA
  refine r_test (r_op v ?_ q)
  rcases h9 with rfl | rfl
  · (exists trivial)
  · (exists trivial)
def pick (b : Bool) (gl : Option (Int × Int)) (o : Option (Int × Int)) (p : Int × Int) : Bool := match o with
  | none => true
  | some q => bet b gl p q
theorem tB_ok (b : Bool) (sc : D) (l : List Int) (Bs F Rw : D) (p : Int × Int) (o old : _) (s4 s5 s9 s10 : Sl) (h10 : Vs s10 (oldB b old)) : tB (enF sc l (nmD (nmL b)) Bs F Rw s4 s5 (.val (Ls (rwL b p.1 p.2))) s9 s10 (ptB b o)) = .ok (pick b (glB b old) o p) (enF sc l (nmD (nmL b)) Bs F Rw s4 s5 (.val (Ls (rwL b p.1 p.2))) s9 (.val (oldB b old)) (ptB b o)) := by
  have h : d__law_better [.val (Ls (rwL b p.1 p.2)), .val (ptB b o), .val (oldB b old)] = .ok (.bl (pick b (glB b old) o p)) none := by
    cases o with
    | none => exact better_non _ _
    | some q => exact better_ok b p q _ _ (oldR_ok b old)
  unfold tB
  rcases h10 with rfl | rfl
  · (exists h)
  · (exists h)
theorem row_step (b : Bool) (sc : D) (l : List Int) (Bs Rw : D) (tss : List (List Term)) (hf : ∀ ts ∈ tss, FOk b ts) (hl : tss.length < 10) (ms : List Int) (old : Option (Option Int × Option Int)) (s4 s5 : Sl) (L : List (Int × Int)) (hL : ∀ q ∈ L, b = false → q.2 = 0) (o : Option (Int × Int)) (hB : Best (Sat tss ms) ((glB b old).map (·.1)) ((glB b old).map (·.2)) L o) (p : Int × Int) (hp : b = false → p.2 = 0) (s9 s10 : Sl) (h9 : Vs s9 (Ls ms)) (h10 : Vs s10 (oldB b old)) :
    ∃ (o' : Option (Int × Int)) (t10 : Sl), bodyR (enF sc l (nmD (nmL b)) Bs (fsD tss) Rw s4 s5 (.val (Ls (rwL b p.1 p.2))) s9 s10 (ptB b o)) = .nx (enF sc l (nmD (nmL b)) Bs (fsD tss) Rw s4 s5 (.val (Ls (rwL b p.1 p.2))) (.val (Ls ms)) t10 (ptB b o')) ∧ Vs t10 (oldB b old) ∧ Best (Sat tss ms) ((glB b old).map (·.1)) ((glB b old).map (·.2)) (L ++ [p]) o' := by
  have a := tA_ok b sc l Bs Rw tss hf hl p ms s4 s5 s9 s10 h9 (ptB b o)
  have c := tB_ok b sc l Bs (fsD tss) Rw p o old s4 s5 (.val (Ls ms)) s10 h10
  unfold bodyR
  by_cases hs : Sat tss ms p
  · rw [decide_eq_true hs] at a
    cases hk : pick b (glB b old) o p with
    | true =>
      rw [hk] at c
      refine ⟨some p, .val (oldB b old), r_ifS (r_andT a (sel_t rfl c)) (sel_t rfl ?_), .inl rfl, best_new hB hs fun q hq => ?_⟩
      · refine r_set (e1 := enF sc l (nmD (nmL b)) Bs (fsD tss) Rw s4 s5 (.val (Ls (rwL b p.1 p.2))) (.val (Ls ms)) (.val (oldB b old)) (ptB b o)) (d := Ls (rwL b p.1 p.2)) ?_ ?_
        · (exists trivial)
        · rfl
      · subst hq
        refine (bet_iff b (glB b old) p q fun h => ?_).mp hk
        rw [hp h, hL q hB.1 h]
    | false =>
      rw [hk] at c
      refine ⟨o, .val (oldB b old), r_ifS (r_andT a (sel_t rfl c)) (sel_f rfl r_nx), .inl rfl, ?_⟩
      cases o with
      | none => cases hk
      | some q =>
        refine best_old hB fun hb => ?_
        have := (bet_iff b (glB b old) p q fun h => (by rw [hp h, hL q hB.1 h])).mpr hb
        have hk : bet b (glB b old) p q = false := hk
        rw [this] at hk
        cases hk
  · rw [decide_eq_false hs] at a
    exact ⟨o, s10, r_ifS (r_andT a (sel_f rfl rfl)) (sel_f rfl r_nx), h10, best_no hB hs⟩
theorem rows_loop (b : Bool) (sc : D) (l : List Int) (Bs Rw : D) (tss : List (List Term)) (hf : ∀ ts ∈ tss, FOk b ts) (hl : tss.length < 10) (ms : List Int) (old : Option (Option Int × Option Int)) (s4 s5 : Sl) : ∀ (M L : List (Int × Int)) (hL : ∀ q ∈ L ++ M, b = false → q.2 = 0) (o : Option (Int × Int)) (hB : Best (Sat tss ms) ((glB b old).map (·.1)) ((glB b old).map (·.2)) L o) (s8 s9 s10 : Sl), isPar s8 = false → Vs s9 (Ls ms) → Vs s10 (oldB b old) →
    ∃ (o' : Option (Int × Int)) (t8 t9 t10 : Sl), forL (yName 8) bodyR (M.map fun p => Ls (rwL b p.1 p.2)) (enF sc l (nmD (nmL b)) Bs (fsD tss) Rw s4 s5 s8 s9 s10 (ptB b o)) = .nx (enF sc l (nmD (nmL b)) Bs (fsD tss) Rw s4 s5 t8 t9 t10 (ptB b o')) ∧ isPar t8 = false ∧ Vs t9 (Ls ms) ∧ Vs t10 (oldB b old) ∧ Best (Sat tss ms) ((glB b old).map (·.1)) ((glB b old).map (·.2)) (L ++ M) o'
  | [], L, hL, o, hB, s8, s9, s10, h8, h9, h10 => ⟨o, s8, s9, s10, rfl, h8, h9, h10, by rw [List.append_nil]; exact hB⟩
  | p :: M, L, hL, o, hB, s8, s9, s10, h8, h9, h10 => by
    obtain ⟨o1, u10, k, k10, kB⟩ := row_step b sc l Bs Rw tss hf hl ms old s4 s5 L (fun q hq => hL q (List.mem_append_left _ hq)) o hB p (hL p (by simp)) s9 s10 h9 h10
    obtain ⟨o', t8, t9, t10, k2, j8, j9, j10, jB⟩ := rows_loop b sc l Bs Rw tss hf hl ms old s4 s5 M (L ++ [p]) (fun q hq => hL q (by simpa using hq)) o1 kB (.val (Ls (rwL b p.1 p.2))) (.val (Ls ms)) u10 rfl (.inl rfl) k10
    refine ⟨o', t8, t9, t10, ?_, j8, j9, j10, by simpa using jB⟩
    rw [List.map_cons]
    refine for_cons (e1 := enF sc l (nmD (nmL b)) Bs (fsD tss) Rw s4 s5 (.val (Ls (rwL b p.1 p.2))) s9 s10 (ptB b o)) ?_ k (fk_nx k2)
    cases s8 <;> first | (cases h8; done) | rfl
end
end K16L
namespace K16L
open PySem PySem.Spec PyProof.Rows L2 Dv K16 K16M
set_option autoImplicit false
set_option maxHeartbeats 0
noncomputable section
/-! the bounds -/
abbrev enB (sc : D) (l : List Int) (N : D) (bs : List D) (s4 s5 : Sl) : Dv.Env := [.val sc, .box (Ls l), .val N, .box (.lst bs), s4, s5, .no, .no, .no, .no, .no, .no, .no, .no, .no, .no, .no]
def body4 : EvS := (xSeq (xSet 5 (xOp oSub (xCall 2 d__law_draw (gSlot 1 (gVal (xC (.int 9)) Dv.gNil))) (xC (.int 5))))
 (xDrop (xOwnM mApp 3 (xCons (xTup (xCons (xVal 5) (xCons (xOp oAdd (xVal 5) (xCall 2 d__law_draw (gSlot 1 (gVal (xC (.int 10)) Dv.gNil)))) xNil))) xNil))))
theorem bound_ok (sc : D) (l : List Int) (h : Dr l) (N : D) (bs : List D) (hb : bs.length < 1000) (n : Str) (s5 : Sl) (f5 : isPar s5 = false) : ∃ (lo hi : Int) (l' : List Int), body4 (enB sc l N bs (.val (.str n)) s5) = .nx (enB sc l' N (bs ++ [bD lo hi]) (.val (.str n)) (.val (.int lo))) ∧ Dr l' ∧ -5 ≤ lo ∧ lo ≤ hi ∧ hi ≤ lo + 9 ∧ hi ≤ 12 := by
  obtain ⟨v, l1, e1, v0, v1, h1⟩ := draw_ok h 9 (by omega) (by omega)
  obtain ⟨w, l2, e2, w0, w1, h2⟩ := draw_ok h1 10 (by omega) (by omega)
  refine ⟨v - 5, v - 5 + w, l2, ?_, h2, by omega, by omega, by omega, by omega⟩
  have sb := subI (a := v) (b := 5)
  have ad := addI (a := v - 5) (b := w)
  have ap := appD (l := bs) (x := bD (v - 5) (v - 5 + w)) (by omega)
  unfold body4
  (exists e1, e2, sb, ad, ap)
theorem bounds_ok (b : Bool) (sc : D) (l : List Int) (h : Dr l) : ∃ (x0 x1 y0 y1 : Int) (l' : List Int) (s4 s5 : Sl), forL (yName 4) body4 ((nmL b).map .str) (enB sc l (nmD (nmL b)) [] .no .no) = .nx (enB sc l' (nmD (nmL b)) (match b with | true => [bD x0 x1, bD y0 y1] | false => [bD x0 x1]) s4 s5) ∧ BOk b x0 x1 y0 y1 ∧ Dr l' ∧ (∃ d, s4 = .val d) ∧ (∃ d, s5 = .val d) := by
  cases b with
  | false =>
    obtain ⟨x0, x1, l1, e1, h1, a1, a2, a3, a4⟩ := bound_ok sc l h (nmD (nmL false)) [] (by decide) "x" .no rfl
    exact ⟨x0, x1, 0, 0, l1, .val (.str "x"), .val (.int x0), for_cons (e1 := enB sc l (nmD (nmL false)) [] (.val (.str "x")) .no) rfl e1 (fk_nx rfl), ⟨⟨a1, a2, a3, a4⟩, by omega, fun _ => ⟨rfl, rfl⟩⟩, h1, ⟨_, rfl⟩, ⟨_, rfl⟩⟩
  | true =>
    obtain ⟨x0, x1, l1, e1, h1, a1, a2, a3, a4⟩ := bound_ok sc l h (nmD (nmL true)) [] (by decide) "x" .no rfl
    obtain ⟨y0, y1, l2, e2, h2, b1, b2, b3, b4⟩ := bound_ok sc l1 h1 (nmD (nmL true)) [bD x0 x1] (by simp) "z" (.val (.int x0)) rfl
    exact ⟨x0, x1, y0, y1, l2, .val (.str "z"), .val (.int y0), for_cons (e1 := enB sc l (nmD (nmL true)) [] (.val (.str "x")) .no) rfl e1 (fk_nx (for_cons (e1 := enB sc l1 (nmD (nmL true)) [bD x0 x1] (.val (.str "z")) (.val (.int x0))) rfl e2 (fk_nx rfl))), ⟨⟨a1, a2, a3, a4⟩, ⟨b1, b2, b3, b4⟩, fun e => (by cases e)⟩, h2, ⟨_, rfl⟩, ⟨_, rfl⟩⟩
/-! the forms -/
abbrev enN (sc : D) (l : List Int) (N Bs : D) (s4 s5 s6 s14 s15 : Sl) : Dv.Env := [.val sc, .box (Ls l), .val N, .val Bs, s4, s5, s6, .no, .no, .no, .no, .no, .no, .no, s14, s15, .no]
abbrev lsT (tss : List (List Term)) : List (List D) := tss.map fun ts => ts.map tmD
def x4 : Ev := xCall 2 d__law_terms (gSlot 1 (gVal (xVal 2) Dv.gNil))
theorem cmpN_ok (b : Bool) (sc Bs : D) (s4 s5 : Sl) : ∀ (xs : List Int) (acc : List (List Term)) (l : List Int) (s14 : Sl), Dr l → acc.length + xs.length < 1000 → (∀ ts ∈ acc, (∀ t ∈ ts, TOk (nmL b) t) ∧ ts.length ≤ 3) → ∃ (tss : List (List Term)) (l' : List Int), cmpN (yName 14) x4 [14] (xs.map .int) (lsT acc) (enN sc l (nmD (nmL b)) Bs s4 s5 .no s14 .no) = some (enN sc l' (nmD (nmL b)) Bs s4 s5 .no .no .no, lsT tss) ∧ Dr l' ∧ (∀ ts ∈ tss, (∀ t ∈ ts, TOk (nmL b) t) ∧ ts.length ≤ 3) ∧ tss.length = acc.length + xs.length
  | [], acc, l, s14, h, _, ha => ⟨acc, l, rfl, h, ha, rfl⟩
  | x :: xs, acc, l, s14, h, hl, ha => by
    rw [List.length_cons] at hl
    obtain ⟨ts, l1, e1, t1, t2, h1⟩ := terms_ok h (nmL b) (by cases b <;> decide)
    obtain ⟨tss, l', k1, k2, k3, k4⟩ := cmpN_ok b sc Bs s4 s5 xs (acc ++ [ts]) l1 (.val (.int x)) h1 (by rw [List.length_append]; simp; omega) (fun us hu => by
      rcases List.mem_append.mp hu with hu | hu
      · exact ha us hu
      · rw [List.mem_singleton.mp hu]; exact ⟨t1, t2⟩)
    refine ⟨tss, l', ?_, k2, k3, by rw [k4, List.length_append]; simp; omega⟩
    have hc : x4 (enN sc l (nmD (nmL b)) Bs s4 s5 .no (.val (.int x)) .no) = .ok (tsD ts) (enN sc l1 (nmD (nmL b)) Bs s4 s5 .no (.val (.int x)) .no) := by
      unfold x4
      (exists e1)
    have el : lsT acc ++ [ts.map tmD] = lsT (acc ++ [ts]) := by unfold lsT; rw [List.map_append]; rfl
    rw [← el] at k1
    rw [List.map_cons]
    show (match x4 (enN sc l (nmD (nmL b)) Bs s4 s5 .no (.val (.int x)) .no) with
      | .ok (.lst ys) e2 => if (lsT acc).length < 1000000 then cmpN (yName 14) x4 [14] (xs.map .int) (lsT acc ++ [ys]) e2 else none
      | _ => none) = _
    rw [hc]
    dsimp only
    rw [if_pos (by unfold lsT; rw [List.length_map]; omega)]
    exact k1
theorem flat_ok {a : D} {l : List Int} {r : List Sl} (hr : ∀ s ∈ r, isOwn s = false) : flatE (.val a :: .box (Ls l) :: r) := fun j s hj ho => by
  match j, hj with
  | 0, hj => cases hj; cases ho
  | 1, hj => cases hj; exact ⟨l, rfl⟩
  | j + 2, hj =>
    have := hr s (List.mem_of_getElem? hj)
    rw [this] at ho
    cases ho
def xF : EvT := (xTest (xCB fAll (xCons (xLc (iSq (xVar 6)) (yName 15) xYes (xOp oEq (xCall 2 d__law_factor (gVal (xVal 15) (gVal (xVal 4) Dv.gNil))) (xC (.int 0))) [15]) xNil)))
def xR : EvA := (xCons (xTup (xCons (xOp oAdd (xC (.int 1)) (xCall 2 d__law_draw (gSlot 1 (gVal (xC (.int 4)) Dv.gNil)))) (xCons (xVal 4) xNil))) xNil)
theorem blL_ok : ∀ bs : List Bool, blL (bs.map .bl) = some bs
  | [] => rfl
  | b :: r => by
    show (blL (r.map .bl)).map (b :: ·) = _
    rw [blL_ok r]
    rfl
theorem lsT_eq (tss : List (List Term)) : (lsT tss).map D.lst = tss.map tsD := by unfold lsT; rw [List.map_map]; rfl
theorem xF_ok (sc : D) (l : List Int) (N Bs : D) (n : Str) (s5 : Sl) (tss : List (List Term)) (hl : tss.length < 10) (hf : ∀ ts ∈ tss, ts.length < 1000) : ∃ c, xF (enN sc l N Bs (.val (.str n)) s5 (.val (lls (lsT tss))) .no .no) = .ok c (enN sc l N Bs (.val (.str n)) s5 (.val (lls (lsT tss))) .no .no) := by
  unfold lls
  rw [lsT_eq]
  obtain ⟨env', c1, c2⟩ := cmp_map (a := xOp oEq (xCall 2 d__law_factor (gVal (xVal 15) (gVal (xVal 4) Dv.gNil))) (xC (.int 0))) (eg := yName 15) (vs := [15]) (enN sc l N Bs (.val (.str n)) s5 (.val (.lst (tss.map tsD))) .no .no) tsD (fun ts => .bl (decide (fac ts n = 0))) tss (enN sc l N Bs (.val (.str n)) s5 (.val (.lst (tss.map tsD))) .no .no) rfl (by omega) (fun ts hts => by
    have v := factor_ok ts n (hf ts hts)
    have q : oEq (.int (fac ts n)) (.int 0) = some (.bl (decide (fac ts n = 0))) := K16M.eqI
    refine ⟨enN sc l N Bs (.val (.str n)) s5 (.val (.lst (tss.map tsD))) .no (.val (tsD ts)), enN sc l N Bs (.val (.str n)) s5 (.val (.lst (tss.map tsD))) .no (.val (tsD ts)), rfl, rfl, ?_, rfl⟩
    (exists v, q))
  have e : (tss.map fun ts => D.bl (decide (fac ts n = 0))) = (tss.map fun ts => decide (fac ts n = 0)).map D.bl := by rw [List.map_map]; rfl
  rw [e] at c1
  have fa : fAll [.lst ((tss.map fun ts => decide (fac ts n = 0)).map D.bl)] = some (.bl ((tss.map fun ts => decide (fac ts n = 0)).all id)) := by
    show (blL _).map _ = _
    rw [blL_ok]
    rfl
  refine ⟨(tss.map fun ts => decide (fac ts n = 0)).all id, ?_⟩
  have lc := r_lc (ei := iSq (xVar 6)) (env := enN sc l N Bs (.val (.str n)) s5 (.val (.lst (tss.map tsD))) .no .no) (e1 := enN sc l N Bs (.val (.str n)) s5 (.val (.lst (tss.map tsD))) .no .no) (by (exists trivial)) c1 c2
  unfold xF
  exact r_test (r_cb (r_cons lc r_nil) fa)
theorem forN_ok (b : Bool) (sc Bs : D) (s5 : Sl) (f5 : isOwn s5 = false) : ∀ (ns : List Str) (tss : List (List Term)) (l : List Int) (s4 : Sl), (∃ d, s4 = .val d) → Dr l → (∀ n ∈ ns, n ∈ nmL b) → (tss.length = 1 ∨ tss.length = 2) → (∀ ts ∈ tss, (∀ t ∈ ts, TOk (nmL b) t) ∧ ts.length + ns.length ≤ 5) → ∃ (tss' : List (List Term)) (l' : List Int) (t4 : Sl), forN 6 (yName 4) xF xR (ns.map .str) (enN sc l (nmD (nmL b)) Bs s4 s5 .no .no .no) (lsT tss) = some (enN sc l' (nmD (nmL b)) Bs t4 s5 .no .no .no, lsT tss') ∧ Dr l' ∧ (∃ d, t4 = .val d) ∧ (tss'.length = 1 ∨ tss'.length = 2) ∧ ∀ ts ∈ tss', FOk b ts
  | [], tss, l, s4, h4, h, _, hl, hf => ⟨tss, l, s4, by unfold forN; rfl, h, h4, hl, fun ts hts => ⟨(hf ts hts).1, by have := (hf ts hts).2; simpa using this⟩⟩
  | n :: ns, tss, l, s4, h4, h, hn, hl, hf => by
    obtain ⟨d4, rfl⟩ := h4
    have g : yName 4 (.str n) (enN sc l (nmD (nmL b)) Bs (.val d4) s5 .no .no .no) = some (enN sc l (nmD (nmL b)) Bs (.val (.str n)) s5 .no .no .no) := rfl
    obtain ⟨c, hc⟩ := xF_ok sc l (nmD (nmL b)) Bs n s5 tss (by omega) (fun ts hts => by have := (hf ts hts).2; omega)
    have cond : flatE (enN sc l (nmD (nmL b)) Bs (.val (.str n)) s5 .no .no .no) ∧ ∀ s, (enN sc l (nmD (nmL b)) Bs (.val (.str n)) s5 .no .no .no)[6]? = some s → isOwn s = false := by
      refine ⟨flat_ok fun s hs => ?_, fun s hs => by cases hs; rfl⟩
      simp only [List.mem_cons, List.mem_nil_iff, or_false] at hs
      rcases hs with rfl | rfl | rfl | rfl | rfl | rfl | rfl | rfl | rfl | rfl | rfl | rfl | rfl | rfl | rfl <;> first | exact f5 | rfl
    rw [List.map_cons]
    cases c with
    | false =>
      obtain ⟨tss', l', t4, k1, k2, k3, k4, k5⟩ := forN_ok b sc Bs s5 f5 ns tss l (.val (.str n)) ⟨_, rfl⟩ h (fun m hm => hn m (List.mem_cons_of_mem _ hm)) hl (fun ts hts => ⟨(hf ts hts).1, by have := (hf ts hts).2; rw [List.length_cons] at this; omega⟩)
      refine ⟨tss', l', t4, ?_, k2, k3, k4, k5⟩
      unfold forN
      rw [g]
      dsimp only
      rw [if_pos cond]
      have hc : xF ((enN sc l (nmD (nmL b)) Bs (.val (.str n)) s5 .no .no .no).set 6 (.val (lls (lsT tss)))) = _ := hc
      rw [hc]
      dsimp only
      rw [if_pos (by rfl)]
      exact k1
    | true =>
      match tss, hl, hf, hc with
      | [], hl, _, _ => simp at hl
      | ts0 :: r, hl, hf, hc =>
        obtain ⟨v, l1, e1, v0, v1, h1⟩ := draw_ok h 4 (by omega) (by omega)
        have t0 := hf ts0 (List.mem_cons_self ..)
        obtain ⟨tss', l', t4, k1, k2, k3, k4, k5⟩ := forN_ok b sc Bs s5 f5 ns ((ts0 ++ [(1 + v, some n)]) :: r) l1 (.val (.str n)) ⟨_, rfl⟩ h1 (fun m hm => hn m (List.mem_cons_of_mem _ hm)) (by simpa using hl) (fun ts hts => by
          rcases List.mem_cons.mp hts with rfl | hts
          · refine ⟨fun t ht => ?_, by have := t0.2; rw [List.length_cons] at this; rw [List.length_append]; simp; omega⟩
            rcases List.mem_append.mp ht with ht | ht
            · exact t0.1 t ht
            · rw [List.mem_singleton.mp ht]
              exact ⟨by show (1 + v).natAbs ≤ 4; omega, fun s hs => by cases hs; exact hn n (List.mem_cons_self ..)⟩
          · have := hf ts (List.mem_cons_of_mem _ hts)
            exact ⟨this.1, by have := this.2; rw [List.length_cons] at this; omega⟩)
        refine ⟨tss', l', t4, ?_, k2, k3, k4, k5⟩
        have ad := addI (a := 1) (b := v)
        have hr : xR (enN sc l (nmD (nmL b)) Bs (.val (.str n)) s5 .no .no .no) = .ok [tmD (1 + v, some n)] (enN sc l1 (nmD (nmL b)) Bs (.val (.str n)) s5 .no .no .no) := by
          unfold xR
          (exists e1, ad)
        have el : lsT ((ts0 ++ [(1 + v, some n)]) :: r) = (ts0.map tmD ++ [tmD (1 + v, some n)]) :: lsT r := by unfold lsT; rw [List.map_cons, List.map_append]; rfl
        rw [el] at k1
        unfold forN
        rw [g]
        dsimp only
        rw [if_pos cond]
        have hc : xF ((enN sc l (nmD (nmL b)) Bs (.val (.str n)) s5 .no .no .no).set 6 (.val (lls (lsT (ts0 :: r))))) = _ := hc
        rw [hc]
        dsimp only
        rw [if_pos (by rfl), hr]
        show (if (ts0.map tmD).length < 1000000 then forN 6 (yName 4) xF xR (ns.map .str) _ ((ts0.map tmD ++ [tmD (1 + v, some n)]) :: lsT r) else none) = _
        rw [if_pos (by have := t0.2; rw [List.length_map]; omega)]
        exact k1
end
end K16L
namespace K16L
open PySem PySem.Spec PyProof.Rows L2 Dv K16 K16M
set_option autoImplicit false
set_option maxHeartbeats 0
noncomputable section
def x4i : EvI := iRg1 (xCons (xOp oAdd (xC (.int 1)) (xCall 2 d__law_draw (gSlot 1 (gVal (xC (.int 2)) Dv.gNil)))) xNil)
def xL2 : EvT := xTest (xOp oEq (xCB fLen (xCons (xVal 2) xNil)) (xC (.int 2)))
theorem nest_ok (b : Bool) (sc Bs : D) (l : List Int) (h : Dr l) (s4 s5 : Sl) (f4 : ∃ d, s4 = .val d) (f5 : ∃ d, s5 = .val d) : ∃ (tss : List (List Term)) (l' : List Int) (t4 : Sl), xNest 6 (nest4 x4i (yName 14) x4 [14]) (nest5 xL2 2 6 (yName 4) xF xR) (enN sc l (nmD (nmL b)) Bs s4 s5 .no .no .no) = .nx (enN sc l' (nmD (nmL b)) Bs t4 s5 (.val (fsD tss)) .no .no) ∧ Dr l' ∧ (∃ d, t4 = .val d) ∧ (tss.length = 1 ∨ tss.length = 2) ∧ ∀ ts ∈ tss, FOk b ts := by
  obtain ⟨v, l1, e1, v0, v1, h1⟩ := draw_ok h 2 (by omega) (by omega)
  obtain ⟨xs, hx, hl, h0⟩ := rng0' (1 + v).toNat
  obtain ⟨tss, l2, k1, k2, k3, k4⟩ := cmpN_ok b sc Bs s4 s5 xs [] l1 .no h1 (by simp; omega) (fun ts hts => by cases hts)
  have ln : tss.length = 1 ∨ tss.length = 2 := by rw [k4, hl]; simp; omega
  have ad := addI (a := 1) (b := v)
  have rg : x4i (enN sc l (nmD (nmL b)) Bs s4 s5 .no .no .no) = .ok (xs.map .int) (enN sc l1 (nmD (nmL b)) Bs s4 s5 .no .no .no) := by
    rw [← hx]
    exact r_rg1 (j := 1 + v) (by (exists e1, ad)) (by omega)
  have n4 : nest4 x4i (yName 14) x4 [14] (enN sc l (nmD (nmL b)) Bs s4 s5 .no .no .no) = some (enN sc l2 (nmD (nmL b)) Bs s4 s5 .no .no .no, lsT tss) := by
    unfold nest4
    rw [rg]
    exact k1
  have fin : ∀ (tss' : List (List Term)) (l' : List Int) (t4 : Sl), nest5 xL2 2 6 (yName 4) xF xR (enN sc l2 (nmD (nmL b)) Bs s4 s5 .no .no .no) (lsT tss) = some (enN sc l' (nmD (nmL b)) Bs t4 s5 .no .no .no, lsT tss') → xNest 6 (nest4 x4i (yName 14) x4 [14]) (nest5 xL2 2 6 (yName 4) xF xR) (enN sc l (nmD (nmL b)) Bs s4 s5 .no .no .no) = .nx (enN sc l' (nmD (nmL b)) Bs t4 s5 (.val (fsD tss')) .no .no) := fun tss' l' t4 e => by
    unfold xNest
    rw [n4]
    dsimp only
    rw [if_pos (show 6 < (enN sc l2 (nmD (nmL b)) Bs s4 s5 .no .no .no).length by show 6 < 17; decide)]
    have e : nest5 xL2 2 6 (yName 4) xF xR ((enN sc l2 (nmD (nmL b)) Bs s4 s5 .no .no .no).set 6 .no) (lsT tss) = _ := e
    rw [e]
    dsimp only
    unfold lls
    rw [lsT_eq]
    rfl
  have t2 : xL2 (enN sc l2 (nmD (nmL b)) Bs s4 s5 .no .no .no) = .ok b (enN sc l2 (nmD (nmL b)) Bs s4 s5 .no .no .no) := by
    unfold xL2
    cases b with
    | true =>
      have q : oEq (.int 2) (.int 2) = some (.bl true) := rfl
      have lq : fLen [nmD (nmL true)] = some (.int 2) := rfl
      (exists lq, q)
    | false =>
      have q : oEq (.int 1) (.int 2) = some (.bl false) := rfl
      have lq : fLen [nmD (nmL false)] = some (.int 1) := rfl
      (exists lq, q)
  cases b with
  | false =>
    refine ⟨tss, l2, s4, fin tss l2 s4 ?_, k2, f4, ln, fun ts hts => ⟨(k3 ts hts).1, by have := (k3 ts hts).2; omega⟩⟩
    unfold nest5
    rw [t2]
  | true =>
    obtain ⟨d5, rfl⟩ := f5
    obtain ⟨tss', l', t4, q1, q2, q3, q4, q5⟩ := forN_ok true sc Bs (.val d5) rfl (nmL true) tss l2 s4 f4 k2 (fun n hn => hn) ln (fun ts hts => ⟨(k3 ts hts).1, by have := (k3 ts hts).2; show ts.length + 2 ≤ 5; omega⟩)
    refine ⟨tss', l', t4, fin tss' l' t4 ?_, q2, q3, q4, q5⟩
    unfold nest5
    rw [t2]
    exact q1
/-! the old values -/
def x11 : EvS := (xIfS (xTest (xOp oGt (xCall 2 d__law_draw (gSlot 1 (gVal (xC (.int 3)) Dv.gNil))) (xC (.int 0))))
 (xSeq (xBox 10 (xLc (iSq (xVar 3)) (yName 16) xYes (xOp oAdd (xOp oIx (xVal 16) (xC (.int 0))) (xCall 2 d__law_draw (gSlot 1 (gVal (xOp oAdd (xOp oSub (xOp oIx (xVal 16) (xC (.int 1))) (xOp oIx (xVal 16) (xC (.int 0)))) (xC (.int 1))) Dv.gNil)))) [16]))
 (xIfS (xTest (xOp oEq (xCall 2 d__law_draw (gSlot 1 (gVal (xC (.int 6)) Dv.gNil))) (xC (.int 0))))
 (xSetIx 10 (xCall 2 d__law_draw (gSlot 1 (gVal (xBor (xCB fLen (xCons (xVal 10) xNil))) Dv.gNil))) (xC .non))
 xNx))
 xNx)
def x16 : Ev := (xOp oAdd (xOp oIx (xVal 16) (xC (.int 0))) (xCall 2 d__law_draw (gSlot 1 (gVal (xOp oAdd (xOp oSub (xOp oIx (xVal 16) (xC (.int 1))) (xOp oIx (xVal 16) (xC (.int 0)))) (xC (.int 1))) Dv.gNil))))
abbrev enO (sc : D) (l : List Int) (N Bs F Rw : D) (s4 s5 s8 s9 s10 s16 : Sl) : Dv.Env := [.val sc, .box (Ls l), .val N, .val Bs, s4, s5, .val F, .val Rw, s8, s9, s10, .no, .no, .no, .no, .no, s16]
theorem x16_ok (sc : D) (l : List Int) (h : Dr l) (N Bs F Rw : D) (s4 s5 s8 s9 s10 : Sl) (lo hi : Int) (hb : lo ≤ hi ∧ hi ≤ lo + 9) : ∃ (v : Int) (l' : List Int), x16 (enO sc l N Bs F Rw s4 s5 s8 s9 s10 (.val (bD lo hi))) = .ok (.int v) (enO sc l' N Bs F Rw s4 s5 s8 s9 s10 (.val (bD lo hi))) ∧ Dr l' := by
  obtain ⟨v, l1, e1, v0, v1, h1⟩ := draw_ok h (hi - lo + 1) (by omega) (by omega)
  have i0 : oIx (bD lo hi) (.int 0) = some (.int lo) := rfl
  have i1 : oIx (bD lo hi) (.int 1) = some (.int hi) := rfl
  have sb := subI (a := hi) (b := lo)
  have ad := addI (a := hi - lo) (b := 1)
  have a2 := addI (a := lo) (b := v)
  refine ⟨lo + v, l1, ?_, h1⟩
  unfold x16
  (exists e1, i0, i1, sb, ad, a2)
theorem comp_old (b : Bool) {x0 x1 y0 y1 : Int} (hb : BOk b x0 x1 y0 y1) (sc : D) (l : List Int) (h : Dr l) (N F Rw : D) (s4 s5 s8 s9 s10 : Sl) : ∃ (a c : Int) (l' : List Int), xLc (iSq (xVar 3)) (yName 16) xYes x16 [16] (enO sc l N (bdD b x0 x1 y0 y1) F Rw s4 s5 s8 s9 s10 .no) = .ok (oldB b (some (some a, some c))) (enO sc l' N (bdD b x0 x1 y0 y1) F Rw s4 s5 s8 s9 s10 .no) ∧ Dr l' := by
  have hx := hb.x
  have hy := hb.y
  cases b with
  | false =>
    obtain ⟨a, l1, e1, h1⟩ := x16_ok sc l h N (bdD false x0 x1 y0 y1) F Rw s4 s5 s8 s9 s10 x0 x1 (by omega)
    refine ⟨a, 0, l1, ?_, h1⟩
    refine r_lc (ds := [bD x0 x1]) (acc := [.int a]) (e1 := enO sc l N (bdD false x0 x1 y0 y1) F Rw s4 s5 s8 s9 s10 .no) (e' := enO sc l1 N (bdD false x0 x1 y0 y1) F Rw s4 s5 s8 s9 s10 (.val (bD x0 x1))) (by (exists trivial)) ?_ rfl
    exact cmp_cons (e := enO sc l N (bdD false x0 x1 y0 y1) F Rw s4 s5 s8 s9 s10 .no) (e1 := enO sc l N (bdD false x0 x1 y0 y1) F Rw s4 s5 s8 s9 s10 (.val (bD x0 x1))) rfl rfl r_yes (sel_t rfl (cmp_el e1 (by decide) rfl rfl))
  | true =>
    obtain ⟨a, l1, e1, h1⟩ := x16_ok sc l h N (bdD true x0 x1 y0 y1) F Rw s4 s5 s8 s9 s10 x0 x1 (by omega)
    obtain ⟨c, l2, e2, h2⟩ := x16_ok sc l1 h1 N (bdD true x0 x1 y0 y1) F Rw s4 s5 s8 s9 s10 y0 y1 (by omega)
    refine ⟨a, c, l2, ?_, h2⟩
    refine r_lc (ds := [bD x0 x1, bD y0 y1]) (acc := [.int a, .int c]) (e1 := enO sc l N (bdD true x0 x1 y0 y1) F Rw s4 s5 s8 s9 s10 .no) (e' := enO sc l2 N (bdD true x0 x1 y0 y1) F Rw s4 s5 s8 s9 s10 (.val (bD y0 y1))) (by (exists trivial)) ?_ rfl
    exact cmp_cons (e := enO sc l N (bdD true x0 x1 y0 y1) F Rw s4 s5 s8 s9 s10 .no) (e1 := enO sc l N (bdD true x0 x1 y0 y1) F Rw s4 s5 s8 s9 s10 (.val (bD x0 x1))) rfl rfl r_yes (sel_t rfl (cmp_el e1 (by decide) rfl
      (cmp_cons (e := enO sc l1 N (bdD true x0 x1 y0 y1) F Rw s4 s5 s8 s9 s10 .no) (e1 := enO sc l1 N (bdD true x0 x1 y0 y1) F Rw s4 s5 s8 s9 s10 (.val (bD y0 y1))) rfl rfl r_yes (sel_t rfl (cmp_el e2 (by show 1 < 1000000; decide) rfl rfl)))))
theorem set_old (b : Bool) (a c : Int) (sc : D) (l : List Int) (h : Dr l) (N Bs F Rw : D) (s4 s5 s8 s9 : Sl) (n4 : isPar s4 = false) (n5 : isPar s5 = false) : ∃ (old : Option (Option Int × Option Int)) (l' : List Int), xSetIx 10 (xCall 2 d__law_draw (gSlot 1 (gVal (xBor (xCB fLen (xCons (xVal 10) xNil))) Dv.gNil))) (xC .non) (enO sc l N Bs F Rw s4 s5 s8 s9 (.box (oldB b (some (some a, some c)))) .no) = .nx (enO sc l' N Bs F Rw s4 s5 s8 s9 (.box (oldB b old)) .no) ∧ Dr l' := by
  have bo : ∀ o : D, borE (enO sc l N Bs F Rw s4 s5 s8 s9 (.box o) .no) = borE (enO sc l N Bs F Rw s4 s5 s8 s9 (.box o) .no) := fun o => rfl
  cases b with
  | false =>
    obtain ⟨v, l1, e1, v0, v1, h1⟩ := draw_ok h 1 (by omega) (by omega)
    have hv : v = 0 := by omega
    subst hv
    refine ⟨some (none, none), l1, ?_, h1⟩
    have ln : fLen [.lst [D.int a]] = some (.int 1) := rfl
    have br : xBor (xCB fLen (xCons (xVal 10) xNil)) (enO sc l N Bs F Rw s4 s5 s8 s9 (.box (.lst [.int a])) .no) = .ok (.int 1) (enO sc l N Bs F Rw s4 s5 s8 s9 (.box (.lst [.int a])) .no) := r_bor (e1 := borE (enO sc l N Bs F Rw s4 s5 s8 s9 (.box (.lst [.int a])) .no)) rfl (r_cb (r_cons (r_val rfl) r_nil) ln) rfl
    exact r_setIx (l := [D.int a]) (j := 0) (m := 0) (l' := [.non]) r_c rfl rfl (by (exists br, e1)) rfl rfl rfl rfl rfl rfl
  | true =>
    obtain ⟨v, l1, e1, v0, v1, h1⟩ := draw_ok h 2 (by omega) (by omega)
    have ln : fLen [.lst [D.int a, D.int c]] = some (.int 2) := rfl
    have br : xBor (xCB fLen (xCons (xVal 10) xNil)) (enO sc l N Bs F Rw s4 s5 s8 s9 (.box (.lst [.int a, .int c])) .no) = .ok (.int 2) (enO sc l N Bs F Rw s4 s5 s8 s9 (.box (.lst [.int a, .int c])) .no) := r_bor (e1 := borE (enO sc l N Bs F Rw s4 s5 s8 s9 (.box (.lst [.int a, .int c])) .no)) rfl (r_cb (r_cons (r_val rfl) r_nil) ln) rfl
    have hv : v = 0 ∨ v = 1 := by omega
    rcases hv with rfl | rfl
    · exact ⟨some (none, some c), l1, r_setIx (l := [D.int a, D.int c]) (j := 0) (m := 0) (l' := [.non, .int c]) r_c rfl rfl (by (exists br, e1)) rfl rfl rfl rfl rfl rfl, h1⟩
    · exact ⟨some (some a, none), l1, r_setIx (l := [D.int a, D.int c]) (j := 1) (m := 1) (l' := [.int a, .non]) r_c rfl rfl (by (exists br, e1)) rfl rfl rfl rfl rfl rfl, h1⟩
theorem gtI' {a b : Int} : oGt (.int a) (.int b) = some (.bl (decide (b < a))) := rfl
theorem eqI' {a b : Int} : oEq (.int a) (.int b) = some (.bl (decide (a = b))) := rfl
theorem old_ok (b : Bool) {x0 x1 y0 y1 : Int} (hb : BOk b x0 x1 y0 y1) (sc : D) (l : List Int) (h : Dr l) (N F Rw : D) (s4 s5 s8 s9 : Sl) (n4 : isPar s4 = false) (n5 : isPar s5 = false) : ∃ (old : Option (Option Int × Option Int)) (l' : List Int) (s10 : Sl), x11 (enO sc l N (bdD b x0 x1 y0 y1) F Rw s4 s5 s8 s9 (.val .non) .no) = .nx (enO sc l' N (bdD b x0 x1 y0 y1) F Rw s4 s5 s8 s9 s10 .no) ∧ Dr l' ∧ Vs s10 (oldB b old) := by
  obtain ⟨v, l1, e1, v0, v1, h1⟩ := draw_ok h 3 (by omega) (by omega)
  have g := gtI' (a := v) (b := 0)
  have t1 : xTest (xOp oGt (xCall 2 d__law_draw (gSlot 1 (gVal (xC (.int 3)) Dv.gNil))) (xC (.int 0))) (enO sc l N (bdD b x0 x1 y0 y1) F Rw s4 s5 s8 s9 (.val .non) .no) = .ok (decide (0 < v)) (enO sc l1 N (bdD b x0 x1 y0 y1) F Rw s4 s5 s8 s9 (.val .non) .no) := by (exists e1, g)
  unfold x11
  by_cases hv : 0 < v
  · rw [decide_eq_true hv] at t1
    obtain ⟨a, c, l2, e2, h2⟩ := comp_old b hb sc l1 h1 N F Rw s4 s5 s8 s9 (.val .non)
    unfold x16 at e2
    obtain ⟨w, l3, e3, w0, w1, h3⟩ := draw_ok h2 6 (by omega) (by omega)
    have q := eqI' (a := w) (b := 0)
    have b1 : (xBox 10 (xLc (iSq (xVar 3)) (yName 16) xYes (xOp oAdd (xOp oIx (xVal 16) (xC (.int 0))) (xCall 2 d__law_draw (gSlot 1 (gVal (xOp oAdd (xOp oSub (xOp oIx (xVal 16) (xC (.int 1))) (xOp oIx (xVal 16) (xC (.int 0)))) (xC (.int 1))) Dv.gNil)))) [16])) (enO sc l1 N (bdD b x0 x1 y0 y1) F Rw s4 s5 s8 s9 (.val .non) .no) = .nx (enO sc l2 N (bdD b x0 x1 y0 y1) F Rw s4 s5 s8 s9 (.box (oldB b (some (some a, some c)))) .no) := r_box e2 rfl rfl rfl
    have t2 : xTest (xOp oEq (xCall 2 d__law_draw (gSlot 1 (gVal (xC (.int 6)) Dv.gNil))) (xC (.int 0))) (enO sc l2 N (bdD b x0 x1 y0 y1) F Rw s4 s5 s8 s9 (.box (oldB b (some (some a, some c)))) .no) = .ok (decide (w = 0)) (enO sc l3 N (bdD b x0 x1 y0 y1) F Rw s4 s5 s8 s9 (.box (oldB b (some (some a, some c)))) .no) := by (exists e3, q)
    by_cases hw : w = 0
    · rw [decide_eq_true hw] at t2
      obtain ⟨old, l4, e4, h4⟩ := set_old b a c sc l3 h3 N (bdD b x0 x1 y0 y1) F Rw s4 s5 s8 s9 n4 n5
      exact ⟨old, l4, _, r_ifS t1 (sel_t rfl (r_seq b1 (sq_nx (r_ifS t2 (sel_t rfl e4))))), h4, .inr rfl⟩
    · rw [decide_eq_false hw] at t2
      exact ⟨_, l3, _, r_ifS t1 (sel_t rfl (r_seq b1 (sq_nx (r_ifS t2 (sel_f rfl r_nx))))), h3, .inr rfl⟩
  · rw [decide_eq_false hv] at t1
    exact ⟨none, l1, _, r_ifS t1 (sel_f rfl r_nx), h1, .inl (by cases b <;> rfl)⟩
end
end K16L
namespace K16L
open PySem PySem.Spec PyProof.Rows L2 Dv K16 K16M
set_option autoImplicit false
set_option maxHeartbeats 0
noncomputable section
def x9 : EvS := (xIfS (xTest (xOp oEq (xCall 2 d__law_draw (gSlot 1 (gVal (xC (.int 4)) Dv.gNil))) (xC (.int 0))))
 (xSetIx 9 (xC (.int 0)) (xOp oSub (xOp oAdd (xBor (xOp oIx (xVal 9) (xC (.int 0)))) (xCall 2 d__law_draw (gSlot 1 (gVal (xC (.int 5)) Dv.gNil)))) (xC (.int 2))))
 xNx)
theorem made_ok (sc : D) (l : List Int) (h : Dr l) (N Bs F Rw : D) (s4 s5 s8 : Sl) (ms : List Int) (hm : ms ≠ []) (hb : ∀ v ∈ ms, v.natAbs ≤ 500) : ∃ (ms' : List Int) (l' : List Int), x9 (enG sc l N Bs F Rw s4 s5 s8 (.box (Ls ms)) .no .no) = .nx (enG sc l' N Bs F Rw s4 s5 s8 (.box (Ls ms')) .no .no) ∧ Dr l' ∧ ms'.length = ms.length ∧ ∀ v ∈ ms', v.natAbs ≤ 1000 := by
  obtain ⟨v, l1, e1, v0, v1, h1⟩ := draw_ok h 4 (by omega) (by omega)
  have q := eqI' (a := v) (b := 0)
  have t1 : xTest (xOp oEq (xCall 2 d__law_draw (gSlot 1 (gVal (xC (.int 4)) Dv.gNil))) (xC (.int 0))) (enG sc l N Bs F Rw s4 s5 s8 (.box (Ls ms)) .no .no) = .ok (decide (v = 0)) (enG sc l1 N Bs F Rw s4 s5 s8 (.box (Ls ms)) .no .no) := by (exists e1, q)
  unfold x9
  by_cases hv : v = 0
  · rw [decide_eq_true hv] at t1
    obtain ⟨w, l2, e2, w0, w1, h2⟩ := draw_ok h1 5 (by omega) (by omega)
    match ms, hm, hb, t1 with
    | [], hm, _, _ => exact (hm rfl).elim
    | m :: r, _, hb, t1 =>
      refine ⟨(m + w - 2) :: r, l2, r_ifS t1 (sel_t rfl ?_), h2, rfl, fun u hu => ?_⟩
      · have ix : oIx (Ls (m :: r)) (.int 0) = some (.int m) := ix0
        have br : xBor (xOp oIx (xVal 9) (xC (.int 0))) (enG sc l1 N Bs F Rw s4 s5 s8 (.box (Ls (m :: r))) .no .no) = .ok (.int m) (enG sc l1 N Bs F Rw s4 s5 s8 (.box (Ls (m :: r))) .no .no) := r_bor (e1 := borE (enG sc l1 N Bs F Rw s4 s5 s8 (.box (Ls (m :: r))) .no .no)) rfl (r_op (r_val rfl) r_c ix) rfl
        have ad := addI (a := m) (b := w)
        have sb := subI (a := m + w) (b := 2)
        exact r_setIx (l := (m :: r).map .int) (j := 0) (m := 0) (l' := ((m + w - 2) :: r).map .int) (e1 := enG sc l2 N Bs F Rw s4 s5 s8 (.box (Ls (m :: r))) .no .no) (d := .int (m + w - 2)) (by (exists br, e2, ad, sb)) rfl rfl r_c rfl rfl ixn0 rfl rfl rfl
      · rcases List.mem_cons.mp hu with rfl | hu
        · have := hb m (List.mem_cons_self ..); omega
        · have := hb u (List.mem_cons_of_mem _ hu); omega
  · rw [decide_eq_false hv] at t1
    exact ⟨ms, l1, r_ifS t1 (sel_f rfl r_nx), h1, rfl, fun u hu => by have := hb u hu; omega⟩
def xForms : Ev := (xLc (iSq (xVar 6)) (yName 15) xYes (xMake 1 2 [] d_Form___init__ (xCons (xVal 15) xNil)) [15])
abbrev enT (sc : D) (l : List Int) (N Bs F Rw : D) (s4 s5 s8 s9 s10 s11 s12 s13 : Sl) : Dv.Env := [.val sc, .box (Ls l), .val N, .val Bs, s4, s5, .val F, .val Rw, s8, s9, s10, s11, s12, s13, .no, .no, .no]
theorem forms_ok (sc : D) (l : List Int) (N Bs Rw : D) (tss : List (List Term)) (hl : tss.length < 10) (hf : ∀ ts ∈ tss, ts.length < 1000) (s4 s5 s8 s9 s10 s11 s12 s13 : Sl) : xForms (enT sc l N Bs (fsD tss) Rw s4 s5 s8 s9 s10 s11 s12 s13) = .ok (.lst (tss.map fmD)) (enT sc l N Bs (fsD tss) Rw s4 s5 s8 s9 s10 s11 s12 s13) := by
  obtain ⟨env', c1, c2⟩ := cmp_map (a := xMake 1 2 [] d_Form___init__ (xCons (xVal 15) xNil)) (eg := yName 15) (vs := [15]) (enT sc l N Bs (fsD tss) Rw s4 s5 s8 s9 s10 s11 s12 s13) tsD fmD tss (enT sc l N Bs (fsD tss) Rw s4 s5 s8 s9 s10 s11 s12 s13) rfl (by omega) (fun ts hts => by
    have v := form_ok ts (hf ts hts)
    refine ⟨[.val sc, .box (Ls l), .val N, .val Bs, s4, s5, .val (fsD tss), .val Rw, s8, s9, s10, s11, s12, s13, .no, .val (tsD ts), .no], [.val sc, .box (Ls l), .val N, .val Bs, s4, s5, .val (fsD tss), .val Rw, s8, s9, s10, s11, s12, s13, .no, .val (tsD ts), .no], rfl, rfl, ?_, rfl⟩
    exact r_make (r_cons (r_val rfl) r_nil) rfl v)
  unfold xForms
  exact r_lc (e1 := enT sc l N Bs (fsD tss) Rw s4 s5 s8 s9 s10 s11 s12 s13) (by (exists trivial)) c1 c2
theorem xvar_ok {i : Nat} {env : Dv.Env} {s : Sl} {d : D} (h : env[i]? = some s) (hs : Vs s d) : xVar i env = .ok d (env.set i (.val d)) := by
  rcases hs with rfl | rfl
  · rw [r_var h]
    congr 1
    refine List.ext_getElem? fun j => ?_
    by_cases e : i = j
    · subst e
      rw [List.getElem?_set_self (List.getElem?_eq_some_iff.mp h).1, h]
    · rw [List.getElem?_set_ne e]
  · exact r_varB h rfl
theorem lst_ok (l : List D) : fList [.lst l] = some (.lst l) := rfl
theorem bdD_lst (b : Bool) (x0 x1 y0 y1 : Int) : ∃ l, bdD b x0 x1 y0 y1 = .lst l := by cases b <;> exact ⟨_, rfl⟩
theorem names_ok {l : List Int} (h : Dr l) : ∃ (b : Bool) (l' : List Int), d__law_pick [.par (Ls l), .val (.lst [nmD (nmL false), nmD (nmL true), nmD (nmL true)])] = .ok (nmD (nmL b)) (some (Ls l')) ∧ Dr l' := by
  obtain ⟨d, l1, e, m, h1⟩ := pick_ok h [nmD (nmL false), nmD (nmL true), nmD (nmL true)] (by decide) (by decide)
  simp only [List.mem_cons, List.mem_nil_iff, or_false] at m
  rcases m with rfl | rfl | rfl
  · exact ⟨false, l1, e, h1⟩
  · exact ⟨true, l1, e, h1⟩
  · exact ⟨true, l1, e, h1⟩
theorem r_thaw {k : Nat} {f : EvS} {env e' : Dv.Env} {d : D} {q : Sr} (h : env[k]? = some (.box d)) (he : env.set k (.val d) = e') (h2 : f e' = q) : xThaw k f env = q := by
  subst he
  unfold xThaw
  rw [h]
  exact h2
theorem law_true (ns : List Int) (h : ns.length ≤ 63) : ∃ p, d_law [.val (.scr (ns.map .int))] = .ok (.bl true) p := by
  obtain ⟨l0, p0, e0, h0⟩ := cells_ok ns
  obtain ⟨b, l1, e1, h1⟩ := names_ok h0
  generalize D.scr (ns.map .int) = sc at *
  obtain ⟨x0, x1, y0, y1, l2, s4, s5, e2, hb, h2, ⟨d4, rfl⟩, ⟨d5, rfl⟩⟩ := bounds_ok b sc l1 h1
  obtain ⟨tss, l3, t4, e3, h3, ⟨c4, rfl⟩, hl, hf⟩ := nest_ok b sc (bdD b x0 x1 y0 y1) l2 h2 (.val d4) (.val d5) ⟨_, rfl⟩ ⟨_, rfl⟩
  have e4 := rows_ok hb
  have rl := rows_len hb
  obtain ⟨d8, l4, e5, m5, h4⟩ := pick_ok h3 ((rowsP b x0 x1 y0 y1).map fun p => Ls (rwL b p.1 p.2)) (by rw [List.length_map]; exact rl.1) (by rw [List.length_map]; exact rl.2)
  obtain ⟨p8, hp8, rfl⟩ := List.mem_map.mp m5
  have in8 := (rows_mem hb p8).mp hp8
  generalize hR : D.lst ((rowsP b x0 x1 y0 y1).map fun p => Ls (rwL b p.1 p.2)) = Rw at e4 e5
  have hl9 : tss.length < 10 := by omega
  have e6 := vals_ok b sc l4 (bdD b x0 x1 y0 y1) Rw tss hf hl9 p8 (.val c4) (.val d5) .no .no .no
  obtain ⟨ms, l5, e7, h5, m7, hv⟩ := made_ok sc l4 h4 (nmD (nmL b)) (bdD b x0 x1 y0 y1) (fsD tss) Rw (.val c4) (.val d5) (.val (Ls (rwL b p8.1 p8.2))) (tss.map fun ts => valF p8.1 p8.2 ts) (by
    intro e
    have := congrArg List.length e
    rw [List.length_map, List.length_nil] at this
    omega) (fun v hv => by
    obtain ⟨ts, hts, rfl⟩ := List.mem_map.mp hv
    have := val_bd hb in8 ts fun t ht => ((hf ts hts).t t ht).1
    have := (hf ts hts).l
    omega)
  obtain ⟨old, l6, s10, e8, h6, hv10⟩ := old_ok b hb sc l5 h5 (nmD (nmL b)) (fsD tss) Rw (.val c4) (.val d5) (.val (Ls (rwL b p8.1 p8.2))) (.box (Ls ms)) rfl rfl
  obtain ⟨o, t8, t9, t10, e9, f8, hv9, hvt, hB⟩ := rows_loop b sc l6 (bdD b x0 x1 y0 y1) Rw tss hf hl9 ms old (.val c4) (.val d5) (rowsP b x0 x1 y0 y1) [] (fun q hq hbf => by
    have := (rows_mem hb q).mp (by simpa using hq)
    obtain ⟨z1, z2⟩ := hb.z hbf
    unfold InB at this
    omega) none (fun q hq => by cases hq) (.val (Ls (rwL b p8.1 p8.2))) (.box (Ls ms)) s10 rfl (.inr rfl) hv10
  rw [List.nil_append] at hB
  have best := best_all hb hB
  obtain ⟨R, e10, hR2⟩ := src_ok hb tss hf hl ms (by rw [m7, List.length_map]) hv old
  have eqR := best_uniq best hR2
  subst eqR
  have e11 := forms_ok sc l6 (nmD (nmL b)) (bdD b x0 x1 y0 y1) Rw tss hl9 (fun ts hts => by have := (hf ts hts).l; omega) (.val c4) (.val d5) t8 (.val (Ls ms)) t10 (.val (ptB b o)) (.val (Ls ms)) .no
  have ne := neLs ms ms
  rw [decide_eq_true rfl] at ne
  obtain ⟨lb, hlb⟩ := bdD_lst b x0 x1 y0 y1
  have fl2 : fList [nmD (nmL b)] = some (nmD (nmL b)) := rfl
  have fl3 : fList [bdD b x0 x1 y0 y1] = some (bdD b x0 x1 y0 y1) := by rw [hlb]; rfl
  have fl9 : fList [Ls ms] = some (Ls ms) := rfl
  have bx1 : ∀ s : Sl, isPar s = false → boxable (some s) = true := fun s hs => by cases s <;> first | rfl | (cases hs; done)
  unfold body4 at e2
  unfold x4i x4 xL2 xF xR at e3
  unfold xVals at e6
  unfold x9 at e7
  unfold x11 at e8
  unfold bodyR tA tB xVals at e9
  unfold xForms at e11
  refine ⟨none, ?_⟩
  unfold d_law b_law
  refine r_run (e' := [.val sc, .no, .no, .no, .no, .no, .no, .no, .no, .no, .no, .no, .no, .no, .no, .no, .no]) (e := enT sc l6 (nmD (nmL b)) (bdD b x0 x1 y0 y1) (fsD tss) Rw (.val c4) (.val d5) t8 (.val (Ls ms)) (.val (oldB b old)) (.val (ptB b o)) (.val (Ls ms)) (.val (ptB b o))) rfl ?_ (by cases t8 <;> first | rfl | (cases f8; done))
  refine r_seq (rs := .nx [.val sc, .box (Ls l0), .no, .no, .no, .no, .no, .no, .no, .no, .no, .no, .no, .no, .no, .no, .no]) ?_ (sq_nx ?_)
  · (exists e0)
  refine r_seq (rs := .nx [.val sc, .box (Ls l1), .val (nmD (nmL b)), .no, .no, .no, .no, .no, .no, .no, .no, .no, .no, .no, .no, .no, .no]) ?_ (sq_nx ?_)
  · (exists e1)
  refine r_seq (rs := .nx (enB sc l1 (nmD (nmL b)) [] .no .no)) ?_ (sq_nx ?_)
  · (exists bx1 .no rfl)
  refine r_seq (rs := .nx (enB sc l2 (nmD (nmL b)) (match b with | true => [bD x0 x1, bD y0 y1] | false => [bD x0 x1]) (.val d4) (.val d5))) ?_ (sq_nx ?_)
  · refine r_for (xs := (nmL b).map .str) (e1 := enB sc l1 (nmD (nmL b)) [] .no .no) (by (exists trivial)) e2
  refine r_thaw (e' := enN sc l2 (nmD (nmL b)) (bdD b x0 x1 y0 y1) (.val d4) (.val d5) .no .no .no) rfl (by cases b <;> rfl) ?_
  refine r_seq (rs := .nx (enN sc l3 (nmD (nmL b)) (bdD b x0 x1 y0 y1) (.val c4) (.val d5) (.val (fsD tss)) .no .no)) e3 (sq_nx ?_)
  refine r_seq (rs := .nx (enG sc l3 (nmD (nmL b)) (bdD b x0 x1 y0 y1) (fsD tss) Rw (.val c4) (.val d5) .no .no .no .no)) ?_ (sq_nx ?_)
  · refine r_set (e1 := enN sc l3 (nmD (nmL b)) (bdD b x0 x1 y0 y1) (.val c4) (.val d5) (.val (fsD tss)) .no .no) (d := Rw) ?_ rfl
    exact r_call (r_gval (r_var rfl) r_gnil) rfl rfl (ck_v e4)
  refine r_seq (rs := .nx (enG sc l4 (nmD (nmL b)) (bdD b x0 x1 y0 y1) (fsD tss) Rw (.val c4) (.val d5) (.val (Ls (rwL b p8.1 p8.2))) .no .no .no)) ?_ (sq_nx ?_)
  · refine r_set (e1 := enG sc l4 (nmD (nmL b)) (bdD b x0 x1 y0 y1) (fsD tss) Rw (.val c4) (.val d5) .no .no .no .no) (d := Ls (rwL b p8.1 p8.2)) ?_ rfl
    exact r_call (r_gslot rfl rfl (r_gval (r_val rfl) r_gnil)) rfl rfl (ck_s rfl e5 rfl rfl)
  refine r_seq (rs := .nx (enG sc l4 (nmD (nmL b)) (bdD b x0 x1 y0 y1) (fsD tss) Rw (.val c4) (.val d5) (.val (Ls (rwL b p8.1 p8.2))) (.box (Ls (tss.map fun ts => valF p8.1 p8.2 ts))) .no .no)) (r_box e6 rfl rfl rfl) (sq_nx ?_)
  refine r_seq e7 (sq_nx ?_)
  refine r_seq (rs := .nx (enO sc l5 (nmD (nmL b)) (bdD b x0 x1 y0 y1) (fsD tss) Rw (.val c4) (.val d5) (.val (Ls (rwL b p8.1 p8.2))) (.box (Ls ms)) (.val .non) .no)) (r_set r_c rfl) (sq_nx ?_)
  refine r_seq e8 (sq_nx ?_)
  refine r_seq (rs := .nx (enF sc l6 (nmD (nmL b)) (bdD b x0 x1 y0 y1) (fsD tss) Rw (.val c4) (.val d5) (.val (Ls (rwL b p8.1 p8.2))) (.box (Ls ms)) s10 .non)) (r_set r_c rfl) (sq_nx ?_)
  refine r_seq (r_for (r_isq (r_val rfl) (by rw [← hR]; rfl)) e9) (sq_nx ?_)
  refine r_seq (rs := .nx (enT sc l6 (nmD (nmL b)) (bdD b x0 x1 y0 y1) (fsD tss) Rw (.val c4) (.val d5) t8 (.val (Ls ms)) t10 (.val (ptB b o)) (.val (Ls ms)) .no)) (r_set (r_cb (r_cons (xvar_ok rfl hv9) r_nil) fl9) rfl) (sq_nx ?_)
  refine r_seq (rs := .nx (enT sc l6 (nmD (nmL b)) (bdD b x0 x1 y0 y1) (fsD tss) Rw (.val c4) (.val d5) t8 (.val (Ls ms)) (.val (oldB b old)) (.val (ptB b o)) (.val (Ls ms)) (.val (ptB b o)))) ?_ (sq_nx ?_)
  · refine r_set (e1 := enT sc l6 (nmD (nmL b)) (bdD b x0 x1 y0 y1) (fsD tss) Rw (.val c4) (.val d5) t8 (.val (Ls ms)) (.val (oldB b old)) (.val (ptB b o)) (.val (Ls ms)) .no) (d := ptB b o) ?_ rfl
    refine r_call (r_gval e11 (r_gval (r_cb (r_cons (r_val rfl) r_nil) fl2) (r_gval (r_cb (r_cons (r_var rfl) r_nil) fl3) (r_gval (r_val rfl) (r_gval (xvar_ok rfl hvt) r_gnil))))) rfl rfl (ck_v e10)
  refine r_seq (r_ifS (bb := false) (r_test (r_op (r_val rfl) (r_var rfl) ne)) (sel_f rfl r_nx)) (sq_nx ?_)
  cases o with
  | none =>
    have is : oIs (ptB b none) .non = some (.bl true) := rfl
    exact r_seq (rs := .rt (.bl true) _) (r_ifS (bb := true) (r_test (r_op (r_val rfl) r_c is)) (sel_t rfl (r_ret (r_op (r_val rfl) r_c is)))) sq_rt
  | some p =>
    have is : oIs (ptB b (some p)) .non = some (.bl false) := rfl
    have ii : fIs isOO isOB isBT [ptB b (some p), .ty "list"] = some (.bl true) := rfl
    have q := eqLs (rwL b p.1 p.2) (rwL b p.1 p.2)
    rw [decide_eq_true rfl] at q
    refine r_seq (r_ifS (bb := false) (r_test (r_op (r_val rfl) r_c is)) (sel_f rfl r_nx)) (sq_nx ?_)
    exact r_ret (r_andV (r_cb (r_cons (r_val rfl) (r_cons r_c r_nil)) ii) (sel_t rfl (r_op (r_val rfl) (r_val rfl) q)))
end
end K16L
end
namespace K16L
open PySem PySem.Spec PyProof.Rows L2 Dv K16
set_option autoImplicit false
noncomputable section
abbrev spLaw := Dv.spTrue
theorem ok_law {P : Program} {w : World} {K : PySem.W.Frag} {mg : Str → Option Value} {base : Heap} {A : Ad} (T : Txt K mg A) : FnOk P w K mg base CX0 7 A.f_law A.fd_law ["script"] (spLaw K) := (K16.ok_law T).imp fun vs H Q E h => Dv.law_imp law_true vs H Q E h
end
end K16L
open PySem PySem.W PySem.Calls PyProof.Rows in
set_option maxRecDepth 100000 in
set_option maxHeartbeats 0 in
theorem PySem.Challenge.cw_oneheap_k16_nearest_integers_holds : PySem.Challenge.rw_oneheap_k16_nearest_integers.Holds := by
  refine K16.endPre ?_
  refine L2.walk_ofE (l := PySem.Challenge.rw_oneheap_k16_nearest_integers) (n := 63) (k := 7) (x := "script") (CX := L2.CX0) rfl (by decide) (by kernel_rfl) ⟨rfl, by decide, by decide⟩ ?F (fun _ _ _ _ z => z)
  intro w mg fa h Y G hmg0
  obtain ⟨K, KX, c⟩ := Y
  have hmg : mg ("law" : PySem.Str) = some (.ref fa) := by
    have e : (HandSHeadRun.topDef (PySem.W.OpenLaw.row PySem.Challenge.rw_oneheap_k16_nearest_integers).prog 26).name = ("law" : PySem.Str) := by kernel_rfl
    rw [← e]
    exact hmg0
  have T := K16.mk_txt (w := w) KX G c
  have e := hmg.symm.trans (K16.law_at KX G c)
  cases e
  refine ⟨K, (K16.adr K).fd_law, K16L.spLaw K, KX, fun s u => ?_, fun H a ns hl _ hS => ⟨a, ns, rfl, hS, hl, fun _ => rfl⟩, fun base _ _ => K16L.ok_law T⟩
  obtain ⟨_, _, _, _, _, _, _, _, _, e, _⟩ := T.F_law.ex
  rw [e]
  exact .of_eq rfl
