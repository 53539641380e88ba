import PyProof.Rows.All
import Wide.All
import OpenK.AllK
import Wide.FinOn
import HandS.ForMost
import HandS.Codes
import HandS.Exc
import HandS.ExcOwn
import HandS.ExcInit
import HandS.ExcField
import HandS.ExcIs
import HandS.WordsExc
import HandS.IsInst
import KE.KExcIs
import HandS.More
import HandS.Iter
import HandS.DictComp
import HandS.Star
import HandS.FStr
import HandS.Comp
import HandS.CallLocal
import HandS.Defaults
import HandS.Conv
import HandS.Wide
import HandS.Zip
import HandS.Flow
import HandS.SortInts
import HandS.NoneIn
import HandS.Deep
import HandS.Text
import HandS.OwnEq
import PyProof.InstNe
import HandS.DeepEq
import PyProof.ReprLen
import HandS.HeadEnd
import KE.KStateDown
import HandS.Head0
import HandS.Head1
import HandS.Head2
import HandS.HeadHook1
import HandS.HeadHook2
import HandS.HeadHook3
import HandS.HeadHook4
import PySem.Challenge.RW_oneheap_k39_what_contents_tell
set_option Elab.async false
set_option linter.all false
set_option maxRecDepth 100000
set_option maxHeartbeats 0
namespace Dv
open PySem PySem.Spec PyProof.Rows L2
set_option autoImplicit false
noncomputable section
/-! ### values as trees -/
inductive D where
  | non | bl (b : Bool) | int (i : Int) | str (s : Str) | st (k : Nat) | ty (n : String)
  | lst (xs : List D) | scr (xs : List D) | tup (xs : List D) | dct (kvs : List (Key × D)) | ins (C : Nat) (fs : List (Str × D))

/-- G is held in H; its dicts may be locked -/
def Inn (G H : Hp) : Prop := ∀ a u, G a = some u → H a = some u ∨ ∃ o kvs, u = .dK kvs ∧ H a = some (.frz o u)

section
variable (K : PySem.W.Frag) (S : Nat → Addr)
mutual
def Rep (G : Hp) : D → V → Prop
  | .non, v => v = .non
  | .bl b, v => v = .bl b
  | .int i, v => v = .int i
  | .str s, v => v = .str s
  | .st k, v => v = .ref (S k)
  | .ty n, v => v = .ty n
  | .lst xs, v => ∃ a vs, v = .ref a ∧ G a = some (.lst vs) ∧ RepL G xs vs
  | .scr xs, v => ∃ a vs, v = .ref a ∧ SqL K G a vs ∧ RepL G xs vs
  | .tup xs, v => ∃ a vs, v = .ref a ∧ SqT K G a vs ∧ RepL G xs vs
  | .dct kvs, v => ∃ a ws, v = .ref a ∧ G a = some (.dK ws) ∧ RepK G kvs ws
  | .ins C fs, v => ∃ a dx ws, v = .ref a ∧ G a = some (.ins (S C) dx ws) ∧ RepF G fs ws
def RepL (G : Hp) : List D → List V → Prop
  | [], vs => vs = []
  | x :: xs, vs => ∃ v ws, vs = v :: ws ∧ Rep G x v ∧ RepL G xs ws
def RepK (G : Hp) : List (Key × D) → List (Key × V) → Prop
  | [], vs => vs = []
  | x :: xs, vs => ∃ v ws, vs = (x.1, v) :: ws ∧ Rep G x.2 v ∧ RepK G xs ws
def RepF (G : Hp) : List (Str × D) → List (Str × V) → Prop
  | [], vs => vs = []
  | x :: xs, vs => ∃ v ws, vs = (x.1, v) :: ws ∧ Rep G x.2 v ∧ RepF G xs ws
end
/-- an object of one's own: its content -/
def RepO (G : Hp) : D → HO → Prop
  | .lst xs, o => ∃ vs, o = .lst vs ∧ RepL K S G xs vs
  | .dct kvs, o => ∃ ws, o = .dK ws ∧ RepK K S G kvs ws
  | .ins C fs, o => ∃ dx ws, o = .ins (S C) dx ws ∧ RepF K S G fs ws
  | _, _ => False
end
section
variable {K : PySem.W.Frag} {S : Nat → Addr}
mutual
theorem Rep.mono {G G' : Hp} (h : Same G G') : ∀ {d : D} {v : V}, Rep K S G d v → Rep K S G' d v
  | .non, _, r => r
  | .bl _, _, r => r
  | .int _, _, r => r
  | .str _, _, r => r
  | .st _, _, r => r
  | .ty _, _, r => r
  | .lst xs, _, ⟨a, vs, e, q, r⟩ => ⟨a, vs, e, h _ _ q, RepL.mono h r⟩
  | .scr xs, _, ⟨a, vs, e, q, r⟩ => ⟨a, vs, e, h.seq q, RepL.mono h r⟩
  | .tup xs, _, ⟨a, vs, e, q, r⟩ => ⟨a, vs, e, q.elim (fun q => .inl (q.elim (fun q => .inl (h _ _ q)) fun ⟨o, q⟩ => .inr ⟨o, h _ _ q⟩)) .inr, RepL.mono h r⟩
  | .dct kvs, _, ⟨a, ws, e, q, r⟩ => ⟨a, ws, e, h _ _ q, RepK.mono h r⟩
  | .ins C fs, _, ⟨a, dx, ws, e, q, r⟩ => ⟨a, dx, ws, e, h _ _ q, RepF.mono h r⟩
theorem RepL.mono {G G' : Hp} (h : Same G G') : ∀ {d : List D} {v : List V}, RepL K S G d v → RepL K S G' d v
  | [], _, r => r
  | x :: xs, _, ⟨v, ws, e, q, r⟩ => ⟨v, ws, e, Rep.mono h q, RepL.mono h r⟩
theorem RepK.mono {G G' : Hp} (h : Same G G') : ∀ {d : List (Key × D)} {v : List (Key × V)}, RepK K S G d v → RepK K S G' d v
  | [], _, r => r
  | x :: xs, _, ⟨v, ws, e, q, r⟩ => ⟨v, ws, e, Rep.mono h q, RepK.mono h r⟩
theorem RepF.mono {G G' : Hp} (h : Same G G') : ∀ {d : List (Str × D)} {v : List (Str × V)}, RepF K S G d v → RepF K S G' d v
  | [], _, r => r
  | x :: xs, _, ⟨v, ws, e, q, r⟩ => ⟨v, ws, e, Rep.mono h q, RepF.mono h r⟩
end
theorem RepO.mono {G G' : Hp} (h : Same G G') : ∀ {d : D} {o : HO}, RepO K S G d o → RepO K S G' d o
  | .lst xs, _, ⟨vs, e, r⟩ => ⟨vs, e, r.mono h⟩
  | .dct kvs, _, ⟨ws, e, r⟩ => ⟨ws, e, r.mono h⟩
  | .ins C fs, _, ⟨dx, ws, e, r⟩ => ⟨dx, ws, e, r.mono h⟩
theorem RepL.iff {G : Hp} : ∀ {xs : List D} {vs : List V}, RepL K S G xs vs ↔ Paired (Rep K S G) xs vs
  | [], vs => ⟨fun h => by cases h; exact .nil, fun h => by cases h; rfl⟩
  | x :: xs, vs => ⟨fun ⟨v, ws, e, q, r⟩ => by subst e; exact .cons q (RepL.iff.mp r), fun h => by
      cases h with
      | cons q r => exact ⟨_, _, rfl, q, RepL.iff.mpr r⟩⟩
theorem RepL.nil {G : Hp} : RepL K S G [] [] := rfl
theorem RepL.cons {G : Hp} {x : D} {v : V} {xs : List D} {vs : List V} (q : Rep K S G x v) (r : RepL K S G xs vs) : RepL K S G (x :: xs) (v :: vs) := ⟨v, vs, rfl, q, r⟩
theorem RepL.length {G : Hp} {xs : List D} {vs : List V} (h : RepL K S G xs vs) : xs.length = vs.length := Paired.length (RepL.iff.mp h)
theorem RepL.app {G : Hp} : ∀ {xs ys : List D} {vs ws : List V}, RepL K S G xs vs → RepL K S G ys ws → RepL K S G (xs ++ ys) (vs ++ ws)
  | [], _, _, _, r, q => by cases r; exact q
  | x :: xs, ys, _, ws, ⟨v, us, e, q, r⟩, q2 => by subst e; exact ⟨v, us ++ ws, rfl, q, r.app q2⟩
theorem RepL.get {G : Hp} : ∀ {xs : List D} {vs : List V} {i : Nat} {x : D}, RepL K S G xs vs → xs[i]? = some x → ∃ v, vs[i]? = some v ∧ Rep K S G x v
  | [], _, _, _, _, e => by simp at e
  | x :: xs, _, 0, y, ⟨v, ws, e, q, r⟩, h => by subst e; simp at h; subst h; exact ⟨v, rfl, q⟩
  | x :: xs, _, i + 1, y, ⟨v, ws, e, q, r⟩, h => by
    subst e
    obtain ⟨u, h1, h2⟩ := r.get (i := i) (x := y) (by simpa using h)
    exact ⟨u, by simpa using h1, h2⟩
theorem RepL.one {G : Hp} {x : D} {vs : List V} (h : RepL K S G [x] vs) : ∃ v, vs = [v] ∧ Rep K S G x v := by
  obtain ⟨v, ws, rfl, q, r⟩ := h
  cases r
  exact ⟨v, rfl, q⟩
theorem RepL.two {G : Hp} {x y : D} {vs : List V} (h : RepL K S G [x, y] vs) : ∃ v w, vs = [v, w] ∧ Rep K S G x v ∧ Rep K S G y w := by
  obtain ⟨v, ws, rfl, q, r⟩ := h
  obtain ⟨w, ws', rfl, q2, r⟩ := r
  cases r
  exact ⟨v, w, rfl, q, q2⟩
theorem RepL.take {G : Hp} : ∀ {xs : List D} {vs : List V} (n : Nat), RepL K S G xs vs → RepL K S G (xs.take n) (vs.take n)
  | _, _, 0, _ => rfl
  | [], _, n + 1, r => by cases r; rfl
  | x :: xs, _, n + 1, ⟨v, ws, e, q, r⟩ => by subst e; exact ⟨v, _, rfl, q, r.take n⟩
theorem RepL.drop {G : Hp} : ∀ {xs : List D} {vs : List V} (n : Nat), RepL K S G xs vs → RepL K S G (xs.drop n) (vs.drop n)
  | _, _, 0, r => r
  | [], _, n + 1, r => by cases r; rfl
  | x :: xs, _, n + 1, ⟨v, ws, e, q, r⟩ => by subst e; exact r.drop n
/-! Inn -/
theorem Inn.seq {G H : Hp} {a : Addr} {xs : List V} (e : Inn G H) (h : SqL K G a xs) : SqL K H a xs := by
  rcases h with (h | ⟨o, h⟩) | h
  · rcases e _ _ h with q | ⟨_, _, q, _⟩
    · exact .inl (.inl q)
    · cases q
  · rcases e _ _ h with q | ⟨_, _, q, _⟩
    · exact .inl (.inr ⟨o, q⟩)
    · cases q
  · exact .inr h
theorem Inn.tup {G H : Hp} {a : Addr} {xs : List V} (e : Inn G H) (h : SqT K G a xs) : SqT K H a xs := by
  rcases h with (h | ⟨o, h⟩) | h
  · rcases e _ _ h with q | ⟨_, _, q, _⟩
    · exact .inl (.inl q)
    · cases q
  · rcases e _ _ h with q | ⟨_, _, q, _⟩
    · exact .inl (.inr ⟨o, q⟩)
    · cases q
  · exact .inr h
theorem Inn.lst {G H : Hp} {a : Addr} {xs : List V} (e : Inn G H) (h : G a = some (.lst xs)) : H a = some (.lst xs) := by
  rcases e _ _ h with q | ⟨_, _, q, _⟩
  · exact q
  · cases q
theorem Inn.dct {G H : Hp} {a : Addr} {ws : List (Key × V)} (e : Inn G H) (h : Rd G a (.dK ws)) : Rd H a (.dK ws) := by
  rcases h with h | ⟨o, h⟩
  · rcases e _ _ h with q | ⟨o, _, q, q2⟩
    · exact .inl q
    · exact .inr ⟨o, q2⟩
  · rcases e _ _ h with q | ⟨_, _, q, _⟩
    · exact .inr ⟨o, q⟩
    · cases q
theorem Inn.ins {G H : Hp} {a C dx : Addr} {ws : List (Str × V)} (e : Inn G H) (h : G a = some (.ins C dx ws)) : H a = some (.ins C dx ws) := by
  rcases e _ _ h with q | ⟨_, _, q, _⟩
  · exact q
  · cases q
theorem Inn.some {G H : Hp} {a : Addr} (e : Inn G H) (h : H a = none) : G a = none := by
  cases q : G a with
  | none => rfl
  | some u =>
    rcases e _ _ q with q | ⟨_, _, _, q⟩
    · rw [h] at q; cases q
    · rw [h] at q; cases q
theorem Inn.up {G H H' : Hp} (e : Inn G H) (s : Same H H') : Inn G H' := fun a u h => (e a u h).elim (fun q => .inl (s _ _ q)) fun ⟨o, kvs, q1, q2⟩ => .inr ⟨o, kvs, q1, s _ _ q2⟩
/-- things are only added -/
structure Ex (G H G' H' : Hp) : Prop where
  g : Same G G'
  h : Same H H'
  inn : Inn G' H'
  new : ∀ a, G' a ≠ none → G a = none → H a = none
theorem Ex.refl {G H : Hp} (i : Inn G H) : Ex G H G H := ⟨.refl _, .refl _, i, fun _ h e => (h e).elim⟩
theorem Ex.trans {G H G1 H1 G2 H2 : Hp} (a : Ex G H G1 H1) (b : Ex G1 H1 G2 H2) : Ex G H G2 H2 := ⟨a.g.trans b.g, a.h.trans b.h, b.inn, fun x h e => by
  by_cases q : G1 x = none
  · have := b.new x h q
    exact a.h.free this
  · exact a.new x q e⟩
theorem same_upd {H : Hp} {p : Addr} {o : HO} (h : H p = none) : Same H (upd H p o) := fun b u e => by rw [upd_ne (ne_of_none e h)]; exact e
theorem Ex.new1 {G H : Hp} {p : Addr} {o : HO} (i : Inn G H) (hp : H p = none) : Ex G H (upd G p o) (upd H p o) := ⟨same_upd (i.some hp), same_upd hp, fun a u e => by
  by_cases h : a = p
  · subst h; rw [upd_same] at e ⊢; exact .inl e
  · rw [upd_ne h] at e ⊢; exact i a u e, fun a h e => by
  by_cases q : a = p
  · subst q; exact hp
  · rw [upd_ne q] at h; exact (h e).elim⟩
theorem Ex.skip {G H : Hp} {p : Addr} {o : HO} (i : Inn G H) (hp : H p = none) : Ex G H G (upd H p o) := ⟨.refl _, same_upd hp, i.up (same_upd hp), fun a h e => (h e).elim⟩
theorem Ex.same {G H H' : Hp} (i : Inn G H) (s : Same H H') : Ex G H G H' := ⟨.refl _, s, i.up s, fun a h e => (h e).elim⟩
end
/-! ### slots, the state of a def -/
inductive Sl where
  | no | val (d : D) | box (d : D) | par (d : D)
abbrev Env := List Sl
structure Base where
  G : Hp
  H : Hp
  r : Option Addr
abbrev Lk := List (Addr × HO)
structure Ste (B : Base) (L : Lk) (G H : Hp) : Prop where
  g0 : Same B.G G
  inn : Inn G H
  new : ∀ a, G a ≠ none → B.G a = none → B.H a = none
  keep : ∀ a o, B.H a = some o → B.r ≠ some a → (∀ p ∈ L, p.1 ≠ a) → H a = some o
  lock : ∀ p ∈ L, H p.1 = some p.2
  par : ∀ a, B.r = some a → G a = none ∧ H a ≠ none ∧ B.H a ≠ none ∧ ∀ p ∈ L, p.1 ≠ a
  out : ∀ p ∈ L, (∀ o u, p.2 ≠ .frz o u) → G p.1 = none
section
variable (K : PySem.W.Frag) (S : Nat → Addr)
def SlOk (B : Base) (G H : Hp) : Sl → Option V → Prop
  | .no, _ => True
  | .val d, x => ∃ v, x = some v ∧ Rep K S G d v
  | .box d, x => ∃ a o, x = some (V.ref a) ∧ G a = none ∧ B.H a = none ∧ H a = some o ∧ RepO K S G d o
  | .par d, x => ∃ a o, x = some (V.ref a) ∧ B.r = some a ∧ H a = some o ∧ RepO K S G d o
def isOwn : Sl → Bool
  | .box _ => true
  | .par _ => true
  | _ => false
structure Rel (B : Base) (L : Lk) (G H : Hp) (env : Env) (σ : L2.St) : Prop where
  at_ : Paired (SlOk K S B G H) env σ
  nd : ∀ (i j : Nat) (s t : Sl) (a : Addr), i ≠ j → env[i]? = some s → env[j]? = some t → isOwn s = true → isOwn t = true → σ[i]? = some (some (V.ref a)) → σ[j]? ≠ some (some (V.ref a))
  nl : ∀ (i : Nat) (s : Sl) (a : Addr), env[i]? = some s → isOwn s = true → σ[i]? = some (some (V.ref a)) → ∀ p ∈ L, p.1 ≠ a
end
section
variable {K : PySem.W.Frag} {S : Nat → Addr} {B : Base} {L : Lk} {G H G' H' : Hp} {env : Env} {σ : L2.St}
theorem Ste.free (s : Ste B L G H) {a : Addr} (h : H a = none) : B.H a = none := by
  cases q : B.H a with
  | none => rfl
  | some o =>
    by_cases hl : ∃ p ∈ L, p.1 = a
    · obtain ⟨p, hp, e⟩ := hl
      have := s.lock p hp
      rw [e, h] at this
      cases this
    · by_cases hr : B.r = some a
      · exact ((s.par a hr).2.1 h).elim
      · have := s.keep a o q hr fun p hp e => hl ⟨p, hp, e⟩
        rw [h] at this
        cases this
theorem Ste.ex (s : Ste B L G H) (x : Ex G H G' H') : Ste B L G' H' where
  g0 := s.g0.trans x.g
  inn := x.inn
  new := fun a h e => by
    by_cases q : G a = none
    · exact s.free (x.new a h q)
    · exact s.new a q e
  keep := fun a o e r l => x.h _ _ (s.keep a o e r l)
  lock := fun p hp => x.h _ _ (s.lock p hp)
  par := fun a r => by
    obtain ⟨h1, h2, h4, h3⟩ := s.par a r
    refine ⟨?_, fun e => h2 (x.h.free e), h4, h3⟩
    cases q : G' a with
    | none => rfl
    | some o => exact (h2 (x.new a (by rw [q]; intro e; cases e) h1)).elim
  out := fun p hp hf => by
    have h1 := s.out p hp hf
    cases q : G' p.1 with
    | none => rfl
    | some o =>
      have := x.new p.1 (by rw [q]; intro e; cases e) h1
      rw [s.lock p hp] at this
      cases this
theorem SlOk.ex (x : Ex G H G' H') {s : Sl} {o : Option V} (h : SlOk K S B G H s o) : SlOk K S B G' H' s o := by
  cases s with
  | no => trivial
  | val d =>
    obtain ⟨v, e, r⟩ := h
    exact ⟨v, e, r.mono x.g⟩
  | box d =>
    obtain ⟨a, o, e, g, b, e2, r⟩ := h
    refine ⟨a, o, e, ?_, b, x.h _ _ e2, r.mono x.g⟩
    cases q : G' a with
    | none => rfl
    | some u =>
      have := x.new a (by rw [q]; intro e; cases e) g
      rw [e2] at this
      cases this
  | par d =>
    obtain ⟨a, o, e, b, e2, r⟩ := h
    exact ⟨a, o, e, b, x.h _ _ e2, r.mono x.g⟩
theorem Rel.ex (r : Rel K S B L G H env σ) (x : Ex G H G' H') : Rel K S B L G' H' env σ := ⟨L2.Paired.mapP r.at_ fun _ _ q => q.ex x, r.nd, r.nl⟩
theorem paired_get {α γ : Type} {F : α → γ → Prop} : ∀ {l : List α} {m : List γ} {i : Nat} {a : α}, Paired F l m → l[i]? = some a → ∃ b, m[i]? = some b ∧ F a b
  | _, _, _, _, .nil, e => by simp at e
  | _, _, 0, _, .cons r _, e => by simp at e; subst e; exact ⟨_, rfl, r⟩
  | _, _, i + 1, a, .cons _ t, e => by
    obtain ⟨u, h1, h2⟩ := paired_get (i := i) (a := a) t (by simpa using e)
    exact ⟨u, by simpa using h1, h2⟩
theorem paired_set {α γ : Type} {F : α → γ → Prop} {a : α} {b : γ} (h : F a b) : ∀ {l : List α} {m : List γ} (i : Nat), Paired F l m → Paired F (l.set i a) (m.set i b)
  | _, _, _, .nil => .nil
  | _, _, 0, .cons _ t => .cons h t
  | _, _, i + 1, .cons q t => .cons q (paired_set h i t)
theorem paired_len {α γ : Type} {F : α → γ → Prop} {l : List α} {m : List γ} (p : Paired F l m) : l.length = m.length := Paired.length p
theorem paired_of {α γ : Type} {F : α → γ → Prop} : ∀ {l : List α} {m : List γ}, l.length = m.length → (∀ (i : Nat) a b, l[i]? = some a → m[i]? = some b → F a b) → Paired F l m
  | [], [], _, _ => .nil
  | a :: l, b :: m, e, h => .cons (h 0 a b rfl rfl) (paired_of (by simpa using e) fun i x y h1 h2 => h (i + 1) x y (by simpa using h1) (by simpa using h2))
end
/-! ### outcomes -/
inductive Res (α : Type) where
  | ok (a : α) (e : Env)
  | ex (C : Nat) (fs : List (Str × D)) (e : Env)
  | no
def Res.bind {α β : Type} (r : Res α) (k : α → Env → Res β) : Res β := match r with
  | .ok a e => k a e
  | .ex C fs e => .ex C fs e
  | .no => .no
def Res.of {α : Type} (o : Option α) (e : Env) : Res α := match o with
  | some a => .ok a e
  | none => .no
section
variable (K : PySem.W.Frag) (S : Nat → Addr) (E : XK)
def XD (G H : Hp) (fs : List (Str × D)) (od : Option Addr) : Prop := (fs = [] ∧ od = none) ∨ ∃ dd ws, od = some dd ∧ H dd = some (.xd ws) ∧ RepF K S G fs ws
def Post {α : Type} (B : Base) (L : Lk) (σ : L2.St) (G : Hp) (P : Hp → Hp → α → Env → Prop) : Res α → Prop
  | .ok a env => ∀ G' H', Same G G' → Ste B L G' H' → Rel K S B L G' H' env σ → P G' H' a env
  | .ex C fs env => ∀ od G' H', Same G G' → Ste B L G' H' → Rel K S B L G' H' env σ → XD K S G' H' fs od → E (Value.ref (S C)) od H'
  | .no => False
end
section
variable {K : PySem.W.Frag} {S : Nat → Addr} {E : XK} {B : Base} {L : Lk} {G G1 H G' H' : Hp} {env : Env} {σ : L2.St} {α β : Type} {r : Res α} {P P' : Hp → Hp → α → Env → Prop}
theorem Post.imp (h : Post K S E B L σ G P r) (f : ∀ G' H' a e, Same G G' → Ste B L G' H' → Rel K S B L G' H' e σ → P G' H' a e → P' G' H' a e) : Post K S E B L σ G P' r := by
  cases r with
  | ok a e => exact fun G' H' s st rl => f _ _ _ _ s st rl (h G' H' s st rl)
  | ex C fs e => exact h
  | no => exact h
theorem Post.up (h : Post K S E B L σ G P r) (s : Same G G1) : Post K S E B L σ G1 P r := by
  cases r with
  | ok a e => exact fun G' H' s' => h G' H' (s.trans s')
  | ex C fs e => exact fun od G' H' s' => h od G' H' (s.trans s')
  | no => exact h
theorem Post.bind {k : α → Env → Res β} {P : Hp → Hp → β → Env → Prop} (h : Post K S E B L σ G P (r.bind k)) : Post K S E B L σ G (fun G' H' a e => Post K S E B L σ G' P (k a e)) r := by
  cases r with
  | ok a e => exact fun G' H' s st rl => Post.up h s
  | ex C fs e => exact h
  | no => exact h
/-- bind, with what is known behind the first -/
theorem Post.then {k : α → Env → Res β} {P : Hp → Hp → β → Env → Prop} (h : Post K S E B L σ G P (r.bind k)) (f : ∀ G' H' a e, Same G G' → Ste B L G' H' → Rel K S B L G' H' e σ → Post K S E B L σ G' P (k a e) → P' G' H' a e) : Post K S E B L σ G P' r := (Post.bind h).imp f
theorem Post.of {o : Option α} {e : Env} (h : Post K S E B L σ G P (.of o e)) (st : Ste B L G H) (rl : Rel K S B L G H e σ) : ∃ a, o = some a ∧ ∀ G' H', Ex G H G' H' → P G' H' a e := by
  cases o with
  | none => exact h.elim
  | some a => exact ⟨a, rfl, fun G' H' x => h G' H' x.g (st.ex x) (rl.ex x)⟩
end
abbrev Ev := Env → Res D
abbrev EvT := Env → Res Bool
section
variable (K : PySem.W.Frag) (S : Nat → Addr) (E : XK)
def Tx {α γ : Type} (R : Hp → L2.St → α → γ → Prop) (f : Env → Res α) : L2.St → Hp → (γ → Hp → Prop) → Prop := fun σ H Q =>
  ∃ (B : Base) (L : Lk) (G : Hp) (env : Env), Ste B L G H ∧ Rel K S B L G H env σ ∧ Post K S E B L σ G (fun G' H' a _ => ∀ v, R G' σ a v → Q v H') (f env)
abbrev TD (f : Ev) : TE := Tx K S E (fun G _ d v => Rep K S G d v) f
abbrev TB (f : EvT) : TT := Tx K S E (fun _ _ b c => b = c) f
/-- the value is an object of one's own -/
def TF (f : Ev) : TE := fun σ H Q =>
  ∃ (B : Base) (L : Lk) (G : Hp) (env : Env), Ste B L G H ∧ Rel K S B L G H env σ ∧ Post K S E B L σ G (fun G' H' d e => ∀ a o, G' a = none → B.H a = none → H' a = some o → (∀ (i : Nat) (s : Sl), e[i]? = some s → isOwn s = true → σ[i]? ≠ some (some (V.ref a))) → (∀ p ∈ L, p.1 ≠ a) → RepO K S G' d o → Q (.ref a) H') (f env)
end
section
variable {K : PySem.W.Frag} {S : Nat → Addr} {X : Cx} {E : XK}
abbrev QE (S : Nat → Addr) (X : Cx) (E : XK) (e : Expr) (f : Ev) : Prop := PE X e (TD X.K S E f)
abbrev QF (S : Nat → Addr) (X : Cx) (E : XK) (e : Expr) (f : Ev) : Prop := PE X e (TF X.K S E f)
abbrev QT (S : Nat → Addr) (X : Cx) (E : XK) (e : Expr) (f : EvT) : Prop := PT X e (TB X.K S E f)
abbrev QW (S : Nat → Addr) (X : Cx) (E : XK) (e : Expr) (f : EvT) : Prop := PW X e (TB X.K S E f)
theorem pe_of {e : Expr} {t u : TE} (p : PE X e t) (h : ∀ σ H Q, u σ H Q → t σ H Q) : PE X e u := ⟨fun pins s σ H Q I q => p.run pins s σ H Q I (h σ H Q q)⟩
theorem pt_of {e : Expr} {t u : TT} (p : PT X e t) (h : ∀ σ H Q, u σ H Q → t σ H Q) : PT X e u := ⟨fun pins s σ H Q I q => p.run pins s σ H Q I (h σ H Q q)⟩
theorem pw_of {e : Expr} {t u : TT} (p : PW X e t) (h : ∀ σ H Q, u σ H Q → t σ H Q) : PW X e u := ⟨fun w pins s σ H Q I q => p.run w pins s σ H Q I (h σ H Q q)⟩
theorem pa_of {es : List Expr} {t u : TA} (p : PA X es t) (h : ∀ σ H Q, u σ H Q → t σ H Q) : PA X es u := ⟨fun pos pins s σ H Q I q => p.run pos pins s σ H Q I (h σ H Q q)⟩
theorem ps_of {st : Stmt} {t u : TS} (p : PS X st t) (h : ∀ D σ H, u D σ H → t D σ H) : PS X st u := ⟨fun pins s σ H D I q => p.run pins s σ H D I (h D σ H q)⟩
theorem pss_of {st : List Stmt} {t u : TS} (p : PSs X st t) (h : ∀ D σ H, u D σ H → t D σ H) : PSs X st u := ⟨fun pins s σ H D I q => p.run pins s σ H D I (h D σ H q)⟩
/-- an object of one's own becomes a value for ever -/
theorem freeze {B : Base} {L : Lk} {G H : Hp} {env : Env} {σ : L2.St} {a : Addr} {o : HO} {d : D} (st : Ste B L G H) (rl : Rel K S B L G H env σ) (ga : G a = none) (ba : B.H a = none) (ha : H a = some o) (hn : ∀ (i : Nat) (s : Sl), env[i]? = some s → isOwn s = true → σ[i]? ≠ some (some (V.ref a))) (hl : ∀ p ∈ L, p.1 ≠ a) (r : RepO K S G d o) :
    Same G (upd G a o) ∧ Ste B L (upd G a o) H ∧ Rel K S B L (upd G a o) H env σ ∧ Rep K S (upd G a o) d (.ref a) := by
  have sm : Same G (upd G a o) := same_upd ga
  refine ⟨sm, ⟨st.g0.trans sm, fun b u e => ?_, fun b h e => ?_, st.keep, st.lock, fun b e => ?_, fun p hp hf => by rw [upd_ne (hl p hp)]; exact st.out p hp hf⟩, ⟨?_, rl.nd, rl.nl⟩, ?_⟩
  · by_cases hb : b = a
    · subst hb; rw [upd_same] at e; cases e; exact .inl ha
    · rw [upd_ne hb] at e; exact st.inn _ _ e
  · by_cases hb : b = a
    · subst hb; exact ba
    · rw [upd_ne hb] at h; exact st.new b h e
  · obtain ⟨h1, h2, h4, h3⟩ := st.par b e
    refine ⟨?_, h2, h4, h3⟩
    by_cases hb : b = a
    · subst hb; exact (h4 ba).elim
    · rw [upd_ne hb]; exact h1
  · refine paired_of (paired_len rl.at_) fun i s x h1 h2 => ?_
    obtain ⟨x', h3, q⟩ := paired_get rl.at_ h1
    rw [h2] at h3
    cases h3
    cases s with
    | no => trivial
    | val d' =>
      obtain ⟨v, e, r'⟩ := q
      exact ⟨v, e, r'.mono sm⟩
    | box d' =>
      obtain ⟨b, o', e, g, bb, e2, r'⟩ := q
      refine ⟨b, o', e, ?_, bb, e2, r'.mono sm⟩
      rw [upd_ne]
      · exact g
      · intro eb
        subst eb
        exact hn i _ h1 rfl (by rw [h2, e])
    | par d' =>
      obtain ⟨b, o', e, bb, e2, r'⟩ := q
      exact ⟨b, o', e, bb, e2, r'.mono sm⟩
  · cases d with
    | lst xs =>
      obtain ⟨vs, rfl, q⟩ := r
      exact ⟨a, vs, rfl, upd_same, q.mono sm⟩
    | dct kvs =>
      obtain ⟨ws, rfl, q⟩ := r
      exact ⟨a, ws, rfl, upd_same, q.mono sm⟩
    | ins C fs =>
      obtain ⟨dx, ws, rfl, q⟩ := r
      exact ⟨a, dx, ws, rfl, upd_same, q.mono sm⟩
    | _ => exact r.elim
/-- what is one's own is a value -/
theorem q_fr {e : Expr} {f : Ev} (h : QF S X E e f) : QE S X E e f := pe_of h fun σ H Q ⟨B, L, G, env, st, rl, p⟩ => ⟨B, L, G, env, st, rl, by
  revert p
  cases f env with
  | no => exact fun p => p
  | ex C fs e' => exact fun p => p
  | ok d e' =>
    intro p G' H' sm st' rl' a o ga ba ha hn hl r
    obtain ⟨s1, s2, s3, s4⟩ := freeze st' rl' ga ba ha hn hl r
    exact p _ H' (sm.trans s1) s2 s3 _ s4⟩
end
end
end Dv
namespace Dv
open PySem PySem.Spec PyProof.Rows L2
set_option autoImplicit false
noncomputable section
section
variable {K : PySem.W.Frag} {S : Nat → Addr} {X : Cx} {E : XK} {a b c e : Expr} {ea eb ec ee : Ev} {pos : Pos}
/-! ### names -/
/-- a value at a slot; an object of one's own becomes a value -/
def xVar (i : Nat) : Ev := fun env => match env[i]? with
  | some (.val d) => .ok d env
  | some (.box d) => .ok d (env.set i (.val d))
  | _ => .no
/-- a value at a slot -/
def xVal (i : Nat) : Ev := fun env => match env[i]? with
  | some (.val d) => .ok d env
  | _ => .no
theorem rel_at {B : Base} {L : Lk} {G H : Hp} {env : Env} {σ : L2.St} {i : Nat} {s : Sl} (rl : Rel K S B L G H env σ) (h : env[i]? = some s) : ∃ x, σ[i]? = some x ∧ SlOk K S B G H s x := paired_get rl.at_ h
theorem set_at {α : Type} {l : List α} {i j : Nat} {a b : α} (h : (l.set i a)[j]? = some b) : (j = i ∧ b = a) ∨ (j ≠ i ∧ l[j]? = some b) := by
  by_cases e : j = i
  · subst e
    by_cases hl : j < l.length
    · rw [List.getElem?_set_self hl] at h
      cases h
      exact .inl ⟨rfl, rfl⟩
    · rw [List.getElem?_eq_none_iff.mpr (by rw [List.length_set]; omega)] at h
      cases h
  · rw [List.getElem?_set_ne (fun q => e q.symm)] at h
    exact .inr ⟨e, h⟩
/-- a slot's content is forgotten as one's own -/
theorem rel_val {B : Base} {L : Lk} {G H : Hp} {env : Env} {σ : L2.St} {i : Nat} {d : D} (rl : Rel K S B L G H env σ) (h : ∀ x, σ[i]? = some x → SlOk K S B G H (.val d) x) : Rel K S B L G H (env.set i (.val d)) σ := by
  refine ⟨paired_of (by rw [List.length_set]; exact paired_len rl.at_) fun j s x h1 h2 => ?_, fun j k s t v hjk h1 h2 o1 o2 => ?_, fun j s v h1 o1 => ?_⟩
  · rcases set_at h1 with ⟨rfl, rfl⟩ | ⟨hj, h1⟩
    · exact h x h2
    · obtain ⟨y, e, q⟩ := rel_at rl h1
      rw [h2] at e
      cases e
      exact q
  · rcases set_at h1 with ⟨rfl, rfl⟩ | ⟨hj, h1⟩
    · cases o1
    · rcases set_at h2 with ⟨rfl, rfl⟩ | ⟨hk, h2⟩
      · cases o2
      · exact rl.nd j k s t v hjk h1 h2 o1 o2
  · rcases set_at h1 with ⟨rfl, rfl⟩ | ⟨hj, h1⟩
    · cases o1
    · exact rl.nl j s v h1 o1
theorem rel_no {B : Base} {L : Lk} {G H : Hp} {env : Env} {σ : L2.St} {i : Nat} (rl : Rel K S B L G H env σ) : Rel K S B L G H (env.set i .no) σ := by
  refine ⟨paired_of (by rw [List.length_set]; exact paired_len rl.at_) fun j s x h1 h2 => ?_, fun j k s t v hjk h1 h2 o1 o2 => ?_, fun j s v h1 o1 => ?_⟩
  · rcases set_at h1 with ⟨rfl, rfl⟩ | ⟨hj, h1⟩
    · trivial
    · obtain ⟨y, e, q⟩ := rel_at rl h1
      rw [h2] at e
      cases e
      exact q
  · rcases set_at h1 with ⟨rfl, rfl⟩ | ⟨hj, h1⟩
    · cases o1
    · rcases set_at h2 with ⟨rfl, rfl⟩ | ⟨hk, h2⟩
      · cases o2
      · exact rl.nd j k s t v hjk h1 h2 o1 o2
  · rcases set_at h1 with ⟨rfl, rfl⟩ | ⟨hj, h1⟩
    · cases o1
    · exact rl.nl j s v h1 o1
/-- a box becomes a value -/
theorem thaw {B : Base} {L : Lk} {G H : Hp} {env : Env} {σ : L2.St} {i : Nat} {d : D} (st : Ste B L G H) (rl : Rel K S B L G H env σ) (h : env[i]? = some (.box d)) :
    ∃ (v : V) (G' : Hp), σ[i]? = some (some v) ∧ Same G G' ∧ Ste B L G' H ∧ Rel K S B L G' H (env.set i (.val d)) σ ∧ Rep K S G' d v := by
  obtain ⟨x, hx, p, o, rfl, gp, bp, hp, r⟩ := rel_at rl h
  have rl2 := rel_no (i := i) rl
  obtain ⟨s1, s2, s3, s4⟩ := freeze st rl2 gp bp hp (fun j s h1 o1 q => by
    rcases set_at h1 with ⟨rfl, rfl⟩ | ⟨hj, h1⟩
    · cases o1
    · exact rl.nd i j _ s p (fun e => hj e.symm) h h1 rfl o1 hx q) (fun q hq => rl.nl i _ p h rfl hx q hq) r
  refine ⟨.ref p, _, hx, s1, s2, ?_, s4⟩
  have := rel_val (i := i) (d := d) s3 (fun y hy => by
    rw [hx] at hy
    cases hy
    exact ⟨_, rfl, s4⟩)
  rw [List.set_set] at this
  exact this
theorem q_var {i : Nat} (p : PE X e (tVar i)) : QE S X E e (xVar i) := pe_of p fun σ H Q ⟨B, L, G, env, st, rl, po⟩ => by
  unfold xVar at po
  split at po
  · rename_i d h
    obtain ⟨x, hx, v, rfl, r⟩ := rel_at rl h
    exact ⟨v, hx, po G H (.refl _) st rl v r⟩
  · rename_i d h
    obtain ⟨v, G', hx, s1, s2, s3, s4⟩ := thaw st rl h
    exact ⟨v, hx, po G' H s1 s2 s3 v s4⟩
  · exact po.elim
theorem q_vl {i : Nat} (p : PE X e (tVar i)) : QE S X E e (xVal i) := pe_of p fun σ H Q ⟨B, L, G, env, st, rl, po⟩ => by
  unfold xVal at po
  split at po
  · rename_i d h
    obtain ⟨x, hx, v, rfl, r⟩ := rel_at rl h
    exact ⟨v, hx, po G H (.refl _) st rl v r⟩
  · exact po.elim
def xC (d : D) : Ev := fun env => .ok d env
theorem q_c {d : D} {v : V} (p : PE X e (tC v)) (r : ∀ G, Rep X.K S G d v) : QE S X E e (xC d) := pe_of p fun σ H Q ⟨B, L, G, env, st, rl, po⟩ => po G H (.refl _) st rl v (r G)
def xNo {α : Type} : Env → Res α := fun _ => .no
theorem q_no : QE S X E e xNo := ⟨fun _ _ _ _ _ _ ⟨_, _, _, _, _, _, po⟩ => po.elim⟩
/-! ### operations -/
abbrev FO := D → D → Option D
def SOp (K : PySem.W.Frag) (S : Nat → Addr) (f : FO) (r : R2) : Prop := ∀ (G H : Hp) (x y d : D) (v w : V) (Q : VK), Inn G H → Rep K S G x v → Rep K S G y w → f x y = some d → (∀ G' H' u, Ex G H G' H' → Rep K S G' d u → Q u H') → r v w H Q
abbrev FU := D → Option D
def SUn (K : PySem.W.Frag) (S : Nat → Addr) (f : FU) (r : V → Hp → VK → Prop) : Prop := ∀ (G H : Hp) (x d : D) (v : V) (Q : VK), Inn G H → Rep K S G x v → f x = some d → (∀ G' H' u, Ex G H G' H' → Rep K S G' d u → Q u H') → r v H Q
abbrev FC := List D → Option D
def SCl (K : PySem.W.Frag) (S : Nat → Addr) (f : FC) (r : List V → Hp → VK → Prop) : Prop := ∀ (G H : Hp) (xs : List D) (d : D) (vs : List V) (Q : VK), Inn G H → RepL K S G xs vs → f xs = some d → (∀ G' H' u, Ex G H G' H' → Rep K S G' d u → Q u H') → r vs H Q
def r2or (a b : R2) : R2 := fun x y H Q => a x y H Q ∨ b x y H Q
theorem opOr {f : Value → Value → Sem Value} {r r' : R2} (a : OpR X f r) (b : OpR X f r') : OpR X f (r2or r r') := fun pins s σ H x y v u Q I r1 r2 h => h.elim (a pins s σ H x y v u Q I r1 r2) (b pins s σ H x y v u Q I r1 r2)
def xOp (f : FO) (a b : Ev) : Ev := fun env => (a env).bind fun x e1 => (b e1).bind fun y e2 => .of (f x y) e2
theorem snd_op {f : FO} {r : R2} {σ : L2.St} {H : Hp} {Q : VK} (so : SOp K S f r) (q : TD K S E (xOp f ea eb) σ H Q) : tOp r (TD K S E ea) (TD K S E eb) σ H Q := by
  obtain ⟨B, L, G, env, st, rl, po⟩ := q
  exact ⟨B, L, G, env, st, rl, po.then fun G1 H1 x e1 sm1 st1 rl1 p1 v rv => ⟨B, L, G1, e1, st1, rl1, p1.then fun G2 H2 y e2 sm2 st2 rl2 p2 w rw' => by
    obtain ⟨d, hd, k⟩ := p2.of st2 rl2
    exact so G2 H2 x y d v w Q st2.inn (rv.mono sm2) rw' hd fun G' H' u ex ru => k G' H' ex u ru⟩⟩
theorem q_op {op : Operator} {f : FO} {r : R2} (ho : OpR X (binaryOp op) r) (so : SOp X.K S f r) (ha : QE S X E a ea) (hb : QE S X E b eb) : QE S X E (.BinOp a op b pos) (xOp f ea eb) := pe_of (pe_op ho ha hb) fun _ _ _ q => snd_op so q
theorem q_cmp {op : CmpOp} {f : FO} {r : R2} (ho : OpR X (compareOp op) r) (so : SOp X.K S f r) (ha : QE S X E a ea) (hb : QE S X E b eb) (hm : behindInMarks op b = false) : QE S X E (.Compare a [op] [b] pos) (xOp f ea eb) := pe_of (pe_cmpR ho ha hb hm) fun _ _ _ q => snd_op so q
theorem q_ix {f : FO} {r : R2} (ho : IxR X r) (so : SOp X.K S f r) (ha : QE S X E a ea) (hb : QE S X E b eb) (hs : PlainIx b) : QE S X E (.Subscript a b pos) (xOp f ea eb) := pe_of (pe_ix ho ha hb hs) fun _ _ _ q => snd_op so q
def xUn (f : FU) (a : Ev) : Ev := fun env => (a env).bind fun x e1 => .of (f x) e1
theorem q_un {op : UnaryOp} {f : FU} {r : V → Hp → VK → Prop} (ho : UnR X (unaryOp op) r) (so : SUn X.K S f r) (ha : QE S X E a ea) : QE S X E (.UnaryOp op a pos) (xUn f ea) := pe_of (pe_un ho ha) fun σ H Q ⟨B, L, G, env, st, rl, po⟩ => ⟨B, L, G, env, st, rl, po.then fun G1 H1 x e1 sm1 st1 rl1 p1 v rv => by
    obtain ⟨d, hd, k⟩ := p1.of st1 rl1
    exact so G1 H1 x d v Q st1.inn rv hd fun G' H' u ex ru => k G' H' ex u ru⟩
def oNot : FU := fun x => match x with
  | .bl b => some (.bl (!b))
  | _ => none
theorem q_not (ha : QE S X E a ea) : QE S X E (.UnaryOp .Not a pos) (xUn oNot ea) := pe_of (pe_not ha) fun σ H Q ⟨B, L, G, env, st, rl, po⟩ => ⟨B, L, G, env, st, rl, po.then fun G1 H1 x e1 sm1 st1 rl1 p1 v rv => by
    obtain ⟨d, hd, k⟩ := p1.of st1 rl1
    cases x with
    | bl b => cases hd; exact ⟨b, rv, k G1 H1 (.refl st1.inn) _ rfl⟩
    | _ => cases hd⟩
/-! chains -/
def xChain (f g : FO) (a b c : Ev) : Ev := fun env => (a env).bind fun x e1 => (b e1).bind fun y e2 => match f x y with
  | some (.bl true) => (c e2).bind fun z e3 => .of (g y z) e3
  | some (.bl false) => .ok (.bl false) e2
  | _ => .no
theorem snd_chain {f g : FO} {r r' : R2} {σ : L2.St} {H : Hp} {Q : VK} (so : SOp K S f r) (so' : SOp K S g r') (q : TD K S E (xChain f g ea eb ec) σ H Q) : tChain r r' (TD K S E ea) (TD K S E eb) (TD K S E ec) σ H Q := by
  obtain ⟨B, L, G, env, st, rl, po⟩ := q
  refine ⟨B, L, G, env, st, rl, po.then fun G1 H1 x e1 sm1 st1 rl1 p1 v rv => ⟨B, L, G1, e1, st1, rl1, p1.then fun G2 H2 y e2 sm2 st2 rl2 p2 w rw' => ?_⟩⟩
  split at p2
  · rename_i hf
    refine so G2 H2 x y _ v w _ st2.inn (rv.mono sm2) rw' hf fun G3 H3 u ex ru => ?_
    cases ru
    refine ⟨true, rfl, ?_⟩
    rw [if_pos rfl]
    exact ⟨B, L, G3, e2, st2.ex ex, rl2.ex ex, (p2.up ex.g).then fun G4 H4 z e3 sm4 st4 rl4 p4 w' rz => by
      obtain ⟨d, hd, k⟩ := p4.of st4 rl4
      exact so' G4 H4 y z d w w' Q st4.inn ((rw'.mono ex.g).mono sm4) rz hd fun G' H' u ex ru => k G' H' ex u ru⟩
  · rename_i hf
    refine so G2 H2 x y _ v w _ st2.inn (rv.mono sm2) rw' hf fun G3 H3 u ex ru => ?_
    cases ru
    refine ⟨false, rfl, ?_⟩
    rw [if_neg (by decide)]
    exact p2 G3 H3 ex.g (st2.ex ex) (rl2.ex ex) _ rfl
  · exact p2.elim
theorem q_chain {op op' : CmpOp} {f g : FO} {r r' : R2} (ho : OpR X (compareOp op) r) (ho' : OpR X (compareOp op') r') (so : SOp X.K S f r) (so' : SOp X.K S g r') (ha : QE S X E a ea) (hb : QE S X E b eb) (hc : QE S X E c ec)
    (hm : lastMarks [op, op'] [b, c] = false := by with_unfolding_all rfl) : QE S X E (.Compare a [op, op'] [b, c] pos) (xChain f g ea eb ec) := pe_of (pe_chain ho ho' ha hb hc hm) fun _ _ _ q => snd_chain so so' q
/-! ### tests -/
def xTest (a : Ev) : EvT := fun env => (a env).bind fun x e1 => match x with
  | .bl b => .ok b e1
  | _ => .no
theorem snd_test {ta : TE} {σ : L2.St} {H : Hp} {Q : Bool → Hp → Prop} (hi : ∀ Q, TD K S E ea σ H Q → ta σ H Q) (q : TB K S E (xTest ea) σ H Q) : tB ta σ H Q := by
  obtain ⟨B, L, G, env, st, rl, po⟩ := q
  refine hi _ ⟨B, L, G, env, st, rl, po.then fun G1 H1 x e1 sm1 st1 rl1 p1 v rv => ?_⟩
  cases x with
  | bl b => exact ⟨b, rv, p1 G1 H1 (.refl _) st1 rl1 b rfl⟩
  | _ => exact p1.elim
theorem q_val (ha : QE S X E a ea) (he : ∀ whole, isTrue a X.env whole = (do let v ← whole; standAt a.pos; holding [v] (truthy v)) := by intro _; rfl) : QT S X E a (xTest ea) := pt_of (pt_val ha he) fun _ _ _ q => snd_test (fun _ h => h) q
theorem q_cmpT {op : CmpOp} {f : FO} {r : R2} (ho : OpR X (compareOp op) r) (so : SOp X.K S f r) (ha : QE S X E a ea) (hb : QE S X E b eb) (hm : behindInMarks op b = false) : QT S X E (.Compare a [op] [b] pos) (xTest (xOp f ea eb)) := pt_of (pt_cmpR ho ha hb hm) fun _ _ _ q => snd_test (fun _ h => snd_op so h) q
theorem q_chainT {op op' : CmpOp} {f g : FO} {r r' : R2} (ho : OpR X (compareOp op) r) (ho' : OpR X (compareOp op') r') (so : SOp X.K S f r) (so' : SOp X.K S g r') (ha : QE S X E a ea) (hb : QE S X E b eb) (hc : QE S X E c ec)
    (hm : lastMarks [op, op'] [b, c] = false := by with_unfolding_all rfl) : QT S X E (.Compare a [op, op'] [b, c] pos) (xTest (xChain f g ea eb ec)) := pt_of (pt_chain ho ho' ha hb hc hm) fun _ _ _ q => snd_test (fun _ h => snd_chain so so' h) q
variable {et eu : EvT} {rest : List Expr}
def xNotT (a : EvT) : EvT := fun env => (a env).bind fun x e1 => .ok (!x) e1
theorem q_notT (ha : QT S X E a et) : QT S X E (.UnaryOp .Not a pos) (xNotT et) := pt_of (pt_not ha) fun σ H Q ⟨B, L, G, env, st, rl, po⟩ => ⟨B, L, G, env, st, rl, po.then fun G1 H1 x e1 sm1 st1 rl1 p1 v rv => by
  cases rv
  exact p1 G1 H1 (.refl _) st1 rl1 _ rfl⟩
def xAndT (a b : EvT) : EvT := fun env => (a env).bind fun x e1 => match x with
  | true => b e1
  | false => .ok false e1
def xOrT (a b : EvT) : EvT := fun env => (a env).bind fun x e1 => match x with
  | true => .ok true e1
  | false => b e1
theorem q_wand1 (ha : QT S X E a et) : QW S X E (.BoolOp .And [a] pos) et := pw_and1 ha
theorem q_wor1 (ha : QT S X E a et) : QW S X E (.BoolOp .Or [a] pos) et := pw_or1 ha
theorem q_wand (ha : QT S X E a et) (hb : QW S X E (.BoolOp .And (b :: rest) pos) eu) : QW S X E (.BoolOp .And (a :: b :: rest) pos) (xAndT et eu) := pw_of (pw_and ha hb) fun σ H Q ⟨B, L, G, env, st, rl, po⟩ => ⟨B, L, G, env, st, rl, po.then fun G1 H1 x e1 sm1 st1 rl1 p1 v rv => by
  cases rv
  cases x with
  | true => exact ⟨B, L, G1, e1, st1, rl1, p1⟩
  | false => exact p1 G1 H1 (.refl _) st1 rl1 _ rfl⟩
theorem q_wor (ha : QT S X E a et) (hb : QW S X E (.BoolOp .Or (b :: rest) pos) eu) : QW S X E (.BoolOp .Or (a :: b :: rest) pos) (xOrT et eu) := pw_of (pw_or ha hb) fun σ H Q ⟨B, L, G, env, st, rl, po⟩ => ⟨B, L, G, env, st, rl, po.then fun G1 H1 x e1 sm1 st1 rl1 p1 v rv => by
  cases rv
  cases x with
  | true => exact p1 G1 H1 (.refl _) st1 rl1 _ rfl
  | false => exact ⟨B, L, G1, e1, st1, rl1, p1⟩⟩
theorem q_pt (h : QW S X E a et) : QT S X E a et := PW.pt h
/-! and, or as values -/
def xAndV (a b : Ev) : Ev := fun env => (a env).bind fun x e1 => match x with
  | .bl true => b e1
  | .bl false => .ok (.bl false) e1
  | _ => .no
def xOrV (a b : Ev) : Ev := fun env => (a env).bind fun x e1 => match x with
  | .bl true => .ok (.bl true) e1
  | .bl false => b e1
  | _ => .no
theorem q_one {op : BoolOp} (h : QE S X E a ea) : QE S X E (.BoolOp op [a] pos) ea := pe_one h
theorem q_and (ha : QE S X E a ea) (hb : QE S X E (.BoolOp .And (b :: rest) pos) eb) : QE S X E (.BoolOp .And (a :: b :: rest) pos) (xAndV ea eb) := pe_of (pe_and ha hb) fun σ H Q ⟨B, L, G, env, st, rl, po⟩ => ⟨B, L, G, env, st, rl, po.then fun G1 H1 x e1 sm1 st1 rl1 p1 v rv => by
  cases x with
  | bl c =>
    refine ⟨c, rv, ?_⟩
    cases c with
    | true => exact ⟨B, L, G1, e1, st1, rl1, p1⟩
    | false => exact p1 G1 H1 (.refl _) st1 rl1 _ rfl
  | _ => exact p1.elim⟩
theorem q_or (ha : QE S X E a ea) (hb : QE S X E (.BoolOp .Or (b :: rest) pos) eb) : QE S X E (.BoolOp .Or (a :: b :: rest) pos) (xOrV ea eb) := pe_of (pe_or ha hb) fun σ H Q ⟨B, L, G, env, st, rl, po⟩ => ⟨B, L, G, env, st, rl, po.then fun G1 H1 x e1 sm1 st1 rl1 p1 v rv => by
  cases x with
  | bl c =>
    refine ⟨c, rv, ?_⟩
    cases c with
    | true => exact p1 G1 H1 (.refl _) st1 rl1 _ rfl
    | false => exact ⟨B, L, G1, e1, st1, rl1, p1⟩
  | _ => exact p1.elim⟩
def xIf (t : EvT) (a b : Ev) : Ev := fun env => (t env).bind fun x e1 => match x with
  | true => a e1
  | false => b e1
theorem q_if {c : Expr} (hc : QT S X E c et) (ha : QE S X E a ea) (hb : QE S X E b eb) : QE S X E (.IfExp c a b pos) (xIf et ea eb) := pe_of (pe_ifExp hc ha hb) fun σ H Q ⟨B, L, G, env, st, rl, po⟩ => ⟨B, L, G, env, st, rl, po.then fun G1 H1 x e1 sm1 st1 rl1 p1 v rv => by
  cases rv
  cases x with
  | true => exact ⟨B, L, G1, e1, st1, rl1, p1⟩
  | false => exact ⟨B, L, G1, e1, st1, rl1, p1⟩⟩
/-! ### lists of arguments -/
abbrev EvA := Env → Res (List D)
abbrev TAe (K : PySem.W.Frag) (S : Nat → Addr) (E : XK) (f : EvA) : TA := Tx K S E (fun G _ d v => RepL K S G d v) f
abbrev QA (S : Nat → Addr) (X : Cx) (E : XK) (es : List Expr) (f : EvA) : Prop := PA X es (TAe X.K S E f)
def xNil : EvA := fun env => .ok [] env
def xCons (a : Ev) (r : EvA) : EvA := fun env => (a env).bind fun x e1 => (r e1).bind fun xs e2 => .ok (x :: xs) e2
variable {es : List Expr} {er : EvA}
theorem q_nil : QA S X E [] xNil := pa_of pa_nil fun σ H Q ⟨B, L, G, env, st, rl, po⟩ => po G H (.refl _) st rl [] rfl
theorem q_cons (ha : QE S X E a ea) (hr : QA S X E es er) (hs : starEach (a :: es) X.env = (false, eval a X.env) :: starEach es X.env := by rfl) : QA S X E (a :: es) (xCons ea er) := pa_of (pa_cons ha hr hs) fun σ H Q ⟨B, L, G, env, st, rl, po⟩ => ⟨B, L, G, env, st, rl, po.then fun G1 H1 x e1 sm1 st1 rl1 p1 v rv => ⟨B, L, G1, e1, st1, rl1, p1.then fun G2 H2 xs e2 sm2 st2 rl2 p2 vs rvs => p2 G2 H2 (.refl _) st2 rl2 _ ((RepL.cons (rv.mono sm2) rvs))⟩⟩
theorem line10 {n : Nat} (h : n ≤ 1000000) : n ≤ sizeLine := by
  have : sizeLine = 16777216 := sizeLine_eq
  omega
/-! displays -/
def xLst (r : EvA) : Ev := fun env => (r env).bind fun xs e => if xs.length ≤ 1000000 then .ok (.lst xs) e else .no
def xTup (r : EvA) : Ev := fun env => (r env).bind fun xs e => if xs.length ≤ 1000000 then .ok (.tup xs) e else .no
/-- a new object -/
theorem Rel.fresh {B : Base} {L : Lk} {G H : Hp} {env : Env} {σ : L2.St} (rl : Rel K S B L G H env σ) {p : Addr} (hp : H p = none) : ∀ (i : Nat) (s : Sl), env[i]? = some s → isOwn s = true → σ[i]? ≠ some (some (V.ref p)) := fun i s h1 h2 h3 => by
  obtain ⟨x, hx, q⟩ := rel_at rl h1
  rw [h3] at hx
  cases hx
  cases s with
  | box d =>
    obtain ⟨a, o, e, _, _, e2, _⟩ := q
    cases e
    rw [hp] at e2
    cases e2
  | par d =>
    obtain ⟨a, o, e, _, e2, _⟩ := q
    cases e
    rw [hp] at e2
    cases e2
  | _ => cases h2
theorem Ste.nolock {B : Base} {L : Lk} {G H : Hp} (st : Ste B L G H) {p : Addr} (hp : H p = none) : ∀ q ∈ L, q.1 ≠ p := fun q hq e => by
  have := st.lock q hq
  rw [e, hp] at this
  cases this
/-- what a new object of one's own asks -/
theorem fresh_ok {B : Base} {L : Lk} {G H : Hp} {env : Env} {σ : L2.St} {d : D} {o : HO} {Q : VK} (st : Ste B L G H) (rl : Rel K S B L G H env σ)
    (k : ∀ G' H', Same G G' → Ste B L G' H' → Rel K S B L G' H' env σ → ∀ a o, G' a = none → B.H a = none → H' a = some o → (∀ (i : Nat) (s : Sl), env[i]? = some s → isOwn s = true → σ[i]? ≠ some (some (V.ref a))) → (∀ p ∈ L, p.1 ≠ a) → RepO K S G' d o → Q (.ref a) H')
    (r : RepO K S G d o) : ∀ p, H p = none → Q (.ref p) (upd H p o) := fun p hp => by
  have x := Ex.skip (o := o) st.inn hp
  exact k G _ (.refl _) (st.ex x) (rl.ex x) p o (st.inn.some hp) (st.free hp) upd_same (rl.fresh hp) (st.nolock hp) r
theorem qf_lst (h : QA S X E es er) : QF S X E (.List es pos) (xLst er) := pe_of (pe_lst h) fun σ H Q ⟨B, L, G, env, st, rl, po⟩ => ⟨B, L, G, env, st, rl, po.then fun G1 H1 xs e1 sm1 st1 rl1 p1 vs rv => by
  split at p1
  · rename_i hl
    exact ⟨line10 (by rw [← rv.length]; exact hl), fresh_ok st1 rl1 p1 ⟨vs, rfl, rv⟩⟩
  · exact p1.elim⟩
theorem q_lst (h : QA S X E es er) : QE S X E (.List es pos) (xLst er) := q_fr (qf_lst h)
theorem q_tup {x1} (h : QA S X E es er) : QE S X E (.Tuple es x1 pos) (xTup er) := pe_of (pe_tup h) fun σ H Q ⟨B, L, G, env, st, rl, po⟩ => ⟨B, L, G, env, st, rl, po.then fun G1 H1 xs e1 sm1 st1 rl1 p1 vs rv => by
  split at p1
  · rename_i hl
    refine ⟨line10 (by rw [← rv.length]; exact hl), fun p hp => ?_⟩
    have x := Ex.new1 (o := .tup vs) st1.inn hp
    exact p1 _ _ x.g (st1.ex x) (rl1.ex x) _ ⟨p, vs, rfl, .inl (.inl upd_same), rv.mono x.g⟩
  · exact p1.elim⟩
/-! calls of built-ins -/
def xCB (f : FC) (r : EvA) : Ev := fun env => (r env).bind fun xs e => .of (f xs) e
theorem snd_cb {f : FC} {r : List V → Hp → VK → Prop} {σ : L2.St} {H : Hp} {Q : VK} (so : SCl K S f r) (q : TD K S E (xCB f er) σ H Q) : tCB r (TAe K S E er) σ H Q := by
  obtain ⟨B, L, G, env, st, rl, po⟩ := q
  exact ⟨B, L, G, env, st, rl, po.then fun G1 H1 xs e1 sm1 st1 rl1 p1 vs rv => by
    obtain ⟨d, hd, k⟩ := p1.of st1 rl1
    exact so G1 H1 xs d vs Q st1.inn rv hd fun G' H' u ex ru => k G' H' ex u ru⟩
theorem q_callB {id : String} {x : Str} {p : Pos} {f : FC} {r : List V → Hp → VK → Prop} (hc : CallR X (.builtin id) r) (so : SCl X.K S f r) (hg : Gl X x) (hm : X.mg x = none) (hv : bootBuiltins x = some (.builtin id)) (ha : QA S X E (a :: es) er) (hn : x ≠ "__name__" := by decide) (hdb : (x == ("__debug__" : Str)) = false := by decide)
    (he : starEach (a :: es) X.env = (false, eval a X.env) :: starEach es X.env := by rfl) (hpl : (backTo pos (starEach es X.env)).any (·.1) = false := by rfl) : QE S X E (.Call (.Name x p) (a :: es) [] pos) (xCB f er) := pe_of (pe_callB hc hg hm hv ha hn hdb he hpl) fun _ _ _ q => snd_cb so q
theorem q_callTy {T : String} {x : Str} {p : Pos} {f : FC} {r : List V → Hp → VK → Prop} (hc : CallR X (.type T) r) (so : SCl X.K S f r) (hg : Gl X x) (hm : X.mg x = none) (hv : bootBuiltins x = some (.type T)) (ha : QA S X E (a :: es) er) (hn : x ≠ "__name__" := by decide) (hdb : (x == ("__debug__" : Str)) = false := by decide)
    (he : starEach (a :: es) X.env = (false, eval a X.env) :: starEach es X.env := by rfl) (hpl : (backTo pos (starEach es X.env)).any (·.1) = false := by rfl) : QE S X E (.Call (.Name x p) (a :: es) [] pos) (xCB f er) := pe_of (pe_callTy hc hg hm hv ha hn hdb he hpl) fun _ _ _ q => snd_cb so q
end
end
end Dv
namespace Dv
open PySem PySem.Spec PyProof.Rows L2
set_option autoImplicit false
noncomputable section
/-! ### defs -/
inductive Ar where
  | val (d : D) | par (d : D)
def Ar.sl : Ar → Sl
  | .val d => .val d
  | .par d => .par d
def Ar.own : Ar → Bool
  | .par _ => true
  | _ => false
inductive FRes where
  | ok (d : D) (p : Option D)
  | ex (C : Nat) (fs : List (Str × D)) (p : Option D)
  | no
abbrev Fn := List Ar → FRes
section
variable (K : PySem.W.Frag) (S : Nat → Addr) (E : XK)
def ArOk (G H : Hp) (r : Option Addr) : Ar → V → Prop
  | .val d, v => Rep K S G d v
  | .par d, v => ∃ a o, v = .ref a ∧ r = some a ∧ H a = some o ∧ RepO K S G d o
structure Fin (G H : Hp) (r : Option Addr) (G' H' : Hp) : Prop where
  g : Same G G'
  inn : Inn G' H'
  new : ∀ a, G' a ≠ none → G a = none → H a = none
  keep : ∀ a o, H a = some o → r ≠ some a → H' a = some o
def ParOk (r : Option Addr) (p : Option D) (G' H' : Hp) : Prop := ∀ d, p = some d → ∃ a o, r = some a ∧ H' a = some o ∧ RepO K S G' d o
def FPost (fr : Bool) (G H : Hp) (r : Option Addr) (Q : VK) : FRes → Prop
  | .ok d p => ∀ G' H', Fin G H r G' H' → ParOk K S r p G' H' → if fr = true then ∀ a o, H a = none → G' a = none → H' a = some o → RepO K S G' d o → Q (.ref a) H' else ∀ v, Rep K S G' d v → Q v H'
  | .ex C fs p => ∀ od G' H', Fin G H r G' H' → ParOk K S r p G' H' → XD K S G' H' fs od → E (Value.ref (S C)) od H'
  | .no => False
def ownN (as : List Ar) : Nat := (as.filter Ar.own).length
structure ArgsOk (G H : Hp) (r : Option Addr) (as : List Ar) (vs : List V) : Prop where
  at_ : Paired (ArOk K S G H r) as vs
  one : ownN as ≤ 1
  par : ∀ a, r = some a → G a = none ∧ H a ≠ none ∧ 1 ≤ ownN as
/-- a def's promise: g tells what comes out; fr: a new object that nobody else has -/
def spD (fr : Bool) (n : Nat) (g : Fn) : Sp := fun vs H Q E => ∃ (G : Hp) (as : List Ar) (r : Option Addr), Inn G H ∧ ArgsOk K S G H r as vs ∧ as.length = n ∧ FPost K S E fr G H r Q (g as)
theorem spD_len {fr : Bool} {n : Nat} {g : Fn} {vs : List V} {H : Hp} {Q : VK} (h : spD K S fr n g vs H Q E) : vs.length = n := by
  obtain ⟨G, as, r, _, ok, hl, _⟩ := h
  rw [← hl, paired_len ok.at_]
end
section
variable {K : PySem.W.Frag} {S : Nat → Addr} {E : XK} {B : Base} {L : Lk} {G H G' H' : Hp} {env : Env} {σ : L2.St} {r : Option Addr}
/-- the callee's end, for the caller -/
theorem Ste.fin (st : Ste B L G H) (rl : Rel K S B L G H env σ) (f : Fin G H r G' H') (hr : ∀ a, r = some a → (∃ (i : Nat) (s : Sl), env[i]? = some s ∧ isOwn s = true ∧ σ[i]? = some (some (V.ref a))) ∧ H' a ≠ none) : Ste B L G' H' := by
  have hb : ∀ a, r = some a → B.H a = none ∨ B.r = some a := fun a e => by
    obtain ⟨⟨i, s, h1, h2, h3⟩, _⟩ := hr a e
    obtain ⟨x, hx, q⟩ := rel_at rl h1
    rw [h3] at hx
    cases hx
    cases s with
    | box d => obtain ⟨a', o, e1, _, b, _⟩ := q; cases e1; exact .inl b
    | par d => obtain ⟨a', o, e1, b, _⟩ := q; cases e1; exact .inr b
    | _ => cases h2
  have hL : ∀ a, r = some a → ∀ p ∈ L, p.1 ≠ a := fun a e => by
    obtain ⟨⟨i, s, h1, h2, h3⟩, _⟩ := hr a e
    exact rl.nl i s a h1 h2 h3
  refine ⟨st.g0.trans f.g, f.inn, fun a h e => ?_, fun a o e hr' hl => ?_, fun p hp => ?_, fun a e => ?_, fun p hp hf => ?_⟩
  · by_cases q : G a = none
    · exact st.free (f.new a h q)
    · exact st.new a q e
  · refine f.keep a o (st.keep a o e hr' hl) fun q => ?_
    rcases hb a q with h | h
    · rw [e] at h; cases h
    · exact hr' h
  · exact f.keep _ _ (st.lock p hp) fun q => hL _ q p hp rfl
  · obtain ⟨h1, h2, h3, h4⟩ := st.par a e
    refine ⟨?_, ?_, h3, h4⟩
    · cases q : G' a with
      | none => rfl
      | some o => exact (h2 (f.new a (by rw [q]; intro e; cases e) h1)).elim
    · by_cases q : r = some a
      · exact (hr a q).2
      · cases q2 : H a with
        | none => exact (h2 q2).elim
        | some o => rw [f.keep a o q2 q]; intro e; cases e
  · have h1 := st.out p hp hf
    cases q : G' p.1 with
    | none => rfl
    | some o =>
      have := f.new p.1 (by rw [q]; intro e; cases e) h1
      rw [st.lock p hp] at this
      cases this
theorem SlOk.fin {s : Sl} {x : Option V} (h : SlOk K S B G H s x) (f : Fin G H r G' H') (hn : isOwn s = true → ∀ a, x = some (V.ref a) → r ≠ some a) : SlOk K S B G' H' s x := by
  cases s with
  | no => trivial
  | val d => obtain ⟨v, e, q⟩ := h; exact ⟨v, e, q.mono f.g⟩
  | box d =>
    obtain ⟨a, o, e, g, b, e2, q⟩ := h
    refine ⟨a, o, e, ?_, b, f.keep _ _ e2 (hn rfl a e), q.mono f.g⟩
    cases q2 : G' a with
    | none => rfl
    | some u =>
      have := f.new a (by rw [q2]; intro e; cases e) g
      rw [e2] at this
      cases this
  | par d =>
    obtain ⟨a, o, e, b, e2, q⟩ := h
    exact ⟨a, o, e, b, f.keep _ _ e2 (hn rfl a e), q.mono f.g⟩
theorem Rel.fin0 (rl : Rel K S B L G H env σ) (f : Fin G H none G' H') : Rel K S B L G' H' env σ := ⟨L2.Paired.mapP rl.at_ fun _ _ q => q.fin f (fun _ _ _ e => by cases e), rl.nd, rl.nl⟩
/-- the slot's new content -/
def putSl (s : Sl) (d : D) : Sl := match s with
  | .box _ => .box d
  | .par _ => .par d
  | s => s
theorem own_put {s : Sl} {d : D} : isOwn (putSl s d) = isOwn s := by cases s <;> rfl
theorem Rel.fin1 (rl : Rel K S B L G H env σ) {a : Addr} {i : Nat} {s : Sl} {d : D} {o : HO} (f : Fin G H (some a) G' H') (hi : env[i]? = some s) (hs : isOwn s = true) (hx : σ[i]? = some (some (V.ref a))) (ha : H' a = some o) (ho : RepO K S G' d o) : Rel K S B L G' H' (env.set i (putSl s d)) σ := by
  refine ⟨paired_of (by rw [List.length_set]; exact paired_len rl.at_) fun j t x h1 h2 => ?_, fun j k t u v hjk h1 h2 o1 o2 q => ?_, fun j t v h1 o1 q => ?_⟩
  · rcases set_at h1 with ⟨rfl, rfl⟩ | ⟨hj, h1⟩
    · rw [hx] at h2
      cases h2
      obtain ⟨y, hy, q⟩ := rel_at rl hi
      rw [hx] at hy
      cases hy
      cases s with
      | box d' =>
        obtain ⟨a', o', e, g, b, e2, _⟩ := q
        cases e
        refine ⟨a, o, rfl, ?_, b, ha, ho⟩
        cases q2 : G' a with
        | none => rfl
        | some u =>
          have := f.new a (by rw [q2]; intro e; cases e) g
          rw [e2] at this
          cases this
      | par d' =>
        obtain ⟨a', o', e, b, e2, _⟩ := q
        cases e
        exact ⟨a, o, rfl, b, ha, ho⟩
      | _ => cases hs
    · obtain ⟨y, hy, q⟩ := rel_at rl h1
      rw [h2] at hy
      cases hy
      exact q.fin f fun o1 b e1 e2 => by
        cases e2
        exact rl.nd i j s t a (fun e => hj e.symm) hi h1 hs o1 hx (by rw [h2, e1])
  · have h1' : ∃ t', env[j]? = some t' ∧ isOwn t' = true := by
      rcases set_at h1 with ⟨rfl, rfl⟩ | ⟨hj, h1⟩
      · exact ⟨s, hi, hs⟩
      · exact ⟨t, h1, o1⟩
    have h2' : ∃ t', env[k]? = some t' ∧ isOwn t' = true := by
      rcases set_at h2 with ⟨rfl, rfl⟩ | ⟨hj, h2⟩
      · exact ⟨s, hi, hs⟩
      · exact ⟨u, h2, o2⟩
    obtain ⟨t', e1, e2⟩ := h1'
    obtain ⟨u', e3, e4⟩ := h2'
    exact rl.nd j k t' u' v hjk e1 e3 e2 e4 q
  · have h1' : ∃ t', env[j]? = some t' ∧ isOwn t' = true := by
      rcases set_at h1 with ⟨rfl, rfl⟩ | ⟨hj, h1⟩
      · exact ⟨s, hi, hs⟩
      · exact ⟨t, h1, o1⟩
    obtain ⟨t', e1, e2⟩ := h1'
    exact rl.nl j t' v e1 e2 q
end
/-! ### arguments: values, and slots of one's own -/
inductive Ag where
  | v (d : D) | s (i : Nat)
abbrev EvG' := Env → Res (List Ag)
def resv (as : List Ag) (env : Env) : Option (List Ar) := match as with
  | [] => some []
  | .v d :: r => (resv r env).map (Ar.val d :: ·)
  | .s i :: r => match env[i]? with
    | some (.box d) => (resv r env).map (Ar.par d :: ·)
    | some (.par d) => (resv r env).map (Ar.par d :: ·)
    | _ => none
def slotOf (as : List Ag) : List Nat := match as with
  | [] => []
  | .v _ :: r => slotOf r
  | .s i :: r => i :: slotOf r
/-- the run of a call -/
def callG (g : Fn) (as : List Ag) (env : Env) : Res D := match resv as env with
  | none => .no
  | some args => match slotOf as with
    | [] => match g args with
      | .ok d _ => .ok d env
      | .ex C fs _ => .ex C fs env
      | .no => .no
    | [i] => match env[i]? with
      | some s => match g args with
        | .ok d (some p) => .ok d (env.set i (putSl s p))
        | .ex C fs (some p) => .ex C fs (env.set i (putSl s p))
        | _ => .no
      | none => .no
    | _ => .no
section
variable (K : PySem.W.Frag) (S : Nat → Addr)
def AgOk (G : Hp) (σ : L2.St) : Ag → V → Prop
  | .v d, v => Rep K S G d v
  | .s i, v => σ[i]? = some (some v)
end
section
variable {K : PySem.W.Frag} {S : Nat → Addr} {E : XK} {B : Base} {L : Lk} {G H : Hp} {env : Env} {σ : L2.St}
theorem resv_none : ∀ {as : List Ag} {args : List Ar} {vs : List V}, resv as env = some args → slotOf as = [] → Paired (AgOk K S G σ) as vs → Paired (ArOk K S G H none) args vs ∧ ownN args = 0
  | [], _, _, e, _, .nil => by cases e; exact ⟨.nil, rfl⟩
  | .v d :: r, _, _, e, h, .cons q t => by
    have e : (resv r env).map (Ar.val d :: ·) = some _ := e
    cases hr : resv r env with
    | none => rw [hr] at e; cases e
    | some args =>
      rw [hr] at e
      cases e
      obtain ⟨a, b⟩ := resv_none hr h t
      exact ⟨.cons q a, b⟩
  | .s i :: r, _, _, _, h, _ => by cases h
theorem resv_one (rl : Rel K S B L G H env σ) : ∀ {as : List Ag} {args : List Ar} {vs : List V} {i : Nat}, resv as env = some args → slotOf as = [i] → Paired (AgOk K S G σ) as vs →
    ∃ a s, σ[i]? = some (some (V.ref a)) ∧ env[i]? = some s ∧ isOwn s = true ∧ Paired (ArOk K S G H (some a)) args vs ∧ ownN args = 1
  | [], _, _, _, _, h, _ => by cases h
  | .v d :: r, _, _, i, e, h, .cons q t => by
    have e : (resv r env).map (Ar.val d :: ·) = some _ := e
    cases hr : resv r env with
    | none => rw [hr] at e; cases e
    | some args =>
      rw [hr] at e
      cases e
      obtain ⟨a, s, h1, h2, h3, h4, h5⟩ := resv_one rl hr h t
      exact ⟨a, s, h1, h2, h3, .cons q h4, h5⟩
  | .s j :: r, _, _, i, e, h, .cons (b := v) q t => by
    have h : j :: slotOf r = [i] := h
    injection h with h1 h2
    subst h1
    have q : σ[j]? = some (some v) := q
    have e : (match env[j]? with
      | some (.box d) => (resv r env).map (Ar.par d :: ·)
      | some (.par d) => (resv r env).map (Ar.par d :: ·)
      | _ => none) = some _ := e
    cases hr : resv r env with
    | none => rw [hr] at e; split at e <;> cases e
    | some args =>
      rw [hr] at e
      split at e
      · rename_i d hd
        cases e
        obtain ⟨x, hx, a, o, rfl, g, b, ha, ho⟩ := rel_at rl hd
        rw [q] at hx
        cases hx
        obtain ⟨t1, t2⟩ := resv_none (H := H) hr h2 t
        refine ⟨a, _, q, hd, rfl, .cons ⟨a, o, rfl, rfl, ha, ho⟩ (L2.Paired.mapP t1 fun x y z => ?_), ?_⟩
        · cases x with
          | val d => exact z
          | par d => obtain ⟨a', o', _, e, _⟩ := z; cases e
        · show (List.filter Ar.own (Ar.par d :: args)).length = 1
          have t2 : (List.filter Ar.own args).length = 0 := t2
          rw [List.filter_cons_of_pos rfl, List.length_cons, t2]
      · rename_i d hd
        cases e
        obtain ⟨x, hx, a, o, rfl, b, ha, ho⟩ := rel_at rl hd
        rw [q] at hx
        cases hx
        obtain ⟨t1, t2⟩ := resv_none (H := H) hr h2 t
        refine ⟨a, _, q, hd, rfl, .cons ⟨a, o, rfl, rfl, ha, ho⟩ (L2.Paired.mapP t1 fun x y z => ?_), ?_⟩
        · cases x with
          | val d => exact z
          | par d => obtain ⟨a', o', _, e, _⟩ := z; cases e
        · show (List.filter Ar.own (Ar.par d :: args)).length = 1
          have t2 : (List.filter Ar.own args).length = 0 := t2
          rw [List.filter_cons_of_pos rfl, List.length_cons, t2]
      · cases e
theorem own_free (st : Ste B L G H) (rl : Rel K S B L G H env σ) {i : Nat} {s : Sl} {a : Addr} (h1 : env[i]? = some s) (h2 : isOwn s = true) (h3 : σ[i]? = some (some (V.ref a))) : G a = none ∧ H a ≠ none := by
  obtain ⟨x, hx, q⟩ := rel_at rl h1
  rw [h3] at hx
  cases hx
  cases s with
  | box d => obtain ⟨a', o, e, g, _, ha, _⟩ := q; cases e; exact ⟨g, by rw [ha]; intro e; cases e⟩
  | par d => obtain ⟨a', o, e, g, ha, _⟩ := q; cases e; exact ⟨(st.par a g).1, by rw [ha]; intro e; cases e⟩
  | _ => cases h2
theorem resv_len : ∀ {as : List Ag} {args : List Ar}, resv as env = some args → args.length = as.length
  | [], _, e => by cases e; rfl
  | .v d :: r, args, e => by
    have e : (resv r env).map (Ar.val d :: ·) = some args := e
    cases hr : resv r env with
    | none => rw [hr] at e; cases e
    | some z => rw [hr] at e; cases e; rw [List.length_cons, List.length_cons, resv_len hr]
  | .s i :: r, args, e => by
    have e : (match env[i]? with
      | some (.box d) => (resv r env).map (Ar.par d :: ·)
      | some (.par d) => (resv r env).map (Ar.par d :: ·)
      | _ => none) = some args := e
    cases hr : resv r env with
    | none => rw [hr] at e; split at e <;> cases e
    | some z => rw [hr] at e; split at e <;> first | (cases e; done) | (cases e; rw [List.length_cons, List.length_cons, resv_len hr])
/-- a call meets the callee's promise -/
theorem call_ok {g : Fn} {fr : Bool} {n : Nat} {as : List Ag} {vs : List V} {Q : VK} (st : Ste B L G H) (rl : Rel K S B L G H env σ) (ra : Paired (AgOk K S G σ) as vs) (hn : as.length = n)
    {P : Hp → Hp → D → Env → Prop} (p : Post K S E B L σ G P (callG g as env))
    (hP : ∀ G' H' d e, (∀ (j : Nat) (s : Sl), e[j]? = some s → isOwn s = true → ∃ s', env[j]? = some s' ∧ isOwn s' = true) → Ste B L G' H' → Rel K S B L G' H' e σ → P G' H' d e → if fr = true then ∀ a o, H a = none → G' a = none → H' a = some o → RepO K S G' d o → Q (.ref a) H' else ∀ v, Rep K S G' d v → Q v H') : spD K S fr n g vs H Q E := by
  unfold callG at p
  split at p
  · exact p.elim
  · rename_i args hres
    have hlen : args.length = n := by rw [resv_len hres, hn]
    split at p
    · rename_i hsl
      obtain ⟨t1, t2⟩ := resv_none (H := H) hres hsl ra
      refine ⟨G, args, none, st.inn, ⟨t1, by omega, fun a e => by cases e⟩, hlen, ?_⟩
      split at p
      · rename_i d pp hg
        rw [hg]
        intro G' H' f _
        have st' := st.fin rl f fun a e => by cases e
        have rl' := rl.fin0 f
        exact hP G' H' d env (fun j s h1 h2 => ⟨s, h1, h2⟩) st' rl' (p G' H' f.g st' rl')
      · rename_i C fs pp hg
        rw [hg]
        intro od G' H' f _ x
        exact p od G' H' f.g (st.fin rl f fun a e => by cases e) (rl.fin0 f) x
      · exact p.elim
    · rename_i i hsl
      obtain ⟨a, s, h1, h2, h3, h4, h5⟩ := resv_one rl hres hsl ra
      obtain ⟨ga, ha⟩ := own_free st rl h2 h3 h1
      rw [h2] at p
      refine ⟨G, args, some a, st.inn, ⟨h4, by omega, fun b e => by cases e; exact ⟨ga, ha, by omega⟩⟩, hlen, ?_⟩
      dsimp only at p
      split at p
      · rename_i d pp hg
        rw [hg]
        intro G' H' f po
        obtain ⟨b, o, e, hb, ho⟩ := po pp rfl
        cases e
        have st' := st.fin rl f fun b e => by cases e; exact ⟨⟨i, s, h2, h3, h1⟩, by rw [hb]; intro e; cases e⟩
        have rl' := rl.fin1 f h2 h3 h1 hb ho
        exact hP G' H' d _ (fun j t e1 e2 => by
          rcases set_at e1 with ⟨rfl, rfl⟩ | ⟨_, e1⟩
          · exact ⟨s, h2, h3⟩
          · exact ⟨t, e1, e2⟩) st' rl' (p G' H' f.g st' rl')
      · rename_i C fs pp hg
        rw [hg]
        intro od G' H' f po x
        obtain ⟨b, o, e, hb, ho⟩ := po pp rfl
        cases e
        exact p od G' H' f.g (st.fin rl f fun b e => by cases e; exact ⟨⟨i, s, h2, h3, h1⟩, by rw [hb]; intro e; cases e⟩) (rl.fin1 f h2 h3 h1 hb ho) x
      · exact p.elim
    · exact p.elim
end
end
end Dv
namespace Dv
open PySem PySem.Spec PyProof.Rows L2
set_option autoImplicit false
noncomputable section
section
variable {S : Nat → Addr} {X : Cx} {E : XK} {a b c e o : Expr} {es : List Expr} {ea eb ec ee eo : Ev} {pos apos p : Pos} {CX : CXT} {k : Nat} {f C : Addr} {fd : FuncData} {ps : List Str} {fr : Bool} {n : Nat} {g : Fn} {x m : Str}
abbrev TAg (K : PySem.W.Frag) (S : Nat → Addr) (E : XK) (f : EvG') : TA := Tx K S E (fun G σ d v => Paired (AgOk K S G σ) d v) f
abbrev QG (S : Nat → Addr) (X : Cx) (E : XK) (es : List Expr) (f : EvG') : Prop := PA X es (TAg X.K S E f)
def gNil : EvG' := fun env => .ok [] env
def gVal (a : Ev) (r : EvG') : EvG' := fun env => (a env).bind fun x e1 => (r e1).bind fun xs e2 => .ok (.v x :: xs) e2
def gSlot (i : Nat) (r : EvG') : EvG' := fun env => match env[i]? with
  | some s => if isOwn s = true then (r env).bind fun xs e2 => .ok (.s i :: xs) e2 else .no
  | none => .no
variable {eg : EvG'}
theorem AgOk.mono {K : PySem.W.Frag} {G G' : Hp} {σ : L2.St} (h : Same G G') {x : Ag} {v : V} (r : AgOk K S G σ x v) : AgOk K S G' σ x v := by
  cases x with
  | v d => exact Rep.mono h r
  | s i => exact r
theorem g_nil : QG S X E [] gNil := pa_of pa_nil fun σ H Q ⟨B, L, G, env, st, rl, po⟩ => po G H (.refl _) st rl [] .nil
theorem g_val (ha : QE S X E a ea) (hr : QG S X E es eg) (hs : starEach (a :: es) X.env = (false, eval a X.env) :: starEach es X.env := by rfl) : QG S X E (a :: es) (gVal ea eg) := pa_of (pa_cons ha hr hs) fun σ H Q ⟨B, L, G, env, st, rl, po⟩ => ⟨B, L, G, env, st, rl, po.then fun G1 H1 x e1 sm1 st1 rl1 p1 v rv => ⟨B, L, G1, e1, st1, rl1, p1.then fun G2 H2 xs e2 sm2 st2 rl2 p2 vs rvs => p2 G2 H2 (.refl _) st2 rl2 _ (.cons (rv.mono sm2) rvs)⟩⟩
theorem own_at {K : PySem.W.Frag} {B : Base} {L : Lk} {G H : Hp} {env : Env} {σ : L2.St} {i : Nat} {s : Sl} (rl : Rel K S B L G H env σ) (h : env[i]? = some s) (ho : isOwn s = true) : ∃ a, σ[i]? = some (some (V.ref a)) := by
  obtain ⟨x, hx, q⟩ := rel_at rl h
  cases s with
  | box d => obtain ⟨a, o, rfl, _⟩ := q; exact ⟨a, hx⟩
  | par d => obtain ⟨a, o, rfl, _⟩ := q; exact ⟨a, hx⟩
  | _ => cases ho
theorem g_slot {i : Nat} (ha : PE X a (tVar i)) (hr : QG S X E es eg) (hs : starEach (a :: es) X.env = (false, eval a X.env) :: starEach es X.env := by rfl) : QG S X E (a :: es) (gSlot i eg) := pa_of (pa_cons ha hr hs) fun σ H Q ⟨B, L, G, env, st, rl, po⟩ => by
  unfold gSlot at po
  split at po
  · rename_i s hs
    split at po
    · rename_i ho
      obtain ⟨p, hp⟩ := own_at rl hs ho
      exact ⟨_, hp, B, L, G, env, st, rl, po.then fun G2 H2 xs e2 sm2 st2 rl2 p2 vs rvs => p2 G2 H2 (.refl _) st2 rl2 _ (.cons hp rvs)⟩
    · exact po.elim
  · exact po.elim
/-! ### calls -/
def xCall (n : Nat) (g : Fn) (r : EvG') : Ev := fun env => (r env).bind fun as e => if as.length = n then callG g as e else .no
theorem len_of {K : PySem.W.Frag} {E : XK} {B : Base} {L : Lk} {G : Hp} {σ : L2.St} {P : Hp → Hp → D → Env → Prop} {as : List Ag} {e : Env} {n : Nat} {g : Fn} (p : Post K S E B L σ G P (if as.length = n then callG g as e else .no)) : as.length = n ∧ Post K S E B L σ G P (callG g as e) := by
  by_cases h : as.length = n
  · rw [if_pos h] at p; exact ⟨h, p⟩
  · rw [if_neg h] at p; exact p.elim
theorem snd_call {K : PySem.W.Frag} {σ : L2.St} {H : Hp} {Q : VK} (q : TD K S E (xCall n g eg) σ H Q) : tCall (spD K S false n g) [] E (TAg K S E eg) σ H Q := by
  obtain ⟨B, L, G, env, st, rl, po⟩ := q
  refine ⟨B, L, G, env, st, rl, po.then fun G1 H1 as e1 sm1 st1 rl1 p1 vs rv => ?_⟩
  obtain ⟨hn, p1⟩ := len_of p1
  rw [List.append_nil]
  exact call_ok st1 rl1 rv hn p1 fun G' H' d e _ _ _ h => h
theorem sndf_call {K : PySem.W.Frag} {σ : L2.St} {H : Hp} {Q : VK} (q : TF K S E (xCall n g eg) σ H Q) : tCall (spD K S true n g) [] E (TAg K S E eg) σ H Q := by
  obtain ⟨B, L, G, env, st, rl, po⟩ := q
  refine ⟨B, L, G, env, st, rl, po.then fun G1 H1 as e1 sm1 st1 rl1 p1 vs rv => ?_⟩
  obtain ⟨hn, p1⟩ := len_of p1
  rw [List.append_nil]
  refine call_ok st1 rl1 rv hn p1 fun G' H' d e hown st' rl' h => ?_
  rw [if_pos rfl]
  intro q o hq gq hq' r
  refine h q o gq (st1.free hq) hq' (fun i s h1 h2 h3 => ?_) (st1.nolock hq) r
  -- the slots' addresses were there ahead of the call
  obtain ⟨s', e1, e2⟩ := hown i s h1 h2
  exact rl1.fresh hq i s' e1 e2 h3

theorem q_call (F : FnOk X.prog X.w X.K X.mg X.base CX k f fd ps (spD X.K S false n g)) (hr : Room k X.A) (hg : Gl X x) (hm : X.mg x = some (.ref f)) (hk : PySem.W.keepIn X.K (.ref f) = true) (hb : Binds X.K fd ps []) (hx : Passes CX X E)
    (ha : QG S X E (e :: es) eg) (hdb : (x == ("__debug__" : Str)) = false := by decide) (he : starEach (e :: es) X.env = (false, eval e X.env) :: starEach es X.env := by rfl) (hpl : (backTo pos (starEach es X.env)).any (·.1) = false := by rfl) :
    QE S X E (.Call (.Name x p) (e :: es) [] pos) (xCall n g eg) := pe_of (pe_call F hr hg hm hk hb .nil hx ha hdb he hpl) fun _ _ _ q => snd_call q
theorem qf_call (F : FnOk X.prog X.w X.K X.mg X.base CX k f fd ps (spD X.K S true n g)) (hr : Room k X.A) (hg : Gl X x) (hm : X.mg x = some (.ref f)) (hk : PySem.W.keepIn X.K (.ref f) = true) (hb : Binds X.K fd ps []) (hx : Passes CX X E)
    (ha : QG S X E (e :: es) eg) (hdb : (x == ("__debug__" : Str)) = false := by decide) (he : starEach (e :: es) X.env = (false, eval e X.env) :: starEach es X.env := by rfl) (hpl : (backTo pos (starEach es X.env)).any (·.1) = false := by rfl) :
    QF S X E (.Call (.Name x p) (e :: es) [] pos) (xCall n g eg) := pe_of (pe_call F hr hg hm hk hb .nil hx ha hdb he hpl) fun _ _ _ q => sndf_call q
theorem tnil {K : PySem.W.Frag} {σ : L2.St} {H : Hp} {Q : List V → Hp → Prop} (q : TAg K S E gNil σ H Q) : tNil σ H Q := by
  obtain ⟨B, L, G, env, st, rl, po⟩ := q
  exact po G H (.refl _) st rl [] .nil
theorem q_call0 (F : FnOk X.prog X.w X.K X.mg X.base CX k f fd ps (spD X.K S false n g)) (hr : Room k X.A) (hg : Gl X x) (hm : X.mg x = some (.ref f)) (hk : PySem.W.keepIn X.K (.ref f) = true) (hb : Binds X.K fd ps []) (hx : Passes CX X E)
    (hdb : (x == ("__debug__" : Str)) = false := by decide) : QE S X E (.Call (.Name x p) [] [] pos) (xCall n g gNil) := pe_of (pe_call0 F hr hg hm hk hb .nil hx hdb) fun σ H Q q => tnil (snd_call q)
theorem qf_call0 (F : FnOk X.prog X.w X.K X.mg X.base CX k f fd ps (spD X.K S true n g)) (hr : Room k X.A) (hg : Gl X x) (hm : X.mg x = some (.ref f)) (hk : PySem.W.keepIn X.K (.ref f) = true) (hb : Binds X.K fd ps []) (hx : Passes CX X E)
    (hdb : (x == ("__debug__" : Str)) = false := by decide) : QF S X E (.Call (.Name x p) [] [] pos) (xCall n g gNil) := pe_of (pe_call0 F hr hg hm hk hb .nil hx hdb) fun σ H Q q => tnil (sndf_call q)
/-! ### C(..) -/
def xMake (ci n : Nat) (dcs : List D) (g : Fn) (r : EvA) : Ev := fun env => (r env).bind fun xs e => if xs.length + 1 + dcs.length = n then match g (.par (.ins ci []) :: (xs ++ dcs).map Ar.val) with
  | .ok .non (some p) => .ok p e
  | .ex C fs _ => .ex C fs e
  | _ => .no else .no
theorem args_vals {K : PySem.W.Frag} {G H : Hp} {r : Option Addr} : ∀ {xs : List D} {vs : List V}, RepL K S G xs vs → Paired (ArOk K S G H r) (xs.map Ar.val) vs
  | [], _, h => by cases h; exact .nil
  | x :: xs, _, ⟨v, ws, e, q, t⟩ => by subst e; exact .cons q (args_vals t)
theorem own_vals : ∀ xs : List D, ownN (xs.map Ar.val) = 0
  | [] => rfl
  | x :: xs => own_vals xs
theorem sndf_make {K : PySem.W.Frag} {ci : Nat} {dcs : List D} {dvs : List V} {er : EvA} {σ : L2.St} {H : Hp} {Q : VK} (hd : ∀ G, RepL K S G dcs dvs) (q : TF K S E (xMake ci n dcs g er) σ H Q) : tMake (S ci) (spD K S false n g) dvs E (TAe K S E er) σ H Q := by
  obtain ⟨B, L, G, env, st, rl, po⟩ := q
  refine ⟨B, L, G, env, st, rl, po.then fun G1 H1 xs e1 sm1 st1 rl1 p1 vs rv => ?_⟩
  intro x dx hx hdx hne
  by_cases hn : xs.length + 1 + dcs.length = n
  · rw [if_pos hn] at p1
    have h2 : Same H1 (upd (upd H1 dx (.own x)) x (.ins (S ci) dx [])) := (same_upd hdx).trans (same_upd (by rw [upd_ne (Ne.symm hne)]; exact hx))
    have gx : G1 x = none := st1.inn.some hx
    have key : ∀ (G' H' : Hp), Fin G1 (upd (upd H1 dx (.own x)) x (.ins (S ci) dx [])) (some x) G' H' → Ste B L G' H' ∧ Rel K S B L G' H' e1 σ ∧ G' x = none := fun G' H' f => by
      have ex : Ex G1 H1 G1 (upd (upd H1 dx (.own x)) x (.ins (S ci) dx [])) := Ex.same st1.inn h2
      have hx' : ∀ a o, H1 a = some o → some x ≠ some a := fun a o e q => by cases q; rw [hx] at e; cases e
      have ex2 : Ex G1 H1 _ _ := ⟨f.g, fun a o e => f.keep a o (h2 a o e) (hx' a o e), f.inn, fun a h1 h3 => h2.free (f.new a h1 h3)⟩
      refine ⟨st1.ex ex2, rl1.ex ex2, ?_⟩
      cases q : G' x with
      | none => rfl
      | some u =>
        have := f.new x (by rw [q]; intro e; cases e) gx
        rw [upd_same] at this
        cases this
    refine ⟨G1, .par (.ins ci []) :: (xs ++ dcs).map Ar.val, some x, st1.inn.up h2, ⟨.cons ⟨x, _, rfl, rfl, upd_same, dx, [], rfl, rfl⟩ (args_vals (rv.app (hd _))), ?_, fun a e => by cases e; exact ⟨gx, (by rw [upd_same]; intro e; cases e), (by show 1 ≤ (List.filter Ar.own (Ar.par (.ins ci []) :: (xs ++ dcs).map Ar.val)).length; rw [List.filter_cons_of_pos rfl, List.length_cons]; omega)⟩⟩, ?_, ?_⟩
    · show (List.filter Ar.own (Ar.par (.ins ci []) :: (xs ++ dcs).map Ar.val)).length ≤ 1
      rw [List.filter_cons_of_pos rfl, List.length_cons]
      have : (List.filter Ar.own ((xs ++ dcs).map Ar.val)).length = 0 := own_vals _
      omega
    · rw [List.length_cons, List.length_map, List.length_append]; omega
    · split at p1
      · rename_i pp hg
        rw [hg]
        intro G' H' f po
        rw [if_neg (by decide)]
        intro v rv'
        cases rv'
        obtain ⟨b, o, e, hb, ho⟩ := po pp rfl
        cases e
        obtain ⟨s1, s2, s3⟩ := key _ _ f
        exact ⟨rfl, p1 G' H' f.g s1 s2 x o s3 (st1.free hx) hb (rl1.fresh hx) (st1.nolock hx) ho⟩
      · rename_i C fs pp hg
        rw [hg]
        intro od G' H' f _ xd
        obtain ⟨s1, s2, s3⟩ := key _ _ f
        exact p1 od G' H' f.g s1 s2 xd
      · exact p1.elim
  · rw [if_neg hn] at p1
    exact p1.elim
theorem qf_make {ci : Nat} {dcs : List D} {dvs : List V} {ds : List Value} {er : EvA} (hd : ∀ G, RepL X.K S G dcs dvs) (M : Mk X.K (S ci) f) (F : FnOk X.prog X.w X.K X.mg X.base CX k f fd ps (spD X.K S false n g)) (hr : Room (k + 1) X.A) (hg : Gl X x) (hm : X.mg x = some (.ref (S ci))) (hb : Binds X.K fd ps ds) (hdv : Vals dvs ds) (hx : Passes CX X E)
    (ha : QA S X E (e :: es) er) (hdb : (x == ("__debug__" : Str)) = false := by decide) (he : starEach (e :: es) X.env = (false, eval e X.env) :: starEach es X.env := by rfl) (hpl : (backTo pos (starEach es X.env)).any (·.1) = false := by rfl) :
    QF S X E (.Call (.Name x p) (e :: es) [] pos) (xMake ci n dcs g er) := pe_of (pe_make M F hr hg hm hb hdv hx ha hdb he hpl) fun _ _ _ q => sndf_make hd q
theorem qf_make0 {ci : Nat} {dcs : List D} {dvs : List V} {ds : List Value} (hd : ∀ G, RepL X.K S G dcs dvs) (M : Mk X.K (S ci) f) (F : FnOk X.prog X.w X.K X.mg X.base CX k f fd ps (spD X.K S false n g)) (hr : Room (k + 1) X.A) (hg : Gl X x) (hm : X.mg x = some (.ref (S ci))) (hb : Binds X.K fd ps ds) (hdv : Vals dvs ds) (hx : Passes CX X E)
    (hdb : (x == ("__debug__" : Str)) = false := by decide) :
    QF S X E (.Call (.Name x p) [] [] pos) (xMake ci n dcs g xNil) := pe_of (pe_make0 M F hr hg hm hb hdv hx hdb) fun σ H Q q => by
  have := sndf_make hd q
  obtain ⟨B, L, G, env, st, rl, po⟩ := this
  exact po G H (.refl _) st rl [] rfl
/-! ### methods, by the receiver's class -/
def tMD (G : Addr → Addr → Sp → Prop) (m : Str) (E : XK) (ta : TE) (t : TA) : TE := fun σ H Q => ta σ H fun x H1 => ∃ a C dx fs f sp, x = .ref a ∧ H1 a = some (.ins C dx fs) ∧ fs.lookup m = none ∧ G C f sp ∧ t σ H1 fun vs H2 => sp (x :: vs) H2 Q E
def MG (X : Cx) (CX : CXT) (k : Nat) (m : Str) (G : Addr → Addr → Sp → Prop) : Prop := ∀ C f sp, G C f sp → Cls X.K C ∧ Meth X.K C m f ∧ ∃ fd ps, FnOk X.prog X.w X.K X.mg X.base CX k f fd ps sp ∧ Binds X.K fd ps []
theorem pe_methD {G : Addr → Addr → Sp → Prop} {ta : TE} {t : TA} {pl : Sem Bool} {E' : XK} (he : PE X o ta) (hG : MG X CX k m G) (hr : Room k X.A) (hx : Passes CX X E') (ha : PA X (e :: es) t)
    (hst : starEach (e :: es) X.env = (false, eval e X.env) :: starEach es X.env := by rfl) (hpl : (backTo pos (starEach es X.env)).any (·.1) = false := by rfl)
    (ht : eval (.Call (.Attribute o m apos) (e :: es) [] pos) X.env = (do
      let ov ← eval o X.env
      standAt apos.atName
      let (f, first) ← holding [ov] (getMethod ov m pl)
      callWith pos f first (backTo pos (starEach (e :: es) X.env)) (backToKw pos (keywordEach [] X.env))) := by rfl) :
    PE X (.Call (.Attribute o m apos) (e :: es) [] pos) (tMD G m E' ta t) := by
  refine ⟨fun pins s σ H Q I h => ?_⟩
  refine PySem.W.methodCall_KW (pl := pl) (thn (he.run pins s σ H _ I h) fun u s1 ⟨x, H1, I1, rx, a, C, dx, fs, f, sp, ex, ea, l, hg, q⟩ => ?_) ht
  obtain ⟨c, hm, fd, ps, F, hb⟩ := hG C f sp hg
  subst ex
  obtain rfl : u = Value.ref a := rx
  refine getmeth_ok I1 ea c hm l ?_
  refine PySem.W.callWith_K (first := [.ref a]) (h₀ := X.base) I.ok.mod.kin hm.kp (thn (ha.run pos pins s1 σ H1 _ I1 q) fun us s2 ⟨vs, H2, I2, r, q2⟩ => ⟨I2.kIn, ?_⟩) hst hpl
  exact run_fn (dvs := []) (us := .ref a :: us) (vs := .ref a :: vs) F hr hb .nil hx I2 (.cons rfl r) (by rw [List.append_nil]; exact q2)
theorem pe_methD0 {G : Addr → Addr → Sp → Prop} {ta : TE} {pl : Sem Bool} {E' : XK} (he : PE X o ta) (hG : MG X CX k m G) (hr : Room k X.A) (hx : Passes CX X E')
    (ht : eval (.Call (.Attribute o m apos) [] [] pos) X.env = (do
      let ov ← eval o X.env
      standAt apos.atName
      let (f, first) ← holding [ov] (getMethod ov m pl)
      callWith pos f first (backTo pos (starEach [] X.env)) (backToKw pos (keywordEach [] X.env))) := by rfl) :
    PE X (.Call (.Attribute o m apos) [] [] pos) (tMD G m E' ta tNil) := by
  refine ⟨fun pins s σ H Q I h => ?_⟩
  refine PySem.W.methodCall_KW (pl := pl) (thn (he.run pins s σ H _ I h) fun u s1 ⟨x, H1, I1, rx, a, C, dx, fs, f, sp, ex, ea, l, hg, q⟩ => ?_) ht
  obtain ⟨c, hm, fd, ps, F, hb⟩ := hG C f sp hg
  subst ex
  obtain rfl : u = Value.ref a := rx
  refine getmeth_ok I1 ea c hm l ?_
  exact PySem.W.callWith_K0 (first := [.ref a]) I1.kIn hm.kp (run_fn (dvs := []) (us := [.ref a]) (vs := [.ref a]) F hr hb .nil hx I1 (.cons rfl .nil) q)
/-- a table of methods by class: the method's place in S, its run -/
abbrev MT := List (Nat × Nat × Fn)
def MT.at (t : MT) (C : Nat) : Option (Nat × Fn) := match t with
  | [] => none
  | a :: r => if a.1 = C then some a.2 else MT.at r C
def MT.All (t : MT) (P : Nat → Nat → Fn → Prop) : Prop := match t with
  | [] => True
  | a :: r => P a.1 a.2.1 a.2.2 ∧ MT.All r P
theorem MT.All.get {P : Nat → Nat → Fn → Prop} : ∀ {t : MT} {C : Nat} {x : Nat × Fn}, MT.All t P → t.at C = some x → P C x.1 x.2
  | [], _, _, _, e => by cases e
  | a :: r, C, x, h, e => by
    have e : (if a.1 = C then some a.2 else MT.at r C) = some x := e
    by_cases q : a.1 = C
    · rw [if_pos q] at e; cases e; subst q; exact h.1
    · rw [if_neg q] at e; exact MT.All.get h.2 e
/-- o.m(..), o a value -/
def xMeth (m : Str) (n : Nat) (t : MT) (o : Ev) (r : EvG') : Ev := fun env => (o env).bind fun x e1 => match x with
  | .ins C fs => match t.at C with
    | some (_, g) => if fs.lookup m = none then (r e1).bind fun as e2 => if (Ag.v (.ins C fs) :: as).length = n then callG g (.v (.ins C fs) :: as) e2 else .no else .no
    | none => .no
  | _ => .no
def GT (K : PySem.W.Frag) (S : Nat → Addr) (fr : Bool) (n : Nat) (t : MT) : Addr → Addr → Sp → Prop := fun C f sp => ∃ c j g, t.at c = some (j, g) ∧ C = S c ∧ f = S j ∧ sp = spD K S fr n g
theorem mg_of' {t : MT} (h : MT.All t fun c j g => Cls X.K (S c) ∧ Meth X.K (S c) m (S j) ∧ ∃ fd ps, FnOk X.prog X.w X.K X.mg X.base CX k (S j) fd ps (spD X.K S fr n g) ∧ Binds X.K fd ps []) : MG X CX k m (GT X.K S fr n t) := by
  rintro C f sp ⟨c, j, g, e, rfl, rfl, rfl⟩
  exact h.get e
theorem lookF {K : PySem.W.Frag} {G : Hp} {m : Str} : ∀ {fs : List (Str × D)} {ws : List (Str × V)}, RepF K S G fs ws → (fs.lookup m = none → ws.lookup m = none) ∧ ∀ d, fs.lookup m = some d → ∃ v, ws.lookup m = some v ∧ Rep K S G d v
  | [], _, h => by cases h; exact ⟨fun _ => rfl, fun d e => by cases e⟩
  | x :: xs, _, ⟨v, ws, e, q, r⟩ => by
    subst e
    obtain ⟨h1, h2⟩ := lookF (m := m) r
    have e1 : List.lookup m (x :: xs) = match m == x.1 with
      | true => some x.2
      | false => List.lookup m xs := rfl
    have e2 : List.lookup m ((x.1, v) :: ws) = match m == x.1 with
      | true => some v
      | false => List.lookup m ws := rfl
    rw [e1, e2]
    cases m == x.1 with
    | true => exact ⟨fun e => (by cases e), fun d e => (by cases e; exact ⟨v, rfl, q⟩)⟩
    | false => exact ⟨h1, h2⟩
theorem snd_meth {K : PySem.W.Frag} {t : MT} {σ : L2.St} {H : Hp} {Q : VK} (q : TD K S E (xMeth m n t eo eg) σ H Q) : tMD (GT K S false n t) m E (TD K S E eo) (TAg K S E eg) σ H Q := by
  obtain ⟨B, L, G, env, st, rl, po⟩ := q
  refine ⟨B, L, G, env, st, rl, po.then fun G1 H1 x e1 sm1 st1 rl1 p1 v rv => ?_⟩
  cases x with
  | ins C fs =>
    dsimp only at p1
    split at p1
    · rename_i j g ht
      split at p1
      · rename_i hl
        obtain ⟨a, dx, ws, rfl, ga, rf⟩ := rv
        refine ⟨a, S C, dx, ws, S j, _, rfl, st1.inn.ins ga, (lookF rf).1 hl, ⟨C, j, g, ht, rfl, rfl, rfl⟩, B, L, G1, e1, st1, rl1, p1.then fun G2 H2 as e2 sm2 st2 rl2 p2 vs rvs => ?_⟩
        obtain ⟨hn, p2⟩ := len_of p2
        exact call_ok st2 rl2 (.cons (show AgOk K S G2 σ (.v (.ins C fs)) (.ref a) from ⟨a, dx, ws, rfl, sm2 _ _ ga, rf.mono sm2⟩) rvs) hn p2 fun G' H' d e _ _ _ h => h
      · exact p1.elim
    · exact p1.elim
  | _ => exact p1.elim
theorem sndf_meth {K : PySem.W.Frag} {t : MT} {σ : L2.St} {H : Hp} {Q : VK} (q : TF K S E (xMeth m n t eo eg) σ H Q) : tMD (GT K S true n t) m E (TD K S E eo) (TAg K S E eg) σ H Q := by
  obtain ⟨B, L, G, env, st, rl, po⟩ := q
  refine ⟨B, L, G, env, st, rl, po.then fun G1 H1 x e1 sm1 st1 rl1 p1 v rv => ?_⟩
  cases x with
  | ins C fs =>
    dsimp only at p1
    split at p1
    · rename_i j g ht
      split at p1
      · rename_i hl
        obtain ⟨a, dx, ws, rfl, ga, rf⟩ := rv
        refine ⟨a, S C, dx, ws, S j, _, rfl, st1.inn.ins ga, (lookF rf).1 hl, ⟨C, j, g, ht, rfl, rfl, rfl⟩, B, L, G1, e1, st1, rl1, p1.then fun G2 H2 as e2 sm2 st2 rl2 p2 vs rvs => ?_⟩
        obtain ⟨hn, p2⟩ := len_of p2
        refine call_ok st2 rl2 (.cons (show AgOk K S G2 σ (.v (.ins C fs)) (.ref a) from ⟨a, dx, ws, rfl, sm2 _ _ ga, rf.mono sm2⟩) rvs) hn p2 fun G' H' d e hown st' rl' h => ?_
        rw [if_pos rfl]
        intro q o hq gq hq' r
        exact h q o gq (st2.free hq) hq' (fun i s h1 h2 h3 => by
          obtain ⟨s', e1, e2⟩ := hown i s h1 h2
          exact rl2.fresh hq i s' e1 e2 h3) (st2.nolock hq) r
      · exact p1.elim
    · exact p1.elim
  | _ => exact p1.elim
variable {t : MT} {pl : Sem Bool}
theorem q_meth (ho : QE S X E o eo) (hG : MT.All t fun c j g => Cls X.K (S c) ∧ Meth X.K (S c) m (S j) ∧ ∃ fd ps, FnOk X.prog X.w X.K X.mg X.base CX k (S j) fd ps (spD X.K S false n g) ∧ Binds X.K fd ps []) (hr : Room k X.A) (hx : Passes CX X E) (ha : QG S X E (e :: es) eg)
    (hst : starEach (e :: es) X.env = (false, eval e X.env) :: starEach es X.env := by rfl) (hpl : (backTo pos (starEach es X.env)).any (·.1) = false := by rfl)
    (ht : eval (.Call (.Attribute o m apos) (e :: es) [] pos) X.env = (do
      let ov ← eval o X.env
      standAt apos.atName
      let (f, first) ← holding [ov] (getMethod ov m pl)
      callWith pos f first (backTo pos (starEach (e :: es) X.env)) (backToKw pos (keywordEach [] X.env))) := by rfl) : QE S X E (.Call (.Attribute o m apos) (e :: es) [] pos) (xMeth m n t eo eg) := pe_of (pe_methD (pl := pl) ho (mg_of' hG) hr hx ha hst hpl ht) fun _ _ _ q => snd_meth q
theorem qf_meth (ho : QE S X E o eo) (hG : MT.All t fun c j g => Cls X.K (S c) ∧ Meth X.K (S c) m (S j) ∧ ∃ fd ps, FnOk X.prog X.w X.K X.mg X.base CX k (S j) fd ps (spD X.K S true n g) ∧ Binds X.K fd ps []) (hr : Room k X.A) (hx : Passes CX X E) (ha : QG S X E (e :: es) eg)
    (hst : starEach (e :: es) X.env = (false, eval e X.env) :: starEach es X.env := by rfl) (hpl : (backTo pos (starEach es X.env)).any (·.1) = false := by rfl)
    (ht : eval (.Call (.Attribute o m apos) (e :: es) [] pos) X.env = (do
      let ov ← eval o X.env
      standAt apos.atName
      let (f, first) ← holding [ov] (getMethod ov m pl)
      callWith pos f first (backTo pos (starEach (e :: es) X.env)) (backToKw pos (keywordEach [] X.env))) := by rfl) : QF S X E (.Call (.Attribute o m apos) (e :: es) [] pos) (xMeth m n t eo eg) := pe_of (pe_methD (pl := pl) ho (mg_of' hG) hr hx ha hst hpl ht) fun _ _ _ q => sndf_meth q
theorem tMD0 {G : Addr → Addr → Sp → Prop} {K : PySem.W.Frag} {ta : TE} (hta : ∀ σ H Q Q', (∀ v H', Q v H' → Q' v H') → ta σ H Q → ta σ H Q') {σ : L2.St} {H : Hp} {Q : VK} (q : tMD G m E ta (TAg K S E gNil) σ H Q) : tMD G m E ta tNil σ H Q :=
  hta _ _ _ _ (fun v H' ⟨a, C, dx, fs, f, sp, h1, h2, h3, h4, h5⟩ => ⟨a, C, dx, fs, f, sp, h1, h2, h3, h4, tnil h5⟩) q
theorem td_mono {K : PySem.W.Frag} {f : Ev} {σ : L2.St} {H : Hp} {Q Q' : VK} (h : ∀ v H', Q v H' → Q' v H') (q : TD K S E f σ H Q) : TD K S E f σ H Q' := by
  obtain ⟨B, L, G, env, st, rl, po⟩ := q
  exact ⟨B, L, G, env, st, rl, po.imp fun _ _ _ _ _ _ _ p v r => h _ _ (p v r)⟩
theorem q_meth0 (ho : QE S X E o eo) (hG : MT.All t fun c j g => Cls X.K (S c) ∧ Meth X.K (S c) m (S j) ∧ ∃ fd ps, FnOk X.prog X.w X.K X.mg X.base CX k (S j) fd ps (spD X.K S false n g) ∧ Binds X.K fd ps []) (hr : Room k X.A) (hx : Passes CX X E)
    (ht : eval (.Call (.Attribute o m apos) [] [] pos) X.env = (do
      let ov ← eval o X.env
      standAt apos.atName
      let (f, first) ← holding [ov] (getMethod ov m pl)
      callWith pos f first (backTo pos (starEach [] X.env)) (backToKw pos (keywordEach [] X.env))) := by rfl) : QE S X E (.Call (.Attribute o m apos) [] [] pos) (xMeth m n t eo gNil) := pe_of (pe_methD0 (pl := pl) ho (mg_of' hG) hr hx ht) fun σ H Q q => tMD0 (ta := TD X.K S E eo) (fun _ _ _ _ h => td_mono h) (snd_meth q)
theorem qf_meth0 (ho : QE S X E o eo) (hG : MT.All t fun c j g => Cls X.K (S c) ∧ Meth X.K (S c) m (S j) ∧ ∃ fd ps, FnOk X.prog X.w X.K X.mg X.base CX k (S j) fd ps (spD X.K S true n g) ∧ Binds X.K fd ps []) (hr : Room k X.A) (hx : Passes CX X E)
    (ht : eval (.Call (.Attribute o m apos) [] [] pos) X.env = (do
      let ov ← eval o X.env
      standAt apos.atName
      let (f, first) ← holding [ov] (getMethod ov m pl)
      callWith pos f first (backTo pos (starEach [] X.env)) (backToKw pos (keywordEach [] X.env))) := by rfl) : QF S X E (.Call (.Attribute o m apos) [] [] pos) (xMeth m n t eo gNil) := pe_of (pe_methD0 (pl := pl) ho (mg_of' hG) hr hx ht) fun σ H Q q => tMD0 (ta := TD X.K S E eo) (fun _ _ _ _ h => td_mono h) (sndf_meth q)
/-! ### fields -/
def xFld (cs : List Nat) (f : Str) (a : Ev) : Ev := fun env => (a env).bind fun x e => match x with
  | .ins C fs => if C ∈ cs then .of (fs.lookup f) e else .no
  | _ => .no
/-- a field of an object of one's own -/
def xFldV (cs : List Nat) (f : Str) (i : Nat) : Ev := fun env => match env[i]? with
  | some (.box (.ins C fs)) => if C ∈ cs then .of (fs.lookup f) env else .no
  | some (.par (.ins C fs)) => if C ∈ cs then .of (fs.lookup f) env else .no
  | _ => .no
abbrev FldOk (K : PySem.W.Frag) (S : Nat → Addr) (f : Str) (cs : List Nat) : Prop := ∀ C ∈ cs, Cls K (S C) ∧ NoAttr K (S C) f
variable {cs : List Nat} {s : Str}
theorem q_fld (hc : FldOk X.K S s cs) (ha : QE S X E a ea) (hb : attributeBase a s X.env (eval a X.env) = eval a X.env) : QE S X E (.Attribute a s pos) (xFld cs s ea) := pe_of (pe_fld ha hb) fun σ H Q ⟨B, L, G, env, st, rl, po⟩ => ⟨B, L, G, env, st, rl, po.then fun G1 H1 x e1 sm1 st1 rl1 p1 v rv => by
  cases x with
  | ins C fs =>
    dsimp only at p1
    split at p1
    · rename_i hC
      obtain ⟨d, hd, k⟩ := p1.of st1 rl1
      obtain ⟨p, dx, ws, rfl, gp, rf⟩ := rv
      obtain ⟨u, hu, ru⟩ := (lookF rf).2 d hd
      exact ⟨p, S C, dx, ws, u, rfl, st1.inn.ins gp, (hc C hC).1, (hc C hC).2, hu, k G1 H1 (.refl st1.inn) u ru⟩
    · exact p1.elim
  | _ => exact p1.elim⟩
theorem fld_at {K : PySem.W.Frag} {B : Base} {L : Lk} {G H : Hp} {env : Env} {σ : L2.St} {i C : Nat} {fs : List (Str × D)} {sl : Sl} (rl : Rel K S B L G H env σ) (h : env[i]? = some sl) (hs : sl = .box (.ins C fs) ∨ sl = .par (.ins C fs)) : ∃ p dx ws, σ[i]? = some (some (V.ref p)) ∧ H p = some (.ins (S C) dx ws) ∧ RepF K S G fs ws := by
  obtain ⟨x, hx, q⟩ := rel_at rl h
  rcases hs with rfl | rfl
  · obtain ⟨p, o, rfl, _, _, hp, dx, ws, rfl, r⟩ := q
    exact ⟨p, dx, ws, hx, hp, r⟩
  · obtain ⟨p, o, rfl, _, hp, dx, ws, rfl, r⟩ := q
    exact ⟨p, dx, ws, hx, hp, r⟩
theorem q_fldV {i : Nat} (hc : FldOk X.K S s cs) (ha : PE X a (tVar i)) (hb : attributeBase a s X.env (eval a X.env) = eval a X.env) : QE S X E (.Attribute a s pos) (xFldV cs s i) := pe_of (pe_fld ha hb) fun σ H Q ⟨B, L, G, env, st, rl, po⟩ => by
  have key : ∀ C fs sl, env[i]? = some sl → (sl = .box (.ins C fs) ∨ sl = .par (.ins C fs)) → Post X.K S E B L σ G (fun G' H' d _ => ∀ v, Rep X.K S G' d v → Q v H') (if C ∈ cs then .of (fs.lookup s) env else .no) → tFld X.K (tVar i) s σ H Q := fun C fs sl h hs po => by
    split at po
    · rename_i hC
      obtain ⟨d, hd, k⟩ := po.of st rl
      obtain ⟨p, dx, ws, hx, hp, rf⟩ := fld_at rl h hs
      obtain ⟨u, hu, ru⟩ := (lookF rf).2 d hd
      exact ⟨.ref p, hx, p, S C, dx, ws, u, rfl, hp, (hc C hC).1, (hc C hC).2, hu, k G H (.refl st.inn) u ru⟩
    · exact po.elim
  unfold xFldV at po
  split at po
  · rename_i C fs h
    exact key C fs _ h (.inl rfl) po
  · rename_i C fs h
    exact key C fs _ h (.inr rfl) po
  · exact po.elim
end
end
end Dv
namespace Dv
open PySem PySem.Spec PyProof.Rows L2
set_option autoImplicit false
noncomputable section
/-! ### statements -/
inductive Sr where
  | nx (e : Env) | rt (d : D) (e : Env) | rf (d : D) (e : Env) | bk (e : Env) | ct (e : Env) | ex (C : Nat) (fs : List (Str × D)) (e : Env) | no
abbrev EvS := Env → Sr
def Res.st {α : Type} (r : Res α) (k : α → Env → Sr) : Sr := match r with
  | .ok a e => k a e
  | .ex C fs e => .ex C fs e
  | .no => .no
section
variable (K : PySem.W.Frag) (S : Nat → Addr) (E : XK)
def PostS (B : Base) (L : Lk) (G : Hp) (D : Ends) : Sr → Prop
  | .nx e => ∀ σ' G' H', Same G G' → Ste B L G' H' → Rel K S B L G' H' e σ' → D.nx σ' H'
  | .rt d e => ∀ σ' G' H', Same G G' → Ste B L G' H' → Rel K S B L G' H' e σ' → ∀ v, Rep K S G' d v → D.rt v H'
  | .rf d e => ∀ σ' G' H', Same G G' → Ste B L G' H' → Rel K S B L G' H' e σ' → ∀ a o, G' a = none → B.H a = none → H' a = some o → RepO K S G' d o → D.rt (.ref a) H'
  | .bk e => ∀ σ' G' H', Same G G' → Ste B L G' H' → Rel K S B L G' H' e σ' → D.bk σ' H'
  | .ct e => ∀ σ' G' H', Same G G' → Ste B L G' H' → Rel K S B L G' H' e σ' → D.ct σ' H'
  | .ex C fs e => ∀ σ' od G' H', Same G G' → Ste B L G' H' → Rel K S B L G' H' e σ' → XD K S G' H' fs od → E (Value.ref (S C)) od H'
  | .no => False
def TS' (f : EvS) : TS := fun D σ H => ∃ (B : Base) (L : Lk) (G : Hp) (env : Env), Ste B L G H ∧ Rel K S B L G H env σ ∧ PostS K S E B L G D (f env)
end
section
variable {K : PySem.W.Frag} {S : Nat → Addr} {E : XK} {B : Base} {L : Lk} {G G1 H : Hp} {σ : L2.St} {D D' : Ends} {r : Sr}
theorem PostS.up (h : PostS K S E B L G D r) (s : Same G G1) : PostS K S E B L G1 D r := by
  cases r with
  | no => exact h
  | nx e => exact fun σ' G' H' s' => h σ' G' H' (s.trans s')
  | rt d e => exact fun σ' G' H' s' => h σ' G' H' (s.trans s')
  | rf d e => exact fun σ' G' H' s' => h σ' G' H' (s.trans s')
  | bk e => exact fun σ' G' H' s' => h σ' G' H' (s.trans s')
  | ct e => exact fun σ' G' H' s' => h σ' G' H' (s.trans s')
  | ex C fs e => exact fun σ' od G' H' s' => h σ' od G' H' (s.trans s')
/-- a value first, then a statement's end -/
theorem Post.st {α : Type} {x : Res α} {k : α → Env → Sr} {P : Hp → Hp → α → Env → Prop} (h : PostS K S E B L G D (x.st k)) (f : ∀ G' H' a e, Same G G' → Ste B L G' H' → Rel K S B L G' H' e σ → PostS K S E B L G' D (k a e) → P G' H' a e) : Post K S E B L σ G P x := by
  cases x with
  | ok a e => exact fun G' H' s st rl => f G' H' a e s st rl (PostS.up h s)
  | ex C fs e => exact fun od G' H' s st rl x => h σ od G' H' s st rl x
  | no => exact h
end
section
variable {S : Nat → Addr} {X : Cx} {E : XK} {a b e : Expr} {ea eb ee : Ev} {pos : Pos} {st : Stmt} {rest : List Stmt} {es er : EvS} {et : EvT}
abbrev QS (S : Nat → Addr) (X : Cx) (E : XK) (st : Stmt) (f : EvS) : Prop := PS X st (TS' X.K S E f)
abbrev QSs (S : Nat → Addr) (X : Cx) (E : XK) (st : List Stmt) (f : EvS) : Prop := PSs X st (TS' X.K S E f)
def Sr.seq (r : Sr) (k : EvS) : Sr := match r with
  | .nx e => k e
  | r => r
def xSeq (a b : EvS) : EvS := fun env => (a env).seq b
def xNx : EvS := fun env => .nx env
theorem s_nil : QSs S X E [] xNx := pss_of pss_nil fun D σ H ⟨B, L, G, env, st, rl, po⟩ => po σ G H (.refl _) st rl
theorem s_one (h1 : QS S X E st es) : QSs S X E [st] es := pss_one h1
theorem PostS.seq {K : PySem.W.Frag} {B : Base} {L : Lk} {G : Hp} {D : Ends} {r : Sr} {k : EvS} (h : PostS K S E B L G D (r.seq k)) : PostS K S E B L G { D with nx := TS' K S E k D } r := by
  cases r with
  | nx e => exact fun σ' G' H' s st rl => ⟨B, L, G', e, st, rl, PostS.up h s⟩
  | rt d e => exact h
  | rf d e => exact h
  | bk e => exact h
  | ct e => exact h
  | ex C fs e => exact h
  | no => exact h
theorem s_cons (h1 : QS S X E st es) (h2 : QSs S X E rest er) : QSs S X E (st :: rest) (xSeq es er) := pss_of (pss_cons h1 h2) fun D σ H ⟨B, L, G, env, st, rl, po⟩ => ⟨B, L, G, env, st, rl, PostS.seq po⟩
theorem s_pass : QS S X E (.Pass pos) xNx := ps_of ps_pass fun D σ H ⟨B, L, G, env, st, rl, po⟩ => po σ G H (.refl _) st rl
def xBreak : EvS := fun env => .bk env
def xCont : EvS := fun env => .ct env
theorem s_break : QS S X E (.Break pos) xBreak := ps_of ps_break fun D σ H ⟨B, L, G, env, st, rl, po⟩ => po σ G H (.refl _) st rl
theorem s_continue : QS S X E (.Continue pos) xCont := ps_of ps_continue fun D σ H ⟨B, L, G, env, st, rl, po⟩ => po σ G H (.refl _) st rl
def xNoS : EvS := fun _ => .no
theorem s_no : QS S X E st xNoS := ps_of ps_never fun D σ H ⟨B, L, G, env, st, rl, po⟩ => po.elim
theorem ss_no {sts : List Stmt} : QSs S X E sts xNoS := pss_of pss_never fun D σ H ⟨B, L, G, env, st, rl, po⟩ => po.elim
def xDrop (a : Ev) : EvS := fun env => (a env).st fun _ e => .nx e
theorem s_expr (he : QE S X E e ee) (hs : swapsWith e none pos.line X.env = pure false := by rfl) : QS S X E (.Expr e pos) (xDrop ee) := ps_of (ps_expr he hs) fun D σ H ⟨B, L, G, env, st, rl, po⟩ => ⟨B, L, G, env, st, rl, Post.st po fun G' H' d e s st' rl' p v _ => p σ G' H' (.refl _) st' rl'⟩
def xRet (a : Ev) : EvS := fun env => (a env).st fun d e => .rt d e
theorem s_ret (he : QE S X E e ee) : QS S X E (.Return (some e) pos) (xRet ee) := ps_of (ps_ret he) fun D σ H ⟨B, L, G, env, st, rl, po⟩ => ⟨B, L, G, env, st, rl, Post.st po fun G' H' d e s st' rl' p v rv => p σ G' H' (.refl _) st' rl' v rv⟩
/-- what is returned is a new object of one's own -/
def xRetF (a : Ev) : EvS := fun env => (a env).st fun d e => .rf d e
theorem s_retF (he : QF S X E e ee) : QS S X E (.Return (some e) pos) (xRetF ee) := ps_of (ps_ret he) fun D σ H ⟨B, L, G, env, st, rl, po⟩ => ⟨B, L, G, env, st, rl, Post.st po fun G' H' d e s st' rl' p a o h1 h2 h3 _ _ h4 => p σ G' H' (.refl _) st' rl' a o h1 h2 h3 h4⟩
/-- .. that stands at a slot -/
def xRetV (i : Nat) : EvS := fun env => match env[i]? with
  | some (.box d) => .rf d (env.set i .no)
  | _ => .no
theorem s_retV {i : Nat} (he : PE X e (tVar i)) : QS S X E (.Return (some e) pos) (xRetV i) := ps_of (ps_ret he) fun D σ H ⟨B, L, G, env, st, rl, po⟩ => by
  unfold xRetV at po
  split at po
  · rename_i d h
    obtain ⟨x, hx, p, o, rfl, gp, bp, hp, r⟩ := rel_at rl h
    exact ⟨.ref p, hx, po σ G H (.refl _) st (rel_no rl) p o gp bp hp r⟩
  · exact po.elim
def xRetN : EvS := fun env => .rt .non env
theorem s_retN : QS S X E (.Return none pos) xRetN := ps_of ps_retN fun D σ H ⟨B, L, G, env, st, rl, po⟩ => po σ G H (.refl _) st rl .non rfl
def xIfS (c : EvT) (a b : EvS) : EvS := fun env => (c env).st fun x e => match x with
  | true => a e
  | false => b e
theorem s_if {c : Expr} {as bs : List Stmt} (hc : QT S X E c et) (ha : QSs S X E as es) (hb : QSs S X E bs er) : QS S X E (.If c as bs pos) (xIfS et es er) := ps_of (ps_if hc ha hb) fun D σ H ⟨B, L, G, env, st, rl, po⟩ => ⟨B, L, G, env, st, rl, Post.st po fun G' H' x e s st' rl' p v rv => by
  cases rv
  cases x with
  | true => exact ⟨B, L, G', e, st', rl', p⟩
  | false => exact ⟨B, L, G', e, st', rl', p⟩⟩
/-! assignments -/
def setE (env : Env) (i : Nat) (d : D) : Option Env := match env[i]? with
  | some (.par _) => none
  | some _ => some (env.set i (.val d))
  | none => none
theorem rel_set {K : PySem.W.Frag} {B : Base} {L : Lk} {G H : Hp} {env env' : Env} {σ : L2.St} {i : Nat} {d : D} {v : V} (rl : Rel K S B L G H env σ) (h : setE env i d = some env') (r : Rep K S G d v) : Rel K S B L G H env' (σ.set i (some v)) := by
  have e : env' = env.set i (.val d) := by
    unfold setE at h
    split at h
    · cases h
    · cases h; rfl
    · cases h
  subst e
  refine ⟨paired_set ⟨v, rfl, r⟩ i rl.at_, fun j k s t w hjk h1 h2 o1 o2 h3 => ?_, fun j s w h1 o1 h3 => ?_⟩
  · rcases set_at h1 with ⟨rfl, rfl⟩ | ⟨hj, h1⟩
    · cases o1
    · rcases set_at h2 with ⟨rfl, rfl⟩ | ⟨hk, h2⟩
      · cases o2
      · rw [List.getElem?_set_ne (fun e => hj e.symm)] at h3
        rw [List.getElem?_set_ne (fun e => hk e.symm)]
        exact rl.nd j k s t w hjk h1 h2 o1 o2 h3
  · rcases set_at h1 with ⟨rfl, rfl⟩ | ⟨hj, h1⟩
    · cases o1
    · rw [List.getElem?_set_ne (fun e => hj e.symm)] at h3
      exact rl.nl j s w h1 o1 h3
def xSet (i : Nat) (a : Ev) : EvS := fun env => (a env).st fun d e => match setE e i d with
  | some e' => .nx e'
  | none => .no
theorem snd_set {K : PySem.W.Frag} {i : Nat} {D : Ends} {σ : L2.St} {H : Hp} (q : TS' K S E (xSet i ee) D σ H) : tAsg (TD K S E ee) (gName i) D σ H := by
  obtain ⟨B, L, G, env, st, rl, po⟩ := q
  exact ⟨B, L, G, env, st, rl, Post.st po fun G' H' d e s st' rl' p v rv => by
    split at p
    · rename_i e' h
      exact p _ G' H' (.refl _) st' (rel_set rl' h rv)
    · exact p.elim⟩
theorem s_set {i : Nat} {x : Str} {pos' : Pos} (hN : X.N.Nodup) (hi : X.N[i]? = some x) (hx : Loc X.env.scope x) (he : QE S X E e ee) (hs : swapsWith e (some (.Name x pos')) pos.line X.env = pure false := by rfl) (hf : X.fn x = true ∨ X.env.scope.names.lookup x = some .local := by first | exact .inl rfl | exact .inr rfl | assumption) :
    QS S X E (.Assign [.Name x pos'] e pos) (xSet i ee) := ps_of (ps_set hN hi hx he hs hf) fun _ _ _ q => snd_set q
/-- x = a new object of one's own -/
def xBox (i : Nat) (a : Ev) : EvS := fun env => (a env).st fun d e => match e[i]? with
  | some (.par _) => .no
  | some _ => .nx (e.set i (.box d))
  | none => .no
theorem rel_box {K : PySem.W.Frag} {B : Base} {L : Lk} {G H : Hp} {env : Env} {σ : L2.St} {i : Nat} {d : D} {p : Addr} {o : HO} (rl : Rel K S B L G H env σ) (g : G p = none) (b : B.H p = none) (h : H p = some o) (hn : ∀ (i : Nat) (s : Sl), env[i]? = some s → isOwn s = true → σ[i]? ≠ some (some (V.ref p))) (hl : ∀ q ∈ L, q.1 ≠ p) (r : RepO K S G d o) : Rel K S B L G H (env.set i (.box d)) (σ.set i (some (V.ref p))) := by
  refine ⟨paired_set ⟨p, o, rfl, g, b, h, r⟩ i rl.at_, fun j k s t w hjk h1 h2 o1 o2 h3 h4 => ?_, fun j s w h1 o1 h3 => ?_⟩
  · rcases set_at h1 with ⟨rfl, rfl⟩ | ⟨hj, h1⟩
    · rcases set_at h2 with ⟨rfl, rfl⟩ | ⟨hk, h2⟩
      · exact hjk rfl
      · rw [List.getElem?_set_ne (fun e => hk e.symm)] at h4
        rcases set_at h3 with ⟨_, e⟩ | ⟨hj', _⟩
        · cases e
          exact hn k t h2 o2 h4
        · exact hj' rfl
    · rw [List.getElem?_set_ne (fun e => hj e.symm)] at h3
      rcases set_at h2 with ⟨rfl, rfl⟩ | ⟨hk, h2⟩
      · rcases set_at h4 with ⟨_, e⟩ | ⟨hj', _⟩
        · cases e
          exact hn j s (by assumption) o1 h3
        · exact hj' rfl
      · rw [List.getElem?_set_ne (fun e => hk e.symm)] at h4
        exact rl.nd j k s t w hjk h1 h2 o1 o2 h3 h4
  · rcases set_at h1 with ⟨rfl, rfl⟩ | ⟨hj, h1⟩
    · rcases set_at h3 with ⟨_, e⟩ | ⟨hj', _⟩
      · cases e
        exact hl
      · exact (hj' rfl).elim
    · rw [List.getElem?_set_ne (fun e => hj e.symm)] at h3
      exact rl.nl j s w h1 o1 h3
theorem snd_box {K : PySem.W.Frag} {i : Nat} {D : Ends} {σ : L2.St} {H : Hp} (q : TS' K S E (xBox i ee) D σ H) : tAsg (TF K S E ee) (gName i) D σ H := by
  obtain ⟨B, L, G, env, st, rl, po⟩ := q
  exact ⟨B, L, G, env, st, rl, Post.st po fun G' H' d e s st' rl' p a o h1 h2 h3 h4 h5 h6 => by
    split at p
    · exact p.elim
    · exact p _ G' H' (.refl _) st' (rel_box rl' h1 h2 h3 h4 h5 h6)
    · exact p.elim⟩
theorem s_box {i : Nat} {x : Str} {pos' : Pos} (hN : X.N.Nodup) (hi : X.N[i]? = some x) (hx : Loc X.env.scope x) (he : QF S X E e ee) (hs : swapsWith e (some (.Name x pos')) pos.line X.env = pure false := by rfl) (hf : X.fn x = true ∨ X.env.scope.names.lookup x = some .local := by first | exact .inl rfl | exact .inr rfl | assumption) :
    QS S X E (.Assign [.Name x pos'] e pos) (xBox i ee) := ps_of (ps_set hN hi hx he hs hf) fun _ _ _ q => snd_box q
/-! o.f = e, o at a slot -/
def putD (f : Str) (v : D) : List (Str × D) → List (Str × D)
  | [] => [(f, v)]
  | (k, x) :: r => if k = f then (k, v) :: r else (k, x) :: putD f v r
theorem put_ok {K : PySem.W.Frag} {G : Hp} {f : Str} {d : D} {v : V} (r : Rep K S G d v) : ∀ {fs : List (Str × D)} {ws : List (Str × V)}, RepF K S G fs ws → RepF K S G (putD f d fs) (putF f v ws)
  | [], _, h => by cases h; exact ⟨v, [], rfl, r, rfl⟩
  | (k, x) :: xs, _, ⟨u, ws, e, q, t⟩ => by
    subst e
    show RepF K S G (if k = f then (k, d) :: xs else (k, x) :: putD f d xs) (if k = f then (k, v) :: ws else (k, u) :: putF f v ws)
    by_cases h : k = f
    · rw [if_pos h, if_pos h]
      exact ⟨v, ws, rfl, r, t⟩
    · rw [if_neg h, if_neg h]
      exact ⟨u, _, rfl, q, put_ok r t⟩
def xFldS (cs : List Nat) (f : Str) (i : Nat) (a : Ev) : EvS := fun env => (a env).st fun d e => match e[i]? with
  | some (.par (.ins C fs)) => if C ∈ cs ∧ fs.length ≤ 900 then .nx (e.set i (.par (.ins C (putD f d fs)))) else .no
  | some (.box (.ins C fs)) => if C ∈ cs ∧ fs.length ≤ 900 then .nx (e.set i (.box (.ins C (putD f d fs)))) else .no
  | _ => .no
theorem repF_len {K : PySem.W.Frag} {G : Hp} : ∀ {fs : List (Str × D)} {ws : List (Str × V)}, RepF K S G fs ws → fs.length = ws.length
  | [], _, h => by cases h; rfl
  | x :: xs, _, ⟨u, ws, e, q, t⟩ => by subst e; rw [List.length_cons, List.length_cons, repF_len t]
/-- an object of one's own is changed -/
theorem own_set {K : PySem.W.Frag} {B : Base} {L : Lk} {G H : Hp} {env : Env} {σ : L2.St} {i : Nat} {s : Sl} {p : Addr} {d : D} {o : HO} (st : Ste B L G H) (rl : Rel K S B L G H env σ) (hi : env[i]? = some s) (hs : isOwn s = true) (hx : σ[i]? = some (some (V.ref p))) (ro : RepO K S G d o) :
    Ste B L G (upd H p o) ∧ Rel K S B L G (upd H p o) (env.set i (putSl s d)) σ := by
  obtain ⟨gp, hp⟩ := own_free st rl hi hs hx
  have f : Fin G H (some p) G (upd H p o) := by
    refine ⟨.refl _, fun a u e => ?_, fun a h e => (h e).elim, fun a u e hr => ?_⟩
    · have hne : a ≠ p := fun q => by subst q; rw [gp] at e; cases e
      rw [upd_ne hne]
      exact st.inn a u e
    · rw [upd_ne (fun q => hr (by rw [q]))]
      exact e
  exact ⟨st.fin rl f fun a e => by cases e; exact ⟨⟨i, s, hi, hs, hx⟩, by rw [upd_same]; intro e; cases e⟩, rl.fin1 f hi hs hx upd_same ro⟩
theorem s_fld {cs : List Nat} {s : Str} {i : Nat} {o value : Expr} {ev : Ev} {pos' : Pos} (hc : FldOk X.K S s cs) (ho : PE X o (tVar i)) (hv : QE S X E value ev) (hs : swapsWith value (some (.Attribute o s pos')) pos.line X.env = pure false) :
    QS S X E (.Assign [.Attribute o s pos'] value pos) (xFldS cs s i ev) := ps_of (ps_fld ho hv hs) fun D σ H ⟨B, L, G, env, st, rl, po⟩ => ⟨B, L, G, env, st, rl, Post.st po fun G' H' d e sm st' rl' p v rv => by
  have key : ∀ C fs sl, e[i]? = some sl → isOwn sl = true → (sl = .box (.ins C fs) ∨ sl = .par (.ins C fs)) → C ∈ cs → fs.length ≤ 900 → (∀ p0 dx ws, σ[i]? = some (some (V.ref p0)) → H' p0 = some (.ins (S C) dx ws) → RepF X.K S G' fs ws → D.nx σ (upd H' p0 (.ins (S C) dx (putF s v ws)))) → ∃ v0, σ[i]? = some (some v0) ∧ ∃ a C dx fs, v0 = .ref a ∧ H' a = some (.ins C dx fs) ∧ Cls X.K C ∧ NoAttr X.K C s ∧ fs.length < 1000 ∧ D.nx σ (upd H' a (.ins C dx (putF s v fs))) := fun C fs sl h1 h2 h3 h4 h5 k => by
    obtain ⟨p0, dx, ws, hx, hp, rf⟩ := fld_at rl' h1 h3
    exact ⟨.ref p0, hx, p0, S C, dx, ws, rfl, hp, (hc C h4).1, (hc C h4).2, by rw [← repF_len rf]; omega, k p0 dx ws hx hp rf⟩
  split at p
  · rename_i C fs h
    split at p
    · rename_i hh
      refine key C fs _ h rfl (.inr rfl) hh.1 hh.2 fun p0 dx ws hx hp rf => ?_
      obtain ⟨s1, s2⟩ := own_set (d := .ins C (putD s d fs)) (o := .ins (S C) dx (putF s v ws)) st' rl' h rfl hx ⟨dx, _, rfl, put_ok rv rf⟩
      exact p σ G' _ (.refl _) s1 s2
    · exact p.elim
  · rename_i C fs h
    split at p
    · rename_i hh
      refine key C fs _ h rfl (.inl rfl) hh.1 hh.2 fun p0 dx ws hx hp rf => ?_
      obtain ⟨s1, s2⟩ := own_set (d := .ins C (putD s d fs)) (o := .ins (S C) dx (putF s v ws)) st' rl' h rfl hx ⟨dx, _, rfl, put_ok rv rf⟩
      exact p σ G' _ (.refl _) s1 s2
    · exact p.elim
  · exact p.elim⟩
end
/-! ### targets -/
abbrev Eg := D → Env → Option Env
abbrev Egs := List D → Env → Option Env
theorem wipe_at {σ : L2.St} : ∀ (vs : List Nat) (j : Nat), (wipe σ vs)[j]? = if j ∈ vs then (if j < σ.length then some none else none) else σ[j]?
  | [], j => by simp [wipe]
  | v :: vs, j => by
    unfold wipe
    by_cases h : v = j
    · subst h
      by_cases hl : v < σ.length
      · rw [List.getElem?_set_self (by rw [wipe_length]; exact hl)]
        simp [hl]
      · rw [List.getElem?_eq_none_iff.mpr (by rw [List.length_set, wipe_length]; omega)]
        simp [hl]
    · rw [List.getElem?_set_ne h, wipe_at vs j]
      have : j ≠ v := fun e => h e.symm
      simp [this]
theorem wipe_set {σ : L2.St} {i : Nat} {x : Option V} {vs : List Nat} (h : i ∈ vs) : wipe (σ.set i x) vs = wipe σ vs := by
  refine List.ext_getElem? fun j => ?_
  rw [wipe_at, wipe_at, List.length_set]
  by_cases hj : j ∈ vs
  · rw [if_pos hj, if_pos hj]
  · rw [if_neg hj, if_neg hj, List.getElem?_set_ne (fun e => hj (by rw [← e]; exact h))]
section
variable {K : PySem.W.Frag} {S : Nat → Addr}
def SndG (K : PySem.W.Frag) (S : Nat → Addr) (gs : List Nat) (eg : Eg) (g : TG) : Prop := ∀ (B : Base) (L : Lk) (G H : Hp) (env env' : Env) (σ : L2.St) (d : D) (v : V) (N : L2.St → Hp → Prop), Ste B L G H → Rel K S B L G H env σ → Rep K S G d v → eg d env = some env' →
  (∀ σ', Rel K S B L G H env' σ' → (∀ vs, (∀ i ∈ gs, i ∈ vs) → wipe σ' vs = wipe σ vs) → N σ' H) → g v σ H N
def SndGs (K : PySem.W.Frag) (S : Nat → Addr) (gs : List Nat) (eg : Egs) (g : TGs) : Prop := ∀ (B : Base) (L : Lk) (G H : Hp) (env env' : Env) (σ : L2.St) (d : List D) (v : List V) (N : L2.St → Hp → Prop), Ste B L G H → Rel K S B L G H env σ → RepL K S G d v → eg d env = some env' →
  (∀ σ', Rel K S B L G H env' σ' → (∀ vs, (∀ i ∈ gs, i ∈ vs) → wipe σ' vs = wipe σ vs) → N σ' H) → g v σ H N
def yName (i : Nat) : Eg := fun d env => setE env i d
def yNil : Egs := fun ds env => match ds with
  | [] => some env
  | _ => none
def yCons (a : Eg) (r : Egs) : Egs := fun ds env => match ds with
  | d :: ds => match a d env with
    | some e => r ds e
    | none => none
  | [] => none
def yTup (n : Nat) (r : Egs) : Eg := fun d env => match d with
  | .tup xs => if xs.length = n then r xs env else none
  | _ => none
theorem g_name (i : Nat) : SndG K S [i] (yName i) (gName i) := fun B L G H env env' σ d v N st rl r e k => k _ (rel_set rl e r) fun vs h => wipe_set (h i (List.mem_singleton.mpr rfl))
theorem gs_nil : SndGs K S [] yNil L2.gNil := fun B L G H env env' σ d v N st rl r e k => by
  cases d with
  | nil => cases r; cases e; exact ⟨rfl, k σ rl fun _ _ => rfl⟩
  | cons _ _ => cases e
theorem gs_cons {a : Eg} {r : Egs} {t : TG} {u : TGs} {g1 g2 : List Nat} (h1 : SndG K S g1 a t) (h2 : SndGs K S g2 r u) : SndGs K S (g1 ++ g2) (yCons a r) (gCons t u) := fun B L G H env env' σ d v N st rl rp e k => by
  cases d with
  | nil => cases e
  | cons x xs =>
    obtain ⟨w, ws, rfl, q, t'⟩ := rp
    have e : (match a x env with
      | some e => r xs e
      | none => none) = some env' := e
    split at e
    · rename_i e1 he
      exact ⟨w, ws, rfl, h1 B L G H env e1 σ x w _ st rl q he fun σ1 rl1 w1 => h2 B L G H e1 env' σ1 xs ws N st rl1 t' e fun σ2 rl2 w2 => k σ2 rl2 fun vs hv => (w2 vs fun i hi => hv i (List.mem_append_right _ hi)).trans (w1 vs fun i hi => hv i (List.mem_append_left _ hi))⟩
    · cases e
theorem g_tup {n : Nat} {r : Egs} {u : TGs} {gs : List Nat} (h : SndGs K S gs r u) : SndG K S gs (yTup n r) (gTup K n u) := fun B L G H env env' σ d v N st rl rp e k => by
  cases d with
  | tup xs =>
    obtain ⟨p, vs, rfl, q, t⟩ := rp
    have e : (if xs.length = n then r xs env else none) = some env' := e
    by_cases hn : xs.length = n
    · rw [if_pos hn] at e
      exact ⟨p, vs, rfl, st.inn.tup q, by rw [← t.length]; exact hn, h B L G H env env' σ xs vs N st rl t e k⟩
    · rw [if_neg hn] at e; cases e
  | _ => cases e
end
section
variable {S : Nat → Addr} {X : Cx} {E : XK} {e tg : Expr} {ee : Ev} {pos : Pos} {eg : Eg} {g : TG} {gs : List Nat}
def xAsg (a : Ev) (g : Eg) : EvS := fun env => (a env).st fun d e => match g d e with
  | some e' => .nx e'
  | none => .no
theorem s_asg (he : QE S X E e ee) (hg : PG X tg g) (sg : SndG X.K S gs eg g) (hs : swapsWithSole [tg] e pos.line X.env = pure false := by rfl) (hw : swappedStores [tg] e X.env = pure none := by rfl)
    (h1 : (assignEach [tg] X.env).map (·.2) = [assign tg X.env] := by rfl) : QS S X E (.Assign [tg] e pos) (xAsg ee eg) := ps_of (ps_asg he hg hs hw h1) fun D σ H ⟨B, L, G, env, st, rl, po⟩ => ⟨B, L, G, env, st, rl, Post.st po fun G' H' d e s st' rl' p v rv => by
  split at p
  · rename_i e' h
    exact sg B L G' H' _ e' σ d v _ st' rl' rv h fun σ' rl2 _ => p σ' G' H' (.refl _) st' rl2
  · exact p.elim⟩
end
end
end Dv
namespace Dv
open PySem PySem.Spec PyProof.Rows L2
set_option autoImplicit false
noncomputable section
/-! ### what is walked -/
abbrev EvI := Env → Res (List D)
def ItOk (K : PySem.W.Frag) (S : Nat → Addr) (B : Base) (L : Lk) (G : Hp) (J : It) (items : List D) : Prop := ∀ (i : Nat) (G1 H1 : Hp), Same G G1 → Ste B L G1 H1 →
  (items[i]? = none → J.stop i H1) ∧ ∀ d, items[i]? = some d → J.go i H1 ∧ ∀ x H2, J.yld i H1 x H2 → ∃ G2, Ex G1 H1 G2 H2 ∧ Rep K S G2 d x
def TIt (K : PySem.W.Frag) (S : Nat → Addr) (E : XK) (f : EvI) : TI := fun σ H R => ∃ (B : Base) (L : Lk) (G : Hp) (env : Env), Ste B L G H ∧ Rel K S B L G H env σ ∧ Post K S E B L σ G (fun G' H' ds _ => ∀ J, ItOk K S B L G' J ds → R J H') (f env)
abbrev QI (S : Nat → Addr) (X : Cx) (E : XK) (tg iter : Expr) (f : EvI) : Prop := PI X tg iter (TIt X.K S E f)
theorem pi_of {X : Cx} {tg iter : Expr} {t u : TI} (p : PI X tg iter t) (h : ∀ σ H R, u σ H R → t σ H R) : PI X tg iter u := ⟨fun pins s σ H R I q => p.run pins s σ H R I (h σ H R q)⟩
def iSeq (K : PySem.W.Frag) (tl : TE) : TI := fun σ H R => tl σ H fun x H1 => ∃ a, x = .ref a ∧ (((∃ xs, SqL K H1 a xs) ∧ R (Itl K a) H1) ∨ ((∃ xs, SqT K H1 a xs) ∧ R (Itt K a) H1))
theorem pi_seq {X : Cx} {tg l : Expr} {tl : TE} (hl : PE X l tl) : PI X tg l (iSeq X.K tl) := by
  refine ⟨fun pins s σ H R I h => ?_⟩
  refine thn (hl.run pins s σ H _ I h) fun v s1 ⟨x, H1, I1, r1, a, e, q⟩ => ?_
  subst e
  cases r1
  rcases q with ⟨⟨xs, hq⟩, q⟩ | ⟨⟨xs, hq⟩, q⟩
  · obtain ⟨its, rv, p, hz⟩ := I1.list hq
    refine wpAny_pyIter_list p.isList ?_
    refine ⟨s1.heap.objs.size, [s1.heap.objs.size], _, _, H1, rfl, I1.kept (t' := s1.toks) fun b o e => Heap.get?_push_of_some _ e, turn_list a _, ⟨_, Heap.get?_push_size _ rfl, rfl, rfl⟩, fun b hb => ?_, q⟩
    have e : b = s1.heap.objs.size := by simpa using hb
    subst e
    exact I1.fpOk (Nat.le_refl _) (I1.hok.fresh (Nat.le_refl _))
  · obtain ⟨its, rv, p, hz⟩ := I1.tuple hq
    refine wpAny_pyIter_tuple (show s1.heap.IsTuple a its.toArray from p) ?_
    refine ⟨s1.heap.objs.size, [s1.heap.objs.size], _, _, H1, rfl, I1.kept (t' := s1.toks) fun b o e => Heap.get?_push_of_some _ e, turn_tuple a _, ⟨_, Heap.get?_push_size _ rfl, rfl, rfl⟩, fun b hb => ?_, q⟩
    have e : b = s1.heap.objs.size := by simpa using hb
    subst e
    exact I1.fpOk (Nat.le_refl _) (I1.hok.fresh (Nat.le_refl _))
def seqD (d : D) : Option (List D) := match d with
  | .lst xs => some xs
  | .scr xs => some xs
  | .tup xs => some xs
  | _ => none
def lstD (d : D) : Option (List D) := match d with
  | .lst xs => some xs
  | .scr xs => some xs
  | _ => none
section
variable {K : PySem.W.Frag} {S : Nat → Addr} {X : Cx} {E : XK} {a b e tg : Expr} {es : List Expr} {ea eb ee : Ev} {er : EvA} {pos p : Pos}
theorem lst_sq {G : Hp} {d : D} {v : V} {xs : List D} (r : Rep K S G d v) (h : lstD d = some xs) : ∃ q vs, v = .ref q ∧ SqL K G q vs ∧ RepL K S G xs vs := by
  cases d with
  | lst ys => cases h; obtain ⟨q, vs, e, g, t⟩ := r; exact ⟨q, vs, e, .inl (.inl g), t⟩
  | scr ys => cases h; obtain ⟨q, vs, e, g, t⟩ := r; exact ⟨q, vs, e, g, t⟩
  | _ => cases h
theorem seq_sq {G : Hp} {d : D} {v : V} {xs : List D} (r : Rep K S G d v) (h : seqD d = some xs) : ∃ q vs, v = .ref q ∧ (SqL K G q vs ∨ SqT K G q vs) ∧ RepL K S G xs vs := by
  cases d with
  | lst ys => cases h; obtain ⟨q, vs, e, g, t⟩ := r; exact ⟨q, vs, e, .inl (.inl (.inl g)), t⟩
  | scr ys => cases h; obtain ⟨q, vs, e, g, t⟩ := r; exact ⟨q, vs, e, .inl g, t⟩
  | tup ys => cases h; obtain ⟨q, vs, e, g, t⟩ := r; exact ⟨q, vs, e, .inr g, t⟩
  | _ => cases h
theorem rep_none {G : Hp} {xs : List D} {vs : List V} {i : Nat} (r : RepL K S G xs vs) (h : xs[i]? = none) : vs.length ≤ i := by
  have := List.getElem?_eq_none_iff.mp h
  rw [← r.length]
  exact this
theorem same_sqT {G G' : Hp} {q : Addr} {vs : List V} (h : Same G G') (t : SqT K G q vs) : SqT K G' q vs := t.elim (fun t => .inl (t.elim (fun t => .inl (h _ _ t)) fun ⟨o, t⟩ => .inr ⟨o, h _ _ t⟩)) .inr
def iSq (f : Ev) : EvI := fun env => (f env).bind fun d e => .of (seqD d) e
theorem i_seq (ha : QE S X E e ee) : QI S X E tg e (iSq ee) := pi_of (pi_seq ha) fun σ H R ⟨B, L, G, env, st, rl, po⟩ => ⟨B, L, G, env, st, rl, po.then fun G1 H1 d e1 sm1 st1 rl1 p1 v rv => by
  obtain ⟨xs, hd, k⟩ := p1.of st1 rl1
  obtain ⟨q, vs, rfl, hq, t⟩ := seq_sq rv hd
  refine ⟨q, rfl, ?_⟩
  have kk := k G1 H1 (.refl st1.inn)
  rcases hq with hq | hq
  · refine .inl ⟨⟨vs, st1.inn.seq hq⟩, kk _ fun i G2 H2 sm2 st2 => ⟨fun h => ⟨vs, st2.inn.seq (sm2.seq hq), rep_none t h⟩, fun d h => ?_⟩⟩
    obtain ⟨u, hu, ru⟩ := t.get h
    refine ⟨⟨vs, u, st2.inn.seq (sm2.seq hq), hu⟩, fun x H3 ⟨e1, e2⟩ => ?_⟩
    have := e2 vs (st2.inn.seq (sm2.seq hq))
    rw [hu] at this
    cases this
    subst e1
    exact ⟨G2, .refl st2.inn, ru.mono sm2⟩
  · refine .inr ⟨⟨vs, st1.inn.tup hq⟩, kk _ fun i G2 H2 sm2 st2 => ⟨fun h => ⟨vs, st2.inn.tup (same_sqT sm2 hq), rep_none t h⟩, fun d h => ?_⟩⟩
    obtain ⟨u, hu, ru⟩ := t.get h
    refine ⟨⟨vs, u, st2.inn.tup (same_sqT sm2 hq), hu⟩, fun x H3 ⟨e1, e2⟩ => ?_⟩
    have := e2 vs (st2.inn.tup (same_sqT sm2 hq))
    rw [hu] at this
    cases this
    subst e1
    exact ⟨G2, .refl st2.inn, ru.mono sm2⟩⟩
def rngD (lo : Int) (n : Nat) : List D := (List.range n).map fun (k : Nat) => D.int (lo + (k : Int))
theorem rng_ok {B : Base} {L : Lk} {G : Hp} {lo : Int} {n : Nat} : ItOk K S B L G (Itr lo n) (rngD lo n) := fun i G1 H1 sm st => by
  have hl : (rngD lo n).length = n := by simp [rngD]
  refine ⟨fun h => ?_, fun d h => ?_⟩
  · have := List.getElem?_eq_none_iff.mp h
    show n ≤ i
    omega
  · have hi : i < n := by
      have := (List.getElem?_eq_some_iff.mp h).1
      omega
    refine ⟨hi, fun x H2 ⟨e1, e2⟩ => ?_⟩
    have e1 : H2 = H1 := e1
    have e2 : x = .int (lo + (i : Int)) := e2
    have e : (rngD lo n)[i]? = some (.int (lo + (i : Int))) := by
      unfold rngD
      rw [List.getElem?_map, List.getElem?_range hi]
      rfl
    rw [e] at h
    cases h
    subst e1
    exact ⟨G1, .refl st.inn, e2⟩
def iRg1 (r : EvA) : EvI := fun env => (r env).bind fun xs e => match xs with
  | [.int j] => if -(2 ^ 62) ≤ j ∧ j < 2 ^ 62 then .ok (rngD 0 j.toNat) e else .no
  | _ => .no
def iRg2 (r : EvA) : EvI := fun env => (r env).bind fun xs e => match xs with
  | [.int i, .int j] => if -(2 ^ 62) ≤ i ∧ i < 2 ^ 62 ∧ -(2 ^ 62) ≤ j ∧ j < 2 ^ 62 then .ok (rngD i (j - i).toNat) e else .no
  | _ => .no
theorem i_rng1 (hg : Gl X "range") (hm : X.mg "range" = none) (ha : QA S X E [a] er) (hs : starEach [a] X.env = [(false, eval a X.env)] := by rfl) : QI S X E tg (.Call (.Name "range" p) [a] [] pos) (iRg1 er) := pi_of (pi_range1 hg hm ha hs) fun σ H R ⟨B, L, G, env, st, rl, po⟩ => ⟨B, L, G, env, st, rl, po.then fun G1 H1 xs e1 sm1 st1 rl1 p1 vs rv => by
  split at p1
  · rename_i j
    obtain ⟨v, rfl, r⟩ := rv.one
    cases r
    split at p1
    · rename_i h
      exact ⟨j, rfl, h.1, h.2, p1 G1 H1 (.refl _) st1 rl1 _ rng_ok⟩
    · exact p1.elim
  · exact p1.elim⟩
theorem i_rng2 (hg : Gl X "range") (hm : X.mg "range" = none) (ha : QA S X E [a, b] er) (hs : starEach [a, b] X.env = [(false, eval a X.env), (false, eval b X.env)] := by rfl) (hs2 : starEach [b] X.env = [(false, eval b X.env)] := by rfl) : QI S X E tg (.Call (.Name "range" p) [a, b] [] pos) (iRg2 er) := pi_of (pi_range2 hg hm ha hs hs2) fun σ H R ⟨B, L, G, env, st, rl, po⟩ => ⟨B, L, G, env, st, rl, po.then fun G1 H1 xs e1 sm1 st1 rl1 p1 vs rv => by
  split at p1
  · rename_i i j
    obtain ⟨v, w, rfl, r, r'⟩ := rv.two
    cases r
    cases r'
    split at p1
    · rename_i h
      exact ⟨i, j, rfl, h, p1 G1 H1 (.refl _) st1 rl1 _ rng_ok⟩
    · exact p1.elim
  · exact p1.elim⟩
/-! zip, enumerate -/
def zipD : List D → List D → List D
  | x :: xs, y :: ys => .tup [x, y] :: zipD xs ys
  | _, _ => []
theorem zip_at : ∀ (xs ys : List D) (i : Nat), (zipD xs ys)[i]? = match xs[i]?, ys[i]? with
    | some x, some y => some (.tup [x, y])
    | _, _ => none
  | [], ys, i => by simp [zipD]
  | x :: xs, [], i => by
    simp [zipD]
  | x :: xs, y :: ys, 0 => rfl
  | x :: xs, y :: ys, i + 1 => by
    have := zip_at xs ys i
    simpa [zipD] using this
def iZp (r : EvA) : EvI := fun env => (r env).bind fun xs e => match xs with
  | [x, y] => match lstD x, lstD y with
    | some xs, some ys => .ok (zipD xs ys) e
    | _, _ => .no
  | _ => .no
variable {elts : List Expr} {kk : Nat} {tpos : Pos}
theorem zip_ok {B : Base} {L : Lk} {G : Hp} {q q' : Addr} {xs ys : List D} {vs ws : List V} (h1 : SqL K G q vs) (h2 : SqL K G q' ws) (r1 : RepL K S G xs vs) (r2 : RepL K S G ys ws) : ItOk K S B L G (Itz K q q') (zipD xs ys) := fun i G1 H1 sm st => by
  have a1 := st.inn.seq (sm.seq h1)
  have a2 := st.inn.seq (sm.seq h2)
  rw [zip_at]
  refine ⟨fun h => ⟨vs, ws, a1, a2, ?_⟩, fun d h => ?_⟩
  · cases e1 : xs[i]? with
    | none => exact .inl (rep_none r1 e1)
    | some x =>
      cases e2 : ys[i]? with
      | none => exact .inr (rep_none r2 e2)
      | some y => rw [e1, e2] at h; cases h
  · cases e1 : xs[i]? with
    | none => rw [e1] at h; cases h
    | some x =>
      cases e2 : ys[i]? with
      | none => rw [e1, e2] at h; cases h
      | some y =>
        rw [e1, e2] at h
        cases h
        obtain ⟨u, hu, ru⟩ := r1.get e1
        obtain ⟨w, hw, rw'⟩ := r2.get e2
        refine ⟨⟨vs, ws, u, w, a1, a2, hu, hw⟩, fun x' H2 ⟨T, x2, y2, e3, hT, e4, k1, k2⟩ => ?_⟩
        have z1 := k1 vs a1
        have z2 := k2 ws a2
        rw [hu] at z1
        rw [hw] at z2
        cases z1
        cases z2
        subst e3
        subst e4
        have ex := Ex.new1 (o := .tup [u, w]) st.inn hT
        exact ⟨_, ex, T, [u, w], rfl, .inl (.inl upd_same), .cons ((ru.mono sm).mono ex.g) (.cons ((rw'.mono sm).mono ex.g) .nil)⟩
theorem i_zip (hg : Gl X "zip") (hm : X.mg "zip" = none) (ha : QA S X E [a, b] er) (hs : starEach [a, b] X.env = (false, eval a X.env) :: starEach [b] X.env := by rfl) (hs2 : (backTo pos (starEach [b] X.env)).any (·.1) = false := by rfl) : QI S X E (.Tuple elts kk tpos) (.Call (.Name "zip" p) [a, b] [] pos) (iZp er) := pi_of (pi_zip hg hm ha hs hs2) fun σ H R ⟨B, L, G, env, st, rl, po⟩ => ⟨B, L, G, env, st, rl, po.then fun G1 H1 xs e1 sm1 st1 rl1 p1 vs rv => by
  split at p1
  · rename_i x y
    obtain ⟨v, w, rfl, r, r'⟩ := rv.two
    split at p1
    · rename_i xs ys h1 h2
      obtain ⟨q, vs, rfl, hq, t⟩ := lst_sq r h1
      obtain ⟨q', ws, rfl, hq', t'⟩ := lst_sq r' h2
      exact ⟨q, q', vs, ws, rfl, st1.inn.seq hq, st1.inn.seq hq', p1 G1 H1 (.refl _) st1 rl1 _ (zip_ok hq hq' t t')⟩
    · exact p1.elim
  · exact p1.elim⟩
def enumD : Nat → List D → List D
  | _, [] => []
  | n, x :: xs => .tup [.int (n : Int), x] :: enumD (n + 1) xs
theorem enum_at : ∀ (xs : List D) (n i : Nat), (enumD n xs)[i]? = (xs[i]?).map fun x => .tup [.int ((n + i : Nat) : Int), x]
  | [], n, i => by simp [enumD]
  | x :: xs, n, 0 => rfl
  | x :: xs, n, i + 1 => by
    have := enum_at xs (n + 1) i
    rw [show n + 1 + i = n + (i + 1) by omega] at this
    simpa [enumD] using this
def iEn (r : EvA) : EvI := fun env => (r env).bind fun xs e => match xs with
  | [x] => match lstD x with
    | some xs => .ok (enumD 0 xs) e
    | none => .no
  | _ => .no
theorem enum_ok {B : Base} {L : Lk} {G : Hp} {q : Addr} {xs : List D} {vs : List V} (h1 : SqL K G q vs) (r1 : RepL K S G xs vs) : ItOk K S B L G (Ite K q) (enumD 0 xs) := fun i G1 H1 sm st => by
  have a1 := st.inn.seq (sm.seq h1)
  rw [enum_at]
  refine ⟨fun h => ⟨vs, a1, ?_⟩, fun d h => ?_⟩
  · cases e1 : xs[i]? with
    | none => exact rep_none r1 e1
    | some x => rw [e1] at h; cases h
  · cases e1 : xs[i]? with
    | none => rw [e1] at h; cases h
    | some x =>
      rw [e1] at h
      cases h
      obtain ⟨u, hu, ru⟩ := r1.get e1
      refine ⟨⟨vs, u, a1, hu⟩, fun x' H2 ⟨T, x2, e3, hT, e4, k1⟩ => ?_⟩
      have z1 := k1 vs a1
      rw [hu] at z1
      cases z1
      subst e3
      subst e4
      have ex := Ex.new1 (o := .tup [.int (i : Nat), u]) st.inn hT
      refine ⟨_, ex, T, [.int (i : Nat), u], rfl, .inl (.inl upd_same), .cons ?_ (.cons ((ru.mono sm).mono ex.g) .nil)⟩
      show V.int ((i : Nat) : Int) = V.int ((0 + i : Nat) : Int)
      rw [Nat.zero_add]
theorem i_enum (hg : Gl X "enumerate") (hm : X.mg "enumerate" = none) (ha : QA S X E [e] er) (hs : starEach [e] X.env = [(false, eval e X.env)] := by rfl) : QI S X E (.Tuple elts kk tpos) (.Call (.Name "enumerate" p) [e] [] pos) (iEn er) := pi_of (pi_enum hg hm ha hs) fun σ H R ⟨B, L, G, env, st, rl, po⟩ => ⟨B, L, G, env, st, rl, po.then fun G1 H1 xs e1 sm1 st1 rl1 p1 vs rv => by
  split at p1
  · rename_i x
    obtain ⟨v, rfl, r⟩ := rv.one
    split at p1
    · rename_i xs h1
      obtain ⟨q, vs, rfl, hq, t⟩ := lst_sq r h1
      exact ⟨q, vs, rfl, st1.inn.seq hq, p1 G1 H1 (.refl _) st1 rl1 _ (enum_ok hq t)⟩
    · exact p1.elim
  · exact p1.elim⟩
/-! ### for -/
def forL (eg : Eg) (b : EvS) : List D → EvS
  | [], env => .nx env
  | x :: xs, env => match eg x env with
    | none => .no
    | some e1 => match b e1 with
      | .nx e2 => forL eg b xs e2
      | .ct e2 => forL eg b xs e2
      | .bk e2 => .nx e2
      | r => r
def xFor (ei : EvI) (eg : Eg) (b : EvS) : EvS := fun env => (ei env).st fun ds e => forL eg b ds e
variable {iter : Expr} {body : List Stmt} {ei : EvI} {eg : Eg} {g : TG} {gs : List Nat} {eb' : EvS}
theorem drop_at {α : Type} {l : List α} {i : Nat} {x : α} (h : l[i]? = some x) : l.drop i = x :: l.drop (i + 1) := by
  obtain ⟨hi, e⟩ := List.getElem?_eq_some_iff.mp h
  rw [List.drop_eq_getElem_cons hi, e]
theorem for_core {B : Base} {L : Lk} {G1 H1 : Hp} {e1 : Env} {σ : L2.St} {D : Ends} {ds : List Dv.D} {J : It} (sg : SndG K S gs eg g) (st1 : Ste B L G1 H1) (rl1 : Rel K S B L G1 H1 e1 σ) (hJ : ItOk K S B L G1 J ds) (p1 : PostS K S E B L G1 D (forL eg eb' ds e1)) :
    ∃ W : Nat → Nat → L2.St → Hp → Prop, (∃ m, W 0 m σ H1) ∧ ∀ i m σ H, W i m σ H →
      (J.stop i H ∧ D.nx σ H) ∨ (J.go i H ∧ ∃ N : L2.St → Hp → Prop, (∀ σ' H', N σ' H' → ∃ m', m' < m ∧ W (i + 1) m' σ' H') ∧ ∀ x H', J.yld i H x H' → g x σ H' fun σ2 H2 => TS' K S E eb' { D with nx := N, ct := N, bk := D.nx } σ2 H2) := by
  refine ⟨fun i m σ' H' => ∃ G' env', Same G1 G' ∧ Ste B L G' H' ∧ Rel K S B L G' H' env' σ' ∧ m = (ds.drop i).length ∧ PostS K S E B L G' D (forL eg eb' (ds.drop i) env'), ⟨_, G1, e1, .refl _, st1, rl1, rfl, p1⟩, ?_⟩
  rintro i m σ' H' ⟨G', env', sm, st', rl', rfl, po'⟩
  obtain ⟨t1, t2⟩ := hJ i G' H' sm st'
  cases hd : ds[i]? with
  | none =>
    have e : ds.drop i = [] := List.drop_eq_nil_iff.mpr (List.getElem?_eq_none_iff.mp hd)
    rw [e] at po'
    exact .inl ⟨t1 hd, po' σ' G' H' (.refl _) st' rl'⟩
  | some d =>
    obtain ⟨g1, g2⟩ := t2 d hd
    have e := drop_at hd
    rw [e] at po'
    refine .inr ⟨g1, fun σ2 H2 => ∃ G2 env2, Same G1 G2 ∧ Ste B L G2 H2 ∧ Rel K S B L G2 H2 env2 σ2 ∧ PostS K S E B L G2 D (forL eg eb' (ds.drop (i + 1)) env2), fun σ2 H2 ⟨G2, env2, a1, a2, a3, a4⟩ => ⟨(ds.drop (i + 1)).length, by rw [e, List.length_cons]; omega, G2, env2, a1, a2, a3, rfl, a4⟩, fun x H2 hy => ?_⟩
    obtain ⟨G2, ex, rx⟩ := g2 x H2 hy
    have st2 := st'.ex ex
    have rl2 := rl'.ex ex
    have po' : PostS K S E B L G' D (match eg d env' with
      | none => .no
      | some e1 => match eb' e1 with
        | .nx e2 => forL eg eb' (ds.drop (i + 1)) e2
        | .ct e2 => forL eg eb' (ds.drop (i + 1)) e2
        | .bk e2 => .nx e2
        | r => r) := po'
    cases hg : eg d env' with
    | none => rw [hg] at po'; exact po'.elim
    | some e3 =>
      rw [hg] at po'
      dsimp only at po'
      refine sg B L G2 H2 env' e3 σ' d x _ st2 rl2 rx hg fun σ3 rl3 _ => ⟨B, L, G2, e3, st2, rl3, ?_⟩
      have po2 := po'.up ex.g
      cases hb : eb' e3 with
      | nx e4 => rw [hb] at po2; exact fun σ4 G4 H4 s4 st4 rl4 => ⟨G4, e4, (sm.trans ex.g).trans s4, st4, rl4, po2.up s4⟩
      | ct e4 => rw [hb] at po2; exact fun σ4 G4 H4 s4 st4 rl4 => ⟨G4, e4, (sm.trans ex.g).trans s4, st4, rl4, po2.up s4⟩
      | bk e4 => rw [hb] at po2; exact po2
      | rt d e4 => rw [hb] at po2; exact po2
      | rf d e4 => rw [hb] at po2; exact po2
      | ex C fs e4 => rw [hb] at po2; exact po2
      | no => rw [hb] at po2; exact po2
theorem s_for (hp : PassesOwn (model X.prog X.w) X.A X.env X.xe) (hc : X.calm = true) (hi : QI S X E tg iter ei) (hg : PG X tg g) (sg : SndG X.K S gs eg g) (hb : QSs S X E body eb') (hs : ∀ x, foldedSetIterable iter X.env x = pure x := by intro _; rfl) :
    QS S X E (.For tg iter body [] pos) (xFor ei eg eb') := ps_of (ps_for hp hc hi hg hb hs) fun D σ H ⟨B, L, G, env, st, rl, po⟩ => ⟨B, L, G, env, st, rl, Post.st po fun G1 H1 ds e1 sm1 st1 rl1 p1 J hJ => for_core sg st1 rl1 hJ p1⟩
/-! ### while -/
def whileL (c : EvT) (b : EvS) : Nat → EvS
  | 0, _ => .no
  | f + 1, env => (c env).st fun x e => match x with
    | true => match b e with
      | .nx e2 => whileL c b f e2
      | .ct e2 => whileL c b f e2
      | .bk e2 => .nx e2
      | r => r
    | false => .nx e
variable {et : EvT}
theorem s_while {c : Expr} (f : Nat) (hp : PassesOwn (model X.prog X.w) X.A X.env X.xe) (hc : QT S X E c et) (hb : QSs S X E body eb') : QS S X E (.While c body [] pos) (whileL et eb' f) := ps_of (ps_while hp hc hb) fun D σ H ⟨B, L, G, env, st, rl, po⟩ => by
  refine ⟨fun m σ' H' => ∃ G' env', Ste B L G' H' ∧ Rel X.K S B L G' H' env' σ' ∧ PostS X.K S E B L G' D (whileL et eb' m env'), ⟨f, G, env, st, rl, po⟩, ?_⟩
  rintro m σ' H' ⟨G', env', st', rl', po'⟩
  cases m with
  | zero => exact po'.elim
  | succ m =>
    refine ⟨B, L, G', env', st', rl', Post.st po' fun G2 H2 x e2 sm2 st2 rl2 p2 v rv => ?_⟩
    cases rv
    cases x with
    | false => exact p2 σ' G2 H2 (.refl _) st2 rl2
    | true =>
      dsimp only at p2
      refine ⟨fun σ3 H3 => ∃ m', m' < m + 1 ∧ ∃ G' env', Ste B L G' H3 ∧ Rel X.K S B L G' H3 env' σ3 ∧ PostS X.K S E B L G' D (whileL et eb' m' env'), fun _ _ z => z, B, L, G2, e2, st2, rl2, ?_⟩
      cases hb : eb' e2 with
      | nx e4 => rw [hb] at p2; exact fun σ4 G4 H4 s4 st4 rl4 => ⟨m, Nat.lt_succ_self _, G4, e4, st4, rl4, p2.up s4⟩
      | ct e4 => rw [hb] at p2; exact fun σ4 G4 H4 s4 st4 rl4 => ⟨m, Nat.lt_succ_self _, G4, e4, st4, rl4, p2.up s4⟩
      | bk e4 => rw [hb] at p2; exact p2
      | rt d e4 => rw [hb] at p2; exact p2
      | rf d e4 => rw [hb] at p2; exact p2
      | ex C fs e4 => rw [hb] at p2; exact p2
      | no => rw [hb] at p2; exact p2
end
end
end Dv
namespace Dv
open PySem PySem.Spec PyProof.Rows L2
set_option autoImplicit false
noncomputable section
/-! ### list comprehensions -/
def wipeE (env : Env) : List Nat → Env
  | [] => env
  | v :: vs => (wipeE env vs).set v .no
theorem wipeE_len (env : Env) : ∀ vs, (wipeE env vs).length = env.length
  | [] => rfl
  | v :: vs => by unfold wipeE; rw [List.length_set, wipeE_len env vs]
theorem wipeE_at {env : Env} : ∀ (vs : List Nat) (j : Nat), (wipeE env vs)[j]? = if j ∈ vs then (if j < env.length then some .no else none) else env[j]?
  | [], j => by simp [wipeE]
  | v :: vs, j => by
    unfold wipeE
    by_cases h : v = j
    · subst h
      by_cases hl : v < env.length
      · rw [List.getElem?_set_self (by rw [wipeE_len]; exact hl)]
        simp [hl]
      · rw [List.getElem?_eq_none_iff.mpr (by rw [List.length_set, wipeE_len]; omega)]
        simp [hl]
    · rw [List.getElem?_set_ne h, wipeE_at vs j]
      have : j ≠ v := fun e => h e.symm
      simp [this]
section
variable {K : PySem.W.Frag} {S : Nat → Addr} {B : Base} {L : Lk} {G H : Hp} {env : Env} {σ τ : L2.St} {vs : List Nat}
theorem rel_wipes (rl : Rel K S B L G H env σ) : Rel K S B L G H (wipeE env vs) σ := by
  induction vs with
  | nil => exact rl
  | cons v vs ih => exact rel_no ih
/-- slots that agree off vs -/
theorem rel_off (rl : Rel K S B L G H (wipeE env vs) σ) (h : wipe τ vs = wipe σ vs) (hl : τ.length = σ.length) : Rel K S B L G H (wipeE env vs) τ := by
  have key : ∀ j, j ∉ vs → τ[j]? = σ[j]? := fun j hj => by
    have := congrArg (fun l : L2.St => l[j]?) h
    simp only [wipe_at, if_neg hj] at this
    exact this
  have hno : ∀ (j : Nat) (s : Sl), (wipeE env vs)[j]? = some s → isOwn s = true → j ∉ vs := fun j s h1 h2 hj => by
    rw [wipeE_at, if_pos hj] at h1
    split at h1 <;> cases h1
    cases h2
  refine ⟨paired_of (by rw [paired_len rl.at_, hl]) fun j s x h1 h2 => ?_, fun j k s t a hjk h1 h2 o1 o2 h3 h4 => ?_, fun j s a h1 o1 h3 => ?_⟩
  · by_cases hj : j ∈ vs
    · rw [wipeE_at, if_pos hj] at h1
      split at h1 <;> cases h1
      trivial
    · rw [key j hj] at h2
      obtain ⟨y, hy, q⟩ := rel_at rl h1
      rw [h2] at hy
      cases hy
      exact q
  · rw [key j (hno j s h1 o1)] at h3
    rw [key k (hno k t h2 o2)] at h4
    exact rl.nd j k s t a hjk h1 h2 o1 o2 h3 h4
  · rw [key j (hno j s h1 o1)] at h3
    exact rl.nl j s a h1 o1 h3
theorem wipe_wipe : wipe (wipe σ vs) vs = wipe σ vs := by
  refine List.ext_getElem? fun j => ?_
  rw [wipe_at, wipe_at, wipe_length]
  by_cases hj : j ∈ vs
  · rw [if_pos hj, if_pos hj]
  · simp [hj]
/-! a list that grows, apart -/
theorem ste_pin (st : Ste B L G H) {p : Addr} {o : HO} (hp : H p = none) : Ste B ((p, o) :: L) G (upd H p o) := by
  have x := Ex.skip (o := o) st.inn hp
  have s := st.ex x
  refine ⟨s.g0, s.inn, s.new, fun a u e r l => s.keep a u e r fun q hq => l q (List.mem_cons_of_mem _ hq), fun q hq => ?_, fun a e => ?_, fun q hq hf => ?_⟩
  · rcases List.mem_cons.mp hq with rfl | hq
    · exact upd_same
    · exact s.lock q hq
  · obtain ⟨h1, h2, h3, h4⟩ := s.par a e
    refine ⟨h1, h2, h3, fun q hq => ?_⟩
    rcases List.mem_cons.mp hq with rfl | hq
    · intro e'
      have e' : p = a := e'
      subst e'
      exact (st.par p e).2.1 hp
    · exact h4 q hq
  · rcases List.mem_cons.mp hq with rfl | hq
    · exact st.inn.some hp
    · exact s.out q hq hf
theorem ste_unpin {p : Addr} {o : HO} (st : Ste B ((p, o) :: L) G H) (hb : B.H p = none) : Ste B L G H :=
  ⟨st.g0, st.inn, st.new, fun a u e r l => st.keep a u e r fun q hq => by
    rcases List.mem_cons.mp hq with rfl | hq
    · intro e'
      have e' : p = a := e'
      subst e'
      rw [hb] at e
      cases e
    · exact l q hq, fun q hq => st.lock q (List.mem_cons_of_mem _ hq), fun a e => let ⟨h1, h2, h3, h4⟩ := st.par a e; ⟨h1, h2, h3, fun q hq => h4 q (List.mem_cons_of_mem _ hq)⟩, fun q hq hf => st.out q (List.mem_cons_of_mem _ hq) hf⟩
theorem ste_repin {p : Addr} {o u : HO} (st : Ste B ((p, o) :: L) G H) (hb : B.H p = none) (hl : ∀ q ∈ L, q.1 ≠ p) (ho : ∀ o' u', o ≠ .frz o' u') : Ste B ((p, u) :: L) G (upd H p u) := by
  have gp : G p = none := st.out (p, o) (List.mem_cons_self ..) ho
  refine ⟨st.g0, fun a w e => ?_, st.new, fun a w e r l => ?_, fun q hq => ?_, fun a e => ?_, fun q hq hf => ?_⟩
  · have : a ≠ p := fun q => by subst q; rw [gp] at e; cases e
    rw [upd_ne this]
    exact st.inn a w e
  · have hne : a ≠ p := fun q => by subst q; rw [hb] at e; cases e
    rw [upd_ne hne]
    refine st.keep a w e r fun q hq => ?_
    rcases List.mem_cons.mp hq with rfl | hq
    · exact fun q => hne q.symm
    · exact l q (List.mem_cons_of_mem _ hq)
  · rcases List.mem_cons.mp hq with rfl | hq
    · exact upd_same
    · rw [upd_ne (hl q hq)]
      exact st.lock q (List.mem_cons_of_mem _ hq)
  · obtain ⟨h1, h2, h3, h4⟩ := st.par a e
    refine ⟨h1, ?_, h3, fun q hq => ?_⟩
    · have : a ≠ p := fun q => by subst q; exact h3 hb
      rw [upd_ne this]
      exact h2
    · rcases List.mem_cons.mp hq with rfl | hq
      · exact h4 (p, o) (List.mem_cons_self ..)
      · exact h4 q (List.mem_cons_of_mem _ hq)
  · rcases List.mem_cons.mp hq with rfl | hq
    · exact gp
    · exact st.out q (List.mem_cons_of_mem _ hq) hf
theorem rel_pin (rl : Rel K S B L G H env σ) {p : Addr} {o : HO} (i : Inn G H) (hp : H p = none) : Rel K S B ((p, o) :: L) G (upd H p o) env σ := by
  have r := rl.ex (Ex.skip (o := o) i hp)
  refine ⟨r.at_, r.nd, fun j s a h1 o1 h3 q hq => ?_⟩
  rcases List.mem_cons.mp hq with rfl | hq
  · intro e
    have e : p = a := e
    subst e
    exact rl.fresh hp j s h1 o1 h3
  · exact r.nl j s a h1 o1 h3 q hq
theorem rel_unpin {p : Addr} {o : HO} (rl : Rel K S B ((p, o) :: L) G H env σ) : Rel K S B L G H env σ := ⟨rl.at_, rl.nd, fun j s a h1 o1 h3 q hq => rl.nl j s a h1 o1 h3 q (List.mem_cons_of_mem _ hq)⟩
theorem rel_repin {p : Addr} {o u : HO} (rl : Rel K S B ((p, o) :: L) G H env σ) : Rel K S B ((p, u) :: L) G (upd H p u) env σ := by
  have hne : ∀ (j : Nat) (s : Sl) (a : Addr), env[j]? = some s → isOwn s = true → σ[j]? = some (some (V.ref a)) → a ≠ p := fun j s a h1 o1 h3 e => rl.nl j s a h1 o1 h3 (p, o) (List.mem_cons_self ..) e.symm
  refine ⟨paired_of (paired_len rl.at_) fun j s x h1 h2 => ?_, rl.nd, fun j s a h1 o1 h3 q hq => ?_⟩
  · obtain ⟨y, hy, q⟩ := rel_at rl h1
    rw [h2] at hy
    cases hy
    cases s with
    | no => trivial
    | val d => exact q
    | box d =>
      obtain ⟨a, w, rfl, g, b, ha, r⟩ := q
      exact ⟨a, w, rfl, g, b, by rw [upd_ne (hne j _ a h1 rfl h2)]; exact ha, r⟩
    | par d =>
      obtain ⟨a, w, rfl, b, ha, r⟩ := q
      exact ⟨a, w, rfl, b, by rw [upd_ne (hne j _ a h1 rfl h2)]; exact ha, r⟩
  · rcases List.mem_cons.mp hq with rfl | hq
    · exact rl.nl j s a h1 o1 h3 (p, o) (List.mem_cons_self ..)
    · exact rl.nl j s a h1 o1 h3 q (List.mem_cons_of_mem _ hq)
end
def cmpL (eg : Eg) (et : EvT) (ee : Ev) (vs : List Nat) : List D → List D → Env → Res (List D)
  | [], acc, env => .ok acc env
  | x :: xs, acc, env => match eg x (wipeE env vs) with
    | none => .no
    | some e1 => match et e1 with
      | .ok true e2 => match ee e2 with
        | .ok y e3 => if acc.length < 1000000 then cmpL eg et ee vs xs (acc ++ [y]) e3 else .no
        | _ => .no
      | .ok false e2 => cmpL eg et ee vs xs acc e2
      | _ => .no
def xLc (ei : EvI) (eg : Eg) (et : EvT) (ee : Ev) (vs : List Nat) : Ev := fun env => (ei env).bind fun ds e => (cmpL eg et ee vs ds [] e).bind fun acc e' => .ok (.lst acc) (wipeE e' vs)
section
variable {K : PySem.W.Frag} {S : Nat → Addr} {X : Cx} {E : XK} {e iter tg elt : Expr} {ee : Ev} {ei : EvI} {eg : Eg} {g : TG} {gs vs : List Nat} {et : EvT} {pos : Pos}
theorem post_ok {α : Type} {B : Base} {L : Lk} {σ : L2.St} {G : Hp} {P : Hp → Hp → α → Env → Prop} {r : Res α} (h : Post K S E B L σ G P r) {a : α} {e : Env} (he : r = .ok a e) : ∀ G' H', Same G G' → Ste B L G' H' → Rel K S B L G' H' e σ → P G' H' a e := by
  subst he
  exact h
theorem len9 {n : Nat} (h : n < 1000000) : n < sizeLine := by
  have : sizeLine = 16777216 := sizeLine_eq
  omega
def PLc (K : PySem.W.Frag) (S : Nat → Addr) (B : Base) (L : Lk) (σ : L2.St) (Q : VK) : Hp → Hp → D → Env → Prop := fun G' H' d e => ∀ a o, G' a = none → B.H a = none → H' a = some o → (∀ (i : Nat) (s : Sl), e[i]? = some s → isOwn s = true → σ[i]? ≠ some (some (V.ref a))) → (∀ p ∈ L, p.1 ≠ a) → RepO K S G' d o → Q (.ref a) H'
theorem lc_core {tt : TT} {σ : L2.St} {Q : VK} {B : Base} {L : Lk} {G1 H1 : Hp} {e1 : Env} {J : It} {ds : List D} (sg : SndG K S gs eg g) (hv : ∀ i ∈ gs, i ∈ vs) (htt : ∀ σ H Q, TB K S E0 et σ H Q → tt σ H Q) (st1 : Ste B L G1 H1) (rl1 : Rel K S B L G1 H1 e1 σ) (hJ : ItOk K S B L G1 J ds)
    (p1 : Post K S E B L σ G1 (PLc K S B L σ Q) ((cmpL eg et ee vs ds [] e1).bind fun acc e' => .ok (.lst acc) (wipeE e' vs))) :
    ∀ P, H1 P = none → ∃ W : Nat → Nat → Hp → Prop, (∃ m, W 0 m (upd H1 P (.lst []))) ∧ ∀ i m H, W i m H →
      (J.stop i H ∧ Q (.ref P) H) ∨ (J.go i H ∧ ∃ Nx : Hp → Prop, (∀ H', Nx H' → ∃ m', m' < m ∧ W (i + 1) m' H') ∧ ∀ x H', J.yld i H x H' → g x (wipe σ vs) H' fun σ2 H2 => wipe σ2 vs = wipe σ vs ∧ tt σ2 H2 fun b H3 =>
        if b = true then TD K S E0 ee σ2 H3 fun y H4 => ∃ acc, H4 P = some (.lst acc) ∧ acc.length < sizeLine ∧ Nx (upd H4 P (.lst (acc ++ [y]))) else Nx H3) := by
  intro P hP
  have hbP := st1.free hP
  have hlP := st1.nolock hP
  refine ⟨fun i m H' => ∃ G' env' acc ws, Same G1 G' ∧ Ste B ((P, .lst ws) :: L) G' H' ∧ Rel K S B ((P, .lst ws) :: L) G' H' (wipeE env' vs) (wipe σ vs) ∧ RepL K S G' acc ws ∧ m = (ds.drop i).length ∧
    Post K S E B L σ G' (fun G' H' d e => ∀ a o, G' a = none → B.H a = none → H' a = some o → (∀ (i : Nat) (s : Sl), e[i]? = some s → isOwn s = true → σ[i]? ≠ some (some (V.ref a))) → (∀ p ∈ L, p.1 ≠ a) → RepO K S G' d o → Q (.ref a) H') ((cmpL eg et ee vs (ds.drop i) acc env').bind fun acc e' => .ok (.lst acc) (wipeE e' vs)),
    ⟨_, G1, e1, [], [], .refl _, ste_pin st1 hP, ?_, rfl, rfl, p1⟩, ?_⟩
  · exact rel_off (rel_wipes (rel_pin rl1 st1.inn hP)) wipe_wipe (wipe_length _ _)
  rintro i m H' ⟨G', env', acc, ws, sm, st', rl', ra, rfl, po'⟩
  have stU := ste_unpin st' hbP
  obtain ⟨t1, t2⟩ := hJ i G' H' sm stU
  have hlen : acc.length = ws.length := ra.length
  cases hd : ds[i]? with
  | none =>
    have e : ds.drop i = [] := List.drop_eq_nil_iff.mpr (List.getElem?_eq_none_iff.mp hd)
    rw [e] at po'
    have rlE : Rel K S B L G' H' (wipeE env' vs) σ := rel_off (rel_unpin rl') wipe_wipe.symm (wipe_length _ _).symm
    refine .inl ⟨t1 hd, po' G' H' (.refl _) stU rlE P (.lst ws) (st'.out _ (List.mem_cons_self ..) (fun _ _ h => by cases h)) hbP (st'.lock _ (List.mem_cons_self ..)) (fun j s h1 o1 h3 => ?_) hlP ⟨ws, rfl, ra⟩⟩
    have hj : j ∉ vs := fun hj => by
      rw [wipeE_at, if_pos hj] at h1
      split at h1 <;> cases h1
      cases o1
    refine rl'.nl j s P h1 o1 ?_ (P, .lst ws) (List.mem_cons_self ..) rfl
    rw [wipe_at, if_neg hj]
    exact h3
  | some d =>
    obtain ⟨g1, g2⟩ := t2 d hd
    have e := drop_at hd
    rw [e] at po'
    refine .inr ⟨g1, fun H2 => ∃ G2 env2 acc2 ws2, Same G1 G2 ∧ Ste B ((P, .lst ws2) :: L) G2 H2 ∧ Rel K S B ((P, .lst ws2) :: L) G2 H2 (wipeE env2 vs) (wipe σ vs) ∧ RepL K S G2 acc2 ws2 ∧
      Post K S E B L σ G2 (fun G' H' d e => ∀ a o, G' a = none → B.H a = none → H' a = some o → (∀ (i : Nat) (s : Sl), e[i]? = some s → isOwn s = true → σ[i]? ≠ some (some (V.ref a))) → (∀ p ∈ L, p.1 ≠ a) → RepO K S G' d o → Q (.ref a) H') ((cmpL eg et ee vs (ds.drop (i + 1)) acc2 env2).bind fun acc e' => .ok (.lst acc) (wipeE e' vs)),
      fun H2 ⟨G2, env2, acc2, ws2, a1, a2, a3, a4, a5⟩ => ⟨(ds.drop (i + 1)).length, by rw [e, List.length_cons]; omega, G2, env2, acc2, ws2, a1, a2, a3, a4, rfl, a5⟩, fun x H2 hy => ?_⟩
    obtain ⟨G2, ex, rx⟩ := g2 x H2 hy
    have st2 := st'.ex ex
    have rl2 := rl'.ex ex
    have cm : cmpL eg et ee vs (d :: ds.drop (i + 1)) acc env' = match eg d (wipeE env' vs) with
      | none => .no
      | some e1 => match et e1 with
        | .ok true e2 => match ee e2 with
          | .ok y e3 => if acc.length < 1000000 then cmpL eg et ee vs (ds.drop (i + 1)) (acc ++ [y]) e3 else .no
          | _ => .no
        | .ok false e2 => cmpL eg et ee vs (ds.drop (i + 1)) acc e2
        | _ => .no := rfl
    rw [cm] at po'
    cases hg : eg d (wipeE env' vs) with
    | none => rw [hg] at po'; exact po'.elim
    | some e3 =>
      rw [hg] at po'
      dsimp only at po'
      refine sg B _ G2 H2 (wipeE env' vs) e3 (wipe σ vs) d x _ st2 rl2 rx hg fun σ3 rl3 w3 => ⟨(w3 vs hv).trans wipe_wipe, ?_⟩
      have hσ : wipe σ3 vs = wipe σ vs := (w3 vs hv).trans wipe_wipe
      have lσ : σ3.length = σ.length := by
        have := congrArg List.length hσ
        rw [wipe_length, wipe_length] at this
        exact this
      refine htt _ _ _ ⟨B, _, G2, e3, st2, rl3, ?_⟩
      cases ht : et e3 with
      | no => rw [ht] at po'; exact po'.elim
      | ex C fs e4 => rw [ht] at po'; exact po'.elim
      | ok b e4 =>
        rw [ht] at po'
        intro G4 H4 sm4 st4 rl4 c hc
        cases hc
        cases b with
        | false =>
          rw [if_neg (by decide)]
          exact ⟨G4, e4, acc, ws, (sm.trans ex.g).trans sm4, st4, rel_off (rel_wipes rl4) (by rw [wipe_wipe]; exact hσ.symm) (by rw [wipe_length, lσ]), (ra.mono ex.g).mono sm4, po'.up (ex.g.trans sm4)⟩
        | true =>
          rw [if_pos rfl]
          dsimp only at po'
          refine ⟨B, _, G4, e4, st4, rl4, ?_⟩
          cases he : ee e4 with
          | no => rw [he] at po'; exact po'.elim
          | ex C fs e5 => rw [he] at po'; exact po'.elim
          | ok y e5 =>
            rw [he] at po'
            dsimp only at po'
            intro G5 H5 sm5 st5 rl5 v rv
            by_cases hz : acc.length < 1000000
            · rw [if_pos hz] at po'
              have sm15 := ((sm.trans ex.g).trans sm4).trans sm5
              refine ⟨ws, st5.lock _ (List.mem_cons_self ..), len9 (by rw [← hlen]; exact hz), G5, e5, acc ++ [y], ws ++ [v], sm15, ste_repin st5 hbP hlP (fun _ _ h => by cases h), ?_, (((ra.mono ex.g).mono sm4).mono sm5).app (.cons rv .nil), po'.up ((ex.g.trans sm4).trans sm5)⟩
              exact rel_off (rel_wipes (rel_repin rl5)) (by rw [wipe_wipe]; exact hσ.symm) (by rw [wipe_length, lσ])
            · rw [if_neg hz] at po'
              exact po'.elim
theorem sndf_lc {wi : TI} {tt : TT} {σ : L2.St} {H : Hp} {Q : VK} (hwi : ∀ σ H R, TIt K S E ei σ H R → wi σ H R) (sg : SndG K S gs eg g) (hv : ∀ i ∈ gs, i ∈ vs) (htt : ∀ σ H Q, TB K S E0 et σ H Q → tt σ H Q) (q : TF K S E (xLc ei eg et ee vs) σ H Q) : tLc wi g tt (TD K S E0 ee) vs σ H Q := by
  obtain ⟨B, L, G, env, st, rl, po⟩ := q
  refine hwi _ _ _ ⟨B, L, G, env, st, rl, po.then fun G1 H1 ds e1 sm1 st1 rl1 p1 J hJ => lc_core sg hv htt st1 rl1 hJ p1⟩
def xYes : EvT := fun env => .ok true env
theorem yes_ok {σ : L2.St} {H : Hp} {Q : Bool → Hp → Prop} (q : TB K S E xYes σ H Q) : tYes σ H Q := by
  obtain ⟨B, L, G, env, st, rl, po⟩ := q
  exact po G H (.refl _) st rl true rfl
theorem qf_lc {ifs : List Expr} {scope : Scope} {own : List (Str × Nat)} {tt : TT} (hc : X.calm = true) (hN : X.N.Nodup) (hi : QI S X E tg iter ei) (ok : BlkOk X.N X.env.scope scope own) (hvs : own.map (·.2) = vs)
    (hg : ∀ (s : Shared) (H : Hp) (C : Addr) (cl : List (Str × Addr)) (fp : List Addr), PG (X.blk s H scope (compEnvC scope cl C X.env) fp) tg g) (sg : SndG X.K S gs eg g) (hv : ∀ i ∈ gs, i ∈ vs)
    (ht : ∀ (s : Shared) (H : Hp) (C : Addr) (cl : List (Str × Addr)) (fp : List Addr), PTs (X.blk s H scope (compEnvC scope cl C X.env) fp) ifs tt) (htt : ∀ σ H Q, TB X.K S E0 et σ H Q → tt σ H Q)
    (he : ∀ (s : Shared) (H : Hp) (C : Addr) (cl : List (Str × Addr)) (fp : List Addr), QE S (X.blk s H scope (compEnvC scope cl C X.env) fp) E0 elt ee) (hs : ∀ x, foldedSetIterable iter X.env x = pure x := by intro _; rfl) :
    QF S X E (.ListComp elt [⟨tg, iter, ifs, 0⟩] scope pos) (xLc ei eg et ee vs) := by
  subst hvs
  exact pe_of (pe_lc hc hN hi ok hg ht he hs) fun _ _ _ q => sndf_lc (fun _ _ _ h => h) sg hv htt q
/-! x = [..] -/
theorem s_setLc {ifs : List Expr} {scope : Scope} {own : List (Str × Nat)} {tt : TT} {i : Nat} {y : Str} {py spos : Pos} (hc : X.calm = true) (hN : X.N.Nodup) (hy : X.N[i]? = some y) (hyl : X.env.scope.names.lookup y = some .local)
    (hsw : swapsWith (.ListComp elt [⟨tg, iter, ifs, 0⟩] scope pos) (some (.Name y py)) spos.line X.env = pure true) (hi : QI S X E tg iter ei) (ok : BlkOk X.N X.env.scope scope own) (hvs : own.map (·.2) = vs)
    (hg : ∀ (s : Shared) (H : Hp) (C : Addr) (cl : List (Str × Addr)) (fp : List Addr), PG (X.blk s H scope (compEnvC scope cl C X.env) fp) tg g) (sg : SndG X.K S gs eg g) (hv : ∀ i ∈ gs, i ∈ vs)
    (ht : ∀ (s : Shared) (H : Hp) (C : Addr) (cl : List (Str × Addr)) (fp : List Addr), PTs (X.blk s H scope (compEnvC scope cl C X.env) fp) ifs tt) (htt : ∀ σ H Q, TB X.K S E0 et σ H Q → tt σ H Q)
    (he : ∀ (s : Shared) (H : Hp) (C : Addr) (cl : List (Str × Addr)) (fp : List Addr), QE S (X.blk s H scope (compEnvC scope cl C X.env) fp) E0 elt ee) (hs : ∀ x, foldedSetIterable iter X.env x = pure x := by intro _; rfl) :
    QS S X E (.Assign [.Name y py] (.ListComp elt [⟨tg, iter, ifs, 0⟩] scope pos) spos) (xBox i (xLc ei eg et ee vs)) := by
  subst hvs
  refine ps_of (ps_setLc (te := TD X.K S E0 ee) hc hN hy hyl hsw hi ok hg ht he hs) fun D σ H q => ?_
  obtain ⟨B, L, G, env, st, rl, po⟩ := q
  refine sndf_lc (fun _ _ _ h => h) sg hv htt ⟨B, L, G, env, st, rl, Post.st po fun G' H' d e s st' rl' p a o h1 h2 h3 h4 h5 h6 => ?_⟩
  split at p
  · exact p.elim
  · exact p _ G' H' (.refl _) st' (rel_box rl' h1 h2 h3 h4 h5 h6)
  · exact p.elim
end
/-! ### a def's run -/
def parOf : Env → Option D
  | [] => none
  | .par d :: _ => some d
  | _ :: r => parOf r
def start (n : Nat) (as : List Ar) : Env := as.map Ar.sl ++ List.replicate (n - as.length) .no
def runF (fr : Bool) (n : Nat) (b : EvS) : Fn := fun as => match b (start n as) with
  | .nx e => if fr = true then .no else .ok .non (parOf e)
  | .rt d e => if fr = true then .no else .ok d (parOf e)
  | .rf d e => if fr = true then .ok d (parOf e) else .no
  | .ex C fs e => .ex C fs (parOf e)
  | _ => .no
section
variable {K : PySem.W.Frag} {S : Nat → Addr} {X : Cx} {E : XK}
theorem par_ok {B : Base} {G H : Hp} : ∀ {env : Env} {σ : L2.St}, Paired (SlOk K S B G H) env σ → ParOk K S B.r (parOf env) G H
  | [], _, .nil => fun d e => by cases e
  | s :: r, _, .cons q t => by
    cases s with
    | par d =>
      intro d' e
      cases e
      obtain ⟨a, o, _, b, h, r⟩ := q
      exact ⟨a, o, b, h, r⟩
    | no => exact par_ok (env := r) t
    | val d => exact par_ok (env := r) t
    | box d => exact par_ok (env := r) t
theorem start_rel {G H : Hp} {r : Option Addr} {N : List Str} {as : List Ar} {vs : List V} (ok : ArgsOk K S G H r as vs) (hl : as.length ≤ N.length) : Rel K S ⟨G, H, r⟩ [] G H (start N.length as) (L2.start N vs) := by
  have hvs := paired_len ok.at_
  have e1 : L2.start N vs = vs.map some ++ List.replicate (N.length - vs.length) none := rfl
  have own1 : ∀ (l : List Ar) (j k : Nat) (s t : Sl), ownN l ≤ 1 → (l.map Ar.sl)[j]? = some s → (l.map Ar.sl)[k]? = some t → isOwn s = true → isOwn t = true → j = k := by
    intro l
    induction l with
    | nil => intro j k s t _ h; simp at h
    | cons a l ih =>
      intro j k s t h1 h2 h3 o1 o2
      have z : ∀ (l : List Ar) (k : Nat) (t : Sl), ownN l = 0 → (l.map Ar.sl)[k]? = some t → isOwn t = true → False := by
        intro l
        induction l with
        | nil => intro k t _ h; simp at h
        | cons a l ih =>
          intro k t h0 h o
          cases a with
          | par d =>
            have : (List.filter Ar.own (Ar.par d :: l)).length = 0 := h0
            rw [List.filter_cons_of_pos rfl, List.length_cons] at this
            omega
          | val d =>
            cases k with
            | zero => simp at h; subst h; cases o
            | succ k => exact ih k t h0 (by simpa using h) o
      cases a with
      | val d =>
        cases j with
        | zero => simp at h2; subst h2; cases o1
        | succ j =>
          cases k with
          | zero => simp at h3; subst h3; cases o2
          | succ k => rw [ih j k s t h1 (by simpa using h2) (by simpa using h3) o1 o2]
      | par d =>
        have h1' : (List.filter Ar.own (Ar.par d :: l)).length ≤ 1 := h1
        rw [List.filter_cons_of_pos rfl, List.length_cons] at h1'
        have h0 : ownN l = 0 := by unfold ownN; omega
        cases j with
        | zero =>
          cases k with
          | zero => rfl
          | succ k => exact (z l k t h0 (by simpa using h3) o2).elim
        | succ j => exact (z l j s h0 (by simpa using h2) o1).elim
  have at0 : ∀ (j : Nat) (s : Sl), (start N.length as)[j]? = some s → isOwn s = true → (as.map Ar.sl)[j]? = some s := fun j s h o => by
    unfold start at h
    by_cases hj : j < (as.map Ar.sl).length
    · rw [List.getElem?_append_left hj] at h
      exact h
    · rw [List.getElem?_append_right (by omega)] at h
      have := List.mem_of_getElem? h
      rw [(List.mem_replicate.mp this).2] at o
      cases o
  refine ⟨?_, fun j k s t a hjk h1 h2 o1 o2 _ _ => hjk (own1 as j k s t ok.one (at0 j s h1 o1) (at0 k t h2 o2) o1 o2), fun j s a _ _ _ p hp => by cases hp⟩
  refine paired_of (by simp [start, e1]; omega) fun j s x h1 h2 => ?_
  by_cases hj : j < as.length
  · have h1' : (as.map Ar.sl)[j]? = some s := by
      unfold start at h1
      rw [List.getElem?_append_left (by rw [List.length_map]; exact hj)] at h1
      exact h1
    rw [List.getElem?_map] at h1'
    cases ha : as[j]? with
    | none => rw [ha] at h1'; cases h1'
    | some a =>
      rw [ha] at h1'
      cases h1'
      obtain ⟨v, hv, q⟩ := paired_get ok.at_ ha
      rw [e1, List.getElem?_append_left (by rw [List.length_map]; omega), List.getElem?_map, hv] at h2
      cases h2
      cases a with
      | val d => exact ⟨v, rfl, q⟩
      | par d =>
        obtain ⟨p, o, rfl, hr, hp, ro⟩ := q
        exact ⟨p, o, rfl, hr, hp, ro⟩
  · unfold start at h1
    rw [List.getElem?_append_right (by rw [List.length_map]; omega)] at h1
    have := List.mem_of_getElem? h1
    rw [(List.mem_replicate.mp this).2]
    trivial
theorem ste_start {G H : Hp} {r : Option Addr} {as : List Ar} {vs : List V} (i : Inn G H) (ok : ArgsOk K S G H r as vs) : Ste ⟨G, H, r⟩ [] G H :=
  ⟨.refl _, i, fun a h e => (h e).elim, fun a o e _ _ => e, (fun p hp => by cases hp), fun a e => let ⟨h1, h2, _⟩ := ok.par a e; ⟨h1, h2, h2, fun p hp => by cases hp⟩, fun p hp => by cases hp⟩
theorem ste_end {G H G' H' : Hp} {r : Option Addr} (st : Ste ⟨G, H, r⟩ [] G' H') : Fin G H r G' H' := ⟨st.g0, st.inn, st.new, fun a o e hr => st.keep a o e hr fun p hp => by cases hp⟩
theorem bodyD {sts : List Stmt} {f : EvS} {N : List Str} {n : Nat} {fr : Bool} {vs : List V} {H : Hp} {Q : VK} {g : Fn} (b : QSs S X E sts f) (hg : g = runF fr N.length f) (hn : n ≤ N.length) (h : spD X.K S fr n g vs H Q E) :
    ∃ t, PSs X sts t ∧ t { nx := fun x H' => Q V.non H', rt := Q } (L2.start N vs) H := by
  subst hg
  obtain ⟨G, as, r, i, ok, hl, po⟩ := h
  refine ⟨_, b, ⟨G, H, r⟩, [], G, start N.length as, ste_start i ok, start_rel ok (by omega), ?_⟩
  unfold runF at po
  cases hb : f (start N.length as) with
  | nx e =>
    rw [hb] at po
    cases fr with
    | true => exact po.elim
    | false => exact fun σ' G' H' sm st rl => po G' H' (ste_end st) (par_ok rl.at_) .non rfl
  | rt d e =>
    rw [hb] at po
    cases fr with
    | true => exact po.elim
    | false => exact fun σ' G' H' sm st rl v rv => po G' H' (ste_end st) (par_ok rl.at_) v rv
  | rf d e =>
    rw [hb] at po
    cases fr with
    | false => exact po.elim
    | true => exact fun σ' G' H' sm st rl a o h1 h2 h3 h4 => po G' H' (ste_end st) (par_ok rl.at_) a o h2 h1 h3 h4
  | ex C fs e => rw [hb] at po; exact fun σ' od G' H' sm st rl xd => po od G' H' (ste_end st) (par_ok rl.at_) xd
  | bk e => rw [hb] at po; exact po.elim
  | ct e => rw [hb] at po; exact po.elim
  | no => rw [hb] at po; exact po.elim
end
end
end Dv
namespace Dv
open PySem PySem.Spec PyProof.Rows L2
set_option autoImplicit false
noncomputable section
section
variable {K : PySem.W.Frag} {S : Nat → Addr} {X : Cx} {E : XK} {a b e : Expr} {es : List Expr} {ea eb ee : Ev} {er : EvA} {pos p p2 : Pos}
theorem u1 {k : Nat} {A : Around} (h : Room k A) : A.units + 1 < cLine := by
  have := h.un
  omega
theorem u64 {k : Nat} {A : Around} (h : Room k A) : A.units + 64 < cLine := by
  have := h.un
  omega
theorem u65 {k : Nat} {A : Around} (h : Room k A) : A.units + 65 < cLine := by
  have := h.un
  omega
/-! ### ints -/
def oI (f : Int → Int → D) : FO := fun x y => match x, y with
  | .int i, .int j => some (f i j)
  | _, _ => none
theorem so_I {f : Int → Int → D} {f' : Int → Int → V} (h : ∀ i j G, Rep K S G (f i j) (f' i j)) : SOp K S (oI f) (rI0 f') := fun G H x y d v w Q i rx ry e k => by
  cases x <;> first
    | (cases y <;> first
      | (cases e; done)
      | (cases e; cases rx; cases ry; exact ⟨_, _, rfl, rfl, k G H _ (.refl i) (h _ _ G)⟩))
    | (cases y <;> cases e)
def oSub : FO := oI fun i j => .int (i - j)
theorem so_sub : SOp K S oSub (rI0 fun i j => .int (i - j)) := so_I fun _ _ _ => rfl
def oIc (c : Int → Int → Bool) (f : Int → Int → D) : FO := fun x y => match x, y with
  | .int i, .int j => if c i j = true then some (f i j) else none
  | _, _ => none
theorem so_Ic {c : Int → Int → Bool} {C : Int → Int → Prop} {f : Int → Int → D} {f' : Int → Int → V} (hc : ∀ i j, c i j = true → C i j) (h : ∀ i j G, Rep K S G (f i j) (f' i j)) : SOp K S (oIc c f) (rI C f') := fun G H x y d v w Q i rx ry e k => by
  cases x <;> first
    | (cases y <;> first
      | (cases e; done)
      | (rename_i m n
         have e : (if c m n = true then some (f m n) else none) = some d := e
         by_cases q : c m n = true
         · rw [if_pos q] at e
           cases e; cases rx; cases ry
           exact ⟨_, _, rfl, rfl, hc _ _ q, k G H _ (.refl i) (h _ _ G)⟩
         · rw [if_neg q] at e; cases e))
    | (cases y <;> cases e)
def cMul (i j : Int) : Bool := decide (-(2 ^ 64) < i ∧ i < 2 ^ 64) || decide (-(2 ^ 64) < j ∧ j < 2 ^ 64)
def oMul : FO := oIc cMul fun i j => .int (i * j)
theorem so_mul : SOp K S oMul (rI CMul fun i j => .int (i * j)) := so_Ic (fun i j h => by
  rcases Bool.or_eq_true_iff.mp h with h | h
  · exact .inl (of_decide_eq_true h)
  · exact .inr (of_decide_eq_true h)) fun _ _ _ => rfl
def cDivN (i j : Int) : Bool := decide (j ≠ 0 ∧ j.natAbs < 1073741824)
def oFdv : FO := oIc cDivN fun i j => .int (i.fdiv j)
theorem so_fdv : SOp K S oFdv (rI CDivN fun i j => .int (i.fdiv j)) := so_Ic (fun i j h => (of_decide_eq_true h : j ≠ 0 ∧ j.natAbs < 1073741824)) fun _ _ _ => rfl
def oMod : FO := oIc (fun _ j => decide (j ≠ 0)) fun i j => .int (i.fmod j)
theorem so_mod : SOp K S oMod (rI (fun _ j => j ≠ 0) fun i j => .int (i.fmod j)) := so_Ic (fun i j h => of_decide_eq_true h) fun _ _ _ => rfl
def uNeg : FU := fun x => match x with
  | .int i => some (.int (-i))
  | _ => none
theorem su_neg : SUn K S uNeg (rU fun i => .int (-i)) := fun G H x d v Q i rx e k => by
  cases x with
  | int m => cases e; cases rx; exact ⟨_, rfl, k G H _ (.refl i) rfl⟩
  | _ => cases e
/-! + of ints, texts, lists -/
def rAddS : R2 := fun x y H Q => ∃ i j, x = .str i ∧ y = .str j ∧ i.length + j.length ≤ sizeLine ∧ Q (.str (i ++ j)) H
def oAdd : FO := fun x y => match x, y with
  | .int i, .int j => some (.int (i + j))
  | .str a, .str b => if a.length + b.length ≤ 1000000 then some (.str (a ++ b)) else none
  | .lst xs, .lst ys => if xs.length + ys.length ≤ 1000000 then some (.lst (xs ++ ys)) else none
  | _, _ => none
theorem so_add : SOp K S oAdd (r2or (rI0 fun i j => .int (i + j)) (r2or rAddS rCat)) := fun G H x y d v w Q i rx ry e k => by
  cases x with
  | int m =>
    cases y with
    | int n => cases e; cases rx; cases ry; exact .inl ⟨_, _, rfl, rfl, k G H _ (.refl i) rfl⟩
    | _ => cases e
  | str m =>
    cases y with
    | str n =>
      have e : (if m.length + n.length ≤ 1000000 then some (D.str (m ++ n)) else none) = some d := e
      split at e
      · rename_i h
        cases e; cases rx; cases ry
        exact .inr (.inl ⟨_, _, rfl, rfl, line10 h, k G H _ (.refl i) rfl⟩)
      · cases e
    | _ => cases e
  | lst xs =>
    cases y with
    | lst ys =>
      have e : (if xs.length + ys.length ≤ 1000000 then some (D.lst (xs ++ ys)) else none) = some d := e
      split at e
      · rename_i h
        cases e
        obtain ⟨a, vs, rfl, ga, ra⟩ := rx
        obtain ⟨b, ws, rfl, gb, rb⟩ := ry
        refine .inr (.inr ⟨a, b, vs, ws, rfl, rfl, i.lst ga, i.lst gb, line10 (by rw [← ra.length, ← rb.length]; exact h), fun q hq => ?_⟩)
        have x := Ex.new1 (o := .lst (vs ++ ws)) i hq
        exact k _ _ _ x ⟨q, _, rfl, upd_same, (ra.app rb).mono x.g⟩
      · cases e
    | _ => cases e
  | _ => cases e
/-! order -/
def oCmp (f : Int → Int → Bool) (g : Str → Str → Bool) : FO := fun x y => match x, y with
  | .int i, .int j => some (.bl (f i j))
  | .str i, .str j => some (.bl (g i j))
  | _, _ => none
def rS0 (g : Str → Str → Bool) : R2 := fun x y H Q => ∃ i j, x = .str i ∧ y = .str j ∧ Q (.bl (g i j)) H
theorem so_cmp {f : Int → Int → Bool} {g : Str → Str → Bool} : SOp K S (oCmp f g) (r2or (rI0 fun i j => .bl (f i j)) (rS0 g)) := fun G H x y d v w Q i rx ry e k => by
  cases x with
  | int m =>
    cases y with
    | int n => cases e; cases rx; cases ry; exact .inl ⟨_, _, rfl, rfl, k G H _ (.refl i) rfl⟩
    | _ => cases e
  | str m =>
    cases y with
    | str n => cases e; cases rx; cases ry; exact .inr ⟨_, _, rfl, rfl, k G H _ (.refl i) rfl⟩
    | _ => cases e
  | _ => cases e
def ltS (i j : Str) : Bool := decide (i.cps.toList < j.cps.toList)
def oLt : FO := oCmp (fun i j => decide (i < j)) ltS
def oLe : FO := oCmp (fun i j => decide (i ≤ j)) fun i j => !ltS j i
def oGt : FO := oCmp (fun i j => decide (j < i)) fun i j => ltS j i
def oGe : FO := oCmp (fun i j => decide (j ≤ i)) fun i j => !ltS i j
/-! == -/
mutual
def dat : D → Option PyData
  | .non => some .none
  | .bl b => some (.bool b)
  | .int i => some (.int i)
  | .str s => some (.str s)
  | .lst xs => (datL xs).map PyData.list
  | .scr xs => (datL xs).map PyData.list
  | .tup xs => (datL xs).map PyData.tuple
  | _ => none
def datL : List D → Option (List PyData)
  | [] => some []
  | x :: xs => match dat x, datL xs with
    | some a, some r => some (a :: r)
    | _, _ => none
end
mutual
theorem dat_ok {G H : Hp} (i : Inn G H) : ∀ {d : D} {v : V} {a : PyData}, Rep K S G d v → dat d = some a → Dp K H v a
  | .non, _, _, r, e => by cases e; cases r; exact .non
  | .bl _, _, _, r, e => by cases e; cases r; exact .bl _
  | .int _, _, _, r, e => by cases e; cases r; exact .int _
  | .str _, _, _, r, e => by cases e; cases r; exact .str _
  | .lst xs, _, a, ⟨q, vs, e1, g, r⟩, e => by
    have e : (datL xs).map PyData.list = some a := e
    cases h : datL xs with
    | none => rw [h] at e; cases e
    | some ds => rw [h] at e; cases e; subst e1; exact .lst (.inl (.inl (i.lst g))) (datL_ok i r h)
  | .scr xs, _, a, ⟨q, vs, e1, g, r⟩, e => by
    have e : (datL xs).map PyData.list = some a := e
    cases h : datL xs with
    | none => rw [h] at e; cases e
    | some ds => rw [h] at e; cases e; subst e1; exact .lst (i.seq g) (datL_ok i r h)
  | .tup xs, _, a, ⟨q, vs, e1, g, r⟩, e => by
    have e : (datL xs).map PyData.tuple = some a := e
    cases h : datL xs with
    | none => rw [h] at e; cases e
    | some ds => rw [h] at e; cases e; subst e1; exact .tup (i.tup g) (datL_ok i r h)
  | .st _, _, _, _, e => by cases e
  | .ty _, _, _, _, e => by cases e
  | .dct _, _, _, _, e => by cases e
  | .ins _ _, _, _, _, e => by cases e
theorem datL_ok {G H : Hp} (i : Inn G H) : ∀ {ds : List D} {vs : List V} {as : List PyData}, RepL K S G ds vs → datL ds = some as → DpAll K H vs as
  | [], _, _, r, e => by cases e; cases r; exact .nil
  | x :: xs, _, as, ⟨v, ws, e1, q, r⟩, e => by
    have e : (match dat x, datL xs with
      | some a, some r => some (a :: r)
      | _, _ => none) = some as := e
    cases h1 : dat x with
    | none => rw [h1] at e; cases e
    | some a =>
      cases h2 : datL xs with
      | none => rw [h1, h2] at e; cases e
      | some r' => rw [h1, h2] at e; cases e; subst e1; exact .cons (dat_ok i q h1) (datL_ok i r h2)
end
/-- plain values -/
def scalD (x y : D) : Option Bool := match x, y with
  | .non, .non => some true
  | .non, .int _ => some false
  | .int _, .non => some false
  | .non, .str _ => some false
  | .str _, .non => some false
  | .non, .bl _ => some false
  | .bl _, .non => some false
  | .int i, .int j => some (decide (i = j))
  | .bl i, .bl j => some (i == j)
  | .str i, .str j => some (decide (i = j))
  | .str _, .int _ => some false
  | .int _, .str _ => some false
  | .str _, .bl _ => some false
  | .bl _, .str _ => some false
  | _, _ => none
theorem scalD_ok {G : Hp} {x y : D} {v w : V} {c : Bool} (r : Rep K S G x v) (q : Rep K S G y w) (e : scalD x y = some c) : scal v w = true ∧ decide (v = w) = c := by
  cases x <;> cases y <;> first
    | (cases e; done)
    | (cases r; cases q; cases e; exact ⟨rfl, rfl⟩)
    | (cases r; cases q; cases e; refine ⟨rfl, ?_⟩; first | (rw [dec_int, Bool.beq_eq_decide_eq]; done) | (rw [dec_str, Bool.beq_eq_decide_eq]; done) | rw [dec_bl])
def eqD (x y : D) : Option Bool := match scalD x y with
  | some b => some b
  | none => match dat x, dat y with
    | some a, some b => if SeqAt.shaped a = true ∧ SeqAt.shaped b = true then some (PyData.eqv a b) else none
    | _, _ => none
def oEq : FO := fun x y => (eqD x y).map D.bl
def oNe : FO := fun x y => (eqD x y).map fun b => D.bl (!b)
theorem so_eq : SOp K S oEq (r2or rEq (rEqD K)) := fun G H x y d v w Q i rx ry e k => by
  unfold oEq eqD at e
  cases h : scalD x y with
  | some b =>
    rw [h] at e
    cases e
    obtain ⟨h1, h2⟩ := scalD_ok rx ry h
    exact .inl ⟨h1, by rw [h2]; exact k G H _ (.refl i) rfl⟩
  | none =>
    rw [h] at e
    dsimp only at e
    cases h1 : dat x with
    | none => rw [h1] at e; cases e
    | some a =>
      cases h2 : dat y with
      | none => rw [h1, h2] at e; cases e
      | some b =>
        rw [h1, h2] at e
        dsimp only at e
        split at e
        · rename_i hs
          cases e
          exact .inr ⟨a, b, dat_ok i rx h1, dat_ok i ry h2, hs.1, hs.2, k G H _ (.refl i) rfl⟩
        · cases e
theorem so_ne : SOp K S oNe (r2or rNe (rNeD K)) := fun G H x y d v w Q i rx ry e k => by
  unfold oNe eqD at e
  cases h : scalD x y with
  | some b =>
    rw [h] at e
    cases e
    obtain ⟨h1, h2⟩ := scalD_ok rx ry h
    exact .inl ⟨h1, by rw [h2]; exact k G H _ (.refl i) rfl⟩
  | none =>
    rw [h] at e
    dsimp only at e
    cases h1 : dat x with
    | none => rw [h1] at e; cases e
    | some a =>
      cases h2 : dat y with
      | none => rw [h1, h2] at e; cases e
      | some b =>
        rw [h1, h2] at e
        dsimp only at e
        split at e
        · rename_i hs
          cases e
          exact .inr ⟨a, b, dat_ok i rx h1, dat_ok i ry h2, hs.1, hs.2, k G H _ (.refl i) rfl⟩
        · cases e
/-! is None -/
def rIsN0 : R2 := fun x y H Q => y = .non ∧ Q (.bl (decide (x = .non))) H
def rNotN0 : R2 := fun x y H Q => y = .non ∧ Q (.bl (!decide (x = .non))) H
def isNon : D → Bool
  | .non => true
  | _ => false
theorem isNon_ok {G : Hp} {x : D} {v : V} (r : Rep K S G x v) : decide (v = .non) = isNon x := by
  cases x with
  | non => cases r; rfl
  | bl _ => cases r; rfl
  | int _ => cases r; rfl
  | str _ => cases r; rfl
  | st _ => cases r; rfl
  | ty _ => cases r; rfl
  | lst _ => obtain ⟨a, vs, rfl, _⟩ := r; rfl
  | scr _ => obtain ⟨a, vs, rfl, _⟩ := r; rfl
  | tup _ => obtain ⟨a, vs, rfl, _⟩ := r; rfl
  | dct _ => obtain ⟨a, vs, rfl, _⟩ := r; rfl
  | ins _ _ => obtain ⟨a, dx, vs, rfl, _⟩ := r; rfl
def oIs : FO := fun x y => match y with
  | .non => some (.bl (isNon x))
  | _ => none
def oIsnt : FO := fun x y => match y with
  | .non => some (.bl (!isNon x))
  | _ => none
theorem so_is : SOp K S oIs rIsN0 := fun G H x y d v w Q i rx ry e k => by
  cases y with
  | non => cases e; cases ry; exact ⟨rfl, by rw [isNon_ok rx]; exact k G H _ (.refl i) rfl⟩
  | _ => cases e
theorem so_isnt : SOp K S oIsnt rNotN0 := fun G H x y d v w Q i rx ry e k => by
  cases y with
  | non => cases e; cases ry; exact ⟨rfl, by rw [isNon_ok rx]; exact k G H _ (.refl i) rfl⟩
  | _ => cases e
/-! in: lists of plain data; lists and tuples of plain values -/
def flatD : D → Bool
  | .non => true
  | .bl _ => true
  | .int _ => true
  | .str _ => true
  | _ => false
def anyEq (x : D) : List D → Option Bool
  | [] => some false
  | y :: l => match flatD y, scalD y x, anyEq x l with
    | true, some b, some r => some (b || r)
    | _, _, _ => none
theorem flatD_ok {G : Hp} {x : D} {v : V} (r : Rep K S G x v) (h : flatD x = true) : flatV v = true := by
  cases x <;> first
    | (cases h; done)
    | (cases r; rfl)
theorem scal_eqV {G : Hp} {x y : D} {v w : V} {c : Bool} (r : Rep K S G x v) (q : Rep K S G y w) (e : scalD x y = some c) : eqV v w = c := by
  cases x <;> cases y <;> first
    | (cases e; done)
    | (cases r; cases q; cases e; rfl)
    | (cases r; cases q; cases e; show (_ == _) = _; first | rw [Bool.beq_eq_decide_eq] | rfl)
theorem anyEq_ok {G : Hp} {x : D} {v : V} (r : Rep K S G x v) : ∀ {l : List D} {vs : List V} {c : Bool}, RepL K S G l vs → anyEq x l = some c → vs.all flatV = true ∧ inV v vs = c
  | [], _, _, t, e => by cases t; cases e; exact ⟨rfl, rfl⟩
  | y :: l, _, c, ⟨w, ws, e1, q, t⟩, e => by
    subst e1
    have e : (match flatD y, scalD y x, anyEq x l with
      | true, some b, some r => some (b || r)
      | _, _, _ => none) = some c := e
    split at e
    · rename_i b r' h1 h2 h3
      cases e
      obtain ⟨i1, i2⟩ := anyEq_ok r t h3
      refine ⟨by rw [List.all_cons, flatD_ok q h1, i1]; rfl, ?_⟩
      show (eqV w v || inV v ws) = (b || r')
      rw [scal_eqV q r h2, i2]
    · cases e
def oIn (neg : Bool) : FO := fun x y => match seqD y with
  | some l => match flatD x, anyEq x l with
    | true, some b => some (.bl (if neg then !b else b))
    | _, _ => none
  | none => none
theorem so_in (neg : Bool) : SOp K S (oIn neg) (rIn K neg) := fun G H x y d v w Q i rx ry e k => by
  unfold oIn at e
  split at e
  · rename_i l hl
    split at e
    · rename_i b h1 h2
      cases e
      obtain ⟨q, vs, rfl, hq, t⟩ := seq_sq ry hl
      obtain ⟨i1, i2⟩ := anyEq_ok rx t h2
      refine ⟨q, vs, rfl, hq.elim (fun h => .inl (i.seq h)) fun h => .inr (i.tup h), flatD_ok rx h1, i1, ?_⟩
      rw [i2]
      exact k G H _ (.refl i) rfl
    · cases e
  · cases e
def oInD (neg : Bool) : FO := fun x y => match dat x, y with
  | some a, .lst l => match datL l with
    | some ds => if SeqAt.shaped a = true ∧ SeqAt.shaped (.list ds) = true then some (.bl (if neg then !ds.any (fun z => PyData.eqv z a) else ds.any (fun z => PyData.eqv z a))) else none
    | none => none
  | _, _ => none
theorem so_inD : SOp K S (oInD false) (rInD K) := fun G H x y d v w Q i rx ry e k => by
  unfold oInD at e
  split at e
  · rename_i a l h1
    split at e
    · rename_i ds h2
      split at e
      · rename_i hs
        cases e
        have q : Dp K H w (.list ds) := dat_ok i ry (by show (datL l).map PyData.list = _; rw [h2]; rfl)
        exact ⟨a, ds, dat_ok i rx h1, q, hs.1, hs.2, k G H _ (.refl i) rfl⟩
      · cases e
    · cases e
  · cases e
theorem so_notInD : SOp K S (oInD true) (rNotInD K) := fun G H x y d v w Q i rx ry e k => by
  unfold oInD at e
  split at e
  · rename_i a l h1
    split at e
    · rename_i ds h2
      split at e
      · rename_i hs
        cases e
        have q : Dp K H w (.list ds) := dat_ok i ry (by show (datL l).map PyData.list = _; rw [h2]; rfl)
        exact ⟨a, ds, dat_ok i rx h1, q, hs.1, hs.2, k G H _ (.refl i) rfl⟩
      · cases e
    · cases e
  · cases e
/-- try the first -/
def oOr (f g : FO) : FO := fun x y => match f x y with
  | some d => some d
  | none => g x y
theorem so_or {f g : FO} {r r' : R2} (h1 : SOp K S f r) (h2 : SOp K S g r') : SOp K S (oOr f g) (r2or r r') := fun G H x y d v w Q i rx ry e k => by
  unfold oOr at e
  split at e
  · rename_i d' h
    cases e
    exact .inl (h1 G H x y _ v w Q i rx ry h k)
  · exact .inr (h2 G H x y d v w Q i rx ry e k)
/-! subscripts -/
def oIx : FO := fun x y => match y with
  | .int i => match x with
    | .str s => if s.length ≤ 1000000 then (atI s.cps.toList i).map fun c => D.str ⟨#[c]⟩ else none
    | c => match seqD c with
      | some l => atI l i
      | none => none
  | _ => none
theorem atI_rep {G : Hp} {l : List D} {vs : List V} {i : Int} {d : D} (t : RepL K S G l vs) (h : atI l i = some d) : ∃ v, atI vs i = some v ∧ Rep K S G d v := by
  unfold atI at h ⊢
  rw [t.length] at h
  cases hi : ixN vs.length i with
  | none => rw [hi] at h; cases h
  | some j =>
    rw [hi] at h
    exact t.get h
theorem so_ix : SOp K S oIx (rIx K) := fun G H x y d v w Q i rx ry e k => by
  cases y with
  | int j =>
    cases ry
    have key : (match seqD x with
      | some l => atI l j
      | none => none) = some d → rIx K v (.int j) H Q := fun e => by
      split at e
      · rename_i l hl
        obtain ⟨q, vs, rfl, hq, t⟩ := seq_sq rx hl
        obtain ⟨u, hu, ru⟩ := atI_rep t e
        rcases hq with hq | hq
        · exact .inl ⟨q, vs, j, u, rfl, rfl, i.seq hq, hu, k G H u (.refl i) ru⟩
        · exact .inr (.inl ⟨q, vs, j, u, rfl, rfl, i.tup hq, hu, k G H u (.refl i) ru⟩)
      · cases e
    cases x with
    | str s =>
      have e : (if s.length ≤ 1000000 then (atI s.cps.toList j).map fun c => D.str ⟨#[c]⟩ else none) = some d := e
      split at e
      · rename_i h
        cases hc : atI s.cps.toList j with
        | none => rw [hc] at e; cases e
        | some c =>
          rw [hc] at e
          cases e
          cases rx
          exact .inr (.inr ⟨s, j, c, rfl, rfl, line10 h, hc, k G H _ (.refl i) rfl⟩)
      · cases e
    | _ => exact key e
  | _ => cases e
/-! slices -/
abbrev EvO := Env → Res (Option Int)
abbrev TOp (K : PySem.W.Frag) (S : Nat → Addr) (E : XK) (f : EvO) : TO := Tx K S E (fun _ _ d v => d = v) f
abbrev QO (S : Nat → Addr) (X : Cx) (E : XK) (e : Option Expr) (f : EvO) : Prop := PO X e (TOp X.K S E f)
def pNone : EvO := fun env => .ok none env
def pSome (a : Ev) : EvO := fun env => (a env).bind fun d e => match d with
  | .int i => .ok (some i) e
  | _ => .no
theorem po_of {e : Option Expr} {t u : TO} (p : PO X e t) (h : ∀ σ H Q, u σ H Q → t σ H Q) : PO X e u := ⟨fun pins s σ H Q I q => p.run pins s σ H Q I (h σ H Q q)⟩
theorem o_none : QO S X E none pNone := po_of po_none fun σ H Q ⟨B, L, G, env, st, rl, po⟩ => po G H (.refl _) st rl none rfl
theorem o_some (h : QE S X E e ee) : QO S X E (some e) (pSome ee) := po_of (po_some h) fun σ H Q ⟨B, L, G, env, st, rl, po⟩ => ⟨B, L, G, env, st, rl, po.then fun G1 H1 d e1 sm1 st1 rl1 p1 v rv => by
  cases d with
  | int i => exact ⟨i, rv, p1 G1 H1 (.refl _) st1 rl1 _ rfl⟩
  | _ => exact p1.elim⟩
def cutD (xs : List D) (lo hi : Option Int) : List D := (xs.drop (HT.sIx xs.length 0 lo)).take (HT.sIx xs.length xs.length hi - HT.sIx xs.length 0 lo)
theorem cut_rep {G : Hp} {xs : List D} {vs : List V} (t : RepL K S G xs vs) (lo hi : Option Int) : RepL K S G (cutD xs lo hi) (cutV vs lo hi) := by
  unfold cutD cutV
  rw [t.length]
  exact (t.drop _).take _
variable {lo hi : Option Expr} {el eh : EvO}
def xSl (a : Ev) (l h : EvO) : Ev := fun env => (a env).bind fun x e1 => (l e1).bind fun i e2 => (h e2).bind fun j e3 => match x with
  | .str s => if s.length ≤ 1000000 then .ok (.str (cutS s i j)) e3 else .no
  | _ => .no
theorem q_slS (he : QE S X E e ee) (hl : QO S X E lo el) (hh : QO S X E hi eh) : QE S X E (.Subscript e (.Slice lo hi none p2) pos) (xSl ee el eh) := pe_of (pe_slice sl_str he hl hh) fun σ H Q ⟨B, L, G, env, st, rl, po⟩ => ⟨B, L, G, env, st, rl, po.then fun G1 H1 x e1 sm1 st1 rl1 p1 v rv => ⟨B, L, G1, e1, st1, rl1, p1.then fun G2 H2 i e2 sm2 st2 rl2 p2 i' hi => ⟨B, L, G2, e2, st2, rl2, p2.then fun G3 H3 j e3 sm3 st3 rl3 p3 j' hj => by
  cases hi
  cases hj
  cases x with
  | str s =>
    have p3 : Post X.K S E B L σ G3 (fun G' H' d _ => ∀ v, Rep X.K S G' d v → Q v H') (if s.length ≤ 1000000 then Res.ok (D.str (cutS s i j)) e3 else Res.no) := p3
    split at p3
    · rename_i h
      exact ⟨s, rv, line10 h, p3 G3 H3 (.refl _) st3 rl3 _ rfl⟩
    · exact p3.elim
  | _ => exact p3.elim⟩⟩⟩
def xSlL (a : Ev) (l h : EvO) : Ev := fun env => (a env).bind fun x e1 => (l e1).bind fun i e2 => (h e2).bind fun j e3 => match lstD x with
  | some xs => .ok (.lst (cutD xs i j)) e3
  | none => .no
theorem qf_slL (he : QE S X E e ee) (hl : QO S X E lo el) (hh : QO S X E hi eh) : QF S X E (.Subscript e (.Slice lo hi none p2) pos) (xSlL ee el eh) := pe_of (pe_slice sl_list he hl hh) fun σ H Q ⟨B, L, G, env, st, rl, po⟩ => ⟨B, L, G, env, st, rl, po.then fun G1 H1 x e1 sm1 st1 rl1 p1 v rv => ⟨B, L, G1, e1, st1, rl1, p1.then fun G2 H2 i e2 sm2 st2 rl2 p2 i' hi => ⟨B, L, G2, e2, st2, rl2, p2.then fun G3 H3 j e3 sm3 st3 rl3 p3 j' hj => by
  cases hi
  cases hj
  split at p3
  · rename_i xs h
    obtain ⟨q, vs, rfl, hq, t⟩ := lst_sq rv h
    exact ⟨q, vs, rfl, st3.inn.seq (sm3.seq (sm2.seq hq)), fresh_ok st3 rl3 p3 ⟨_, rfl, cut_rep ((t.mono sm2).mono sm3) i j⟩⟩
  · exact p3.elim⟩⟩⟩
/-! ### built-ins -/
def fLen : FC := fun xs => match xs with
  | [.str s] => if s.length ≤ 1000000 then some (.int s.length) else none
  | [x] => match seqD x with
    | some l => some (.int l.length)
    | none => none
  | _ => none
def rLen (K : PySem.W.Frag) : List V → Hp → VK → Prop := fun xs H Q => ∃ x n, xs = [x] ∧ LenV K x H n ∧ Q (.int n) H
theorem sc_len : SCl K S fLen (rLen K) := fun G H xs d vs Q i r e k => by
  have key : ∀ x, xs = [x] → (match seqD x with
      | some l => some (D.int l.length)
      | none => none) = some d → rLen K vs H Q := fun x hx e' => by
    subst hx
    obtain ⟨v, rfl, rx⟩ := r.one
    split at e'
    · rename_i l hl
      cases e'
      obtain ⟨q, us, rfl, hq, t⟩ := seq_sq rx hl
      refine ⟨_, us.length, rfl, hq.elim (fun h => .inl ⟨us, i.seq h, rfl⟩) fun h => .inr ⟨us, i.tup h, rfl⟩, ?_⟩
      exact k G H _ (.refl i) (by rw [← t.length]; rfl)
    · cases e'
  unfold fLen at e
  split at e
  · rename_i s
    split at e
    · rename_i h
      cases e
      obtain ⟨v, rfl, rx⟩ := r.one
      cases rx
      exact ⟨.str s, s.length, rfl, ⟨line10 h, rfl⟩, k G H _ (.refl i) rfl⟩
    · cases e
  · rename_i x _
    exact key x rfl e
  · cases e
def intL : List D → Option (List Int)
  | [] => some []
  | .int i :: r => (intL r).map (i :: ·)
  | _ => none
theorem intL_ok {G : Hp} : ∀ {l : List D} {vs : List V} {ns : List Int}, RepL K S G l vs → intL l = some ns → vs = ns.map V.int
  | [], _, _, t, e => by cases t; cases e; rfl
  | x :: r, _, ns, ⟨v, ws, e1, q, t⟩, e => by
    subst e1
    cases x with
    | int i =>
      have e : (intL r).map (i :: ·) = some ns := e
      cases h : intL r with
      | none => rw [h] at e; cases e
      | some ms =>
        rw [h] at e
        cases e
        cases q
        rw [intL_ok t h]
        rfl
    | _ => cases e
def fSum : FC := fun xs => match xs with
  | [x] => match lstD x with
    | some l => (intL l).map fun ns => .int ns.sum
    | none => none
  | _ => none
theorem sc_sum : SCl K S fSum (rSum K) := fun G H xs d vs Q i r e k => by
  unfold fSum at e
  split at e
  · rename_i x
    obtain ⟨v, rfl, rx⟩ := r.one
    split at e
    · rename_i l hl
      cases h : intL l with
      | none => rw [h] at e; cases e
      | some ns =>
        rw [h] at e
        cases e
        obtain ⟨q, us, rfl, hq, t⟩ := lst_sq rx hl
        rw [intL_ok t h] at hq
        exact ⟨q, ns, rfl, i.seq hq, k G H _ (.refl i) rfl⟩
    · cases e
  · cases e
def blL : List D → Option (List Bool)
  | [] => some []
  | .bl i :: r => (blL r).map (i :: ·)
  | _ => none
theorem blL_ok {G : Hp} : ∀ {l : List D} {vs : List V} {ns : List Bool}, RepL K S G l vs → blL l = some ns → vs = ns.map V.bl
  | [], _, _, t, e => by cases t; cases e; rfl
  | x :: r, _, ns, ⟨v, ws, e1, q, t⟩, e => by
    subst e1
    cases x with
    | bl i =>
      have e : (blL r).map (i :: ·) = some ns := e
      cases h : blL r with
      | none => rw [h] at e; cases e
      | some ms =>
        rw [h] at e
        cases e
        cases q
        rw [blL_ok t h]
        rfl
    | _ => cases e
def fBls (f : List Bool → Bool) : FC := fun xs => match xs with
  | [x] => match lstD x with
    | some l => (blL l).map fun bs => .bl (f bs)
    | none => none
  | _ => none
def fAny : FC := fBls fun l => l.any id
def fAll : FC := fBls fun l => l.all id
theorem sc_bls {f : List Bool → Bool} : SCl K S (fBls f) (fun vs H Q => ∃ (a : Addr) (bs : List Bool), vs = [V.ref a] ∧ SqL K H a (bs.map V.bl) ∧ Q (.bl (f bs)) H) := fun G H xs d vs Q i r e k => by
  unfold fBls at e
  split at e
  · rename_i x
    obtain ⟨v, rfl, rx⟩ := r.one
    split at e
    · rename_i l hl
      cases h : blL l with
      | none => rw [h] at e; cases e
      | some ns =>
        rw [h] at e
        cases e
        obtain ⟨q, us, rfl, hq, t⟩ := lst_sq rx hl
        rw [blL_ok t h] at hq
        exact ⟨q, ns, rfl, i.seq hq, k G H _ (.refl i) rfl⟩
    · cases e
  · cases e
theorem sc_any : SCl K S fAny (rAny K) := sc_bls
theorem sc_all : SCl K S fAll (rAll K) := sc_bls
def fInt : FC := fun xs => match xs with
  | [.int i] => some (.int i)
  | [.bl b] => some (.int (if b = true then 1 else 0))
  | _ => none
def rInt1 : List V → Hp → VK → Prop := fun xs H Q => (∃ i, xs = [.int i] ∧ Q (.int i) H) ∨ ∃ k, xs = [.bl k] ∧ Q (.int (if k then 1 else 0)) H
theorem sc_int : SCl K S fInt rInt1 := fun G H xs d vs Q i r e k => by
  unfold fInt at e
  split at e
  · cases e
    obtain ⟨v, rfl, rx⟩ := r.one
    cases rx
    exact .inl ⟨_, rfl, k G H _ (.refl i) rfl⟩
  · cases e
    obtain ⟨v, rfl, rx⟩ := r.one
    cases rx
    exact .inr ⟨_, rfl, k G H _ (.refl i) rfl⟩
  · cases e
def fAbs : FC := fun xs => match xs with
  | [.int i] => some (.int (if i < 0 then -i else i))
  | _ => none
theorem sc_abs : SCl K S fAbs (fun xs H Q => ∃ i, xs = [.int i] ∧ Q (.int (if i < 0 then -i else i)) H) := fun G H xs d vs Q i r e k => by
  unfold fAbs at e
  split at e
  · cases e
    obtain ⟨v, rfl, rx⟩ := r.one
    cases rx
    exact ⟨_, rfl, k G H _ (.refl i) rfl⟩
  · cases e
def fI2 (f : Int → Int → Int) : FC := fun xs => match xs with
  | [.int i, .int j] => some (.int (f i j))
  | _ => none
def fMax2 : FC := fI2 fun i j => if j > i then j else i
def fMin2 : FC := fI2 fun i j => if j < i then j else i
theorem sc_I2 {f : Int → Int → Int} : SCl K S (fI2 f) (fun xs H Q => ∃ i j, xs = [.int i, .int j] ∧ Q (.int (f i j)) H) := fun G H xs d vs Q i r e k => by
  unfold fI2 at e
  split at e
  · cases e
    obtain ⟨v, w, rfl, rx, ry⟩ := r.two
    cases rx
    cases ry
    exact ⟨_, _, rfl, k G H _ (.refl i) rfl⟩
  · cases e
theorem call_divmodN : CallR X (.builtin "divmod") (fun xs H Q => ∃ i j, xs = [.int i, .int j] ∧ CDivN i j ∧ ∀ p, H p = none → Q (.ref p) (upd H p (.tup [.int (i.fdiv j), .int (i.fmod j)]))) := by
  intro pins s σ H xs us Q I r h
  obtain ⟨i, j, rfl, ⟨h1, h2⟩, q⟩ := h
  obtain ⟨u, w', rfl, ⟨t, rfl⟩, ⟨t', rfl⟩⟩ := vals2 r
  refine divmod_int h1 ?_ (.inl (PyProof.noPylong_small h2))
  have hn : H s.heap.objs.size = none := I.hok.fresh (Nat.le_refl _)
  refine ⟨.ref s.heap.objs.size, _, ?_, rfl, q _ hn⟩
  refine I.laid (fun b o e => Heap.get?_push_of_some _ e) (Nat.le_refl _) ⟨by simp only [List.length_cons, List.length_nil]; rw [sizeLine_eq]; decide, [.int (i.fdiv j) s.toks, .int (i.fmod j) (s.toks + 1)], .cons ⟨_, rfl⟩ (.cons ⟨_, rfl⟩ .nil), ?_⟩
  exact ⟨_, Heap.get?_push_size s.heap rfl, rfl, 0, rfl⟩
def fDivmod : FC := fun xs => match xs with
  | [.int i, .int j] => if cDivN i j = true then some (.tup [.int (i.fdiv j), .int (i.fmod j)]) else none
  | _ => none
theorem sc_divmod : SCl K S fDivmod (fun xs H Q => ∃ i j, xs = [.int i, .int j] ∧ CDivN i j ∧ ∀ p, H p = none → Q (.ref p) (upd H p (.tup [.int (i.fdiv j), .int (i.fmod j)]))) := fun G H xs d vs Q i r e k => by
  unfold fDivmod at e
  split at e
  · rename_i m n
    split at e
    · rename_i hc
      cases e
      obtain ⟨v, w, rfl, rx, ry⟩ := r.two
      cases rx
      cases ry
      refine ⟨_, _, rfl, (of_decide_eq_true hc : _ ≠ _ ∧ _), fun q hq => ?_⟩
      have x := Ex.new1 (o := .tup [.int (Int.fdiv m n), .int (Int.fmod m n)]) i hq
      exact k _ _ _ x ⟨q, _, rfl, .inl (.inl upd_same), .cons rfl (.cons rfl .nil)⟩
    · cases e
  · cases e
/-! new objects of one's own -/
def SClF (K : PySem.W.Frag) (S : Nat → Addr) (f : FC) (r : List V → Hp → VK → Prop) : Prop := ∀ (G H : Hp) (xs : List D) (d : D) (vs : List V) (Q : VK), Inn G H → RepL K S G xs vs → f xs = some d → (∀ p o, H p = none → RepO K S G d o → Q (.ref p) (upd H p o)) → r vs H Q
theorem sndf_cb {f : FC} {r : List V → Hp → VK → Prop} {σ : L2.St} {H : Hp} {Q : VK} (so : SClF K S f r) (q : TF K S E (xCB f er) σ H Q) : tCB r (TAe K S E er) σ H Q := by
  obtain ⟨B, L, G, env, st, rl, po⟩ := q
  refine ⟨B, L, G, env, st, rl, po.then fun G1 H1 xs e1 sm1 st1 rl1 p1 vs rv => ?_⟩
  cases hf : f xs with
  | none => rw [hf] at p1; exact p1.elim
  | some d =>
    rw [hf] at p1
    exact so G1 H1 xs d vs Q st1.inn rv hf fun p o hp ro => fresh_ok st1 rl1 p1 ro p hp
theorem qf_callB {id : String} {x : Str} {p : Pos} {f : FC} {r : List V → Hp → VK → Prop} (hc : CallR X (.builtin id) r) (so : SClF X.K S f r) (hg : Gl X x) (hm : X.mg x = none) (hv : bootBuiltins x = some (.builtin id)) (ha : QA S X E (a :: es) er) (hn : x ≠ "__name__" := by decide) (hdb : (x == ("__debug__" : Str)) = false := by decide)
    (he : starEach (a :: es) X.env = (false, eval a X.env) :: starEach es X.env := by rfl) (hpl : (backTo pos (starEach es X.env)).any (·.1) = false := by rfl) : QF S X E (.Call (.Name x p) (a :: es) [] pos) (xCB f er) := pe_of (pe_callB hc hg hm hv ha hn hdb he hpl) fun _ _ _ q => sndf_cb so q
theorem qf_callTy {T : String} {x : Str} {p : Pos} {f : FC} {r : List V → Hp → VK → Prop} (hc : CallR X (.type T) r) (so : SClF X.K S f r) (hg : Gl X x) (hm : X.mg x = none) (hv : bootBuiltins x = some (.type T)) (ha : QA S X E (a :: es) er) (hn : x ≠ "__name__" := by decide) (hdb : (x == ("__debug__" : Str)) = false := by decide)
    (he : starEach (a :: es) X.env = (false, eval a X.env) :: starEach es X.env := by rfl) (hpl : (backTo pos (starEach es X.env)).any (·.1) = false := by rfl) : QF S X E (.Call (.Name x p) (a :: es) [] pos) (xCB f er) := pe_of (pe_callTy hc hg hm hv ha hn hdb he hpl) fun _ _ _ q => sndf_cb so q
def fList : FC := fun xs => match xs with
  | [x] => (seqD x).map D.lst
  | _ => none
def rListOf (K : PySem.W.Frag) : List V → Hp → VK → Prop := fun xs H Q => ∃ p ys, xs = [.ref p] ∧ (SqL K H p ys ∨ SqT K H p ys) ∧ ∀ l, H l = none → Q (.ref l) (upd H l (.lst ys))
theorem sc_list : SClF K S fList (rListOf K) := fun G H xs d vs Q i r e k => by
  unfold fList at e
  split at e
  · rename_i x
    obtain ⟨v, rfl, rx⟩ := r.one
    cases h : seqD x with
    | none => rw [h] at e; cases e
    | some l =>
      rw [h] at e
      cases e
      obtain ⟨q, us, rfl, hq, t⟩ := seq_sq rx h
      exact ⟨q, us, rfl, hq.elim (fun h => .inl (i.seq h)) (fun h => .inr (i.tup h)), fun p hp => k p _ hp ⟨us, rfl, t⟩⟩
  · cases e
/-- list(x) of a list of one's own at a slot -/
def xListV (i : Nat) : Ev := fun env => match env[i]? with
  | some (.box (.lst xs)) => .ok (.lst xs) env
  | some (.par (.lst xs)) => .ok (.lst xs) env
  | _ => .no
/-! stars in displays -/
def xStar (a : Ev) (r : EvA) : EvA := fun env => (a env).bind fun x e1 => match seqD x with
  | some l => (r e1).bind fun xs e2 => .ok (l ++ xs) e2
  | none => .no
theorem q_star {p : Pos} (he : QE S X E e ee) (hr : QA S X E es er) (hs : starEach (.Starred e p :: es) X.env = (true, eval e X.env) :: starEach es X.env := by rfl) : QA S X E (.Starred e p :: es) (xStar ee er) := pa_of (StX.pa_star he hr hs) fun σ H Q ⟨B, L, G, env, st, rl, po⟩ => ⟨B, L, G, env, st, rl, po.then fun G1 H1 x e1 sm1 st1 rl1 p1 v rv => by
  split at p1
  · rename_i l hl
    obtain ⟨q, us, rfl, hq, t⟩ := seq_sq rv hl
    exact ⟨q, us, rfl, hq.elim (fun h => .inr (st1.inn.seq h)) (fun h => .inl (st1.inn.tup h)), B, L, G1, e1, st1, rl1, p1.then fun G2 H2 xs e2 sm2 st2 rl2 p2 ys rvs => p2 G2 H2 (.refl _) st2 rl2 _ ((t.mono sm2).app rvs)⟩
  · exact p1.elim⟩
end
end
end Dv
namespace Dv
open PySem PySem.Spec PyProof.Rows L2
set_option autoImplicit false
noncomputable section
/-! ### what is one's own, read for a moment -/
def borE (env : Env) : Env := env.map fun s => match s with
  | .box d => .val d
  | .par d => .val d
  | s => s
def scalR : D → Bool
  | .non => true
  | .bl _ => true
  | .int _ => true
  | .str _ => true
  | .st _ => true
  | .ty _ => true
  | _ => false
def xBor (f : Ev) : Ev := fun env => match f (borE env) with
  | .ok d _ => if scalR d = true then .ok d env else .no
  | _ => .no
def xBorT (f : EvT) : EvT := fun env => match f (borE env) with
  | .ok b _ => .ok b env
  | _ => .no
section
variable {K : PySem.W.Frag} {S : Nat → Addr} {X : Cx} {E : XK}
theorem scalR_any {G G' : Hp} {d : D} {v : V} (h : scalR d = true) (r : Rep K S G d v) : Rep K S G' d v := by
  cases d <;> first
    | (cases h; done)
    | exact r
def OwnAt (env : Env) (σ : L2.St) (a : Addr) : Prop := ∃ (i : Nat) (s : Sl), env[i]? = some s ∧ isOwn s = true ∧ σ[i]? = some (some (V.ref a))
open Classical in
def borG (env : Env) (σ : L2.St) (G H : Hp) : Hp := fun a => if OwnAt env σ a then H a else G a
theorem bor_ok {B : Base} {L : Lk} {G H : Hp} {env : Env} {σ : L2.St} (st : Ste B L G H) (rl : Rel K S B L G H env σ) :
    Ste ⟨borG env σ G H, H, none⟩ [] (borG env σ G H) H ∧ Rel K S ⟨borG env σ G H, H, none⟩ [] (borG env σ G H) H (borE env) σ := by
  have sm : Same G (borG env σ G H) := fun a o e => by
    unfold borG
    by_cases h : OwnAt env σ a
    · obtain ⟨i, s, h1, h2, h3⟩ := h
      have := (own_free st rl h1 h2 h3).1
      rw [e] at this
      cases this
    · rw [if_neg h]; exact e
  have own : ∀ (i : Nat) (s : Sl) (a : Addr), env[i]? = some s → isOwn s = true → σ[i]? = some (some (V.ref a)) → borG env σ G H a = H a := fun i s a h1 h2 h3 => by
    unfold borG
    rw [if_pos ⟨i, s, h1, h2, h3⟩]
  refine ⟨⟨.refl _, fun a u e => ?_, fun a h e => (h e).elim, fun a o e _ _ => e, (fun p hp => by cases hp), (fun a e => by cases e), fun p hp => by cases hp⟩, ?_, fun i j s t a _ h1 _ o1 => ?_, fun i s a h1 o1 _ p hp => by cases hp⟩
  · unfold borG at e
    by_cases h : OwnAt env σ a
    · rw [if_pos h] at e; exact .inl e
    · rw [if_neg h] at e; exact st.inn a u e
  · refine paired_of (by unfold borE; rw [List.length_map]; exact paired_len rl.at_) fun i s x h1 h2 => ?_
    unfold borE at h1
    rw [List.getElem?_map] at h1
    cases he : env[i]? with
    | none => rw [he] at h1; cases h1
    | some s' =>
      rw [he] at h1
      cases h1
      obtain ⟨y, hy, q⟩ := rel_at rl he
      rw [h2] at hy
      cases hy
      cases s' with
      | no => trivial
      | val d => obtain ⟨v, e, r⟩ := q; exact ⟨v, e, r.mono sm⟩
      | box d =>
        obtain ⟨a, o, rfl, _, _, ha, r⟩ := q
        have hg := own i _ a he rfl h2
        rw [ha] at hg
        refine ⟨_, rfl, ?_⟩
        cases d with
        | lst xs => obtain ⟨vs, rfl, q⟩ := r; exact ⟨a, vs, rfl, hg, q.mono sm⟩
        | dct xs => obtain ⟨vs, rfl, q⟩ := r; exact ⟨a, vs, rfl, hg, q.mono sm⟩
        | ins C fs => obtain ⟨dx, vs, rfl, q⟩ := r; exact ⟨a, dx, vs, rfl, hg, q.mono sm⟩
        | _ => exact r.elim
      | par d =>
        obtain ⟨a, o, rfl, _, ha, r⟩ := q
        have hg := own i _ a he rfl h2
        rw [ha] at hg
        refine ⟨_, rfl, ?_⟩
        cases d with
        | lst xs => obtain ⟨vs, rfl, q⟩ := r; exact ⟨a, vs, rfl, hg, q.mono sm⟩
        | dct xs => obtain ⟨vs, rfl, q⟩ := r; exact ⟨a, vs, rfl, hg, q.mono sm⟩
        | ins C fs => obtain ⟨dx, vs, rfl, q⟩ := r; exact ⟨a, dx, vs, rfl, hg, q.mono sm⟩
        | _ => exact r.elim
  · unfold borE at h1
    rw [List.getElem?_map] at h1
    cases he : env[i]? with
    | none => rw [he] at h1; cases h1
    | some s' =>
      rw [he] at h1
      cases h1
      cases s' <;> cases o1
theorem bor_end {G0 H H' G' : Hp} (st : Ste ⟨G0, H, none⟩ [] G' H') : Same H H' := fun a o e => st.keep a o e (by intro q; cases q) fun p hp => by cases hp
theorem q_bor {e : Expr} {f : Ev} (h : QE S X E e f) : QE S X E e (xBor f) := pe_of h fun σ H Q ⟨B, L, G, env, st, rl, po⟩ => by
  obtain ⟨s1, r1⟩ := bor_ok st rl
  refine ⟨_, [], _, _, s1, r1, ?_⟩
  unfold xBor at po
  cases hf : f (borE env) with
  | no => rw [hf] at po; exact po.elim
  | ex C fs e' => rw [hf] at po; exact po.elim
  | ok d e' =>
    rw [hf] at po
    dsimp only at po
    split at po
    · rename_i hs
      intro G' H' sm st' rl' v rv
      have x := Ex.same st.inn (bor_end st')
      exact po G H' (.refl _) (st.ex x) (rl.ex x) v (scalR_any hs rv)
    · exact po.elim
theorem q_borT {e : Expr} {f : EvT} (h : QT S X E e f) : QT S X E e (xBorT f) := pt_of h fun σ H Q ⟨B, L, G, env, st, rl, po⟩ => by
  obtain ⟨s1, r1⟩ := bor_ok st rl
  refine ⟨_, [], _, _, s1, r1, ?_⟩
  unfold xBorT at po
  cases hf : f (borE env) with
  | no => rw [hf] at po; exact po.elim
  | ex C fs e' => rw [hf] at po; exact po.elim
  | ok d e' =>
    rw [hf] at po
    intro G' H' sm st' rl' v rv
    have x := Ex.same st.inn (bor_end st')
    exact po G H' (.refl _) (st.ex x) (rl.ex x) v rv
/-! ### methods of what is one's own -/
def cont : Sl → Option D
  | .box d => some d
  | .par d => some d
  | _ => none
def isLst : D → Bool
  | .lst _ => true
  | _ => false
abbrev FM := D → List D → Option (D × D)
def xOwnM (f : FM) (i : Nat) (r : EvA) : Ev := fun env => match env[i]? with
  | some s => match cont s with
    | some (.lst _) => (r env).bind fun xs e => match e[i]? with
      | some t => match cont t with
        | some c => match f c xs with
          | some (d, c') => .ok d (e.set i (putSl t c'))
          | none => .no
        | none => .no
      | none => .no
    | _ => .no
  | none => .no
def SMo (K : PySem.W.Frag) (S : Nat → Addr) (f : FM) (r : V → List V → Hp → VK → Prop) : Prop := ∀ (G H : Hp) (p : Addr) (o : HO) (c : D) (xs : List D) (vs : List V) (d c' : D) (Q : VK), Inn G H → G p = none → H p = some o → RepO K S G c o → RepL K S G xs vs → f c xs = some (d, c') → (∀ o' u, RepO K S G c' o' → Rep K S G d u → Q u (upd H p o')) → r (.ref p) vs H Q
theorem own_cont {B : Base} {L : Lk} {G H : Hp} {env : Env} {σ : L2.St} {i : Nat} {s : Sl} {c : D} (rl : Rel K S B L G H env σ) (h : env[i]? = some s) (hc : cont s = some c) : isOwn s = true ∧ ∃ p o, σ[i]? = some (some (V.ref p)) ∧ H p = some o ∧ RepO K S G c o := by
  obtain ⟨x, hx, q⟩ := rel_at rl h
  cases s with
  | box d => cases hc; obtain ⟨p, o, rfl, _, _, hp, r⟩ := q; exact ⟨rfl, p, o, hx, hp, r⟩
  | par d => cases hc; obtain ⟨p, o, rfl, _, hp, r⟩ := q; exact ⟨rfl, p, o, hx, hp, r⟩
  | _ => cases hc
variable {o e : Expr} {es : List Expr} {name : Str} {apos cpos : Pos} {id : String} {r : V → List V → Hp → VK → Prop} {f : FM} {er : EvA} {i : Nat}
theorem snd_own {σ : L2.St} {H : Hp} {Q : VK} (so : SMo K S f r) (q : TD K S E (xOwnM f i er) σ H Q) : tBM K "list" r (tVar i) (TAe K S E er) σ H Q := by
  obtain ⟨B, L, G, env, st, rl, po⟩ := q
  unfold xOwnM at po
  split at po
  · rename_i s hs
    split at po
    · rename_i ys hc
      obtain ⟨ho, p, ob, hx, hp, vs, rfl, ro⟩ := own_cont rl hs hc
      refine ⟨.ref p, hx, .inl ⟨rfl, _, SqL.of hp⟩, B, L, G, env, st, rl, po.then fun G1 H1 xs e1 sm1 st1 rl1 p1 us rv => ?_⟩
      split at p1
      · rename_i t ht
        split at p1
        · rename_i c hc1
          split at p1
          · rename_i d c' hf
            obtain ⟨ho1, p', o1, hx1, hp1, ro1⟩ := own_cont rl1 ht hc1
            rw [hx] at hx1
            cases hx1
            refine so G1 H1 p o1 c xs us d c' Q st1.inn (own_free st1 rl1 ht ho1 hx).1 hp1 ro1 rv hf fun o' u h1 h2 => ?_
            obtain ⟨s1, s2⟩ := own_set st1 rl1 ht ho1 hx h1
            exact p1 G1 _ (.refl _) s1 s2 u h2
          · exact p1.elim
        · exact p1.elim
      · exact p1.elim
    · exact po.elim
  · exact po.elim
theorem q_own (pa : PlainAttrs "list") (slot : Slot "list" name id) (hty : typeOf (.builtin id) = pure (.type "method_descriptor")) (hm : MtR X id r) (so : SMo X.K S f r) (ho : PE X o (tVar i)) (ha : QA S X E (e :: es) er)
    (hbase : attributeBase o name X.env (eval o X.env) = eval o X.env := by rfl)
    (hfew : ((backTo cpos (starEach (e :: es) X.env)).all (fun x => !x.1) && (backToKw cpos (keywordEach [] X.env)).all (fun x => x.1.isSome)
      && decide ((e :: es).length + ([] : List Keyword).length + (if ([] : List Keyword).isEmpty then 0 else 1) < 30)) = true := by rfl)
    (hline : (apos.endLine == cpos.line) = true := by rfl) (hs : starEach (e :: es) X.env = (false, eval e X.env) :: starEach es X.env := by rfl) (hplain : (backTo cpos (starEach es X.env)).any (·.1) = false := by rfl) :
    QE S X E (.Call (.Attribute o name apos) (e :: es) [] cpos) (xOwnM f i er) := pe_of (pe_bm pa slot hty hm ho ha hbase hfew hline hs hplain) fun _ _ _ q => snd_own so q
def mApp : FM := fun c xs => match c, xs with
  | .lst l, [x] => if l.length < 1000000 then some (.non, .lst (l ++ [x])) else none
  | _, _ => none
theorem sm_app : SMo K S mApp rAppend := fun G H p o c xs vs d c' Q i gp hp ro rx hf k => by
  unfold mApp at hf
  split at hf
  · rename_i l x
    split at hf
    · rename_i hl
      cases hf
      obtain ⟨ws, rfl, t⟩ := ro
      obtain ⟨v, rfl, rv⟩ := rx.one
      exact ⟨p, ws, v, rfl, rfl, hp, len9 (by rw [← t.length]; exact hl), k _ _ ⟨_, rfl, t.app (.cons rv .nil)⟩ rfl⟩
    · cases hf
  · cases hf
def mExt : FM := fun c xs => match c, xs with
  | .lst l, [.lst z] => if l.length + z.length ≤ 1000000 then some (.non, .lst (l ++ z)) else none
  | _, _ => none
theorem sm_ext : SMo K S mExt rExtend := fun G H p o c xs vs d c' Q i gp hp ro rx hf k => by
  unfold mExt at hf
  split at hf
  · rename_i l z
    split at hf
    · rename_i hl
      cases hf
      obtain ⟨ws, rfl, t⟩ := ro
      obtain ⟨v, rfl, b, zs, rfl, gb, tz⟩ := rx.one
      exact ⟨p, b, ws, zs, rfl, rfl, hp, i.lst gb, line10 (by rw [← t.length, ← tz.length]; exact hl), k _ _ ⟨_, rfl, t.app tz⟩ rfl⟩
    · cases hf
  · cases hf
theorem RepL.erase {G : Hp} : ∀ {xs : List D} {vs : List V} (n : Nat), RepL K S G xs vs → RepL K S G (xs.eraseIdx n) (vs.eraseIdx n)
  | [], _, _, r => by cases r; rfl
  | x :: xs, _, 0, ⟨v, ws, e, q, r⟩ => by subst e; exact r
  | x :: xs, _, n + 1, ⟨v, ws, e, q, r⟩ => by subst e; exact ⟨v, _, rfl, q, r.erase n⟩
/-- x.pop(k), k from the beginning -/
def mPopAt : FM := fun c xs => match c, xs with
  | .lst l, [.int (.ofNat j)] => if j < 1000000 then match l[j]? with
    | some x => some (x, .lst (l.eraseIdx j))
    | none => none else none
  | _, _ => none
theorem sm_popAt : SMo K S mPopAt rPopAt := fun G H p o c xs vs d c' Q i gp hp ro rx hf k => by
  unfold mPopAt at hf
  split at hf
  · rename_i l j
    split at hf
    · rename_i hj
      split at hf
      · rename_i x hx
        cases hf
        obtain ⟨ws, rfl, t⟩ := ro
        obtain ⟨v, rfl, rv⟩ := rx.one
        cases rv
        obtain ⟨y, hy, ry⟩ := t.get hx
        have hl := (List.getElem?_eq_some_iff.mp hy).1
        refine ⟨p, ws, (j : Int), j, y, rfl, rfl, hp, by omega, by omega, ?_, hy, k _ _ ⟨_, rfl, t.erase j⟩ ry⟩
        exact (ixN_seq (show ixN ws.length (j : Int) = some j by unfold ixN; rw [if_pos (Int.natCast_nonneg j), if_pos (by omega)]; rfl)).1
      · cases hf
    · cases hf
  · cases hf
/-! x[k] = v, x a list of one's own -/
def xSetIx (i : Nat) (ek ev : Ev) : EvS := fun env => (ev env).st fun v e1 => match e1[i]? with
  | some t0 => if isOwn t0 = true then (ek e1).st fun y e2 => match e2[i]?, y with
    | some t, .int j => match cont t with
      | some (.lst l) => match ixN l.length j with
        | some n => .nx (e2.set i (putSl t (.lst (l.set n v))))
        | none => .no
      | _ => .no
    | _, _ => .no else .no
  | none => .no
theorem RepL.set {G : Hp} {d : D} {v : V} (q : Rep K S G d v) : ∀ {xs : List D} {vs : List V} (n : Nat), RepL K S G xs vs → RepL K S G (xs.set n d) (vs.set n v)
  | [], _, _, r => by cases r; rfl
  | x :: xs, _, 0, ⟨w, ws, e, _, r⟩ => by subst e; exact ⟨v, ws, rfl, q, r⟩
  | x :: xs, _, n + 1, ⟨w, ws, e, q', r⟩ => by subst e; exact ⟨w, _, rfl, q', r.set q n⟩
theorem s_setIx {ix value : Expr} {ek ev : Ev} {pos pos' : Pos} (ho : PE X o (tVar i)) (hi : QE S X E ix ek) (hv : QE S X E value ev) (hc : PG X (.Subscript o ix pos') (gSub (tVar i) (TD X.K S E ek) rSetL)) (hs : swapsWithSole [.Subscript o ix pos'] value pos.line X.env = pure false := by rfl) (hw : swappedStores [.Subscript o ix pos'] value X.env = pure none := by rfl)
    (h1 : (assignEach [.Subscript o ix pos'] X.env).map (·.2) = [assign (.Subscript o ix pos') X.env] := by rfl) : QS S X E (.Assign [.Subscript o ix pos'] value pos) (xSetIx i ek ev) := ps_of (ps_asg hv hc hs hw h1) fun D σ H ⟨B, L, G, env, st, rl, po⟩ => ⟨B, L, G, env, st, rl, Post.st po fun G1 H1 d e1 sm1 st1 rl1 p1 v rv => by
  split at p1
  · rename_i t0 ht0
    split at p1
    · rename_i ho0
      obtain ⟨p, hx⟩ := own_at rl1 ht0 ho0
      exact ⟨.ref p, hx, B, L, G1, e1, st1, rl1, Post.st p1 fun G2 H2 y e2 sm2 st2 rl2 p2 k rk => by
        split at p2
        · rename_i t j ht
          split at p2
          · rename_i l hc
            split at p2
            · rename_i n hn
              obtain ⟨ho, p', o', hx', hp, ws, rfl, t'⟩ := own_cont rl2 ht hc
              rw [hx] at hx'
              cases hx'
              cases rk
              obtain ⟨s1, s2⟩ := own_set (d := .lst (l.set n d)) st2 rl2 ht ho hx ⟨_, rfl, t'.set (rv.mono sm2) n⟩
              exact ⟨p, ws, j, n, rfl, rfl, hp, by rw [← t'.length]; exact hn, p2 σ G2 _ (.refl _) s1 s2⟩
            · exact p2.elim
          · exact p2.elim
        · exact p2.elim⟩
    · exact p1.elim
  · exact p1.elim⟩
end
end
end Dv
namespace Dv
open PySem PySem.Spec PyProof.Rows L2
set_option autoImplicit false
noncomputable section
/-! ### isinstance -/
def tyName : D → Option String
  | .non => some "NoneType"
  | .bl _ => some "bool"
  | .int _ => some "int"
  | .str _ => some "str"
  | .lst _ => some "list"
  | .scr _ => some "list"
  | .dct _ => some "dict"
  | _ => none
/-- of built-in types -/
def tyIs (t n : String) : Option Bool := match t, n with
  | "NoneType", "list" => some false
  | "bool", "list" => some false
  | "int", "list" => some false
  | "str", "list" => some false
  | "list", "list" => some true
  | "dict", "list" => some false
  | "NoneType", "int" => some false
  | "bool", "int" => some true
  | "int", "int" => some true
  | "str", "int" => some false
  | "list", "int" => some false
  | "dict", "int" => some false
  | "NoneType", "str" => some false
  | "bool", "str" => some false
  | "int", "str" => some false
  | "str", "str" => some true
  | "list", "str" => some false
  | "dict", "str" => some false
  | "NoneType", "bool" => some false
  | "bool", "bool" => some true
  | "int", "bool" => some false
  | "str", "bool" => some false
  | "list", "bool" => some false
  | "dict", "bool" => some false
  | _, _ => none
theorem tyIs_ok {t n : String} {b : Bool} (h : tyIs t n = some b) : kitB t n = some b := by
  unfold tyIs at h
  split at h <;> first
    | (cases h; decide +kernel)
    | cases h
section
variable {K : PySem.W.Frag} {S : Nat → Addr}
theorem tyX_of {G H : Hp} (i : Inn G H) {x : D} {v : V} {t : String} (r : Rep K S G x v) (h : tyName x = some t) : TyX K H v (.type t) := by
  cases x with
  | non => cases h; cases r; exact .base .non
  | bl _ => cases h; cases r; exact .base (.bl _)
  | int _ => cases h; cases r; exact .base (.int _)
  | str _ => cases h; cases r; exact .base (.str _)
  | lst _ => cases h; obtain ⟨a, vs, rfl, g, _⟩ := r; exact .base (.lst (i.lst g))
  | scr _ =>
    cases h
    obtain ⟨a, vs, rfl, g, _⟩ := r
    rcases i.seq g with (q | ⟨o, q⟩) | ⟨o, its, n, q, c, _⟩
    · exact .base (.lst q)
    · exact .base (.frz q)
    · exact .kList q c
  | dct _ =>
    cases h
    obtain ⟨a, vs, rfl, g, _⟩ := r
    rcases i.dct (.inl g) with q | ⟨o, q⟩
    · exact .base (.dK q)
    · exact .fDict q
  | _ => cases h
/-- oo: own class, own class; ob: own class, built-in type; bo: built-in type, own class -/
structure IsOk (K : PySem.W.Frag) (S : Nat → Addr) (oo : Nat → Nat → Option Bool) (ob : Nat → String → Option Bool) (bo : String → Nat → Option Bool) : Prop where
  ti : ∀ C k b, oo C k = some b → (∀ (H : Hp) (a dx : Addr) (fs : List (Str × V)), H a = some (.ins (S C) dx fs) → TyX K H (.ref a) (.ref (S C))) ∧ PySem.W.kitOne K (.ref (S C)) (.ref (S k)) = some b
  tb : ∀ C n b, ob C n = some b → (∀ (H : Hp) (a dx : Addr) (fs : List (Str × V)), H a = some (.ins (S C) dx fs) → TyX K H (.ref a) (.ref (S C))) ∧ PySem.W.kitOne K (.ref (S C)) (.type n) = some b
  bt : ∀ t k b, bo t k = some b → PySem.W.kitOne K (.type t) (.ref (S k)) = some b
def fIs (oo : Nat → Nat → Option Bool) (ob : Nat → String → Option Bool) (bo : String → Nat → Option Bool) : FC := fun xs => match xs with
  | [.ins C _, .st k] => (oo C k).map D.bl
  | [.ins C _, .ty n] => (ob C n).map D.bl
  | [x, .ty n] => match tyName x with
    | some t => (tyIs t n).map D.bl
    | none => none
  | [x, .st k] => match tyName x with
    | some t => (bo t k).map D.bl
    | none => none
  | _ => none
theorem sc_is {oo : Nat → Nat → Option Bool} {ob : Nat → String → Option Bool} {bo : String → Nat → Option Bool} (T : IsOk K S oo ob bo) : SCl K S (fIs oo ob bo) (rIsi K) := fun G H xs d vs Q i r e k => by
  unfold fIs at e
  split at e
  · rename_i C fs m
    obtain ⟨v, w, rfl, rx, ry⟩ := r.two
    cases h : oo C m with
    | none => rw [h] at e; cases e
    | some b =>
      rw [h] at e
      cases e
      cases ry
      obtain ⟨a, dx, ws, rfl, g, _⟩ := rx
      obtain ⟨t1, t2⟩ := T.ti C m b h
      exact ⟨_, _, _, _, b, rfl, .own _, t1 H a dx ws (i.ins g), t2, k G H _ (.refl i) rfl⟩
  · rename_i C fs n
    obtain ⟨v, w, rfl, rx, ry⟩ := r.two
    cases h : ob C n with
    | none => rw [h] at e; cases e
    | some b =>
      rw [h] at e
      cases e
      cases ry
      obtain ⟨a, dx, ws, rfl, g, _⟩ := rx
      obtain ⟨t1, t2⟩ := T.tb C n b h
      exact ⟨_, _, _, _, b, rfl, .ty _, t1 H a dx ws (i.ins g), t2, k G H _ (.refl i) rfl⟩
  · rename_i x n _
    obtain ⟨v, w, rfl, rx, ry⟩ := r.two
    split at e
    · rename_i t ht
      cases h : tyIs t n with
      | none => rw [h] at e; cases e
      | some b =>
        rw [h] at e
        cases e
        cases ry
        exact ⟨_, _, _, _, b, rfl, .ty _, tyX_of i rx ht, L2.kit_ty (tyIs_ok h), k G H _ (.refl i) rfl⟩
    · cases e
  · rename_i x m _
    obtain ⟨v, w, rfl, rx, ry⟩ := r.two
    split at e
    · rename_i t ht
      cases h : bo t m with
      | none => rw [h] at e; cases e
      | some b =>
        rw [h] at e
        cases e
        cases ry
        exact ⟨_, _, _, _, b, rfl, .own _, tyX_of i rx ht, T.bt t m b h, k G H _ (.refl i) rfl⟩
    · cases e
  · cases e
theorem is_none : IsOk K S (fun _ _ => none) (fun _ _ => none) (fun _ _ => none) := ⟨fun _ _ _ e => (by cases e), fun _ _ _ e => (by cases e), fun _ _ _ e => (by cases e)⟩
/-! x, y = a, b -/
def xPar (i j : Nat) (r : EvA) : EvS := fun env => (r env).st fun ds e => match ds with
  | [d1, d2] => match setE e i d1 with
    | some e1 => match setE e1 j d2 with
      | some e2 => .nx e2
      | none => .no
    | none => .no
  | _ => .no
theorem s_par {X : Cx} {E : XK} {i j : Nat} {x y : Str} {a b : Expr} {er : EvA} {px py pt pos : Pos} {kt k2 pt2} (hp : PS X (.Assign [.Tuple [.Name x px, .Name y py] kt pt] (.Tuple [a, b] k2 pt2) pos) (tPar i j (TAe X.K S E er))) :
    QS S X E (.Assign [.Tuple [.Name x px, .Name y py] kt pt] (.Tuple [a, b] k2 pt2) pos) (xPar i j er) := ps_of hp fun D σ H ⟨B, L, G, env, st, rl, po⟩ => ⟨B, L, G, env, st, rl, Post.st po fun G1 H1 ds e1 sm1 st1 rl1 p1 vs rv => by
  split at p1
  · rename_i d1 d2
    obtain ⟨v, w, rfl, rx, ry⟩ := rv.two
    split at p1
    · rename_i e2 h1
      split at p1
      · rename_i e3 h2
        exact ⟨v, w, rfl, p1 _ G1 H1 (.refl _) st1 (rel_set (rel_set rl1 h1 rx) h2 ry)⟩
      · exact p1.elim
    · exact p1.elim
  · exact p1.elim⟩
theorem kit_ty {K : PySem.W.Frag} {C : Addr} {T : String} {r : Bool} (h1 : PySem.W.isClsIn K C = true) (h2 : PySem.W.typeIn K (.ref C) = some (.type "type")) (h3 : PySem.W.subIn K (.type T) (.ref C) = some r) :
    PySem.W.kitOne K (.type T) (.ref C) = some r := by
  have a1 : ((PySem.W.clsIn K C).isSome && PySem.W.typeIn K (.ref C) == some (.type "type")) = true := by
    rw [h2, show (PySem.W.clsIn K C).isSome = true from h1] <;> rfl
  have a2 : PySem.W.kitCls K (.type T) (.ref C) = some r := Eq.trans (if_pos a1) h3
  exact Eq.trans (if_neg (by simp)) a2
theorem kit_typ {K : PySem.W.Frag} {C : Addr} {n : String} {r : Bool} (hn : PySem.W.kitMeta n = true) (h : PySem.W.subIn K (.ref C) (.type n) = some r) : PySem.W.kitOne K (.ref C) (.type n) = some r := by
  have a : PySem.W.kitCls K (.ref C) (.type n) = some r := by
    show (if PySem.W.kitMeta n = true then PySem.W.subIn K (.ref C) (.type n) else none) = some r
    rw [if_pos hn]
    exact h
  exact Eq.trans (if_neg (by simp)) a
/-! l.index(x) -/
theorem q_cons1 {X : Cx} {E : XK} {a : Expr} {ea : Ev} (ha : QE S X E a ea) (hs : starEach [a] X.env = (false, eval a X.env) :: starEach [] X.env := by rfl) : QA S X E [a] (fun env => (ea env).bind fun x e => .ok [x] e) := pa_of (pa_cons ha pa_nil hs) fun σ H Q ⟨B, L, G, env, st, rl, po⟩ => ⟨B, L, G, env, st, rl, po.then fun G1 H1 x e1 sm1 st1 rl1 p1 v rv => p1 G1 H1 (.refl _) st1 rl1 _ (RepL.cons rv rfl)⟩
def idxD (a : PyData) : List PyData → Option Nat
  | [] => none
  | d :: r => if PyData.eqv d a = true then some 0 else (idxD a r).map (· + 1)
theorem idxD_ok {a : PyData} : ∀ {ds : List PyData} {j : Nat}, idxD a ds = some j → ∃ z, ds[j]? = some z ∧ PyData.eqv z a = true ∧ ∀ (m : Nat) (z' : PyData), m < j → ds[m]? = some z' → PyData.eqv z' a = false
  | [], _, e => by cases e
  | d :: r, j, e => by
    have e : (if PyData.eqv d a = true then some 0 else (idxD a r).map (· + 1)) = some j := e
    by_cases h : PyData.eqv d a = true
    · rw [if_pos h] at e; cases e
      exact ⟨d, rfl, h, fun m z' hm => absurd hm (Nat.not_lt_zero _)⟩
    · rw [if_neg h] at e
      cases hr : idxD a r with
      | none => rw [hr] at e; cases e
      | some k =>
        rw [hr] at e
        cases e
        obtain ⟨z, h1, h2, h3⟩ := idxD_ok hr
        refine ⟨z, by simpa using h1, h2, fun m z' hm hz => ?_⟩
        cases m with
        | zero => simp at hz; subst hz; exact Bool.eq_false_iff.mpr h
        | succ m => exact h3 m z' (Nat.lt_of_succ_lt_succ (show m + 1 < k + 1 from hm)) (by simpa using hz)
def xIndex (o a : Ev) : Ev := fun env => (o env).bind fun x e1 => match x with
  | .lst l => (a e1).bind fun y e2 => match datL l, dat y with
    | some ds, some d => if SeqAt.shaped (.list ds) = true ∧ SeqAt.shaped d = true then match idxD d ds with
      | some j => .ok (.int (j : Int)) e2
      | none => .no else .no
    | _, _ => .no
  | _ => .no
theorem q_index {X : Cx} {E : XK} {o e : Expr} {eo ee : Ev} {apos cpos : Pos} (hu : X.A.units + 65 < cLine) (ho : QE S X E o eo) (he : QE S X E e ee)
    (hbase : attributeBase o "index" X.env (eval o X.env) = eval o X.env := by rfl)
    (hfew : ((backTo cpos (starEach [e] X.env)).all (fun x => !x.1) && (backToKw cpos (keywordEach [] X.env)).all (fun x => x.1.isSome)
      && decide ([e].length + ([] : List Keyword).length + (if ([] : List Keyword).isEmpty then 0 else 1) < 30)) = true := by rfl)
    (hline : (apos.endLine == cpos.line) = true := by rfl) (hs : starEach [e] X.env = (false, eval e X.env) :: starEach [] X.env := by rfl) (hplain : (backTo cpos (starEach [] X.env)).any (·.1) = false := by rfl) :
    QE S X E (.Call (.Attribute o "index" apos) [e] [] cpos) (xIndex eo ee) := pe_of (pe_bm PySem.F.plainAttrs_list PySem.F.slot_list_index PySem.F.type_list_index (mt_indexD hu) ho (q_cons1 he hs) hbase hfew hline hs hplain) fun σ H Q ⟨B, L, G, env, st, rl, po⟩ => ⟨B, L, G, env, st, rl, po.then fun G1 H1 x e1 sm1 st1 rl1 p1 v rv => by
  cases x with
  | lst l =>
    obtain ⟨q, vs, rfl, gq, t⟩ := rv
    refine ⟨.inl ⟨rfl, vs, .inl (.inl (st1.inn.lst gq))⟩, B, L, G1, e1, st1, rl1, ?_⟩
    cases hy : ee e1 with
    | no => rw [hy] at p1; exact p1.elim
    | ex C fs e2 => rw [hy] at p1; show Post X.K S E B L σ G1 _ ((ee e1).bind _); rw [hy]; exact p1
    | ok y e2 =>
      rw [hy] at p1
      show Post X.K S E B L σ G1 _ ((ee e1).bind _)
      rw [hy]
      intro G2 H2 sm2 st2 rl2 us rus
      obtain ⟨u, rfl, ru⟩ := rus.one
      dsimp only [Res.bind] at p1
      split at p1
      · rename_i ds d h1 h2
        split at p1
        · rename_i hs
          split at p1
          · rename_i j hj
            obtain ⟨z, k1, k2, k3⟩ := idxD_ok hj
            have hl : Dp X.K H2 (.ref q) (.list ds) := dat_ok st2.inn (d := .lst l) ⟨q, vs, rfl, sm2 _ _ gq, t.mono sm2⟩ (by show (datL l).map PyData.list = _; rw [h1]; rfl)
            exact ⟨q, u, d, ds, j, z, rfl, rfl, hl, dat_ok st2.inn ru h2, hs.1, hs.2, k1, k2, k3, p1 G2 H2 sm2 st2 rl2 _ rfl⟩
          · exact p1.elim
        · exact p1.elim
      · exact p1.elim
  | _ => exact p1.elim⟩
/-! ### tables -/
theorem fo_nil {f : Str} : FldOk K S f [] := fun C h => by cases h
theorem fo_cons {f : Str} {C : Nat} {cs : List Nat} (h : Cls K (S C) ∧ NoAttr K (S C) f) (t : FldOk K S f cs) : FldOk K S f (C :: cs) := fun D hD => by
  rcases List.mem_cons.mp hD with rfl | hD
  · exact h
  · exact t D hD
theorem mt_nil {P : Nat → Nat → Fn → Prop} : MT.All [] P := trivial
theorem mt_cons {P : Nat → Nat → Fn → Prop} {c j : Nat} {g : Fn} {t : MT} (h : P c j g) (r : MT.All t P) : MT.All ((c, j, g) :: t) P := ⟨h, r⟩
end
end
end Dv
namespace Dv
open PySem PySem.Spec PyProof.Rows L2
set_option autoImplicit false
noncomputable section
/-! ### dicts -/
def keyD : D → Option Key
  | .int i => some (.inl i)
  | .str s => some (.inr s)
  | _ => none
def kD : Key → D
  | .inl i => .int i
  | .inr s => .str s
def valD (kvs : List (Key × D)) (k : Key) : Option D := match kvs with
  | [] => none
  | a :: r => if a.1 = k then some a.2 else valD r k
/-- in its place, or at the end -/
def putKD (kvs : List (Key × D)) (k : Key) (v : D) : List (Key × D) :=
  if (kvs.any fun kv => decide (kv.1 = k)) = true then kvs.map (fun kv => if kv.1 = k then (kv.1, v) else kv) else kvs ++ [(k, v)]
def dropKD (kvs : List (Key × D)) (k : Key) : List (Key × D) := kvs.filter fun kv => decide (kv.1 ≠ k)
section
variable {K : PySem.W.Frag} {S : Nat → Addr} {X : Cx} {E : XK} {G H : Hp}
theorem key_rep {y : D} {v : V} {k : Key} (r : Rep K S G y v) (h : keyD y = some k) : v = kV k := by
  cases y with
  | int i => cases h; cases r; rfl
  | str s => cases h; cases r; rfl
  | _ => cases h
theorem kD_rep {k : Key} : Rep K S G (kD k) (kV k) := by cases k <;> rfl
theorem valV_cons' {k k' : Key} {v : V} {r : List (Key × V)} : valV ((k', v) :: r) k = if k' = k then some v else valV r k := by
  by_cases h : k' = k
  · rw [if_pos h]
    simp [valV, h]
  · rw [if_neg h]
    simp [valV, h]
theorem valD_ok {k : Key} : ∀ {kvs : List (Key × D)} {ws : List (Key × V)}, RepK K S G kvs ws → (valD kvs k = none → valV ws k = none) ∧ ∀ d, valD kvs k = some d → ∃ v, valV ws k = some v ∧ Rep K S G d v
  | [], _, r => by cases r; exact ⟨fun _ => rfl, fun d e => by cases e⟩
  | a :: r, _, ⟨v, ws, e, q, t⟩ => by
    subst e
    obtain ⟨h1, h2⟩ := valD_ok (k := k) t
    have e1 : valD (a :: r) k = if a.1 = k then some a.2 else valD r k := rfl
    rw [e1, valV_cons']
    by_cases h : a.1 = k
    · rw [if_pos h, if_pos h]
      exact ⟨fun e => (by cases e), fun d e => (by cases e; exact ⟨v, rfl, q⟩)⟩
    · rw [if_neg h, if_neg h]
      exact ⟨h1, h2⟩
theorem repK_len : ∀ {kvs : List (Key × D)} {ws : List (Key × V)}, RepK K S G kvs ws → kvs.length = ws.length
  | [], _, r => by cases r; rfl
  | a :: r, _, ⟨v, ws, e, q, t⟩ => by subst e; rw [List.length_cons, List.length_cons, repK_len t]
theorem repK_keys : ∀ {kvs : List (Key × D)} {ws : List (Key × V)}, RepK K S G kvs ws → kvs.map (·.1) = ws.map (·.1)
  | [], _, r => by cases r; rfl
  | a :: r, _, ⟨v, ws, e, q, t⟩ => by subst e; rw [List.map_cons, List.map_cons, repK_keys t]
theorem repK_any {k : Key} : ∀ {kvs : List (Key × D)} {ws : List (Key × V)}, RepK K S G kvs ws → (kvs.any fun kv => decide (kv.1 = k)) = (ws.any fun kv => decide (kv.1 = k))
  | [], _, r => by cases r; rfl
  | a :: r, _, ⟨v, ws, e, q, t⟩ => by subst e; rw [List.any_cons, List.any_cons, repK_any t]
theorem repK_map {k : Key} {d : D} {v : V} (rd : Rep K S G d v) : ∀ {kvs : List (Key × D)} {ws : List (Key × V)}, RepK K S G kvs ws → RepK K S G (kvs.map fun kv => if kv.1 = k then (kv.1, d) else kv) (ws.map fun kv => if kv.1 = k then (kv.1, v) else kv)
  | [], _, r => by cases r; rfl
  | a :: r, _, ⟨w, ws, e, q, t⟩ => by
    subst e
    rw [List.map_cons, List.map_cons]
    by_cases h : a.1 = k
    · rw [if_pos h, if_pos h]; exact ⟨v, _, rfl, rd, repK_map rd t⟩
    · rw [if_neg h, if_neg h]; exact ⟨w, _, rfl, q, repK_map rd t⟩
theorem repK_app {k : Key} {d : D} {v : V} (rd : Rep K S G d v) : ∀ {kvs : List (Key × D)} {ws : List (Key × V)}, RepK K S G kvs ws → RepK K S G (kvs ++ [(k, d)]) (ws ++ [(k, v)])
  | [], _, r => by cases r; exact ⟨v, [], rfl, rd, rfl⟩
  | a :: r, _, ⟨w, ws, e, q, t⟩ => by subst e; exact ⟨w, _, rfl, q, repK_app rd t⟩
theorem repK_put {k : Key} {d : D} {v : V} (rd : Rep K S G d v) {kvs : List (Key × D)} {ws : List (Key × V)} (r : RepK K S G kvs ws) : RepK K S G (putKD kvs k d) (putK ws k v) := by
  unfold putKD putK
  rw [repK_any r]
  by_cases h : (ws.any fun kv => decide (kv.1 = k)) = true
  · rw [if_pos h, if_pos h]; exact repK_map rd r
  · rw [if_neg h, if_neg h]; exact repK_app rd r
theorem repK_drop {k : Key} : ∀ {kvs : List (Key × D)} {ws : List (Key × V)}, RepK K S G kvs ws → RepK K S G (dropKD kvs k) (dropK ws k)
  | [], _, r => by cases r; rfl
  | a :: r, _, ⟨w, ws, e, q, t⟩ => by
    subst e
    unfold dropKD dropK
    by_cases h : a.1 = k
    · rw [List.filter_cons_of_neg (by simp [h]), List.filter_cons_of_neg (by simp [h])]; exact repK_drop t
    · rw [List.filter_cons_of_pos (by simp [h]), List.filter_cons_of_pos (by simp [h])]; exact ⟨w, _, rfl, q, repK_drop t⟩
theorem repK_at : ∀ {kvs : List (Key × D)} {ws : List (Key × V)} {i : Nat} {k : Key} {d : D}, RepK K S G kvs ws → kvs[i]? = some (k, d) → ∃ v, ws[i]? = some (k, v) ∧ Rep K S G d v
  | [], _, i, k, d, _, h => by simp at h
  | a :: r, _, 0, k, d, ⟨w, ws, e, q, t⟩, h => by
    subst e
    have h : a = (k, d) := by simpa using h
    subst h
    exact ⟨w, rfl, q⟩
  | a :: r, _, i + 1, k, d, ⟨w, ws, e, q, t⟩, h => by
    subst e
    exact repK_at (i := i) t (by simpa using h)
theorem repK_end {kvs : List (Key × D)} {ws : List (Key × V)} {i : Nat} (r : RepK K S G kvs ws) (h : kvs[i]? = none) : ws.length ≤ i := by
  have := List.getElem?_eq_none_iff.mp h
  rw [← repK_len r]
  exact this
/-! d[k], k in d, d.get(k) -/
def dctD : D → Option (List (Key × D))
  | .dct kvs => some kvs
  | _ => none
theorem dct_rep {y : D} {v : V} {kvs : List (Key × D)} (i : Inn G H) (r : Rep K S G y v) (h : dctD y = some kvs) : ∃ a ws, v = .ref a ∧ G a = some (.dK ws) ∧ Rd H a (.dK ws) ∧ RepK K S G kvs ws := by
  cases y with
  | dct l =>
    cases h
    obtain ⟨a, ws, rfl, g, t⟩ := r
    exact ⟨a, ws, rfl, g, i.dct (.inl g), t⟩
  | _ => cases h
def oDGet : FO := fun d y => (dctD d).bind fun kvs => (keyD y).bind fun k => valD kvs k
def xDGet1 (a b : Ev) : Ev := fun env => (a env).bind fun d e1 => match dctD d with
  | some kvs => (b e1).bind fun y e2 => .of ((keyD y).map fun k => (valD kvs k).getD .non) e2
  | none => .no
def oDIn (neg : Bool) : FO := fun y d => (dctD d).bind fun kvs => (keyD y).bind fun k => some (.bl ((valD kvs k).isSome != neg))
theorem valD_some {k : Key} {kvs : List (Key × D)} {ws : List (Key × V)} (r : RepK K S G kvs ws) : (valV ws k).isSome = (valD kvs k).isSome := by
  obtain ⟨h1, h2⟩ := valD_ok (k := k) r
  cases e : valD kvs k with
  | none => rw [h1 e]; rfl
  | some d => obtain ⟨v, hv, _⟩ := h2 d e; rw [hv]; rfl
theorem valD_getD {k : Key} {kvs : List (Key × D)} {ws : List (Key × V)} (r : RepK K S G kvs ws) : Rep K S G ((valD kvs k).getD .non) ((valV ws k).getD .non) := by
  obtain ⟨h1, h2⟩ := valD_ok (k := k) r
  cases e : valD kvs k with
  | none => rw [h1 e]; rfl
  | some d => obtain ⟨v, hv, q⟩ := h2 d e; rw [hv]; exact q
theorem pc_of {op : CmpOp} {a b : Expr} {t u : TE} (p : PC X op a b t) (h : ∀ σ H Q, u σ H Q → t σ H Q) : PC X op a b u := ⟨fun pins s σ H Q I q => p.run pins s σ H Q I (h σ H Q q)⟩
variable {a b d e i : Expr} {ea eb ed ei : Ev} {pos apos cpos : Pos}
theorem q_dget (hu : X.A.units + 1 < cLine) (ho : QE S X E d ed) (hi : QE S X E i ei) (hs : NoSl i) : QE S X E (.Subscript d i pos) (xOp oDGet ed ei) := pe_of (pe_dget hu ho hi hs) fun σ H Q ⟨B, L, G, env, st, rl, po⟩ => ⟨B, L, G, env, st, rl, po.then fun G1 H1 x e1 sm1 st1 rl1 p1 v rv => ⟨B, L, G1, e1, st1, rl1, p1.then fun G2 H2 y e2 sm2 st2 rl2 p2 w rw => by
  obtain ⟨c, hc, k⟩ := p2.of st2 rl2
  unfold oDGet at hc
  obtain ⟨kvs, h1, hc⟩ := Option.bind_eq_some_iff.mp hc
  obtain ⟨key, h2, hc⟩ := Option.bind_eq_some_iff.mp hc
  obtain ⟨p, ws, rfl, _, rd, t⟩ := dct_rep st2.inn (rv.mono sm2) h1
  obtain ⟨u, hu, ru⟩ := (valD_ok (k := key) t).2 c hc
  rw [key_rep rw h2]
  exact ⟨p, u, rfl, .inl ⟨ws, key, rd, rfl, hu.symm⟩, k G2 H2 (.refl st2.inn) u ru⟩⟩⟩
theorem q_dget1 (hu : X.A.units + 1 < cLine) (ho : QE S X E d ed) (hi : QE S X E i ei) (m : M1 X d "get" apos i cpos) : QE S X E (.Call (.Attribute d "get" apos) [i] [] cpos) (xDGet1 ed ei) := pe_of (pe_dget1 hu ho hi m) fun σ H Q ⟨B, L, G, env, st, rl, po⟩ => ⟨B, L, G, env, st, rl, po.then fun G1 H1 x e1 sm1 st1 rl1 p1 v rv => by
  split at p1
  · rename_i kvs hx
    obtain ⟨p, ws, rfl, gp, rd, t⟩ := dct_rep st1.inn rv hx
    refine ⟨p, rfl, .inl ⟨ws, rd⟩, B, L, G1, e1, st1, rl1, p1.then fun G2 H2 y e2 sm2 st2 rl2 p2 w rw => ?_⟩
    obtain ⟨c, hc, k⟩ := p2.of st2 rl2
    obtain ⟨key, h2, hc⟩ := Option.map_eq_some_iff.mp hc
    subst hc
    rw [key_rep rw h2]
    exact ⟨valV ws key, .inl ⟨ws, key, st2.inn.dct (.inl (sm2 _ _ gp)), rfl, rfl⟩, k G2 H2 (.refl st2.inn) _ (valD_getD (t.mono sm2))⟩
  · exact p1.elim⟩
theorem snd_din {neg : Bool} {σ : L2.St} {H : Hp} {Q : VK} (q : TD K S E (xOp (oDIn neg) ea ed) σ H Q) : (fun σ H Q => TD K S E ea σ H fun y H1 => TD K S E ed σ H1 fun x H2 => ∃ p o, x = .ref p ∧ DGet H2 p y o ∧ Q (.bl (o.isSome != neg)) H2) σ H Q := by
  obtain ⟨B, L, G, env, st, rl, po⟩ := q
  exact ⟨B, L, G, env, st, rl, po.then fun G1 H1 y e1 sm1 st1 rl1 p1 v rv => ⟨B, L, G1, e1, st1, rl1, p1.then fun G2 H2 x e2 sm2 st2 rl2 p2 w rw => by
    obtain ⟨c, hc, k⟩ := p2.of st2 rl2
    unfold oDIn at hc
    obtain ⟨kvs, h1, hc⟩ := Option.bind_eq_some_iff.mp hc
    obtain ⟨key, h2, hc⟩ := Option.bind_eq_some_iff.mp hc
    cases hc
    obtain ⟨p, ws, rfl, _, rd, t⟩ := dct_rep st2.inn rw h1
    rw [key_rep rv h2]
    refine ⟨p, _, rfl, .inl ⟨ws, key, rd, rfl, rfl⟩, ?_⟩
    rw [valD_some t]
    exact k G2 H2 (.refl st2.inn) _ rfl⟩⟩
theorem td_congr {t u : VK} {f : Ev} {σ : L2.St} {H : Hp} (h : ∀ v H, t v H → u v H) (q : TD K S E f σ H t) : TD K S E f σ H u := by
  obtain ⟨B, L, G, env, st, rl, po⟩ := q
  exact ⟨B, L, G, env, st, rl, po.imp fun G' H' a e _ _ _ k v rv => h _ _ (k v rv)⟩
theorem c_din (hu : X.A.units + 1 < cLine) (ha : QE S X E a ea) (hd : QE S X E d ed) : PC X .In a d (TD X.K S E (xOp (oDIn false) ea ed)) := pc_of (pc_din hu ha hd) fun σ H Q q => td_congr (fun y H1 q => td_congr (fun x H2 ⟨p, o, h1, h2, h3⟩ => ⟨p, o, h1, h2, by simpa using h3⟩) q) (snd_din q)
theorem c_dnotin (hu : X.A.units + 1 < cLine) (ha : QE S X E a ea) (hd : QE S X E d ed) : PC X .NotIn a d (TD X.K S E (xOp (oDIn true) ea ed)) := pc_of (pc_dnotin hu ha hd) fun σ H Q q => td_congr (fun y H1 q => td_congr (fun x H2 ⟨p, o, h1, h2, h3⟩ => ⟨p, o, h1, h2, by simpa using h3⟩) q) (snd_din q)
end
end
end Dv
namespace Dv
open PySem PySem.Spec PyProof.Rows L2
set_option autoImplicit false
noncomputable section
/-! ### dicts, second part: new ones, one's own, locks -/
section
variable {K : PySem.W.Frag} {S : Nat → Addr} {X : Cx} {E : XK} {a d e i o value : Expr} {ea ed ee ei ev : Ev} {pos pos' tpos apos cpos : Pos}
theorem q_din (hu : X.A.units + 1 < cLine) (ha : QE S X E a ea) (hd : QE S X E d ed) (h1 : behindInMarks .In d = false := by first | exact nobehind _ (by decide) (by decide) | rfl) : QE S X E (.Compare a [.In] [d] pos) (xOp (oDIn false) ea ed) := pe_cmp (c_din hu ha hd) h1
theorem q_dnotin (hu : X.A.units + 1 < cLine) (ha : QE S X E a ea) (hd : QE S X E d ed) (h1 : behindInMarks .NotIn d = false := by first | exact nobehind _ (by decide) (by decide) | rfl) : QE S X E (.Compare a [.NotIn] [d] pos) (xOp (oDIn true) ea ed) := pe_cmp (c_dnotin hu ha hd) h1
theorem q_dinT (hu : X.A.units + 1 < cLine) (ha : QE S X E a ea) (hd : QE S X E d ed) (h1 : behindInMarks .In d = false := by first | exact nobehind _ (by decide) (by decide) | rfl) : QT S X E (.Compare a [.In] [d] pos) (xTest (xOp (oDIn false) ea ed)) := pt_of (pt_cmp (c_din hu ha hd) h1) fun _ _ _ q => snd_test (fun _ h => h) q
theorem q_dnotinT (hu : X.A.units + 1 < cLine) (ha : QE S X E a ea) (hd : QE S X E d ed) (h1 : behindInMarks .NotIn d = false := by first | exact nobehind _ (by decide) (by decide) | rfl) : QT S X E (.Compare a [.NotIn] [d] pos) (xTest (xOp (oDIn true) ea ed)) := pt_of (pt_cmp (c_dnotin hu ha hd) h1) fun _ _ _ q => snd_test (fun _ h => h) q
/-! {} -/
def xDNew : Ev := fun env => .ok (.dct []) env
theorem qf_dnew : QF S X E (.Dict [] [] pos) xDNew := pe_of pe_dnewK fun σ H Q ⟨B, L, G, env, st, rl, po⟩ => fresh_ok st rl po ⟨[], rfl, rfl⟩
/-! d[k] = v, d one's own -/
def isDct : D → Bool
  | .dct _ => true
  | _ => false
def xDPut (i : Nat) (ek ev : Ev) : EvS := fun env => (ev env).st fun v e1 => match e1[i]? with
  | some t0 => if isOwn t0 = true then (ek e1).st fun y e2 => match e2[i]?, keyD y with
    | some t, some k => match cont t with
      | some (.dct l) => if l.length < 1000000 then .nx (e2.set i (putSl t (.dct (putKD l k v)))) else .no
      | _ => .no
    | _, _ => .no else .no
  | none => .no
theorem s_dput {i : Nat} {ix : Expr} {ek : Ev} (hu : X.A.units + 1 < cLine) (ho : PE X o (tVar i)) (hi : QE S X E ix ek) (hv : QE S X E value ev) (hs : swapsWith value (some (.Subscript o ix pos')) pos.line X.env = pure false) : QS S X E (.Assign [.Subscript o ix pos'] value pos) (xDPut i ek ev) := ps_of (ps_dput hu ho hi hv hs) fun D σ H ⟨B, L, G, env, st, rl, po⟩ => ⟨B, L, G, env, st, rl, Post.st po fun G1 H1 d e1 sm1 st1 rl1 p1 v rv => by
  split at p1
  · rename_i t0 ht0
    split at p1
    · rename_i ho0
      obtain ⟨p, hx⟩ := own_at rl1 ht0 ho0
      exact ⟨.ref p, hx, B, L, G1, e1, st1, rl1, Post.st p1 fun G2 H2 y e2 sm2 st2 rl2 p2 k rk => by
        split at p2
        · rename_i t key ht hk
          split at p2
          · rename_i l hc
            split at p2
            · rename_i hl
              obtain ⟨ho, p', o', hx', hp, ws, rfl, t'⟩ := own_cont rl2 ht hc
              rw [hx] at hx'
              cases hx'
              rw [key_rep rk hk]
              obtain ⟨s1, s2⟩ := own_set (d := .dct (putKD l key d)) (o := .dK (putK ws key v)) st2 rl2 ht ho hx ⟨_, rfl, repK_put (rv.mono sm2) t'⟩
              exact ⟨p, _, rfl, .inl ⟨ws, key, hp, rfl, len9 (by rw [← repK_len t']; exact hl), rfl⟩, p2 σ G2 _ (.refl _) s1 s2⟩
            · exact p2.elim
          · exact p2.elim
        · exact p2.elim⟩
    · exact p1.elim
  · exact p1.elim⟩
/-! list(d) -/
def fListD : FC := fun xs => match xs with
  | [x] => (dctD x).map fun kvs => .lst (kvs.map fun kv => kD kv.1)
  | _ => none
def rListD : List V → Hp → VK → Prop := fun xs H Q => ∃ (a : Addr) (kvs : List (Key × V)), xs = [.ref a] ∧ Rd H a (.dK kvs) ∧ ∀ p, H p = none → Q (.ref p) (upd H p (.lst (kvs.map fun kv => kV kv.1)))
theorem repK_keyL {G : Hp} : ∀ {kvs : List (Key × D)} {ws : List (Key × V)}, RepK K S G kvs ws → RepL K S G (kvs.map fun kv => kD kv.1) (ws.map fun kv => kV kv.1)
  | [], _, r => by cases r; rfl
  | a :: r, _, ⟨v, ws, e, q, t⟩ => by subst e; exact ⟨_, _, rfl, kD_rep, repK_keyL t⟩
theorem sc_listD : SClF K S fListD rListD := fun G H xs d vs Q i r e k => by
  unfold fListD at e
  split at e
  · rename_i x
    obtain ⟨v, rfl, rx⟩ := r.one
    obtain ⟨kvs, h, e⟩ := Option.map_eq_some_iff.mp e
    subst e
    obtain ⟨q, ws, rfl, gq, hq, t⟩ := dct_rep i rx h
    exact ⟨q, ws, rfl, hq, fun p hp => k p _ hp ⟨_, rfl, repK_keyL t⟩⟩
  · cases e
/-! sorted, ints -/
def insI (x : Int) : List Int → List Int
  | [] => [x]
  | y :: r => if x ≤ y then x :: y :: r else y :: insI x r
def sortI : List Int → List Int
  | [] => []
  | x :: r => insI x (sortI r)
theorem insI_perm (x : Int) : ∀ l : List Int, (insI x l).Perm (x :: l)
  | [] => .refl _
  | y :: r => by
    unfold insI
    split
    · exact .refl _
    · exact ((insI_perm x r).cons y).trans (.swap x y r)
theorem sortI_perm : ∀ ns : List Int, (sortI ns).Perm ns
  | [] => .refl _
  | x :: r => (insI_perm x (sortI r)).trans ((sortI_perm r).cons x)
theorem insI_le (x : Int) : ∀ l : List Int, l.Pairwise (· ≤ ·) → (insI x l).Pairwise (· ≤ ·)
  | [], _ => by simp [insI]
  | y :: r, h => by
    unfold insI
    split
    · rename_i hx
      refine List.pairwise_cons.mpr ⟨fun z hz => ?_, h⟩
      rcases List.mem_cons.mp hz with rfl | hz
      · exact hx
      · exact Int.le_trans hx ((List.pairwise_cons.mp h).1 z hz)
    · rename_i hx
      refine List.pairwise_cons.mpr ⟨fun z hz => ?_, insI_le x r (List.pairwise_cons.mp h).2⟩
      rcases List.mem_cons.mp ((insI_perm x r).mem_iff.mp hz) with rfl | hz
      · omega
      · exact (List.pairwise_cons.mp h).1 z hz
theorem sortI_le : ∀ ns : List Int, (sortI ns).Pairwise (· ≤ ·)
  | [] => .nil
  | x :: r => insI_le x _ (sortI_le r)
theorem sortI_eq {ns ms : List Int} (h : ms.Perm ns) (hl : ms.Pairwise (· ≤ ·)) : ms = sortI ns := List.Perm.eq_of_pairwise (le := (· ≤ ·)) (fun a b _ _ h1 h2 => Int.le_antisymm h1 h2) hl (sortI_le ns) (h.trans (sortI_perm ns).symm)
theorem ints_rep {G : Hp} : ∀ (ns : List Int), RepL K S G (ns.map D.int) (ns.map V.int)
  | [] => rfl
  | n :: r => ⟨_, _, rfl, rfl, ints_rep r⟩
def fSorted : FC := fun xs => match xs with
  | [x] => (lstD x).bind fun l => (intL l).map fun ns => .lst ((sortI ns).map D.int)
  | _ => none
theorem sc_sorted : SClF K S fSorted (rSortedI K) := fun G H xs d vs Q i r e k => by
  unfold fSorted at e
  split at e
  · rename_i x
    obtain ⟨v, rfl, rx⟩ := r.one
    obtain ⟨l, h, e⟩ := Option.bind_eq_some_iff.mp e
    obtain ⟨ns, h2, e⟩ := Option.map_eq_some_iff.mp e
    subst e
    obtain ⟨q, us, rfl, hq, t⟩ := lst_sq rx h
    have := intL_ok t h2
    subst this
    exact ⟨q, ns, rfl, i.seq hq, fun ns' p h1 h2 hp => k p _ hp ⟨_, rfl, by rw [sortI_eq h1 h2]; exact ints_rep _⟩⟩
  · cases e
/-! ### locks -/
variable {B : Base} {L : Lk} {G H : Hp} {env : Env} {σ : L2.St}
theorem ste_lk {p : Addr} (st : Ste B L G H) {o : HO} {H1 : Hp} (hn : ∀ b, b ≠ p → H1 b = H b) (h1 : H1 p = some o) {od : Obj} {ws : List (Key × V)} (ho : o = .frz od (.dK ws)) (gp : G p = some (.dK ws)) (hl : ∀ q ∈ L, q.1 = p → q.2 = o) : Ste B ((p, o) :: L) G H1 := by
  refine ⟨st.g0, fun b w e => ?_, st.new, fun b w e r l => ?_, fun q hq => ?_, fun b e => ?_, fun q hq hf => ?_⟩
  · by_cases hb : b = p
    · subst hb
      rw [gp] at e
      cases e
      exact .inr ⟨od, ws, rfl, by rw [h1, ho]⟩
    · rw [hn b hb]; exact st.inn b w e
  · have hb : b ≠ p := fun q => l _ (List.mem_cons_self ..) q.symm
    rw [hn b hb]
    exact st.keep b w e r fun q hq => l q (List.mem_cons_of_mem _ hq)
  · rcases List.mem_cons.mp hq with rfl | hq
    · exact h1
    · by_cases hb : q.1 = p
      · rw [hl q hq hb, hb]; exact h1
      · rw [hn _ hb]; exact st.lock q hq
  · obtain ⟨g1, h2, h3, h4⟩ := st.par b e
    have hb : b ≠ p := fun q => by rw [q, gp] at g1; cases g1
    refine ⟨g1, by rw [hn b hb]; exact h2, h3, fun q hq => ?_⟩
    rcases List.mem_cons.mp hq with rfl | hq
    · exact fun q => hb q.symm
    · exact h4 q hq
  · rcases List.mem_cons.mp hq with rfl | hq
    · exact (hf _ _ ho).elim
    · exact st.out q hq hf
theorem rel_lk {p : Addr} (st : Ste B L G H) (rl : Rel K S B L G H env σ) {o : HO} {L' : Lk} {H1 : Hp} (hn : ∀ b, b ≠ p → H1 b = H b) (hL : ∀ q ∈ L', q.1 = p ∨ q ∈ L) (gp : G p ≠ none) : Rel K S B L' G H1 env σ := by
  have hne : ∀ (j : Nat) (s : Sl) (a : Addr), env[j]? = some s → isOwn s = true → σ[j]? = some (some (V.ref a)) → a ≠ p := fun j s a h1 o1 h3 e => by
    subst e
    exact gp (own_free st rl h1 o1 h3).1
  refine ⟨paired_of (paired_len rl.at_) fun j s x h1 h2 => ?_, rl.nd, fun j s a h1 o1 h3 q hq => ?_⟩
  · obtain ⟨y, hy, q⟩ := rel_at rl h1
    rw [h2] at hy
    cases hy
    cases s with
    | no => trivial
    | val d => exact q
    | box d =>
      obtain ⟨a, w, rfl, g, b, ha, r⟩ := q
      exact ⟨a, w, rfl, g, b, by rw [hn a (hne j _ a h1 rfl h2)]; exact ha, r⟩
    | par d =>
      obtain ⟨a, w, rfl, b, ha, r⟩ := q
      exact ⟨a, w, rfl, b, by rw [hn a (hne j _ a h1 rfl h2)]; exact ha, r⟩
  · rcases hL q hq with e | hq
    · rw [e]; exact fun e => hne j s a h1 o1 h3 e.symm
    · exact rl.nl j s a h1 o1 h3 q hq
/-- what a lock gives: the state under it, and the state behind it -/
structure Lkd (K : PySem.W.Frag) (S : Nat → Addr) (B : Base) (L L1 : Lk) (G H H1 : Hp) (env : Env) (σ : L2.St) (p : Addr) (o : HO) (fin : Hp → Hp) : Prop where
  st : Ste B L1 G H1
  rl : Rel K S B L1 G H1 env σ
  ne : ∀ b u, H b = some u → (∀ kvs, u ≠ .dK kvs) → H1 b = some u
  at_ : ∀ G' H', Ste B L1 G' H' → H' p = some o
  st' : ∀ G' H', Same G G' → Ste B L1 G' H' → Ste B L G' (fin H')
  rl' : ∀ G' H' env σ, Same G G' → Ste B L1 G' H' → Rel K S B L1 G' H' env σ → Rel K S B L G' (fin H') env σ
  fin : ∀ H' b, b ≠ p → fin H' b = H' b
  sub : ∀ q ∈ L, q ∈ L1
  gp : G p ≠ none
theorem lk_ok {p : Addr} (st : Ste B L G H) (rl : Rel K S B L G H env σ) {ws : List (Key × V)} (gp : G p = some (.dK ws)) :
    (H p = some (.dK ws) ∧ ∀ od, ∃ L1, Lkd K S B L L1 G H (upd H p (.frz od (.dK ws))) env σ p (.frz od (.dK ws)) fun H' => upd H' p (.dK ws)) ∨ ∃ od L1, H p = some (.frz od (.dK ws)) ∧ Lkd K S B L L1 G H H env σ p (.frz od (.dK ws)) fun H' => H' := by
  have gn : G p ≠ none := by rw [gp]; exact fun e => nomatch e
  rcases st.inn p _ gp with hp | ⟨od, kvs, e, hp⟩
  · refine .inl ⟨hp, fun od => ⟨(p, .frz od (.dK ws)) :: L, ?_⟩⟩
    have nl : ∀ q ∈ L, q.1 ≠ p := fun q hq hb => by
      have h1 := st.lock q hq
      rw [hb, hp] at h1
      have h2 := st.out q hq fun o u e => by rw [e] at h1; cases h1
      rw [hb, gp] at h2
      cases h2
    have s1 : Ste B ((p, .frz od (.dK ws)) :: L) G (upd H p (.frz od (.dK ws))) := ste_lk (H1 := upd H p (.frz od (.dK ws))) st (fun b hb => upd_ne hb) upd_same rfl gp fun q hq hb => (nl q hq hb).elim
    have back : ∀ G' H', Same G G' → Ste B ((p, .frz od (.dK ws)) :: L) G' H' → Ste B L G' (upd H' p (.dK ws)) := fun G' H' sm s2 => by
      refine ⟨s2.g0, fun b w e => ?_, s2.new, fun b w e r l => ?_, fun q hq => ?_, fun b e => ?_, fun q hq hf => s2.out q (List.mem_cons_of_mem _ hq) hf⟩
      · by_cases hb : b = p
        · subst hb
          rw [sm _ _ gp] at e
          cases e
          exact .inl upd_same
        · rw [upd_ne hb]; exact s2.inn b w e
      · by_cases hb : b = p
        · subst hb
          have := st.keep b w e r l
          rw [hp] at this
          cases this
          exact upd_same
        · rw [upd_ne hb]
          refine s2.keep b w e r fun q hq => ?_
          rcases List.mem_cons.mp hq with rfl | hq
          · exact fun e => hb e.symm
          · exact l q hq
      · rw [upd_ne (nl q hq)]
        exact s2.lock q (List.mem_cons_of_mem _ hq)
      · obtain ⟨h1, h2, h3, h4⟩ := s2.par b e
        have hb : b ≠ p := fun q => by subst q; rw [sm _ _ gp] at h1; cases h1
        exact ⟨h1, by rw [upd_ne hb]; exact h2, h3, fun q hq => h4 q (List.mem_cons_of_mem _ hq)⟩
    refine ⟨s1, rel_lk (o := .dK ws) st rl (fun b hb => upd_ne hb) (fun q hq => (List.mem_cons.mp hq).elim (fun e => .inl (by rw [e])) .inr) gn, fun b u e hk => ?_, fun G' H' s2 => s2.lock _ (List.mem_cons_self ..), back, fun G' H' env σ sm s2 r2 => ?_, fun H' b hb => upd_ne hb, fun q hq => List.mem_cons_of_mem _ hq, gn⟩
    · have hb : b ≠ p := fun q => by subst q; rw [hp] at e; cases e; exact hk _ rfl
      rw [upd_ne hb]; exact e
    · exact rel_lk (o := .dK ws) s2 r2 (fun b hb => upd_ne hb) (fun q hq => .inr (List.mem_cons_of_mem _ hq)) (by rw [sm _ _ gp]; exact fun e => nomatch e)
  · cases e
    refine .inr ⟨od, (p, .frz od (.dK ws)) :: L, hp, ?_⟩
    have hl : ∀ q ∈ L, q.1 = p → q.2 = .frz od (.dK ws) := fun q hq hb => by
      have h1 := st.lock q hq
      rw [hb, hp] at h1
      exact (Option.some.inj h1).symm
    refine ⟨ste_lk st (fun b hb => rfl) hp rfl gp hl, rel_lk (o := .dK ws) st rl (fun b hb => rfl) (fun q hq => (List.mem_cons.mp hq).elim (fun e => .inl (by rw [e])) .inr) gn, fun b u e hk => e, fun G' H' s2 => s2.lock _ (List.mem_cons_self ..), fun G' H' sm s2 => ?_, fun G' H' env σ sm s2 r2 => ?_, fun H' b hb => rfl, fun q hq => List.mem_cons_of_mem _ hq, gn⟩
    · refine ⟨s2.g0, s2.inn, s2.new, fun b w e r l => ?_, fun q hq => s2.lock q (List.mem_cons_of_mem _ hq), fun b e => ?_, fun q hq hf => s2.out q (List.mem_cons_of_mem _ hq) hf⟩
      · by_cases hb : b = p
        · subst hb
          have := st.keep b w e r l
          rw [hp] at this
          cases this
          exact s2.lock _ (List.mem_cons_self ..)
        · refine s2.keep b w e r fun q hq => ?_
          rcases List.mem_cons.mp hq with rfl | hq
          · exact fun e => hb e.symm
          · exact l q hq
      · obtain ⟨h1, h2, h3, h4⟩ := s2.par b e
        exact ⟨h1, h2, h3, fun q hq => h4 q (List.mem_cons_of_mem _ hq)⟩
    · exact ⟨r2.at_, r2.nd, fun j s a h1 o1 h3 q hq => r2.nl j s a h1 o1 h3 q (List.mem_cons_of_mem _ hq)⟩
/-! paths: slots and their fields -/
abbrev Pth := Env → Option (D × Env)
def PthOk (K : PySem.W.Frag) (S : Nat → Addr) (p : Pth) (td : TE) : Prop := ∀ (B : Base) (L : Lk) (G H : Hp) (env env' : Env) (σ : L2.St) (d : D), Ste B L G H → Rel K S B L G H env σ → p env = some (d, env') →
  ∃ G' v, Same G G' ∧ Ste B L G' H ∧ Rel K S B L G' H env' σ ∧ Rep K S G' d v ∧ ∀ (H' : Hp) (R : VK), (∀ b u, H b = some u → (∀ kvs, u ≠ .dK kvs) → H' b = some u) → R v H' → td σ H' R
def pSlot (i : Nat) : Pth := fun env => match env[i]? with
  | some (.val d) => some (d, env)
  | some (.box d) => some (d, env.set i (.val d))
  | _ => none
def pFld (cs : List Nat) (f : Str) (p : Pth) : Pth := fun env => match p env with
  | some (.ins C fs, e) => if C ∈ cs then (fs.lookup f).map fun d => (d, e) else none
  | _ => none
theorem p_slot {i : Nat} : PthOk K S (pSlot i) (tVar i) := fun B L G H env env' σ d st rl h => by
  unfold pSlot at h
  split at h
  · rename_i d' h'
    cases h
    obtain ⟨x, hx, v, rfl, r⟩ := rel_at rl h'
    exact ⟨G, v, .refl _, st, rl, r, fun H' R _ q => ⟨v, hx, q⟩⟩
  · rename_i d' h'
    cases h
    obtain ⟨v, G', hx, s1, s2, s3, s4⟩ := thaw st rl h'
    exact ⟨G', v, s1, s2, s3, s4, fun H' R _ q => ⟨v, hx, q⟩⟩
  · cases h
theorem p_fld {cs : List Nat} {f : Str} {p : Pth} {td : TE} (hc : FldOk K S f cs) (hp : PthOk K S p td) : PthOk K S (pFld cs f p) (tFld K td f) := fun B L G H env env' σ d st rl h => by
  unfold pFld at h
  split at h
  · rename_i C fs e he
    split at h
    · rename_i hC
      obtain ⟨d', h1, h2⟩ := Option.map_eq_some_iff.mp h
      cases h2
      obtain ⟨G', v, s1, s2, s3, ⟨a, dx, ws, rfl, ga, rf⟩, s5⟩ := hp B L G H env _ σ _ st rl he
      obtain ⟨u, hu, ru⟩ := (lookF rf).2 d h1
      have ha := s2.inn.ins ga
      exact ⟨G', u, s1, s2, s3, ru, fun H' R hn q => s5 H' _ hn ⟨a, S C, dx, ws, u, rfl, hn a _ ha (fun kvs e => nomatch e), (hc C hC).1, (hc C hC).2, hu, q⟩⟩
    · cases h
  · cases h
/-! what is walked in a locked dict -/
inductive Wk where
  | keys | vals | items
def Wk.ds (w : Wk) (kvs : List (Key × D)) : List D := match w with
  | .keys => kvs.map fun kv => kD kv.1
  | .vals => kvs.map fun kv => kv.2
  | .items => kvs.map fun kv => .tup [kD kv.1, kv.2]
def Wk.it (w : Wk) (p : Addr) (od : Obj) (ws : List (Key × V)) : It := match w with
  | .keys => Itk p od ws
  | .vals => Itd p od ws
  | .items => Iti p od ws
def Wk.ti (w : Wk) (td : TE) : TI := fun σ H R => td σ H fun x H1 => ∃ d o kvs, x = .ref d ∧ H1 d = some (.frz o (.dK kvs)) ∧ R (w.it d o kvs) H1
theorem wk_ok {w : Wk} {L1 : Lk} {p : Addr} {od : Obj} {ws : List (Key × V)} {kvs : List (Key × D)} (r : RepK K S G kvs ws) (hl : ∀ G' H', Ste B L1 G' H' → H' p = some (.frz od (.dK ws))) : ItOk K S B L1 G (w.it p od ws) (w.ds kvs) := fun i G1 H1 sm st => by
  have hp := hl _ _ st
  have hlen : (w.ds kvs).length = ws.length := by cases w <;> simp [Wk.ds, repK_len r]
  refine ⟨fun h => ?_, fun d h => ?_⟩
  · have := List.getElem?_eq_none_iff.mp h
    cases w <;> exact ⟨hp, by omega⟩
  · have hi : i < ws.length := by
      have := (List.getElem?_eq_some_iff.mp h).1
      omega
    have hk : i < kvs.length := by rw [repK_len r]; exact hi
    have hg : kvs[i]? = some kvs[i] := by simp [hk]
    obtain ⟨v, hv, rv⟩ := repK_at (k := kvs[i].1) (d := kvs[i].2) r hg
    cases w with
    | keys =>
      refine ⟨⟨hp, hi⟩, fun x H2 ⟨e1, k, u, e2, e3⟩ => ?_⟩
      have : (kvs.map fun kv => kD kv.1)[i]? = some d := h
      rw [List.getElem?_map, hg] at this
      cases this
      rw [hv] at e2
      cases e2
      subst e1
      subst e3
      exact ⟨G1, .refl st.inn, kD_rep⟩
    | vals =>
      refine ⟨⟨hp, hi⟩, fun x H2 ⟨e1, k, e2⟩ => ?_⟩
      have : (kvs.map fun kv => kv.2)[i]? = some d := h
      rw [List.getElem?_map, hg] at this
      cases this
      rw [hv] at e2
      cases e2
      subst e1
      exact ⟨G1, .refl st.inn, rv.mono sm⟩
    | items =>
      refine ⟨⟨hp, hi⟩, fun x H2 ⟨T, k, u, e2, e3, hT, e4⟩ => ?_⟩
      have : (kvs.map fun kv => D.tup [kD kv.1, kv.2])[i]? = some d := h
      rw [List.getElem?_map, hg] at this
      cases this
      rw [hv] at e2
      cases e2
      subst e3
      subst e4
      have ex := Ex.new1 (o := .tup [kV kvs[i].1, v]) st.inn hT
      exact ⟨_, ex, T, _, rfl, .inl (.inl upd_same), .cons kD_rep (.cons ((rv.mono sm).mono ex.g) .nil)⟩
end
end
end Dv
namespace Dv
open PySem PySem.Spec PyProof.Rows L2
set_option autoImplicit false
noncomputable section
/-! ### walks over dicts, comprehensions of dicts -/
def noEx : Sr → Sr
  | .ex _ _ _ => .no
  | r => r
def noR {α : Type} : Res α → Res α
  | .ex _ _ _ => .no
  | r => r
def xForD (p : Pth) (w : Wk) (eg : Eg) (b : EvS) : EvS := fun env => match p env with
  | some (d, e) => match dctD d with
    | some kvs => noEx (forL eg b (w.ds kvs) e)
    | none => .no
  | none => .no
def xLcD (p : Pth) (w : Wk) (eg : Eg) (et : EvT) (ee : Ev) (vs : List Nat) : Ev := fun env => match p env with
  | some (d, e) => match dctD d with
    | some kvs => noR ((cmpL eg et ee vs (w.ds kvs) [] e).bind fun acc e' => .ok (.lst acc) (wipeE e' vs))
    | none => .no
  | none => .no
section
variable {K : PySem.W.Frag} {S : Nat → Addr} {X : Cx} {E : XK} {B : Base} {L L1 : Lk} {G H H1 : Hp} {env : Env} {σ : L2.St} {p : Addr} {o : HO} {fin : Hp → Hp}
theorem s_lk {st : Stmt} {t : TS} (h : PS X st t) : PS X st fun D σ H => t D σ H ∨ tLock t D σ H := ⟨fun pins s σ H D I q => q.elim (h.run pins s σ H D I) ((ps_lock h).run pins s σ H D I)⟩
theorem e_lk {e : Expr} {t : TE} (h : PE X e t) : PE X e fun σ H Q => t σ H Q ∨ tLockE t σ H Q := ⟨fun pins s σ H Q I q => q.elim (h.run pins s σ H Q I) ((pe_lock h).run pins s σ H Q I)⟩
/-- wi walks, as w says, the dict that td tells -/
def WkR (w : Wk) (td : TE) (wi : TI) : Prop := ∃ F : (It → Hp → Prop) → VK, (∀ σ H R, td σ H (F R) → wi σ H R) ∧ ∀ R a o kvs H1, H1 a = some (.frz o (.dK kvs)) → R (w.it a o kvs) H1 → F R (.ref a) H1
theorem wk_keys {td : TE} : WkR .keys td (iKeys td) := ⟨_, fun _ _ _ q => q, fun R a o kvs H1 h q => ⟨a, o, rfl, .inl ⟨kvs, h, q⟩⟩⟩
theorem wk_keysM {td : TE} : WkR .keys td (iKeysM td) := ⟨_, fun _ _ _ q => q, fun R a o kvs H1 h q => ⟨a, o, kvs, rfl, h, q⟩⟩
theorem wk_vals {td : TE} : WkR .vals td (iVals td) := ⟨_, fun _ _ _ q => q, fun R a o kvs H1 h q => ⟨a, o, kvs, rfl, h, q⟩⟩
theorem wk_items {td : TE} : WkR .items td (iItems td) := ⟨_, fun _ _ _ q => q, fun R a o kvs H1 h q => ⟨a, o, kvs, rfl, h, q⟩⟩
structure LkE (D D1 : Ends) (p : Addr) (o : HO) (fin : Hp → Hp) : Prop where
  nx : ∀ σ' H', H' p = some o → D.nx σ' (fin H') → D1.nx σ' H'
  rt : ∀ v H', H' p = some o → D.rt v (fin H') → D1.rt v H'
  bk : ∀ σ' H', H' p = some o → D.bk σ' (fin H') → D1.bk σ' H'
  ct : ∀ σ' H', H' p = some o → D.ct σ' (fin H') → D1.ct σ' H'
theorem PostS.lk {D D1 : Ends} {r : Sr} (lk : Lkd K S B L L1 G H H1 env σ p o fin) (hD : LkE D D1 p o fin) (h : PostS K S E B L G D (noEx r)) : PostS K S E B L1 G D1 r := by
  cases r with
  | no => exact h
  | nx e => exact fun σ' G' H' s st rl => hD.nx _ _ (lk.at_ _ _ st) (h σ' G' _ s (lk.st' _ _ s st) (lk.rl' _ _ _ _ s st rl))
  | rt d e => exact fun σ' G' H' s st rl v rv => hD.rt _ _ (lk.at_ _ _ st) (h σ' G' _ s (lk.st' _ _ s st) (lk.rl' _ _ _ _ s st rl) v rv)
  | rf d e => exact fun σ' G' H' s st rl a o ga ba ha r => hD.rt _ _ (lk.at_ _ _ st) (h σ' G' _ s (lk.st' _ _ s st) (lk.rl' _ _ _ _ s st rl) a o ga ba (by
      rw [lk.fin H' a (fun e => by
        subst e
        cases q : G a with
        | none => exact lk.gp q
        | some u => rw [s _ _ q] at ga; cases ga)]
      exact ha) r)
  | bk e => exact fun σ' G' H' s st rl => hD.bk _ _ (lk.at_ _ _ st) (h σ' G' _ s (lk.st' _ _ s st) (lk.rl' _ _ _ _ s st rl))
  | ct e => exact fun σ' G' H' s st rl => hD.ct _ _ (lk.at_ _ _ st) (h σ' G' _ s (lk.st' _ _ s st) (lk.rl' _ _ _ _ s st rl))
  | ex C fs e => exact h.elim
theorem s_forD {st : Stmt} {w : Wk} {pt : Pth} {td : TE} {wi : TI} {g : TG} {gs : List Nat} {eg : Eg} {eb : EvS} (hw : WkR w td wi) (hs : PS X st (tFor wi g (TS' X.K S E eb))) (hp : PthOk X.K S pt td) (sg : SndG X.K S gs eg g) : QS S X E st (xForD pt w eg eb) := ps_of (s_lk hs) fun D σ H ⟨B, L, G, env, st, rl, po⟩ => by
  obtain ⟨F, w1, w2⟩ := hw
  unfold xForD at po
  split at po
  · rename_i d e he
    split at po
    · rename_i kvs hd
      obtain ⟨G', v, sm, st', rl', rv, hr⟩ := hp B L G H env e σ d st rl he
      obtain ⟨a, ws, rfl, ga, _, t⟩ := dct_rep st'.inn rv hd
      have po' := po.up sm
      rcases lk_ok st' rl' ga with ⟨hpk, k⟩ | ⟨od, L1, hpk, lk⟩
      · refine .inr ⟨a, .dK ws, hpk, trivial, fun od => ?_⟩
        obtain ⟨L1, lk⟩ := k od
        exact w1 _ _ _ (hr _ _ lk.ne (w2 _ a od ws _ (lk.at_ _ _ lk.st) (for_core sg lk.st lk.rl (wk_ok t lk.at_) (PostS.lk lk ⟨fun _ _ h q => ⟨h, q⟩, fun _ _ h q => ⟨h, q⟩, fun _ _ h q => ⟨h, q⟩, fun _ _ h q => ⟨h, q⟩⟩ po'))))
      · exact .inl (w1 _ _ _ (hr _ _ lk.ne (w2 _ a od ws _ (lk.at_ _ _ lk.st) (for_core sg lk.st lk.rl (wk_ok t lk.at_) (PostS.lk lk ⟨fun _ _ h q => q, fun _ _ h q => q, fun _ _ h q => q, fun _ _ h q => q⟩ po')))))
    · exact po.elim
  · exact po.elim
theorem Post.lk {α : Type} {r : Res α} {P P1 : Hp → Hp → α → Env → Prop} (lk : Lkd K S B L L1 G H H1 env σ p o fin) (h : Post K S E B L σ G P (noR r)) (f : ∀ G' H' a e, Same G G' → Ste B L1 G' H' → P G' (fin H') a e → P1 G' H' a e) : Post K S E B L1 σ G P1 r := by
  cases r with
  | no => exact h
  | ex C fs e => exact h.elim
  | ok a e => exact fun G' H' s st rl => f _ _ _ _ s st (h G' _ s (lk.st' _ _ s st) (lk.rl' _ _ _ _ s st rl))
theorem plc_lk {Q Q1 : VK} {G' H' : Hp} {d : D} {e : Env} (lk : Lkd K S B L L1 G H H1 env σ p o fin) (hQ : ∀ v H', H' p = some o → Q v (fin H') → Q1 v H') (s : Same G G') (st : Ste B L1 G' H') (h : PLc K S B L σ Q G' (fin H') d e) : PLc K S B L1 σ Q1 G' H' d e := fun a u ga ba ha ho hl r => hQ _ _ (lk.at_ _ _ st) (h a u ga ba (by
  rw [lk.fin H' a (fun e => by
    subst e
    cases q : G a with
    | none => exact lk.gp q
    | some u => rw [s _ _ q] at ga; cases ga)]
  exact ha) ho (fun q hq => hl q (lk.sub q hq)) r)
/-- a comprehension over a locked dict -/
theorem lcD {w : Wk} {pt : Pth} {td : TE} {wi : TI} {g : TG} {gs vs : List Nat} {eg : Eg} {et : EvT} {ee : Ev} {tt : TT} {Q : VK} (hw : WkR w td wi) (hp : PthOk K S pt td) (sg : SndG K S gs eg g) (hv : ∀ i ∈ gs, i ∈ vs) (htt : ∀ σ H Q, TB K S E0 et σ H Q → tt σ H Q) (q : TF K S E (xLcD pt w eg et ee vs) σ H Q) :
    tLc wi g tt (TD K S E0 ee) vs σ H Q ∨ ∃ a u, H a = some u ∧ Mut (some u) ∧ ∀ od, tLc wi g tt (TD K S E0 ee) vs σ (upd H a (.frz od u)) fun v H' => H' a = some (.frz od u) ∧ Q v (upd H' a u) := by
  obtain ⟨F, w1, w2⟩ := hw
  obtain ⟨B, L, G, env, st, rl, po⟩ := q
  unfold xLcD at po
  split at po
  · rename_i d e he
    split at po
    · rename_i kvs hd
      obtain ⟨G', v, sm, st', rl', rv, hr⟩ := hp B L G H env e σ d st rl he
      obtain ⟨a, ws, rfl, ga, _, t⟩ := dct_rep st'.inn rv hd
      have po' := po.up sm
      rcases lk_ok st' rl' ga with ⟨hpk, k⟩ | ⟨od, L1, hpk, lk⟩
      · refine .inr ⟨a, .dK ws, hpk, trivial, fun od => ?_⟩
        obtain ⟨L1, lk⟩ := k od
        exact w1 _ _ _ (hr _ _ lk.ne (w2 _ a od ws _ (lk.at_ _ _ lk.st) (lc_core sg hv htt lk.st lk.rl (wk_ok t lk.at_) (Post.lk lk po' fun G' H' a' e s st h => plc_lk (Q1 := fun v H' => H' a = some (.frz od (.dK ws)) ∧ Q v (upd H' a (.dK ws))) lk (fun _ _ h q => ⟨h, q⟩) s st h))))
      · exact .inl (w1 _ _ _ (hr _ _ lk.ne (w2 _ a od ws _ (lk.at_ _ _ lk.st) (lc_core sg hv htt lk.st lk.rl (wk_ok t lk.at_) (Post.lk lk po' fun G' H' a' e s st h => plc_lk lk (fun _ _ h q => q) s st h)))))
    · exact po.elim
  · exact po.elim
variable {iter tg elt kx vx : Expr} {ee ek ev : Ev} {eg : Eg} {g : TG} {gs vs : List Nat} {et : EvT} {pos : Pos} {ei : EvI}
theorem qf_lcD {ifs : List Expr} {scope : Scope} {own : List (Str × Nat)} {tt : TT} {w : Wk} {pt : Pth} {td : TE} {wi : TI} (hc : X.calm = true) (hN : X.N.Nodup) (hi : PI X tg iter wi) (hw : WkR w td wi) (hp : PthOk X.K S pt td) (ok : BlkOk X.N X.env.scope scope own) (hvs : own.map (·.2) = vs)
    (hg : ∀ (s : Shared) (H : Hp) (C : Addr) (cl : List (Str × Addr)) (fp : List Addr), PG (X.blk s H scope (compEnvC scope cl C X.env) fp) tg g) (sg : SndG X.K S gs eg g) (hv : ∀ i ∈ gs, i ∈ vs)
    (ht : ∀ (s : Shared) (H : Hp) (C : Addr) (cl : List (Str × Addr)) (fp : List Addr), PTs (X.blk s H scope (compEnvC scope cl C X.env) fp) ifs tt) (htt : ∀ σ H Q, TB X.K S E0 et σ H Q → tt σ H Q)
    (he : ∀ (s : Shared) (H : Hp) (C : Addr) (cl : List (Str × Addr)) (fp : List Addr), QE S (X.blk s H scope (compEnvC scope cl C X.env) fp) E0 elt ee) (hs : ∀ x, foldedSetIterable iter X.env x = pure x := by intro _; rfl) :
    QF S X E (.ListComp elt [⟨tg, iter, ifs, 0⟩] scope pos) (xLcD pt w eg et ee vs) := by
  subst hvs
  exact pe_of (e_lk (pe_lc hc hN hi ok hg ht he hs)) fun _ _ _ q => lcD hw hp sg hv htt q
theorem s_setLcD {ifs : List Expr} {scope : Scope} {own : List (Str × Nat)} {tt : TT} {w : Wk} {pt : Pth} {td : TE} {wi : TI} {i : Nat} {y : Str} {py spos : Pos} (hc : X.calm = true) (hN : X.N.Nodup) (hy : X.N[i]? = some y) (hyl : X.env.scope.names.lookup y = some .local)
    (hsw : swapsWith (.ListComp elt [⟨tg, iter, ifs, 0⟩] scope pos) (some (.Name y py)) spos.line X.env = pure true) (hi : PI X tg iter wi) (hw : WkR w td wi) (hp : PthOk X.K S pt td) (ok : BlkOk X.N X.env.scope scope own) (hvs : own.map (·.2) = vs)
    (hg : ∀ (s : Shared) (H : Hp) (C : Addr) (cl : List (Str × Addr)) (fp : List Addr), PG (X.blk s H scope (compEnvC scope cl C X.env) fp) tg g) (sg : SndG X.K S gs eg g) (hv : ∀ i ∈ gs, i ∈ vs)
    (ht : ∀ (s : Shared) (H : Hp) (C : Addr) (cl : List (Str × Addr)) (fp : List Addr), PTs (X.blk s H scope (compEnvC scope cl C X.env) fp) ifs tt) (htt : ∀ σ H Q, TB X.K S E0 et σ H Q → tt σ H Q)
    (he : ∀ (s : Shared) (H : Hp) (C : Addr) (cl : List (Str × Addr)) (fp : List Addr), QE S (X.blk s H scope (compEnvC scope cl C X.env) fp) E0 elt ee) (hs : ∀ x, foldedSetIterable iter X.env x = pure x := by intro _; rfl) :
    QS S X E (.Assign [.Name y py] (.ListComp elt [⟨tg, iter, ifs, 0⟩] scope pos) spos) (xBox i (xLcD pt w eg et ee vs)) := by
  subst hvs
  refine ps_of (s_lk (ps_setLc (te := TD X.K S E0 ee) hc hN hy hyl hsw hi ok hg ht he hs)) fun D σ H q => ?_
  obtain ⟨B, L, G, env, st, rl, po⟩ := q
  refine lcD (Q := fun v H' => D.nx (σ.set i (some v)) H') hw hp sg hv htt ⟨B, L, G, env, st, rl, Post.st po fun G' H' d e s st' rl' p a o h1 h2 h3 h4 h5 h6 => ?_⟩
  split at p
  · exact p.elim
  · exact p _ G' H' (.refl _) st' (rel_box rl' h1 h2 h3 h4 h5 h6)
  · exact p.elim
/-! comprehensions of dicts -/
def dcmpL (eg : Eg) (et : EvT) (ek ev : Ev) (vs : List Nat) : List D → List (Key × D) → Env → Res (List (Key × D))
  | [], acc, env => .ok acc env
  | x :: xs, acc, env => match eg x (wipeE env vs) with
    | none => .no
    | some e1 => match et e1 with
      | .ok true e2 => match ek e2 with
        | .ok y e3 => match ev e3 with
          | .ok z e4 => match keyD y with
            | some k => if acc.length < 1000000 then dcmpL eg et ek ev vs xs (putKD acc k z) e4 else .no
            | none => .no
          | _ => .no
        | _ => .no
      | .ok false e2 => dcmpL eg et ek ev vs xs acc e2
      | _ => .no
theorem dc_core' {tt : TT} {Q : VK} {G1 : Hp} {e1 : Env} {J : It} {ds : List D} (sg : SndG K S gs eg g) (hv : ∀ i ∈ gs, i ∈ vs) (htt : ∀ σ H Q, TB K S E0 et σ H Q → tt σ H Q) (st1 : Ste B L G1 H1) (rl1 : Rel K S B L G1 H1 e1 σ) (hJ : ItOk K S B L G1 J ds)
    (p1 : Post K S E B L σ G1 (PLc K S B L σ Q) ((dcmpL eg et ek ev vs ds [] e1).bind fun acc e' => .ok (.dct acc) (wipeE e' vs))) :
    ∀ P, H1 P = none → ∃ W : Nat → Nat → Hp → Prop, (∃ m, W 0 m (upd H1 P (.dK []))) ∧ ∀ i m H, W i m H →
      (J.stop i H ∧ Q (.ref P) H) ∨ (J.go i H ∧ ∃ Nx : Hp → Prop, (∀ H', Nx H' → ∃ m', m' < m ∧ W (i + 1) m' H') ∧ ∀ x H', J.yld i H x H' → g x (wipe σ vs) H' fun σ2 H2 => wipe σ2 vs = wipe σ vs ∧ tt σ2 H2 fun b H3 =>
        if b = true then TD K S E0 ek σ2 H3 fun y H4 => TD K S E0 ev σ2 H4 fun z H5 => ∃ kvs k, y = kV k ∧ H5 P = some (.dK kvs) ∧ kvs.length < sizeLine ∧ Nx (upd H5 P (.dK (putK kvs k z))) else Nx H3) := by
  intro P hP
  have hbP := st1.free hP
  have hlP := st1.nolock hP
  refine ⟨fun i m H' => ∃ G' env' acc ws, Same G1 G' ∧ Ste B ((P, .dK ws) :: L) G' H' ∧ Rel K S B ((P, .dK ws) :: L) G' H' (wipeE env' vs) (wipe σ vs) ∧ RepK K S G' acc ws ∧ m = (ds.drop i).length ∧
    Post K S E B L σ G' (PLc K S B L σ Q) ((dcmpL eg et ek ev vs (ds.drop i) acc env').bind fun acc e' => .ok (.dct acc) (wipeE e' vs)),
    ⟨_, G1, e1, [], [], .refl _, ste_pin st1 hP, ?_, rfl, rfl, p1⟩, ?_⟩
  · exact rel_off (rel_wipes (rel_pin rl1 st1.inn hP)) wipe_wipe (wipe_length _ _)
  rintro i m H' ⟨G', env', acc, ws, sm, st', rl', ra, rfl, po'⟩
  have stU := ste_unpin st' hbP
  obtain ⟨t1, t2⟩ := hJ i G' H' sm stU
  have hlen : acc.length = ws.length := repK_len ra
  cases hd : ds[i]? with
  | none =>
    have e : ds.drop i = [] := List.drop_eq_nil_iff.mpr (List.getElem?_eq_none_iff.mp hd)
    rw [e] at po'
    have rlE : Rel K S B L G' H' (wipeE env' vs) σ := rel_off (rel_unpin rl') wipe_wipe.symm (wipe_length _ _).symm
    refine .inl ⟨t1 hd, po' G' H' (.refl _) stU rlE P (.dK ws) (st'.out _ (List.mem_cons_self ..) (fun _ _ h => by cases h)) hbP (st'.lock _ (List.mem_cons_self ..)) (fun j s h1 o1 h3 => ?_) hlP ⟨ws, rfl, ra⟩⟩
    have hj : j ∉ vs := fun hj => by
      rw [wipeE_at, if_pos hj] at h1
      split at h1 <;> cases h1
      cases o1
    refine rl'.nl j s P h1 o1 ?_ (P, .dK ws) (List.mem_cons_self ..) rfl
    rw [wipe_at, if_neg hj]
    exact h3
  | some d =>
    obtain ⟨g1, g2⟩ := t2 d hd
    have e := drop_at hd
    rw [e] at po'
    refine .inr ⟨g1, fun H2 => ∃ G2 env2 acc2 ws2, Same G1 G2 ∧ Ste B ((P, .dK ws2) :: L) G2 H2 ∧ Rel K S B ((P, .dK ws2) :: L) G2 H2 (wipeE env2 vs) (wipe σ vs) ∧ RepK K S G2 acc2 ws2 ∧
      Post K S E B L σ G2 (PLc K S B L σ Q) ((dcmpL eg et ek ev vs (ds.drop (i + 1)) acc2 env2).bind fun acc e' => .ok (.dct acc) (wipeE e' vs)),
      fun H2 ⟨G2, env2, acc2, ws2, a1, a2, a3, a4, a5⟩ => ⟨(ds.drop (i + 1)).length, by rw [e, List.length_cons]; omega, G2, env2, acc2, ws2, a1, a2, a3, a4, rfl, a5⟩, fun x H2 hy => ?_⟩
    obtain ⟨G2, ex, rx⟩ := g2 x H2 hy
    have st2 := st'.ex ex
    have rl2 := rl'.ex ex
    have cm : dcmpL eg et ek ev vs (d :: ds.drop (i + 1)) acc env' = match eg d (wipeE env' vs) with
      | none => .no
      | some e1 => match et e1 with
        | .ok true e2 => match ek e2 with
          | .ok y e3 => match ev e3 with
            | .ok z e4 => match keyD y with
              | some k => if acc.length < 1000000 then dcmpL eg et ek ev vs (ds.drop (i + 1)) (putKD acc k z) e4 else .no
              | none => .no
            | _ => .no
          | _ => .no
        | .ok false e2 => dcmpL eg et ek ev vs (ds.drop (i + 1)) acc e2
        | _ => .no := rfl
    rw [cm] at po'
    cases hg : eg d (wipeE env' vs) with
    | none => rw [hg] at po'; exact po'.elim
    | some e3 =>
      rw [hg] at po'
      dsimp only at po'
      refine sg B _ G2 H2 (wipeE env' vs) e3 (wipe σ vs) d x _ st2 rl2 rx hg fun σ3 rl3 w3 => ⟨(w3 vs hv).trans wipe_wipe, ?_⟩
      have hσ : wipe σ3 vs = wipe σ vs := (w3 vs hv).trans wipe_wipe
      have lσ : σ3.length = σ.length := by
        have := congrArg List.length hσ
        rw [wipe_length, wipe_length] at this
        exact this
      refine htt _ _ _ ⟨B, _, G2, e3, st2, rl3, ?_⟩
      cases ht : et e3 with
      | no => rw [ht] at po'; exact po'.elim
      | ex C fs e4 => rw [ht] at po'; exact po'.elim
      | ok b e4 =>
        rw [ht] at po'
        intro G4 H4 sm4 st4 rl4 c hc
        cases hc
        cases b with
        | false =>
          rw [if_neg (by decide)]
          exact ⟨G4, e4, acc, ws, (sm.trans ex.g).trans sm4, st4, rel_off (rel_wipes rl4) (by rw [wipe_wipe]; exact hσ.symm) (by rw [wipe_length, lσ]), (ra.mono ex.g).mono sm4, po'.up (ex.g.trans sm4)⟩
        | true =>
          rw [if_pos rfl]
          dsimp only at po'
          refine ⟨B, _, G4, e4, st4, rl4, ?_⟩
          cases he : ek e4 with
          | no => rw [he] at po'; exact po'.elim
          | ex C fs e5 => rw [he] at po'; exact po'.elim
          | ok y e5 =>
            rw [he] at po'
            dsimp only at po'
            intro G5 H5 sm5 st5 rl5 v rv
            refine ⟨B, _, G5, e5, st5, rl5, ?_⟩
            cases he2 : ev e5 with
            | no => rw [he2] at po'; exact po'.elim
            | ex C fs e6 => rw [he2] at po'; exact po'.elim
            | ok z e6 =>
              rw [he2] at po'
              dsimp only at po'
              intro G6 H6 sm6 st6 rl6 u ru
              cases hk : keyD y with
              | none => rw [hk] at po'; exact po'.elim
              | some k =>
                rw [hk] at po'
                dsimp only at po'
                by_cases hz : acc.length < 1000000
                · rw [if_pos hz] at po'
                  refine ⟨ws, k, key_rep rv hk, st6.lock _ (List.mem_cons_self ..), len9 (by rw [← hlen]; exact hz), G6, e6, putKD acc k z, putK ws k u, (((sm.trans ex.g).trans sm4).trans sm5).trans sm6, ste_repin st6 hbP hlP (fun _ _ h => by cases h), ?_, repK_put ru ((((ra.mono ex.g).mono sm4).mono sm5).mono sm6), po'.up (((ex.g.trans sm4).trans sm5).trans sm6)⟩
                  exact rel_off (rel_wipes (rel_repin rl6)) (by rw [wipe_wipe]; exact hσ.symm) (by rw [wipe_length, lσ])
                · rw [if_neg hz] at po'
                  exact po'.elim
def xDc (ei : EvI) (eg : Eg) (et : EvT) (ek ev : Ev) (vs : List Nat) : Ev := fun env => (ei env).bind fun ds e => (dcmpL eg et ek ev vs ds [] e).bind fun acc e' => .ok (.dct acc) (wipeE e' vs)
def xDcD (p : Pth) (w : Wk) (eg : Eg) (et : EvT) (ek ev : Ev) (vs : List Nat) : Ev := fun env => match p env with
  | some (d, e) => match dctD d with
    | some kvs => noR ((dcmpL eg et ek ev vs (w.ds kvs) [] e).bind fun acc e' => .ok (.dct acc) (wipeE e' vs))
    | none => .no
  | none => .no
theorem dcD {w : Wk} {pt : Pth} {td : TE} {wi : TI} {tt : TT} {Q : VK} (hw : WkR w td wi) (hp : PthOk K S pt td) (sg : SndG K S gs eg g) (hv : ∀ i ∈ gs, i ∈ vs) (htt : ∀ σ H Q, TB K S E0 et σ H Q → tt σ H Q) (q : TF K S E (xDcD pt w eg et ek ev vs) σ H Q) :
    tDc wi g tt (TD K S E0 ek) (TD K S E0 ev) vs σ H Q ∨ ∃ a u, H a = some u ∧ Mut (some u) ∧ ∀ od, tDc wi g tt (TD K S E0 ek) (TD K S E0 ev) vs σ (upd H a (.frz od u)) fun v H' => H' a = some (.frz od u) ∧ Q v (upd H' a u) := by
  obtain ⟨F, w1, w2⟩ := hw
  obtain ⟨B, L, G, env, st, rl, po⟩ := q
  unfold xDcD at po
  split at po
  · rename_i d e he
    split at po
    · rename_i kvs hd
      obtain ⟨G', v, sm, st', rl', rv, hr⟩ := hp B L G H env e σ d st rl he
      obtain ⟨a, ws, rfl, ga, _, t⟩ := dct_rep st'.inn rv hd
      have po' := po.up sm
      rcases lk_ok st' rl' ga with ⟨hpk, k⟩ | ⟨od, L1, hpk, lk⟩
      · refine .inr ⟨a, .dK ws, hpk, trivial, fun od => ?_⟩
        obtain ⟨L1, lk⟩ := k od
        exact w1 _ _ _ (hr _ _ lk.ne (w2 _ a od ws _ (lk.at_ _ _ lk.st) (dc_core' sg hv htt lk.st lk.rl (wk_ok t lk.at_) (Post.lk lk po' fun G' H' a' e s st h => plc_lk (Q1 := fun v H' => H' a = some (.frz od (.dK ws)) ∧ Q v (upd H' a (.dK ws))) lk (fun _ _ h q => ⟨h, q⟩) s st h))))
      · exact .inl (w1 _ _ _ (hr _ _ lk.ne (w2 _ a od ws _ (lk.at_ _ _ lk.st) (dc_core' sg hv htt lk.st lk.rl (wk_ok t lk.at_) (Post.lk lk po' fun G' H' a' e s st h => plc_lk lk (fun _ _ h q => q) s st h)))))
    · exact po.elim
  · exact po.elim
theorem qf_dcD {ifs : List Expr} {scope : Scope} {own : List (Str × Nat)} {tt : TT} {w : Wk} {pt : Pth} {td : TE} {wi : TI} (hc : X.calm = true) (hN : X.N.Nodup) (hi : PI X tg iter wi) (hw : WkR w td wi) (hp : PthOk X.K S pt td) (ok : BlkOk X.N X.env.scope scope own) (hvs : own.map (·.2) = vs)
    (hg : ∀ (s : Shared) (H : Hp) (C : Addr) (cl : List (Str × Addr)) (fp : List Addr), PG (X.blk s H scope (compEnvC scope cl C X.env) fp) tg g) (sg : SndG X.K S gs eg g) (hv : ∀ i ∈ gs, i ∈ vs)
    (ht : ∀ (s : Shared) (H : Hp) (C : Addr) (cl : List (Str × Addr)) (fp : List Addr), PTs (X.blk s H scope (compEnvC scope cl C X.env) fp) ifs tt) (htt : ∀ σ H Q, TB X.K S E0 et σ H Q → tt σ H Q)
    (hk : ∀ (s : Shared) (H : Hp) (C : Addr) (cl : List (Str × Addr)) (fp : List Addr), QE S (X.blk s H scope (compEnvC scope cl C X.env) fp) E0 kx ek) (he : ∀ (s : Shared) (H : Hp) (C : Addr) (cl : List (Str × Addr)) (fp : List Addr), QE S (X.blk s H scope (compEnvC scope cl C X.env) fp) E0 vx ev) (hs : ∀ x, foldedSetIterable iter X.env x = pure x := by intro _; rfl) :
    QF S X E (.DictComp kx vx [⟨tg, iter, ifs, 0⟩] scope pos) (xDcD pt w eg et ek ev vs) := by
  subst hvs
  exact pe_of (e_lk (pe_dc hc hN hi ok hg ht hk he hs)) fun _ _ _ q => dcD hw hp sg hv htt q
theorem qf_dc {ifs : List Expr} {scope : Scope} {own : List (Str × Nat)} {tt : TT} (hc : X.calm = true) (hN : X.N.Nodup) (hi : QI S X E tg iter ei) (ok : BlkOk X.N X.env.scope scope own) (hvs : own.map (·.2) = vs)
    (hg : ∀ (s : Shared) (H : Hp) (C : Addr) (cl : List (Str × Addr)) (fp : List Addr), PG (X.blk s H scope (compEnvC scope cl C X.env) fp) tg g) (sg : SndG X.K S gs eg g) (hv : ∀ i ∈ gs, i ∈ vs)
    (ht : ∀ (s : Shared) (H : Hp) (C : Addr) (cl : List (Str × Addr)) (fp : List Addr), PTs (X.blk s H scope (compEnvC scope cl C X.env) fp) ifs tt) (htt : ∀ σ H Q, TB X.K S E0 et σ H Q → tt σ H Q)
    (hk : ∀ (s : Shared) (H : Hp) (C : Addr) (cl : List (Str × Addr)) (fp : List Addr), QE S (X.blk s H scope (compEnvC scope cl C X.env) fp) E0 kx ek) (he : ∀ (s : Shared) (H : Hp) (C : Addr) (cl : List (Str × Addr)) (fp : List Addr), QE S (X.blk s H scope (compEnvC scope cl C X.env) fp) E0 vx ev) (hs : ∀ x, foldedSetIterable iter X.env x = pure x := by intro _; rfl) :
    QF S X E (.DictComp kx vx [⟨tg, iter, ifs, 0⟩] scope pos) (xDc ei eg et ek ev vs) := by
  subst hvs
  exact pe_of (pe_dc hc hN hi ok hg ht hk he hs) fun σ H Q ⟨B, L, G, env, st, rl, po⟩ => ⟨B, L, G, env, st, rl, po.then fun G1 H1 ds e1 sm1 st1 rl1 p1 J hJ => dc_core' sg hv htt st1 rl1 hJ p1⟩
end
end
end Dv
namespace Dv
open PySem PySem.Spec PyProof.Rows L2
set_option autoImplicit false
noncomputable section
/-! ### texts: f-strings, join -/
def xFmt (a : Ev) : Ev := fun env => (a env).bind fun x e => match x with
  | .str s => if s.length ≤ 1000000 then .ok (.str s) e else .no
  | .int i => if i.natAbs.log2 < 1920 then .ok (.str (toString i)) e else .no
  | _ => .no
abbrev EvJ := Str → Env → Res Str
def jNil : EvJ := fun acc env => .ok acc env
def jCons (a : Ev) (r : EvJ) : EvJ := fun acc env => (a env).bind fun x e => match x with
  | .str y => if (acc ++ y).length ≤ 1000000 then r (acc ++ y) e else .no
  | _ => .no
def xJoined (f : EvJ) : Ev := fun env => (f Str.empty env).bind fun s e => .ok (.str s) e
def strL : List D → Option (List Str)
  | [] => some []
  | .str s :: r => (strL r).map (s :: ·)
  | _ => none
def xJoin (a l : Ev) : Ev := fun env => (a env).bind fun x e1 => match x with
  | .str s => (l e1).bind fun y e2 => match seqD y with
    | some ds => match strL ds with
      | some ys => if (ys.map (·.length)).sum + ys.length * s.length ≤ 1000000 then .ok (.str (Txt.join s ys)) e2 else .no
      | none => .no
    | none => .no
  | _ => .no
section
variable {K : PySem.W.Frag} {S : Nat → Addr} {X : Cx} {E : XK} {a e l : Expr} {es : List Expr} {ea ee el : Ev} {f : EvJ} {pos apos : Pos}
theorem line10' {n : Nat} (h : n ≤ 1000000) : n ≤ sizeLine := by
  have : sizeLine = 16777216 := sizeLine_eq
  omega
theorem q_fmt (h : QE S X E e ee) : QE S X E (.FormattedValue e (-1) none pos) (xFmt ee) := pe_of (pe_fmt h) fun σ H Q ⟨B, L, G, env, st, rl, po⟩ => ⟨B, L, G, env, st, rl, po.then fun G1 H1 x e1 sm1 st1 rl1 p1 v rv => by
  split at p1
  · rename_i s
    split at p1
    · rename_i hs
      exact .inl ⟨s, rv, line10' hs, p1 G1 H1 (.refl _) st1 rl1 _ rfl⟩
    · exact p1.elim
  · rename_i i
    split at p1
    · rename_i hs
      exact .inr ⟨i, rv, hs, p1 G1 H1 (.refl _) st1 rl1 _ rfl⟩
    · exact p1.elim
  · exact p1.elim⟩
def QJ (S : Nat → Addr) (X : Cx) (E : XK) (es : List Expr) (f : EvJ) : Prop := ∃ ts, PJ X es ts ∧ ∀ (acc : Str) (σ : L2.St) (H : Hp) (Q : Str → Hp → Prop), Tx X.K S E (fun _ _ b c => b = c) (f acc) σ H Q → tJs ts acc σ H Q
theorem j_nil : QJ S X E [] jNil := ⟨[], .nil, fun acc σ H Q ⟨B, L, G, env, st, rl, po⟩ => po G H (.refl _) st rl acc rfl⟩
theorem j_cons (h : QE S X E e ee) (hr : QJ S X E es f) : QJ S X E (e :: es) (jCons ee f) := by
  obtain ⟨ts, p, k⟩ := hr
  refine ⟨_, .cons h p, fun acc σ H Q ⟨B, L, G, env, st, rl, po⟩ => ⟨B, L, G, env, st, rl, po.then fun G1 H1 x e1 sm1 st1 rl1 p1 v rv => ?_⟩⟩
  split at p1
  · rename_i y
    split at p1
    · rename_i hs
      exact ⟨y, rv, line10' hs, k _ _ _ _ ⟨B, L, G1, e1, st1, rl1, p1⟩⟩
    · exact p1.elim
  · exact p1.elim
theorem q_joined {v1 v2 : Expr} {rest : List Expr} (h : QJ S X E (v1 :: v2 :: rest) f) : QE S X E (.JoinedStr (v1 :: v2 :: rest) pos) (xJoined f) := by
  obtain ⟨ts, p, k⟩ := h
  exact pe_of (pe_joined p) fun σ H Q ⟨B, L, G, env, st, rl, po⟩ => k _ _ _ _ ⟨B, L, G, env, st, rl, po.then fun G1 H1 x e1 sm1 st1 rl1 p1 v rv => by
    subst rv
    exact p1 G1 H1 (.refl _) st1 rl1 _ rfl⟩
theorem q_joined1 (h : QE S X E e ee) : QE S X E (.JoinedStr [e] pos) ee := pe_joined1 h
theorem strL_ok {G : Hp} : ∀ {ds : List D} {vs : List V} {ys : List Str}, RepL K S G ds vs → strL ds = some ys → vs = ys.map V.str
  | [], _, ys, t, e => by cases t; cases e; rfl
  | x :: r, _, ys, ⟨v, ws, e1, q, t⟩, e => by
    subst e1
    cases x with
    | str s =>
      obtain ⟨zs, h1, h2⟩ := Option.map_eq_some_iff.mp (show (strL r).map (s :: ·) = some ys from e)
      subst h2
      cases q
      rw [strL_ok t h1]
      rfl
    | _ => cases e
theorem q_join (ho : QE S X E a ea) (hl : QE S X E l el) (hs : starEach [l] X.env = [(false, eval l X.env)] := by rfl) (hbase : attributeBase a "join" X.env (eval a X.env) = eval a X.env := by rfl) (hline : (apos.endLine == pos.line) = true := by rfl) : QE S X E (.Call (.Attribute a "join" apos) [l] [] pos) (xJoin ea el) := pe_of (pe_join ho hl hs hbase hline) fun σ H Q ⟨B, L, G, env, st, rl, po⟩ => ⟨B, L, G, env, st, rl, po.then fun G1 H1 x e1 sm1 st1 rl1 p1 v rv => by
  split at p1
  · rename_i s
    refine ⟨⟨s, rv⟩, B, L, G1, e1, st1, rl1, p1.then fun G2 H2 y e2 sm2 st2 rl2 p2 w rw' => ?_⟩
    split at p2
    · rename_i ds hd
      split at p2
      · rename_i ys hy
        split at p2
        · rename_i hz
          obtain ⟨q, vs, rfl, hq, t⟩ := seq_sq rw' hd
          have := strL_ok t hy
          subst this
          exact ⟨s, q, ys, rv, rfl, hq.elim (fun h => .inl (st2.inn.seq h)) (fun h => .inr (st2.inn.tup h)), by omega, p2 G2 H2 (.refl _) st2 rl2 _ rfl⟩
        · exact p2.elim
      · exact p2.elim
    · exact p2.elim
  · exact p1.elim⟩
end
end
end Dv
namespace Dv
open PySem PySem.Spec PyProof.Rows L2
set_option autoImplicit false
noncomputable section
/-! ### x == y, x != y by the class's own __eq__, any answer -/
structure EqOf (K : PySem.W.Frag) (C f : Addr) : Prop where
  eq : PySem.W.findIn K (.ref C) "__eq__" = some (some (.ref f))
  ne : PySem.W.findIn K (.ref C) "__ne__" = some (some (.builtin "object.__ne__"))
  fn : PySem.W.isFn K (.ref f) = true
  ob : PySem.W.subIn K (.ref C) (.type "object") = some true
/-- what may stand on the right -/
def YT (K : PySem.W.Frag) (C : Addr) (H : Hp) (y : V) : Prop := (∃ b dy gs, y = .ref b ∧ H b = some (.ins C dy gs)) ∨ (∃ i, y = .int i ∧ PySem.W.subIn K (.type "int") (.ref C) = some false)
def rOwn (K : PySem.W.Frag) (C : Addr) (sp : Sp) (E : XK) (neg : Bool) : R2 := fun x y H Q => ∃ a dx fs, x = .ref a ∧ H a = some (.ins C dx fs) ∧ YT K C H y ∧ sp [x, y] H (fun v H' => ∃ b, v = .bl b ∧ Q (.bl (if neg then !b else b)) H') E
section
variable {X : Cx} {pins : List (Addr × Obj)} {σ : L2.St} {H : Hp} {s : Shared} {C f : Addr} {fd : FuncData} {ps : List Str} {sp : Sp} {CX : CXT} {n : Nat} {E : XK}
theorem yt_looks (I : Inv X pins σ H s) {y : V} {u : Value} (ry : RelV y u) (h : YT X.K C H y) : ∃ tb, PySem.W.Looks (model X.prog X.w) s.heap (typeOf u) tb ∧ PySem.W.notFirst X.K C tb = true := by
  rcases h with ⟨b, dy, gs, rfl, hb⟩ | ⟨i, rfl, hs⟩
  · cases ry
    obtain ⟨mB, J, _⟩ := ins_get I.hok hb
    obtain ⟨od, J, _⟩ := J.look
    exact ⟨.ref C, J.type, by simp [PySem.W.notFirst]⟩
  · obtain ⟨t, rfl⟩ := ry
    refine ⟨.type "int", PySem.W.Looks.of_pure rfl, ?_⟩
    unfold PySem.W.notFirst
    rw [hs]
    simp
/-- the own def runs at A -/
theorem own_run {A : Around} {neg : Bool} (F : FnOk X.prog X.w X.K X.mg X.base CX n f fd ps sp) (hb : Binds X.K fd ps []) (hx : Passes CX X E) (hr : Room n A) (hfr : A.frames = X.A.frames) (I : Inv X pins σ H s) {x y : V} {v u : Value} (rx : RelV x v) (ry : RelV y u) {Q : VK}
    (h : sp [x, y] H (fun z H' => ∃ b, z = .bl b ∧ Q (.bl (if neg then !b else b)) H') E) :
    wpAny (model X.prog X.w) A (call (.ref f) [v, u]) (fun r s' => ∃ b, r = .bool b ∧ EP X pins σ Q (.bool (if neg then !b else b)) s') X.xe s := by
  have e := I.env0
  have e0 : Env0 X.prog X.w X.K X.mg X.base A X.stack s H := ⟨hfr.trans e.frames, e.mod, e.bs, e.bsz, e.funs, e.frf, e.hok, e.bare⟩
  have hl := F.len _ _ _ _ h
  have r2 : Vals [x, y] [v, u] := .cons rx (.cons ry .nil)
  have hbb := hb s [v, u] I.kIn (by simpa using hl)
  refine wpAny_call (codeAny_mono (F.run A X.stack s H ⟨[v, u], []⟩ [v, u] [x, y] _ E hr e0 (by simpa using hbb) r2 h) fun r s' hq => ?_)
  match r, hq with
  | .error e, hq => exact hx pins σ H s e s' I hq
  | .ok (.ret w), hq =>
    obtain ⟨z, H', I', rz, b, ez, q⟩ := I.after hq
    subst ez
    cases rz
    exact ⟨b, rfl, .bl (if neg then !b else b), H', I', rfl, q⟩
  | .ok .next, hq => exact False.elim hq
  | .ok .brk, hq => exact False.elim hq
  | .ok .cont, hq => exact False.elim hq
theorem op_ownEq (O : EqOf X.K C f) (F : FnOk X.prog X.w X.K X.mg X.base CX n f fd ps sp) (hb : Binds X.K fd ps []) (hx : Passes CX X E) (hr : Room n X.A) : OpR X (compareOp .Eq) (rOwn X.K C sp E false) := by
  intro pins s σ H x y v u Q I rx ry h
  obtain ⟨a, dx, fs, rfl, ha, yt, q⟩ := h
  obtain ⟨tb, lk, nf⟩ := yt_looks I ry yt
  obtain rfl : v = Value.ref a := rx
  obtain ⟨mA, J, _⟩ := ins_get I.hok ha
  obtain ⟨od, J, _⟩ := J.look
  obtain ⟨m, hF⟩ := I.fr
  show wpAny (model X.prog X.w) X.A (richCompare .Eq (.ref a) u) (EP X pins σ Q) X.xe s
  refine PySem.W.cmp_K (op := .Eq) (tb := tb) hr.units0 hF I.ok.mod.kin J lk nf O.eq O.fn (wpAny_mono (own_run (neg := false) F hb hx hr rfl I (x := .ref a) (v := .ref a) rfl ry q) (fun r s' hq => ?_) fun _ _ z => z)
  obtain ⟨b, rfl, hq⟩ := hq
  exact hq
theorem slot_ne : Slot "object" "__ne__" "object.__ne__" :=
  Slot.of (T := "object") (name := "__ne__") (owner := "object") (n := "__ne__") (by rw [typeLookup_type, builtinLookup_eq_fast]; kernel_rfl) (by decide +kernel) (by decide +kernel) (by decide +kernel)
    (.inl (by decide +kernel)) (by rw [isSubtype_type]; kernel_rfl)
/-- object.__ne__ over an own __eq__ -/
theorem ne_entry {A : Around} {a : Addr} {u : Value} {ox : Obj} {od : Option Obj} {Q : PySem.Fin → Shared → Prop} (O : EqOf X.K C f) (KX : X.K.In s.heap) (J : PySem.W.InstAt s.heap a ox C od) (hu : A.units < cLine)
    (hc : wpAny (model X.prog X.w) A (call (.ref f) [.ref a, u]) (fun r s' => ∃ b, r = .bool b ∧ Q (.done (.ret (.bool (!b)))) s') X.xe s) :
    wpAny (model X.prog X.w) A (Builtin.«object.__ne__» ⟨[.ref a, u], []⟩) Q X.xe s := by
  unfold Builtin.«object.__ne__»
  refine wpAny_bind (m := slotArgs "__ne__" 1 _) (wpAny_pure ?_)
  refine wpAny_bind (m := cRoomFor _ _) (wpAny_cRoomFor hu ?_)
  refine wpAny_bind (m := callSpecialIfBound? (.ref a) (Str.ofString "__eq__") [u]) (PySem.W.ifBound_K KX J O.eq O.fn (wpAny_mono hc (fun r s' hq => ?_) fun _ _ e => e))
  obtain ⟨b, rfl, hq⟩ := hq
  refine wpAny_bind (m := truthy (.bool b)) (wpAny_truthy_bool ?_)
  exact wpAny_pure hq
theorem op_ownNe (O : EqOf X.K C f) (F : FnOk X.prog X.w X.K X.mg X.base CX n f fd ps sp) (hb : Binds X.K fd ps []) (hx : Passes CX X E) (hr : Room (n + 1) X.A) : OpR X (compareOp .NotEq) (rOwn X.K C sp E true) := by
  intro pins s σ H x y v u Q I rx ry h
  obtain ⟨a, dx, fs, rfl, ha, yt, q⟩ := h
  obtain ⟨tb, lk, nf⟩ := yt_looks I ry yt
  obtain rfl : v = Value.ref a := rx
  obtain ⟨mA, J, _⟩ := ins_get I.hok ha
  obtain ⟨od, J, _⟩ := J.look
  have KX := I.kIn
  show wpAny (model X.prog X.w) X.A (richCompare .NotEq (.ref a) u) (EP X pins σ Q) X.xe s
  have one : wpAny (model X.prog X.w) X.A (tryCompare (.ref a) "__ne__" u) (fun r s' => ∃ z, r = some z ∧ EP X pins σ Q z s') X.xe s := by
    unfold tryCompare
    refine wpAny_bind ?_
    simp only [callSpecialIfBound?, bindSpecialIfBound?]
    refine wpAny_holding (wpAny_bind (wpAny_bind (wpAny_bind (J.type.here ((PySem.W.looks_findIn KX O.ne).here ?_)))))
    refine wpAny_bind (wpAny_askSetting (wpAny_ite ?_))
    have fin : wpAny (model X.prog X.w) X.A (call (.builtin "object.__ne__") ([.ref a] ++ [u]) >>= fun v => pure (some v)) (fun r s' => wpAny (model X.prog X.w) X.A (match r with
        | some .notImplemented | none => pure none
        | some v => pure (some v)) (fun r s' => ∃ z, r = some z ∧ EP X pins σ Q z s') X.xe s') X.xe s := by
      refine wpAny_bind (wpAny_call (codeAny_call_builtin slot_ne.plain PySem.F.cmpEntry_ne (PySem.W.check_slot PySem.F.cmpKind_ne PySem.F.cmpSplit_ne ?_ (PySem.F.cmpArgs_ne _ _) (ne_entry O KX J (show X.A.in1.units < cLine from hr.in1.units0) (wpAny_mono (own_run (neg := true) F hb hx hr.in1 rfl I (x := .ref a) (v := .ref a) rfl ry q) (fun r s' hq => ?_) fun _ _ z => z)))))
      · exact (J.type.andThen (PySem.W.looks_subIn KX O.ob))
      · obtain ⟨b, rfl, hq⟩ := hq
        exact ⟨b, rfl, wpAny_pure (wpAny_pure ⟨_, rfl, hq⟩)⟩
    split
    · rw [slot_ne.bind]
      exact wpAny_bind (wpAny_pure (wpAny_pure fin))
    · rw [slot_ne.bind]
      exact wpAny_tryCatch (wpAny_bind (wpAny_pure (wpAny_pure fin)))
  have out : ∀ {t : Sem (Option Value)}, wpAny (model X.prog X.w) X.A t (fun r s' => ∃ z, r = some z ∧ EP X pins σ Q z s') X.xe s → ∀ (g : Option Value → Sem Value), (∀ z, g (some z) = pure z) → wpAny (model X.prog X.w) X.A (t >>= g) (EP X pins σ Q) X.xe s :=
    fun h g hg => wpAny_bind (wpAny_mono h (fun r s' ⟨z, e, hq⟩ => by subst e; rw [hg]; exact wpAny_pure hq) fun _ _ e => e)
  unfold richCompare
  simp only [oneThing_ref]
  refine wpAny_holding (wpAny_bind (wpAny_cRoomFor hr.units0 (wpAny_bind (J.type.here (wpAny_bind (lk.here ?_))))))
  split
  next hq =>
    have hsub : PySem.W.subIn X.K tb (.ref C) = some false := by
      unfold PySem.W.notFirst at nf
      cases ht : tb == Value.ref C with
      | true => rw [beq_iff_eq.mp ht] at hq; simp at hq
      | false => rw [ht] at nf; simpa using nf
    refine wpAny_bind ((PySem.W.looks_subIn KX hsub).here ?_)
    rw [if_neg Bool.false_ne_true]
    exact out one _ fun _ => rfl
  next =>
    refine wpAny_bind (wpAny_pure ?_)
    rw [if_neg Bool.false_ne_true]
    exact out one _ fun _ => rfl
end
end
end Dv
namespace Dv
open PySem PySem.Spec PyProof.Rows L2
set_option autoImplicit false
noncomputable section
/-! ### repr of data, of a dict of data -/
/-- room for what is shown -/
def okShow (d : PyData) : Bool := d.showable && d.leavesShort 13 && decide (d.weight ≤ 2 ^ 20) && decide (d.depth ≤ 60)
theorem okShow.s {d : PyData} (h : okShow d = true) : d.showable = true ∧ d.shown.length ≤ sizeLine ∧ d.depth ≤ 60 := by
  unfold okShow at h
  simp only [Bool.and_eq_true, decide_eq_true_eq] at h
  exact ⟨h.1.1.1, PyData.shown_fits (B := 13) (by decide) (by decide) h.1.1.2 h.1.2, h.2⟩
def keyP : Key → PyData
  | .inl i => .int i
  | .inr z => .str z
/-- a dict's pairs as data -/
def DpK (K : PySem.W.Frag) (H : Hp) : List (Key × V) → List (Key × PyData) → Prop := Paired fun p q => p.1 = q.1 ∧ Dp K H p.2 q.2
def pyK (kds : List (Key × PyData)) : PyData := .dict (kds.map fun q => (keyP q.1, q.2))
def rRepr (K : PySem.W.Frag) : List V → Hp → VK → Prop := fun vs H Q => ∃ v, vs = [v] ∧
  ((∃ d, Dp K H v d ∧ okShow d = true ∧ Q (.str d.shown) H) ∨ ∃ a kvs kds, v = .ref a ∧ Rd H a (.dK kvs) ∧ DpK K H kvs kds ∧ okShow (pyK kds) = true ∧ Q (.str (pyK kds).shown) H)
mutual
theorem Dp.noDict {K : PySem.W.Frag} {H : Hp} : ∀ (d : PyData) (v : V), Dp K H v d → d.hasDict = false
  | .none, _, _ => rfl
  | .bool _, _, _ => rfl
  | .int _, _, _ => rfl
  | .str _, _, _ => rfl
  | .list ds, _, h => by
    cases h with
    | lst hs ha =>
      rw [PyData.hasDict]
      exact Dp.noDictAll ds _ ha
  | .tuple ds, _, h => by
    cases h with
    | tup hs ha =>
      rw [PyData.hasDict]
      exact Dp.noDictAll ds _ ha
  | .dict _, _, h => by cases h
theorem Dp.noDictAll {K : PySem.W.Frag} {H : Hp} : ∀ (ds : List PyData) (vs : List V), DpAll K H vs ds → PyData.hasDictAll ds = false
  | [], _, _ => rfl
  | d :: ds, _, h => by
    cases h with
    | cons h1 h2 => rw [PyData.hasDictAll, Dp.noDict d _ h1, Dp.noDictAll ds _ h2]; rfl
end
section
variable {X : Cx} {pins : List (Addr × Obj)} {σ : L2.St} {H : Hp} {s : Shared}
theorem key_reads {P : Program} {w : World} {h : Heap} {k : Key} {u : Value} (e : (mixKind P w).is k u = true) : Reads h u (keyP k) [] := by
  rcases keyIs_shape (show keyIs k u = true from e) with ⟨i, t, rfl, rfl⟩ | ⟨x, t, rfl, rfl⟩
  · exact .int i t
  · exact .str x t
/-- the entries of a dict, read -/
theorem ents_reads (I : Inv X pins σ H s) : ∀ {es : List DictEntry} {vs : List (Key × Value)} {kvs : List (Key × V)} {kds : List (Key × PyData)}, Pairs (mixKind X.prog X.w) es vs → KV kvs vs → DpK X.K H kvs kds →
    ∃ as, ReadsAll s.heap (es.map (·.key)) ((kds.map fun q => (keyP q.1, q.2)).map (·.1)) [] ∧ ReadsAll s.heap (es.map (·.val)) ((kds.map fun q => (keyP q.1, q.2)).map (·.2)) as := by
  intro es vs kvs kds p
  induction p generalizing kvs kds with
  | nil =>
    intro r d
    cases r
    cases d
    exact ⟨[], .nil, .nil⟩
  | cons h1 h2 _ ih =>
    intro r d
    cases r with
    | cons r1 r2 =>
      cases d with
      | cons d1 d2 =>
        obtain ⟨as, q1, q2⟩ := ih r2 d2
        obtain ⟨bs, q3⟩ := Dp.reads I _ _ _ d1.2 r1.2
        refine ⟨bs ++ as, ?_, ?_⟩
        · refine ReadsAll.cons (as := []) (bs := []) ?_ q1
          have h3 := key_reads (h := s.heap) h1
          rw [← r1.1, d1.1] at h3
          exact h3
        · exact ReadsAll.cons (by rw [← h2] at q3; exact q3) q2
theorem dictV_noDict {K : PySem.W.Frag} : ∀ {kvs : List (Key × V)} {kds : List (Key × PyData)}, DpK K H kvs kds → PyData.hasDictAll ((kds.map fun q => (keyP q.1, q.2)).map (·.2)) = false ∧ PyData.hasDictAll ((kds.map fun q => (keyP q.1, q.2)).map (·.1)) = false
  | _, _, .nil => ⟨rfl, rfl⟩
  | _, _, .cons (b := q) h t => by
    obtain ⟨t1, t2⟩ := dictV_noDict t
    refine ⟨?_, ?_⟩
    · show (PyData.hasDict q.2 || PyData.hasDictAll _) = false
      rw [Dp.noDict _ _ h.2, t1]
      rfl
    · show (PyData.hasDict (keyP q.1) || PyData.hasDictAll _) = false
      rw [t2]
      cases q.1 <;> rfl
theorem call_reprD (hg : X.A.guards = some []) (hu : X.A.units + 80 < cLine) : CallR X (.builtin "repr") (rRepr X.K) := by
  intro pins s σ H xs us Q I r h
  obtain ⟨v, rfl, h⟩ := h
  cases r with
  | cons rv rt =>
    cases rt
    rcases h with ⟨d, hd, ok, q⟩ | ⟨a, kvs, kds, rfl, he, hk, ok, q⟩
    · obtain ⟨os, oz, od⟩ := okShow.s ok
      obtain ⟨as, rd⟩ := Dp.reads I d _ _ hd rv
      cases hd with
      | non =>
        cases rv
        simp only [PyData.shown] at q
        exact PySem.P.repr_of_none ⟨.str _, H, I.tok _, ⟨_, rfl⟩, q⟩
      | bl b =>
        cases rv
        simp only [PyData.shown] at q
        exact PySem.P.repr_of_bool ⟨.str _, H, I.tok _, ⟨_, rfl⟩, q⟩
      | int i =>
        obtain ⟨t, rfl⟩ := rv
        have os' : i.natAbs.log2 < 1920 := by simpa [PyData.showable] using os
        simp only [PyData.shown] at q
        exact PySem.P.repr_of_int os' ⟨.str _, H, I.tok _, ⟨_, rfl⟩, q⟩
      | str x =>
        obtain ⟨t, rfl⟩ := rv
        simp only [PyData.shown] at q
        exact PySem.P.repr_of_str ⟨.str _, H, I.tok _, ⟨_, rfl⟩, q⟩ (by simpa only [PyData.shown] using oz)
      | lst hs ha =>
        cases rv
        refine repr_of_reads' rd os (fun e => by rw [Dp.noDict _ _ (Dp.lst hs ha)] at e; cases e) hg (by omega) (fun _ _ e => e) (fun h' u tk hk => ?_) oz
        exact ⟨.str _, H, I.kept (t' := tk) hk, ⟨_, rfl⟩, q⟩
      | tup hs ha =>
        cases rv
        refine repr_of_reads' rd os (fun e => by rw [Dp.noDict _ _ (Dp.tup hs ha)] at e; cases e) hg (by omega) (fun _ _ e => e) (fun h' u tk hk => ?_) oz
        exact ⟨.str _, H, I.kept (t' := tk) hk, ⟨_, rfl⟩, q⟩
    · obtain ⟨os, oz, od⟩ := okShow.s ok
      cases rv
      obtain ⟨_, hsys, vs, rel, o, es, ep, ho, hex, hdt, _, hp, _⟩ := dk_rd I.hok he
      obtain ⟨as, q1, q2⟩ := ents_reads I hp rel hk
      obtain ⟨n1, n2⟩ := dictV_noDict hk
      have rd : Reads s.heap (.ref a) (pyK kds) (a :: [] ++ as) := Reads.dict ho hex.1 hdt q1 q2
      unfold pyK at os oz od q
      generalize hkk : (kds.map fun q => (keyP q.1, q.2)) = kk at *
      rw [show pyK kds = .dict kk by unfold pyK; rw [hkk]] at rd
      have hz' : (dictText (PyData.shownKv kk)).length ≤ sizeLine := by simpa only [PyData.shown] using oz
      obtain ⟨hs1, hs2⟩ := PyData.showableKv_split kk (by simpa [PyData.showable] using os)
      obtain ⟨b1, hb1, k1⟩ := ReprAllK.of_readsAll (prog := X.prog) (w := X.w) q1 hs1 (fun hx => by rw [n2] at hx; cases hx) (fun t ht => let ⟨p, hp, hl⟩ := PyData.shownKv_key_le kk t ht; Nat.le_trans hl (Nat.le_trans (dictText_mem_le hp) hz'))
      obtain ⟨b2, hb2, k2⟩ := ReprAllK.of_readsAll (prog := X.prog) (w := X.w) q2 hs2 (fun hx => by rw [n1] at hx; cases hx) (fun t ht => let ⟨p, hp, hl⟩ := PyData.shownKv_val_le kk t ht; Nat.le_trans hl (Nat.le_trans (dictText_mem_le hp) hz'))
      have hb : ReadAtMost s.heap (PyData.depthKv kk) (b1 ++ b2) := (hb1.mono (PyData.depthAll_keys_le kk)).append (hb2.mono (PyData.depthAll_vals_le kk))
      have hna : a ∉ b1 ++ b2 := not_mem_of_deeper rd (by simp only [PyData.depth]; omega) hb
      simp only [PyData.depth] at od
      simp only [PyData.shown, PyData.shownKv_eq] at q
      refine call_repr_slot (by omega) ⟨o, ho, hex.1⟩ PySem.F.slot_dict_repr ?_
      refine call_dict_reprK ho hex.1 hdt hsys hna (ReprEntriesK.of_two es.toList _ _ (k1.more_le (fun b hb => List.mem_append_left _ hb) (PyData.depthAll_keys_le kk)) (k2.more_le (fun b hb => List.mem_append_right _ hb) (PyData.depthAll_vals_le kk)))
        (g := []) hg (fun b _ => Clear.nil b) (by show X.A.units + 1 + _ < cLine; omega) (fun _ _ e => e) (fun h' u tk hk => ⟨_, _, rfl, ?_⟩) (by rw [← PyData.shownKv_eq]; exact hz')
      exact ⟨.str _, H, I.kept (t' := tk) hk, ⟨_, rfl⟩, q⟩
end
end
end Dv
namespace Dv
open PySem PySem.Spec PyProof.Rows L2
set_option autoImplicit false
noncomputable section
/-! ### repr and == of dicts, on trees -/
def datK : List (Key × D) → Option (List (Key × PyData))
  | [] => some []
  | p :: r => match dat p.2, datK r with
    | some a, some l => some ((p.1, a) :: l)
    | _, _ => none
section
variable {K : PySem.W.Frag} {S : Nat → Addr}
theorem datK_ok {G H : Hp} (i : Inn G H) : ∀ {kvs : List (Key × D)} {ws : List (Key × V)} {kds : List (Key × PyData)}, RepK K S G kvs ws → datK kvs = some kds → DpK K H ws kds
  | [], _, _, r, e => by
    cases e
    cases r
    exact .nil
  | p :: kvs, _, kds, ⟨v, ws, e1, q, r⟩, e => by
    subst e1
    have e : (match dat p.2, datK kvs with
      | some a, some l => some ((p.1, a) :: l)
      | _, _ => none) = some kds := e
    split at e
    · rename_i a l h1 h2
      cases e
      exact .cons ⟨rfl, dat_ok i q h1⟩ (datK_ok i r h2)
    · cases e
def fRepr : FC := fun xs => match xs with
  | [x] => match dat x with
    | some d => if okShow d = true then some (.str d.shown) else none
    | none => match x with
      | .dct kvs => match datK kvs with
        | some kds => if okShow (pyK kds) = true then some (.str (pyK kds).shown) else none
        | none => none
      | _ => none
  | _ => none
theorem sc_repr : SCl K S fRepr (rRepr K) := fun G H xs d vs Q i r e k => by
  match xs, r, e with
  | [], r, e => cases e
  | _ :: _ :: _, r, e => cases e
  | [x], r, e =>
    obtain ⟨v, rfl, rx⟩ := r.one
    refine ⟨v, rfl, ?_⟩
    unfold fRepr at e
    dsimp only at e
    split at e
    · rename_i dd hd
      split at e
      · rename_i ok
        cases e
        exact .inl ⟨dd, dat_ok i rx hd, ok, k G H _ (.refl i) rfl⟩
      · cases e
    · split at e
      · rename_i kvs
        obtain ⟨a, ws, rfl, g, rk⟩ := rx
        split at e
        · rename_i kds hk
          split at e
          · rename_i ok
            cases e
            exact .inr ⟨a, ws, kds, rfl, i.dct (.inl g), datK_ok i rk hk, ok, k G H _ (.refl i) rfl⟩
          · cases e
        · cases e
      · cases e
end
/-! == of two dicts -/
def findK (k : Key) : List (Key × PyData) → Option PyData
  | [] => none
  | p :: r => if p.1 = k then some p.2 else findK k r
def eqAllK (lds : List (Key × PyData)) : List (Key × PyData) → Bool
  | [] => true
  | p :: r => match findK p.1 lds with
    | some d => PyData.eqv p.2 d && eqAllK lds r
    | none => false
def eqK (kds lds : List (Key × PyData)) : Bool := (kds.length == lds.length) && eqAllK lds kds
def layK (kds : List (Key × PyData)) : Bool := kds.all fun p => SeqAt.shaped p.2
def rEqK (K : PySem.W.Frag) : R2 := fun x y H Q => ∃ a b ks ls kds lds, x = .ref a ∧ y = .ref b ∧ Rd H a (.dK ks) ∧ Rd H b (.dK ls) ∧ DpK K H ks kds ∧ DpK K H ls lds ∧ layK kds = true ∧ layK lds = true ∧ Q (.bl (eqK kds lds)) H
theorem findK_at {K : PySem.W.Frag} {H : Hp} {k : Key} : ∀ {ls : List (Key × V)} {lds : List (Key × PyData)} {vs : List (Key × Value)}, DpK K H ls lds → KV ls vs → layK lds = true →
    (findK k lds = none ∧ valueAt vs k = none) ∨ ∃ d v u, findK k lds = some d ∧ valueAt vs k = some u ∧ RelV v u ∧ Dp K H v d ∧ SeqAt.shaped d = true
  | [], _, _, .nil, .nil, _ => .inl ⟨rfl, rfl⟩
  | p :: ls, q :: lds, r :: vs, .cons h1 h2, .cons r1 r2, hl => by
    have hl2 : (SeqAt.shaped q.2 && lds.all fun p => SeqAt.shaped p.2) = true := hl
    obtain ⟨l1, l2⟩ := Bool.and_eq_true_iff.mp hl2
    by_cases e : q.1 = k
    · refine .inr ⟨q.2, p.2, r.2, if_pos e, ?_, r1.2, h1.2, l1⟩
      have e2 : r.1 = k := by rw [← r1.1, h1.1, e]
      unfold valueAt
      rw [List.find?_cons_of_pos (by simpa using e2)]
      rfl
    · have e2 : ¬ r.1 = k := fun z => e (by rw [← h1.1, r1.1, z])
      have s1 : findK k (q :: lds) = findK k lds := if_neg e
      have s2 : valueAt (r :: vs) k = valueAt vs k := by
        unfold valueAt
        rw [List.find?_cons_of_neg (by simpa using e2)]
      rw [s1, s2]
      exact findK_at h2 r2 l2
section
variable {X : Cx}
theorem hits_of {pins : List (Addr × Obj)} {σ : L2.St} {H : Hp} {s : Shared} (I : Inv X pins σ H s) {A : Around} (hu : A.units + 64 < cLine) {ls : List (Key × V)} {lds : List (Key × PyData)} {vb : List (Key × Value)} (db : DpK X.K H ls lds) (rb : KV ls vb) (lb : layK lds = true) :
    ∀ {ks : List (Key × V)} {kds : List (Key × PyData)} {va : List (Key × Value)}, DpK X.K H ks kds → KV ks va → layK kds = true → PySem.W.KeqHitsP X.prog X.w A s vb va (eqAllK lds kds)
  | [], _, _, .nil, .nil, _ => .nil
  | p :: ks, q :: kds, (k0, v0) :: va, .cons h1 h2, .cons r1 r2, hl => by
    have hl2 : (SeqAt.shaped q.2 && kds.all fun p => SeqAt.shaped p.2) = true := hl
    obtain ⟨l1, l2⟩ := Bool.and_eq_true_iff.mp hl2
    have ek : q.1 = k0 := by rw [← h1.1]; exact r1.1
    have st : eqAllK lds (q :: kds) = match findK q.1 lds with
      | some d => PyData.eqv q.2 d && eqAllK lds kds
      | none => false := rfl
    rw [st, ek]
    rcases findK_at (k := k0) db rb lb with ⟨e1, e2⟩ | ⟨d, v, u, e1, e2, rv, dv, sd⟩
    · rw [e1]
      exact .miss e2
    · rw [e1]
      obtain ⟨as, ra⟩ := Dp.reads I _ _ _ h1.2 r1.2
      obtain ⟨bs, rb'⟩ := Dp.reads I _ _ _ dv rv
      have c1 := SeqAt.canLay_of_shaped l1
      have c2 := SeqAt.canLay_of_shaped sd
      exact .hit e2 (SeqAt.eqAt_reads _ _ A s _ _ _ _ ra rb' c1 c2 (SeqAt.room_of_shaped l1 hu)).eqP (hits_of I hu db rb lb h2 r2 l2)
theorem kv_len {ks : List (Key × V)} {va : List (Key × Value)} (h : KV ks va) : ks.length = va.length := Paired.length h
theorem op_eqK (hu : X.A.units + 80 < cLine) : OpR X (compareOp .Eq) (rEqK X.K) := by
  intro pins s σ H x y v u Q I rx ry h
  obtain ⟨a, b, ks, ls, kds, lds, rfl, rfl, ha, hb, da, db, la, lb, q⟩ := h
  obtain rfl : v = Value.ref a := rx
  obtain rfl : u = Value.ref b := ry
  obtain ⟨_, ya, va, ra, oa⟩ := dk_rd I.hok ha
  obtain ⟨_, yb, vb, rb, ob⟩ := dk_rd I.hok hb
  show wpAny (model X.prog X.w) X.A (richCompare .Eq (.ref a) (.ref b)) _ _ s
  refine PySem.W.rcP_dicts (knd := mixKind X.prog X.w) ya yb oa ob (by omega) (fun _ => hits_of I (A := X.A.in1) (by show X.A.units + 1 + 64 < cLine; omega) db rb lb da ra la) _ _ ?_
  refine ⟨.bl (eqK kds lds), H, I, ?_, q⟩
  have l1 : va.length = kds.length := by rw [← kv_len ra]; exact Paired.length da
  have l2 : vb.length = lds.length := by rw [← kv_len rb]; exact Paired.length db
  show Value.bool _ = Value.bool (eqK kds lds)
  unfold eqK
  rw [l1, l2]
end
section
variable {K : PySem.W.Frag} {S : Nat → Addr}
def oEqK : FO := fun x y => match x, y with
  | .dct a, .dct b => match datK a, datK b with
    | some k, some l => if layK k = true ∧ layK l = true then some (.bl (eqK k l)) else none
    | _, _ => none
  | _, _ => none
theorem so_eqK : SOp K S oEqK (rEqK K) := fun G H x y d v w Q i rx ry e k => by
  unfold oEqK at e
  split at e
  · rename_i a b
    obtain ⟨p, ws, rfl, g, rk⟩ := rx
    obtain ⟨q, us, rfl, g2, rk2⟩ := ry
    split at e
    · rename_i kk ll h1 h2
      split at e
      · rename_i hl
        cases e
        exact ⟨p, q, ws, us, kk, ll, rfl, rfl, i.dct (.inl g), i.dct (.inl g2), datK_ok i rk h1, datK_ok i rk2 h2, hl.1, hl.2, k G H _ (.refl i) rfl⟩
      · cases e
    · cases e
  · cases e
end
end
end Dv
namespace Dv
open PySem PySem.Spec PyProof.Rows L2
set_option autoImplicit false
noncomputable section
/-! ### defs that run where no repr is under way -/
structure FnG (P : Program) (w : World) (K : PySem.W.Frag) (mg : Str → Option Value) (base : Heap) (CX : CXT) (k : Nat) (f : Addr) (fd : FuncData) (ps : List Str) (sp : Sp) : Prop where
  len : ∀ vs H Q E, sp vs H Q E → vs.length = ps.length
  run : ∀ (A : Around), A.guards = some [] → ∀ (outer : List PySem.Env) (s : Shared) (H : Hp) (args : Args) (us : List Value) (vs : List V) (Q : VK) (E : XK), Room k A → Env0 P w K mg base A outer s H → BindsTo s fd args (ps.zip us) → Vals vs us → sp vs H Q E →
    codeAny (model P w) A (.call (.ref f) args) (CR CX outer P w H s Q E) s
section
variable {P : Program} {w : World} {K : PySem.W.Frag} {mg : Str → Option Value} {base : Heap} {CX : CXT} {k : Nat} {f : Addr} {fd : FuncData} {ps N : List Str} {sp : Sp} {x qual : Str} {params : Arguments} {body : List Stmt} {scope : Scope} {dvs : List V} {kws : List (Str × V)}
theorem FnG.of (F : FnOk P w K mg base CX k f fd ps sp) : FnG P w K mg base CX k f fd ps sp := ⟨F.len, fun A _ => F.run A⟩
theorem FnG.mono {j : Nat} (F : FnG P w K mg base CX j f fd ps sp) (h : j ≤ k) : FnG P w K mg base CX k f fd ps sp := ⟨F.len, fun A g outer s H args us vs Q E hr => F.run A g outer s H args us vs Q E (hr.mono h)⟩
/-- what a def's body leaves is the call's end -/
theorem ends_of {A : Around} {cdv : Value} {outer : List PySem.Env} {s s1 : Shared} {H : Hp} {Q : VK} {E : XK} {t : TS} {σ : L2.St} (I : Inv (cxOf CX P w K mg base N qual scope f cdv A outer s H E) [] σ H s1)
    (ht : PSs (cxOf CX P w K mg base N qual scope f cdv A outer s H E) body t) (hq : t { nx := fun _ H' => Q .non H', rt := Q } σ H) :
    wpAny (model P w) (cxOf CX P w K mg base N qual scope f cdv A outer s H E).A (execs body (cxOf CX P w K mg base N qual scope f cdv A outer s H E).env) (fun fl s' => CE outer P w H s Q (match fl with | .ret v => v | _ => .none) s') (cxOf CX P w K mg base N qual scope f cdv A outer s H E).xe s1 := by
  have key : ∀ {σ' : L2.St} {H' : Hp} {s' : Shared} {v : V} {u : Value}, Inv (cxOf CX P w K mg base N qual scope f cdv A outer s H E) [] σ' H' s' → RelV v u → Q v H' → CE outer P w H s Q u s' :=
    fun J r q => ⟨_, _, J.os, J.bare, J.base, J.hok, r, q⟩
  refine wpAny_mono (ht.run [] s1 σ H _ I hq) (fun fl s' z => ?_) fun _ _ z => z
  match fl, z with
  | .ret u, ⟨v, σ', H', J, r, q⟩ => exact key J r q
  | .next, ⟨σ', H', J, q⟩ => exact key (v := V.non) J rfl q
  | .brk, ⟨_, _, _, q⟩ => exact q.elim
  | .cont, ⟨_, _, _, q⟩ => exact q.elim
/-- a def by its body, the guards known -/
theorem okG_of {oc : Value} {od : Option Addr} {dV kV doc pm cdv ct : Value} {an : Option Addr} {osl : Array (Option Value)} (lk : K.lookup f = some ⟨oc, od, .func (PySem.W.fnOf x qual params body scope dV kV doc pm an cdv ct), osl⟩) (hcd : PySem.W.codeIn K cdv qual = true) (S : FnScope N ps scope) (len : ∀ vs H Q E, sp vs H Q E → vs.length = ps.length)
    (hbody : ∀ (A : Around), A.guards = some [] → ∀ (outer : List PySem.Env) (s : Shared) (H : Hp) (vs : List V) (Q : VK) (E : XK), Room k (A.deeper (envOfC qual scope s.heap.objs.size f cdv)) → sp vs H Q E →
      ∃ t, PSs (cxOf CX P w K mg base N qual scope f cdv A outer s H E) body t ∧ t { nx := fun _ H' => Q .non H', rt := Q } (L2.start N vs) H) : FnG P w K mg base CX (k + 1) f (PySem.W.fnOf x qual params body scope dV kV doc pm an cdv ct) ps sp := by
  refine ⟨len, fun A g outer s H args us vs Q E hr e0 hb r hsp => ?_⟩
  have inS : ∀ b o, base.get? b = some o → s.heap.get? b = some o := fun b o e => (e0.bs b o e).1
  have KX : K.In s.heap := e0.mod.kin.keeps inS
  refine codeAny_call_function hr.depth (KX _ _ lk) rfl S.co S.gen rfl (PySem.W.codeRec_of KX hcd) (hb _ _ _ _ (wpAny_newFunctionEnv_cells S.kind (fun y hy => ?_) fun env he s1 ic => ?_))
  · rcases S.par y.1 (List.of_mem_zip (a := y.1) (b := y.2) hy).1 with q | q
    · exact .inl q
    · exact .inr ⟨q, PySem.W.cellsFrom_some _ _ _ (.inl q)⟩
  · subst he
    obtain ⟨t, ht, hq⟩ := hbody A g outer s H vs Q E (hr.deeper _) hsp
    have I : Inv (cxOf CX P w K mg base N qual scope f cdv A outer s H E) [] (L2.start N vs) H s1 := inv_start S hr.hd e0 (len _ _ _ _ hsp) r ic
    exact ⟨(e0.mod.nolimit.keeps inS).keeps ic.toInCall.keep, codeAny_func (ends_of I ht hq)⟩
theorem okG {st : Stmt} (F : Fun K x qual st f fd) (S : FnScope N ps (defScope st)) (len : ∀ vs H Q E, sp vs H Q E → vs.length = ps.length)
    (hbody : ∀ (cdv : Value) (A : Around), A.guards = some [] → ∀ (outer : List PySem.Env) (s : Shared) (H : Hp) (vs : List V) (Q : VK) (E : XK), Room k (A.deeper (envOfC qual (defScope st) s.heap.objs.size f cdv)) → sp vs H Q E →
      ∃ t, PSs (cxOf CX0 P w K mg base N qual (defScope st) f cdv A outer s H E).nox (defBody st) t ∧ t { nx := fun _ H' => Q .non H', rt := Q } (L2.start N vs) H) : FnG P w K mg base CX0 (k + 1) f fd ps sp := by
  obtain ⟨oc, od, kV, doc, pm, an, cdv, ct, osl, rfl, lk, hcd⟩ := F.ex
  refine okG_of lk hcd S len fun A g outer s H vs Q E hr hsp => ?_
  obtain ⟨t, h, q⟩ := hbody cdv A g outer s H vs Q E hr hsp
  exact ⟨t, h.nox, q⟩
end
section
variable {X : Cx} {CX : CXT} {k : Nat} {f : Addr} {fd : FuncData} {ps : List Str} {sp : Sp} {dvs : List V} {ds : List Value} {E : XK} {x : Str} {p pos : Pos} {e : Expr} {es : List Expr} {t : TA}
theorem run_fnG {pins : List (Addr × Obj)} {σ : L2.St} {H : Hp} {s : Shared} {Q : VK} {us : List Value} {vs : List V} (F : FnG X.prog X.w X.K X.mg X.base CX k f fd ps sp) (hg : X.A.guards = some []) (hr : Room k X.A) (hb : Binds X.K fd ps ds) (hd : Vals dvs ds) (hx : Passes CX X E)
    (I : Inv X pins σ H s) (r : Vals vs us) (h : sp (vs ++ dvs) H Q E) : wpAny (model X.prog X.w) X.A (call (.ref f) us) (EP X pins σ Q) X.xe s := by
  have r2 : Vals (vs ++ dvs) (us ++ ds) := r.append hd
  have hl : (us ++ ds).length = ps.length := r2.length.symm.trans (F.len _ _ _ _ h)
  refine wpAny_call (codeAny_mono (F.run X.A hg X.stack s H ⟨us, []⟩ (us ++ ds) (vs ++ dvs) Q E hr I.env0 (hb s us I.kIn hl) r2 h) fun r s' hq => ?_)
  match r, hq with
  | .error e, hq => exact hx pins σ H s e s' I hq
  | .ok (.ret u), hq => exact I.after hq
  | .ok .next, hq => exact hq.elim
  | .ok .brk, hq => exact hq.elim
  | .ok .cont, hq => exact hq.elim
theorem pe_callG (F : FnG X.prog X.w X.K X.mg X.base CX k f fd ps sp) (gd : X.A.guards = some []) (hr : Room k X.A) (hg : Gl X x) (hm : X.mg x = some (.ref f)) (hk : PySem.W.keepIn X.K (.ref f) = true) (hb : Binds X.K fd ps ds) (hd : Vals dvs ds) (hx : Passes CX X E)
    (ha : PA X (e :: es) t) (hdb : (x == ("__debug__" : Str)) = false := by decide) (he : starEach (e :: es) X.env = (false, eval e X.env) :: starEach es X.env := by rfl) (hpl : (backTo pos (starEach es X.env)).any (·.1) = false := by rfl) :
    PE X (.Call (.Name x p) (e :: es) [] pos) (tCall sp dvs E t) := ⟨fun pins s σ H Q I h =>
  wpAny_Call_Name_kw (ld_glob I hg hm (PySem.W.callWith_K (h₀ := X.base) I.ok.mod.kin hk (thn (ha.run pos pins s σ H _ I h) fun us s1 ⟨vs, H1, I1, r, q⟩ => ⟨I1.kIn, run_fnG F gd hr hb hd hx I1 r q⟩) he hpl) hdb)⟩
end
end
end Dv
namespace Dv
open PySem PySem.Spec PyProof.Rows L2
set_option autoImplicit false
noncomputable section
/-! ### a law's end, its def a FnG -/
/-- one object is tracked, no other -/
def trk (a : Addr) (o : Option HO) : Hp := fun b => if b = a then o else none
theorem trk_at {a b : Addr} {o : Option HO} {u : HO} (e : trk a o b = some u) : b = a ∧ o = some u := by
  unfold trk at e
  by_cases h : b = a
  · rw [if_pos h] at e; exact ⟨h, e⟩
  · rw [if_neg h] at e; cases e
theorem trk_none {h : Heap} {a b : Addr} {o : Option HO} (hb : b ≠ a) : trk a o b = none := if_neg hb
/-- what the list at a does not hide -/
theorem ns_hid {h : Heap} {a b : Addr} {o : Option HO} {m : Str → Option Value} {vs : Array Value} (ha : h.get? a = some { cls := .type "list", data := .seq vs }) (n : h.Ns b m) : (hidT h (trk a o)).Ns b m := by
  obtain ⟨oo, es, ep, e, d, r⟩ := n
  refine ⟨oo, es, ep, hidT_get e (if_neg fun q => ?_), d, r⟩
  rw [q, ha] at e
  cases e
  cases d
section
variable {P : Program} {w : World} {K : PySem.W.Frag} {mg mb : Str → Option Value} {k : Nat} {fa a : Addr} {fd : FuncData} {x : Str} {sp : Sp} {s₁ : Shared} {vs : List Value} {ns : List Int}
/-- from the state behind the top, with the script tracked or a part of the module -/
theorem law_from (o : Option HO) (KX : K.In s₁.heap) (hns : s₁.heap.Ns mainGlobals mg) (hb : s₁.heap.Ns builtinsNs mb) (hbb : ∀ x : Str, x ≠ "__name__" → mb x = bootBuiltins x) (hlim : s₁.heap.NoLimit) (hg : s₁.gens = #[])
    (ha : s₁.heap.get? a = some { cls := .type "list", data := .seq vs.toArray }) (hr : Room k callerA) (hK : o ≠ none → K.lookup a = none) (hfz : ∀ u, o = some u → ∃ ob xs, u = .frz ob (.lst xs)) (hok : HOk P w (trk a o) s₁.heap)
    (F : ∀ base : Heap, K.In base → base.Ns mainGlobals mg → FnG P w K mg base CX0 k fa fd [x] sp) (hbind : ∀ (s : Shared) (u : Value), BindsTo s fd ⟨[u], []⟩ [(x, u)])
    (hsp : sp [.ref a] (trk a o) (fun v _ => v = .bl true) fun _ _ _ => False) :
    codeAny (model P w) callerA (.call (.ref fa) ⟨[.ref a], []⟩) (fun r s' => r = .ok (.ret (.bool true)) ∧ OldK s₁.heap s'.heap ∧ s'.os = s₁.os ∧ AllBare s'.gens) s₁ := by
  have KB : K.In (hidT s₁.heap (trk a o)) := fun b ob e => hidT_get (KX b ob e) (by
    by_cases q : b = a
    · cases ho : o with
      | none => unfold trk; rw [ite_self]
      | some u => rw [q, hK (by rw [ho]; exact Option.some_ne_none u)] at e; cases e
    · exact if_neg q)
  have M : Mod K mg (hidT s₁.heap (trk a o)) := ⟨KB, ns_hid ha hns, ⟨mb, ns_hid ha hb, hbb⟩, hlim.elim fun mc h => ⟨mc, ns_hid ha h.1, h.2⟩⟩
  have e0 : Env0 P w K mg (hidT s₁.heap (trk a o)) callerA [] s₁ (trk a o) := { frames := rfl, mod := M, bs := fun b ob e => of_hidT e, bsz := Nat.le_of_eq (hidT_size _ _), funs := trivial, frf := fun b h => (nomatch h), hok := hok, bare := .of_eq hg }
  refine codeAny_mono ((F _ KB (ns_hid ha hns)).run callerA rfl [] s₁ _ ⟨[.ref a], []⟩ [.ref a] [.ref a] _ _ hr e0 (hbind s₁ (.ref a)) (.cons rfl .nil) hsp) fun r s' h => ?_
  match r, h with
  | .ok (.ret u), ⟨v, H', os, bare, un, hok', rv, q⟩ =>
    have q : v = .bl true := q
    subst q
    cases rv
    refine ⟨rfl, OldK.of_keep fun b ob e => ?_, os, bare⟩
    cases hb : trk a o b with
    | none => exact un.keep b ob e hb (fun z => nomatch z) (fun z => nomatch z)
    | some u =>
      obtain ⟨z1, z2⟩ := trk_at hb
      obtain ⟨o2, xs, rfl⟩ := hfz u z2
      have b1 := (hok b _ hb).1
      have b2 := (hok' b _ (un.frzs b o2 _ hb)).1
      rw [e] at b1
      cases b1
      exact b2
  | .ok .next, h => exact h.elim
  | .ok .brk, h => exact h.elim
  | .ok .cont, h => exact h.elim
  | .error e, h => exact h.elim
end
theorem walk_G {l : PySem.W.OpenLaw} {n k : Nat} {q : Program} {loose : List Str} {XP : (Str → Option Value) → Heap → Prop} {YP : World → Heap → Prop} {d : DefRec} {x : Str}
    (hn : l.most = some n) (hn2 : n ≤ sizeLine) (hdf : d.params.defaults = []) (hr : Room k callerA)
    (F : ∀ (w : World) (mg : Str → Option Value) (fa : Addr) (h : Heap), YP w h → h.Ns mainGlobals mg → mg d.name = some (.ref fa) →
      ∃ (K : PySem.W.Frag) (fd : FuncData) (sp : Sp), K.In h ∧ (∀ (s : Shared) (u : Value), BindsTo s fd ⟨[u], []⟩ [(x, u)]) ∧
        (∀ (H : Hp) (a : Addr) (ns : List Int), ns.length ≤ n → Only H → SqL K H a (ns.map V.int) → sp [.ref a] H (fun v _ => v = .bl true) fun _ _ _ => False) ∧
        ∀ base : Heap, K.In base → base.Ns mainGlobals mg → FnG l.prog w K mg base CX0 k fa fd [x] sp) :
    PySem.W.WalkO q loose XP YP l.row.toRowW d [] (fun f vs => PySem.call f vs) := by
  refine Att.attach_call hn hdf fun w s₀ s₁ mg mb fa o pm cd doc a vs ns G Y ho hd hcd hmg hobj hints hlen hg => ?_
  obtain ⟨K, fd, sp, KX, hb, hsp, hF⟩ := F w mg fa _ Y G.T.g hmg
  have rv : Vals (ns.map V.int) vs := vals_ints hints
  have hsz : ns.length ≤ sizeLine := Nat.le_trans hlen hn2
  have only : ∀ u : Option HO, (∀ z, u = some z → ∃ ob xs, z = .frz ob (.lst xs)) → Only (trk a u) := fun u h b => by
    cases e : trk a u b with
    | none => exact .inl rfl
    | some z =>
      obtain ⟨ob, xs, rfl⟩ := h z (trk_at e).2
      exact .inr ⟨ob, xs, rfl⟩
  cases hk : K.lookup a with
  | some ob =>
    have e := KX a ob hk
    rw [hobj] at e
    cases e
    refine law_from none KX G.T.g G.T.b G.T.builtins G.T.nolimit hg hobj hr (fun z => (z rfl).elim) (fun _ z => nomatch z) (fun b u z => ?_) hF hb (hsp _ a ns hlen (only none fun _ z => nomatch z) ?_)
    · have := (trk_at z).2
      cases this
    · exact .inr ⟨_, vs.toArray, _, hk, rfl, rfl, rfl, by rw [List.size_toArray, ← rv.length, List.length_map]; exact hsz, by simpa using rv⟩
  | none =>
    have fz : ∀ u, some (HO.frz { cls := .type "list", data := .seq vs.toArray } (.lst (ns.map V.int))) = some u → ∃ ob xs, u = .frz ob (.lst xs) := fun u z => by
      cases z
      exact ⟨_, _, rfl⟩
    refine law_from _ KX G.T.g G.T.b G.T.builtins G.T.nolimit hg hobj hr (fun _ => hk) fz (fun b u z => ?_) hF hb (hsp _ a ns hlen (only _ fz) (.inl (.inr ⟨_, if_pos rfl⟩)))
    obtain ⟨z1, z2⟩ := trk_at z
    subst z1
    obtain rfl := Option.some.inj z2
    exact ⟨hobj, by rw [List.length_map]; exact hsz, vs, _, rv, hobj⟩
end
end Dv
namespace Dv
open PySem PySem.Spec PyProof.Rows L2
set_option autoImplicit false
noncomputable section
/-! ### what is returned is a new object of one's own, or no object -/
def isObj : D → Bool
  | .lst _ => true
  | .dct _ => true
  | .ins _ _ => true
  | _ => false
section
variable (K : PySem.W.Frag) (S : Nat → Addr) (E : XK)
def FPostY (G H : Hp) (r : Option Addr) (Q : VK) : FRes → Prop
  | .ok d p => ∀ G' H', Fin G H r G' H' → ParOk K S r p G' H' → if isObj d = true then ∀ a o, H a = none → G' a = none → H' a = some o → RepO K S G' d o → Q (.ref a) H' else ∀ v, Rep K S G' d v → Q v H'
  | .ex C fs p => ∀ od G' H', Fin G H r G' H' → ParOk K S r p G' H' → XD K S G' H' fs od → E (Value.ref (S C)) od H'
  | .no => False
def spY (n : Nat) (g : Fn) : Sp := fun vs H Q E => ∃ (G : Hp) (as : List Ar) (r : Option Addr), Inn G H ∧ ArgsOk K S G H r as vs ∧ as.length = n ∧ FPostY K S E G H r Q (g as)
theorem spY_len {n : Nat} {g : Fn} {vs : List V} {H : Hp} {Q : VK} (h : spY K S n g vs H Q E) : vs.length = n := by
  obtain ⟨G, as, r, _, ok, hl, _⟩ := h
  rw [← hl, paired_len ok.at_]
end
def runY (n : Nat) (b : EvS) : Fn := fun as => match b (start n as) with
  | .nx e => .ok .non (parOf e)
  | .rt d e => if isObj d = true then .no else .ok d (parOf e)
  | .rf d e => if isObj d = true then .ok d (parOf e) else .no
  | .ex C fs e => .ex C fs (parOf e)
  | _ => .no
section
variable {K : PySem.W.Frag} {S : Nat → Addr} {X : Cx} {E : XK}
theorem bodyY {sts : List Stmt} {f : EvS} {N : List Str} {n : Nat} {vs : List V} {H : Hp} {Q : VK} {g : Fn} (b : QSs S X E sts f) (hg : g = runY N.length f) (hn : n ≤ N.length) (h : spY X.K S n g vs H Q E) :
    ∃ t, PSs X sts t ∧ t { nx := fun x H' => Q V.non H', rt := Q } (L2.start N vs) H := by
  subst hg
  obtain ⟨G, as, r, i, ok, hl, po⟩ := h
  refine ⟨_, b, ⟨G, H, r⟩, [], G, start N.length as, ste_start i ok, start_rel ok (by omega), ?_⟩
  unfold runY at po
  cases hb : f (start N.length as) with
  | nx e =>
    rw [hb] at po
    exact fun σ' G' H' sm st rl => po G' H' (ste_end st) (par_ok rl.at_) .non rfl
  | rt d e =>
    rw [hb] at po
    cases hd : isObj d with
    | true => simp only [hd, if_true] at po; exact po.elim
    | false =>
      simp only [hd] at po
      intro σ' G' H' sm st rl v rv
      have := po G' H' (ste_end st) (par_ok rl.at_)
      rw [hd] at this
      exact this v rv
  | rf d e =>
    rw [hb] at po
    cases hd : isObj d with
    | false => simp only [hd] at po; exact po.elim
    | true =>
      simp only [hd, if_true] at po
      intro σ' G' H' sm st rl a o h1 h2 h3 h4
      have := po G' H' (ste_end st) (par_ok rl.at_)
      rw [hd] at this
      exact this a o h2 h1 h3 h4
  | ex C fs e => rw [hb] at po; exact fun σ' od G' H' sm st rl xd => po od G' H' (ste_end st) (par_ok rl.at_) xd
  | bk e => rw [hb] at po; exact po.elim
  | ct e => rw [hb] at po; exact po.elim
  | no => rw [hb] at po; exact po.elim
/-- a call meets such a promise -/
theorem call_okY {B : Base} {L : Lk} {G H : Hp} {env : Env} {σ : L2.St} {g : Fn} {n : Nat} {as : List Ag} {vs : List V} {Q : VK} (st : Ste B L G H) (rl : Rel K S B L G H env σ) (ra : Paired (AgOk K S G σ) as vs) (hn : as.length = n)
    {P : Hp → Hp → D → Env → Prop} (p : Post K S E B L σ G P (callG g as env))
    (hP : ∀ G' H' d e, (∀ (j : Nat) (s : Sl), e[j]? = some s → isOwn s = true → ∃ s', env[j]? = some s' ∧ isOwn s' = true) → Ste B L G' H' → Rel K S B L G' H' e σ → P G' H' d e → if isObj d = true then ∀ a o, H a = none → G' a = none → H' a = some o → RepO K S G' d o → Q (.ref a) H' else ∀ v, Rep K S G' d v → Q v H') : spY K S n g vs H Q E := by
  unfold callG at p
  split at p
  · exact p.elim
  · rename_i args hres
    have hlen : args.length = n := by rw [resv_len hres, hn]
    split at p
    · rename_i hsl
      obtain ⟨t1, t2⟩ := resv_none (H := H) hres hsl ra
      refine ⟨G, args, none, st.inn, ⟨t1, by omega, fun a e => by cases e⟩, hlen, ?_⟩
      split at p
      · rename_i d pp hg
        rw [hg]
        intro G' H' f _
        have st' := st.fin rl f fun a e => by cases e
        have rl' := rl.fin0 f
        exact hP G' H' d env (fun j s h1 h2 => ⟨s, h1, h2⟩) st' rl' (p G' H' f.g st' rl')
      · rename_i C fs pp hg
        rw [hg]
        intro od G' H' f _ x
        exact p od G' H' f.g (st.fin rl f fun a e => by cases e) (rl.fin0 f) x
      · exact p.elim
    · rename_i i hsl
      obtain ⟨a, s, h1, h2, h3, h4, h5⟩ := resv_one rl hres hsl ra
      obtain ⟨ga, ha⟩ := own_free st rl h2 h3 h1
      rw [h2] at p
      refine ⟨G, args, some a, st.inn, ⟨h4, by omega, fun b e => by cases e; exact ⟨ga, ha, by omega⟩⟩, hlen, ?_⟩
      dsimp only at p
      split at p
      · rename_i d pp hg
        rw [hg]
        intro G' H' f po
        obtain ⟨b, o, e, hb, ho⟩ := po pp rfl
        cases e
        have st' := st.fin rl f fun b e => by cases e; exact ⟨⟨i, s, h2, h3, h1⟩, by rw [hb]; intro e; cases e⟩
        have rl' := rl.fin1 f h2 h3 h1 hb ho
        exact hP G' H' d _ (fun j t e1 e2 => by
          rcases set_at e1 with ⟨rfl, rfl⟩ | ⟨_, e1⟩
          · exact ⟨s, h2, h3⟩
          · exact ⟨t, e1, e2⟩) st' rl' (p G' H' f.g st' rl')
      · rename_i C fs pp hg
        rw [hg]
        intro od G' H' f po x
        obtain ⟨b, o, e, hb, ho⟩ := po pp rfl
        cases e
        exact p od G' H' f.g (st.fin rl f fun b e => by cases e; exact ⟨⟨i, s, h2, h3, h1⟩, by rw [hb]; intro e; cases e⟩) (rl.fin1 f h2 h3 h1 hb ho) x
      · exact p.elim
    · exact p.elim
end
/-- an expression's value is a new object of one's own, or no object -/
def TY (K : PySem.W.Frag) (S : Nat → Addr) (E : XK) (f : Ev) : TE := fun σ H Q =>
  ∃ (B : Base) (L : Lk) (G : Hp) (env : Env), Ste B L G H ∧ Rel K S B L G H env σ ∧ Post K S E B L σ G (fun G' H' d e => if isObj d = true then ∀ a o, G' a = none → B.H a = none → H' a = some o → (∀ (i : Nat) (s : Sl), e[i]? = some s → isOwn s = true → σ[i]? ≠ some (some (V.ref a))) → (∀ p ∈ L, p.1 ≠ a) → RepO K S G' d o → Q (.ref a) H' else ∀ v, Rep K S G' d v → Q v H') (f env)
section
variable {S : Nat → Addr} {X : Cx} {E : XK} {e : Expr} {es : List Expr} {ee : Ev} {pos p : Pos} {CX : CXT} {k : Nat} {f : Addr} {fd : FuncData} {ps : List Str} {n : Nat} {g : Fn} {x : Str} {eg : EvG'}
abbrev QY (S : Nat → Addr) (X : Cx) (E : XK) (e : Expr) (f : Ev) : Prop := PE X e (TY X.K S E f)
theorem qy_call (F : FnOk X.prog X.w X.K X.mg X.base CX k f fd ps (spY X.K S n g)) (hr : Room k X.A) (hg : Gl X x) (hm : X.mg x = some (.ref f)) (hk : PySem.W.keepIn X.K (.ref f) = true) (hb : Binds X.K fd ps []) (hx : Passes CX X E)
    (ha : QG S X E (e :: es) eg) (hdb : (x == ("__debug__" : Str)) = false := by decide) (he : starEach (e :: es) X.env = (false, eval e X.env) :: starEach es X.env := by rfl) (hpl : (backTo pos (starEach es X.env)).any (·.1) = false := by rfl) :
    QY S X E (.Call (.Name x p) (e :: es) [] pos) (xCall n g eg) := pe_of (pe_call F hr hg hm hk hb .nil hx ha hdb he hpl) fun σ H Q q => by
  obtain ⟨B, L, G, env, st, rl, po⟩ := q
  refine ⟨B, L, G, env, st, rl, po.then fun G1 H1 as e1 sm1 st1 rl1 p1 vs rv => ?_⟩
  obtain ⟨hn, p1⟩ := len_of p1
  rw [List.append_nil]
  refine call_okY st1 rl1 rv hn p1 fun G' H' d e hown st' rl' h => ?_
  cases hd : isObj d with
  | false =>
    rw [hd] at h
    exact h
  | true =>
    rw [hd] at h
    intro q o hq gq hq' r
    refine h q o gq (st1.free hq) hq' (fun i s h1 h2 h3 => ?_) (st1.nolock hq) r
    obtain ⟨s', e1, e2⟩ := hown i s h1 h2
    exact rl1.fresh hq i s' e1 e2 h3
def xSetY (i : Nat) (a : Ev) : EvS := fun env => (a env).st fun d e => if isObj d = true then (match e[i]? with
  | some (.par _) => .no
  | some _ => .nx (e.set i (.box d))
  | none => .no) else match setE e i d with
  | some e' => .nx e'
  | none => .no
theorem s_setY {i : Nat} {pos' : Pos} (hN : X.N.Nodup) (hi : X.N[i]? = some x) (hx : Loc X.env.scope x) (he : QY S X E e ee) (hs : swapsWith e (some (.Name x pos')) pos.line X.env = pure false := by rfl) (hf : X.fn x = true ∨ X.env.scope.names.lookup x = some .local := by first | exact .inl rfl | exact .inr rfl | assumption) :
    QS S X E (.Assign [.Name x pos'] e pos) (xSetY i ee) := ps_of (ps_set hN hi hx he hs hf) fun D σ H q => by
  obtain ⟨B, L, G, env, st, rl, po⟩ := q
  refine ⟨B, L, G, env, st, rl, Post.st po fun G' H' d e s st' rl' p => ?_⟩
  cases hd : isObj d with
  | true =>
    simp only [hd, if_true] at p ⊢
    intro a o h1 h2 h3 h4 h5 h6
    split at p
    · exact p.elim
    · exact p _ G' H' (.refl _) st' (rel_box rl' h1 h2 h3 h4 h5 h6)
    · exact p.elim
  | false =>
    simp only [hd, Bool.false_eq_true, if_false] at p ⊢
    intro v rv
    split at p
    · rename_i e' h
      exact p _ G' H' (.refl _) st' (rel_set rl' h rv)
    · exact p.elim
end
end
end Dv
namespace Dv
open PySem PySem.Spec PyProof.Rows L2
set_option autoImplicit false
noncomputable section
/-! ### x == y, x != y by an own __eq__, on trees -/
def yOk (bt : String → Nat → Option Bool) (ci : Nat) (y : D) : Bool := match y with
  | .ins C _ => decide (C = ci)
  | .int _ => match bt "int" ci with
    | some false => true
    | _ => false
  | _ => false
def xOeq (neg : Bool) (bt : String → Nat → Option Bool) (ci : Nat) (g : Fn) (a b : Ev) : Ev := fun env => (a env).bind fun x e1 => (b e1).bind fun y e2 => match x with
  | .ins C _ => if C = ci ∧ yOk bt ci y = true then match g [.val x, .val y] with
    | .ok (.bl c) _ => .ok (.bl (if neg then !c else c)) e2
    | _ => .no else .no
  | _ => .no
theorem u80 {k : Nat} {A : Around} (h : Room k A) : A.units + 80 < cLine := by
  have := h.un
  omega
section
variable {S : Nat → Addr} {X : Cx} {E : XK} {a b : Expr} {ea eb : Ev} {pos : Pos} {CX : CXT} {k : Nat} {fd : FuncData} {ps : List Str} {g : Fn} {ci fi : Nat} {bt : String → Nat → Option Bool}
theorem snd_oeq {neg : Bool} {σ : L2.St} {H : Hp} {Q : VK} (hbt : bt "int" ci = some false → PySem.W.subIn X.K (.type "int") (.ref (S ci)) = some false)
    (q : TD X.K S E (xOeq neg bt ci g ea eb) σ H Q) : tOp (rOwn X.K (S ci) (spD X.K S false 2 g) E neg) (TD X.K S E ea) (TD X.K S E eb) σ H Q := by
  obtain ⟨B, L, G, env, st, rl, po⟩ := q
  refine ⟨B, L, G, env, st, rl, po.then fun G1 H1 x e1 sm1 st1 rl1 p1 v rv => ⟨B, L, G1, e1, st1, rl1, p1.then fun G2 H2 y e2 sm2 st2 rl2 p2 w rw' => ?_⟩⟩
  split at p2
  · rename_i C fs
    split at p2
    · rename_i hh
      obtain ⟨rfl, hy⟩ := hh
      split at p2
      · rename_i c pp hg
        have rv2 := rv.mono sm2
        obtain ⟨p, dx, ws, rfl, hp, rf⟩ := id rv2
        refine ⟨p, dx, ws, rfl, st2.inn.ins hp, ?_, G2, [.val (.ins C fs), .val y], none, st2.inn, ⟨.cons rv2 (.cons rw' .nil), (by decide : (0 : Nat) ≤ 1), fun a e => by cases e⟩, rfl, ?_⟩
        · unfold yOk at hy
          split at hy
          · rename_i C' fs'
            obtain rfl := of_decide_eq_true hy
            obtain ⟨p2, dx2, ws2, rfl, hp2, _⟩ := rw'
            exact .inl ⟨p2, dx2, ws2, rfl, st2.inn.ins hp2⟩
          · rename_i i
            split at hy
            · rename_i hb
              exact .inr ⟨i, rw', hbt hb⟩
            · cases hy
          · cases hy
        · rw [hg]
          intro G' H' f _
          rw [if_neg (by decide)]
          intro u ru
          have ru : u = .bl c := ru
          refine ⟨c, ru, ?_⟩
          have x : Ex G2 H2 G' H' := ⟨f.g, fun a o e => f.keep a o e (by intro q; cases q), f.inn, f.new⟩
          exact p2 G' H' x.g (st2.ex x) (rl2.ex x) _ rfl
      · exact p2.elim
    · exact p2.elim
  · exact p2.elim
theorem q_ownNe (O : EqOf X.K (S ci) (S fi)) (F : FnOk X.prog X.w X.K X.mg X.base CX k (S fi) fd ps (spD X.K S false 2 g)) (hb : Binds X.K fd ps []) (hx : Passes CX X E) (hr : Room (k + 1) X.A)
    (hbt : bt "int" ci = some false → PySem.W.subIn X.K (.type "int") (.ref (S ci)) = some false)
    (ha : QE S X E a ea) (hb2 : QE S X E b eb) (hm : behindInMarks .NotEq b = false) : QE S X E (.Compare a [.NotEq] [b] pos) (xOeq true bt ci g ea eb) := pe_of (pe_cmpR (op_ownNe O F hb hx hr) ha hb2 hm) fun _ _ _ q => snd_oeq hbt q
theorem q_ownEq (O : EqOf X.K (S ci) (S fi)) (F : FnOk X.prog X.w X.K X.mg X.base CX k (S fi) fd ps (spD X.K S false 2 g)) (hb : Binds X.K fd ps []) (hx : Passes CX X E) (hr : Room k X.A)
    (hbt : bt "int" ci = some false → PySem.W.subIn X.K (.type "int") (.ref (S ci)) = some false)
    (ha : QE S X E a ea) (hb2 : QE S X E b eb) (hm : behindInMarks .Eq b = false) : QE S X E (.Compare a [.Eq] [b] pos) (xOeq false bt ci g ea eb) := pe_of (pe_cmpR (op_ownEq O F hb hx hr) ha hb2 hm) fun _ _ _ q => snd_oeq hbt q
theorem q_ownNeT (O : EqOf X.K (S ci) (S fi)) (F : FnOk X.prog X.w X.K X.mg X.base CX k (S fi) fd ps (spD X.K S false 2 g)) (hb : Binds X.K fd ps []) (hx : Passes CX X E) (hr : Room (k + 1) X.A)
    (hbt : bt "int" ci = some false → PySem.W.subIn X.K (.type "int") (.ref (S ci)) = some false)
    (ha : QE S X E a ea) (hb2 : QE S X E b eb) (hm : behindInMarks .NotEq b = false) : QT S X E (.Compare a [.NotEq] [b] pos) (xTest (xOeq true bt ci g ea eb)) := pt_of (pt_cmpR (op_ownNe O F hb hx hr) ha hb2 hm) fun _ _ _ q => snd_test (fun _ h => snd_oeq hbt h) q
theorem q_ownEqT (O : EqOf X.K (S ci) (S fi)) (F : FnOk X.prog X.w X.K X.mg X.base CX k (S fi) fd ps (spD X.K S false 2 g)) (hb : Binds X.K fd ps []) (hx : Passes CX X E) (hr : Room k X.A)
    (hbt : bt "int" ci = some false → PySem.W.subIn X.K (.type "int") (.ref (S ci)) = some false)
    (ha : QE S X E a ea) (hb2 : QE S X E b eb) (hm : behindInMarks .Eq b = false) : QT S X E (.Compare a [.Eq] [b] pos) (xTest (xOeq false bt ci g ea eb)) := pt_of (pt_cmpR (op_ownEq O F hb hx hr) ha hb2 hm) fun _ _ _ q => snd_test (fun _ h => snd_oeq hbt h) q
/-! a def of the other kind is called -/
variable {f : Addr} {fd : FuncData} {n : Nat} {x : Str} {e : Expr} {es : List Expr} {p : Pos} {eg : EvG'}
theorem q_callG (F : FnG X.prog X.w X.K X.mg X.base CX k f fd ps (spD X.K S false n g)) (gd : X.A.guards = some []) (hr : Room k X.A) (hg : Gl X x) (hm : X.mg x = some (.ref f)) (hk : PySem.W.keepIn X.K (.ref f) = true) (hb : Binds X.K fd ps []) (hx : Passes CX X E)
    (ha : QG S X E (e :: es) eg) (hdb : (x == ("__debug__" : Str)) = false := by decide) (he : starEach (e :: es) X.env = (false, eval e X.env) :: starEach es X.env := by rfl) (hpl : (backTo pos (starEach es X.env)).any (·.1) = false := by rfl) :
    QE S X E (.Call (.Name x p) (e :: es) [] pos) (xCall n g eg) := pe_of (pe_callG F gd hr hg hm hk hb .nil hx ha hdb he hpl) fun _ _ _ q => snd_call q
end
end
end Dv
namespace Rn
open PySem PySem.Spec PyProof.Rows L2
set_option autoImplicit false
noncomputable section
/-! ### the head: facts of a fragment, as Bools -/
def eqF (o : Option (Option Value)) (s : String) : Bool := match o with
  | some (some (.builtin t)) => decide (t = s)
  | _ => false
def eqR (o : Option (Option Value)) (a : Nat) : Bool := match o with
  | some (some (.ref b)) => Nat.beq b a
  | _ => false
def eqN (o : Option (Option Value)) : Bool := match o with
  | some none => true
  | _ => false
def eqB (o : Option Bool) (b : Bool) : Bool := match o, b with
  | some true, true => true
  | some false, false => true
  | _, _ => false
def eqC1 (o : Option PySem.W.CFound) (a : Nat) : Bool := match o with
  | some (.val (.ref b)) => Nat.beq b a
  | _ => false
def eqT (o : Option Value) (s : String) : Bool := match o with
  | some (.type t) => decide (t = s)
  | _ => false
theorem eqF_ok {o : Option (Option Value)} {s : String} (h : eqF o s = true) : o = some (some (.builtin s)) := by
  unfold eqF at h
  split at h
  · rw [of_decide_eq_true h]
  · cases h
theorem eqR_ok {o : Option (Option Value)} {a : Nat} (h : eqR o a = true) : o = some (some (.ref a)) := by
  unfold eqR at h
  split at h
  · rw [Nat.eq_of_beq_eq_true h]
  · cases h
theorem eqN_ok {o : Option (Option Value)} (h : eqN o = true) : o = some none := by
  unfold eqN at h
  split at h
  · rfl
  · cases h
theorem eqB_ok {o : Option Bool} {b : Bool} (h : eqB o b = true) : o = some b := by
  unfold eqB at h
  split at h
  · rfl
  · rfl
  · cases h
theorem eqC1_ok {o : Option PySem.W.CFound} {a : Nat} (h : eqC1 o a = true) : o = some (.val (.ref a)) := by
  unfold eqC1 at h
  split at h
  · rw [Nat.eq_of_beq_eq_true h]
  · cases h
theorem eqT_ok {o : Option Value} {s : String} (h : eqT o s = true) : o = some (.type s) := by
  unfold eqT at h
  split at h
  · rw [of_decide_eq_true h]
  · cases h
def strAt (o : Option (Option Value)) (z : PySem.Str) : Bool := match o with
  | some (some (.str y _)) => decide (y = z)
  | _ => false
def intAt (o : Option (Option Value)) (i : Int) : Bool := match o with
  | some (some (.int j _)) => decide (j = i)
  | _ => false
theorem strAt_ok {o : Option (Option Value)} {z : PySem.Str} (h : strAt o z = true) : ∃ t, o = some (some (.str z t)) := by
  unfold strAt at h
  split at h
  · rw [of_decide_eq_true h]
    exact ⟨_, rfl⟩
  · cases h
theorem intAt_ok {o : Option (Option Value)} {i : Int} (h : intAt o i = true) : ∃ t, o = some (some (.int i t)) := by
  unfold intAt at h
  split at h
  · rw [of_decide_eq_true h]
    exact ⟨_, rfl⟩
  · cases h
def fdOf (K : PySem.W.Frag) (f : Addr) : FuncData := match K.lookup f with
  | some ⟨_, _, .func fd, _⟩ => fd
  | _ => default
abbrev FnX : Type := Option (PySem.Str × PySem.Str × Arguments × FuncBody × Scope × Addr × List (PySem.Str × Addr) × Addr)
def fnX (K : PySem.W.Frag) (f : Addr) : FnX := match K.lookup f with
  | some ⟨_, _, .func fd, _⟩ => some (fd.name, fd.qualname, fd.params, fd.body, fd.scope, fd.globals, fd.closure, fd.builtins)
  | _ => none
def fnV (x qual : PySem.Str) (st : Stmt) : FnX := some (x, qual, defArgs st, .stmts (defBody st), defScope st, mainGlobals, [], builtinsNs)
def fnB (K : PySem.W.Frag) (f : Addr) (qual : PySem.Str) : Bool := match K.lookup f with
  | some ⟨_, _, .func fd, _⟩ => PySem.W.codeIn K fd.code qual && (match fd.defaults with
    | .none => true
    | _ => false)
  | _ => false
theorem fun_of {K : PySem.W.Frag} {f : Addr} {x qual : PySem.Str} {st : Stmt} (h1 : fnX K f = fnV x qual st) (h2 : fnB K f qual = true) (h3 : PySem.W.keepIn K (.ref f) = true) : Fun K x qual st f (fdOf K f) := by
  unfold fnX at h1
  unfold fnB at h2
  unfold fdOf
  split at h1
  · rename_i oc od fd sl hl
    rw [hl] at h2
    obtain ⟨a1, a2, a3, a4, a5, a6, a7, a8, a9, b1, b2, b3, b4, b5, b6⟩ := fd
    unfold fnV at h1
    simp only [Option.some.injEq, Prod.mk.injEq] at h1
    obtain ⟨rfl, rfl, rfl, rfl, rfl, rfl, rfl, rfl⟩ := h1
    rw [Bool.and_eq_true] at h2
    obtain ⟨h4, h5⟩ := h2
    dsimp only at h4 h5
    cases a8 with
    | none => exact ⟨⟨oc, od, _, _, _, _, _, _, _, rfl, hl, h4⟩, h3⟩
    | _ => cases h5
  · cases h1
def valB (v : V) (u : Value) : Bool := match v, u with
  | .str z, .str y _ => decide (y = z)
  | .int i, .int j _ => decide (j = i)
  | .ref a, .ref b => Nat.beq a b
  | .non, .none => true
  | .bl true, .bool true => true
  | .bl false, .bool false => true
  | _, _ => false
theorem valB_ok {v : V} {u : Value} (h : valB v u = true) : RelV v u := by
  unfold valB at h
  split at h
  · rw [of_decide_eq_true h]; exact ⟨_, rfl⟩
  · rw [of_decide_eq_true h]; exact ⟨_, rfl⟩
  · rw [Nat.eq_of_beq_eq_true h]; rfl
  · rfl
  · rfl
  · rfl
  · cases h
def valsB : List V → List Value → Bool
  | [], [] => true
  | v :: vs, u :: us => valB v u && valsB vs us
  | _, _ => false
theorem valsB_ok : ∀ {vs : List V} {us : List Value}, valsB vs us = true → Vals vs us
  | [], [], _ => .nil
  | v :: vs, u :: us, h => by
    unfold valsB at h
    rw [Bool.and_eq_true] at h
    exact .cons (valB_ok h.1) (valsB_ok h.2)
  | [], _ :: _, h => by cases h
  | _ :: _, [], h => by cases h
def tupB (K : PySem.W.Frag) (a : Addr) (vs : List V) : Bool := match K.lookup a with
  | some ⟨.type t, _, .seq its _, _⟩ => decide (t = "tuple") && valsB vs its.toList
  | _ => false
theorem tupB_ok {K : PySem.W.Frag} {a : Addr} {vs : List V} (h : tupB K a vs = true) (hl : vs.length ≤ 1000) : ∀ H, SqT K H a vs := fun H => by
  unfold tupB at h
  split at h
  · rename_i hk
    rw [Bool.and_eq_true] at h
    have v := valsB_ok h.2
    refine .inr ⟨_, _, _, hk, ?_, rfl, ?_, v⟩
    · rw [of_decide_eq_true h.1]
    · have e := Paired.length v
      simp only [Array.length_toList] at e
      have : sizeLine = 16777216 := sizeLine_eq
      omega
  · cases h
def fnBD (K : PySem.W.Frag) (f : Addr) (qual : PySem.Str) (dvs : List V) : Bool := match K.lookup f with
  | some ⟨_, _, .func fd, _⟩ => PySem.W.codeIn K fd.code qual && (match fd.defaults with
    | .ref t => (match K.lookup t with
      | some ⟨_, _, .seq its _, _⟩ => valsB dvs its.toList
      | _ => false)
    | _ => false) && (match fd.kwdefaults with
    | .none => true
    | _ => false)
  | _ => false
theorem funD_of {K : PySem.W.Frag} {f : Addr} {x qual : PySem.Str} {st : Stmt} {dvs : List V} (h0 : dvs ≠ []) (h1 : fnX K f = fnV x qual st) (h2 : fnBD K f qual dvs = true) (h3 : PySem.W.keepIn K (.ref f) = true) : FunD K x qual (defArgs st) (defBody st) (defScope st) dvs [] f (fdOf K f) := by
  unfold fnX at h1
  unfold fnBD at h2
  unfold fdOf
  split at h1
  · rename_i oc od fd sl hl
    rw [hl] at h2
    obtain ⟨a1, a2, a3, a4, a5, a6, a7, a8, a9, b1, b2, b3, b4, b5, b6⟩ := fd
    unfold fnV at h1
    simp only [Option.some.injEq, Prod.mk.injEq] at h1
    obtain ⟨rfl, rfl, rfl, rfl, rfl, rfl, rfl, rfl⟩ := h1
    rw [Bool.and_eq_true, Bool.and_eq_true] at h2
    obtain ⟨⟨h4, h5⟩, h6⟩ := h2
    dsimp only at h4 h5 h6
    cases a9 with
    | none =>
      cases a8 with
      | ref t =>
        dsimp only at h5
        split at h5
        · rename_i hk
          exact ⟨⟨oc, od, _, _, _, _, _, _, _, _, rfl, hl, h4, .inr ⟨h0, _, _, _, _, rfl, hk, rfl, by simpa using valsB_ok h5⟩, .inl rfl⟩, h3⟩
        · cases h5
      | _ => cases h5
    | _ => cases h6
  · cases h1
def fkB (K : PySem.W.Frag) (f : Addr) (qual : PySem.Str) : Bool := match K.lookup f with
  | some ⟨.type t, _, .func fd, _⟩ => decide (t = "function") && (PySem.W.codeIn K fd.code qual && (match fd.defaults with
    | .none => true
    | _ => false))
  | _ => false
theorem fk_ok {K : PySem.W.Frag} {f : Addr} {qual : PySem.Str} (h : fkB K f qual = true) : fnB K f qual = true ∧ PySem.W.keepIn K (.ref f) = true ∧ PySem.W.isFn K (.ref f) = true := by
  unfold fkB at h
  split at h
  · rename_i hl
    rw [Bool.and_eq_true] at h
    have e := of_decide_eq_true h.1
    subst e
    refine ⟨?_, ?_, ?_⟩
    · unfold fnB
      rw [hl]
      exact h.2
    · unfold PySem.W.keepIn
      simp only [hl]
    · unfold PySem.W.isFn PySem.W.typeIn
      simp only [hl]
      rfl
  · cases h
def oexB (K : PySem.W.Frag) (C : Addr) : Bool := match K.lookup C with
  | some ⟨.type t, _, .cls cd, sl⟩ => decide (t = "type") && (match cd.mro with
    | .ref C' :: bm => Nat.beq C' C && HandSPX.refsVE bm
    | _ => false) && (cd.hasDict && !cd.hasDel) && (match sl.toList with
    | [_, _, _, _, some (.builtin n), _] => decide (n = "ValueError.__new__")
    | _ => false)
  | _ => false
theorem oexB_ok {K : PySem.W.Frag} {C : Addr} (h : oexB K C = true) : ∃ nm q N bs bm sn sub ab col dd k0 k1 k2 k3 k5, K.lookup C = some (excClassObj nm q C N bs bm true sn sub ab col dd k0 k1 k2 k3 k5 "ValueError.__new__") ∧ HandSPX.refsVE bm = true := by
  unfold oexB at h
  split at h
  · rename_i t dd cd sl hk
    obtain ⟨c1, c2, c3, c4, c5, c6, c7, c8, c9, d1, d2⟩ := cd
    rw [Bool.and_eq_true, Bool.and_eq_true, Bool.and_eq_true] at h
    obtain ⟨⟨⟨h1, h2⟩, h3⟩, h4⟩ := h
    have h1 := of_decide_eq_true h1
    subst h1
    dsimp only at h2 h3 h4
    rw [Bool.and_eq_true] at h3
    obtain ⟨h5, h6⟩ := h3
    cases h5
    cases d2 with
    | true => cases h6
    | false =>
      split at h2
      · rename_i C' bm
        rw [Bool.and_eq_true] at h2
        have e := Nat.eq_of_beq_eq_true h2.1
        subst e
        split at h4
        · rename_i k0 k1 k2 k3 n k5 hs
          have e := of_decide_eq_true h4
          subst e
          have e2 : sl = #[k0, k1, k2, k3, some (.builtin "ValueError.__new__"), k5] := Array.toList_inj.mp hs
          subst e2
          exact ⟨_, _, _, _, bm, _, _, _, _, _, _, _, _, _, _, hk, h2.2⟩
        · cases h4
      · cases h2
  · cases h
/-! lists of Bools -/
def allB (l : List Bool) : Bool := List.rec (motive := fun _ => Bool) true (fun b _ go => match b with
  | true => go
  | false => false) l
theorem allB_at : ∀ {l : List Bool}, allB l = true → ∀ (i : Nat) {b : Bool}, l[i]? = some b → b = true
  | [], _, i, b, e => by simp at e
  | true :: r, h, 0, b, e => by simp at e; exact e
  | true :: r, h, i + 1, b, e => allB_at (l := r) h i (by simpa using e)
  | false :: r, h, i, b, e => by cases h
/-! the hook -/
structure HdD where
  as : List Addr
  ex : PySem.W.Frag → Bool
  fs : List Addr
  fv : List FnX
  ds : List Addr
  dk : List (List PySem.Str)
abbrev AlH : Type := Bool × List FnX × List (Option (List (Option (PySem.Str × Int))))
def frH (g : Addr → Option Obj) (as : List Addr) : PySem.W.Frag := He.frG g as
def obsH (D : HdD) (g : Addr → Option Obj) : AlH := (D.ex (He.frG g D.as), D.fs.map (fnX (He.frG g D.as)), D.ds.map (He.dicW (He.frG g D.as)))
def valH (D : HdD) (w : World) : AlH := (true, D.fv, D.dk.map fun ks => some (He.keysIn w.params ks))
structure SaysH (D : HdD) (w : World) (K : PySem.W.Frag) : Prop where
  ex : D.ex K = true
  fn : D.fs.map (fnX K) = D.fv
  dc : D.ds.map (He.dicW K) = D.dk.map fun ks => some (He.keysIn w.params ks)
def hookH (D : HdD) : PySem.W.Hook where
  α := AlH
  obs := fun s => obsH D s.heap.get?
  val := valH D
  says := fun w h => ∃ K, K.In h ∧ SaysH D w K
  of := fun w s e => by
    unfold obsH valH at e
    rw [Prod.mk.injEq, Prod.mk.injEq] at e
    exact ⟨He.frG s.heap.get? D.as, He.frG_in, e.1, e.2.1, e.2.2⟩
  keeps := fun w h h' ⟨K, k, s⟩ m => ⟨K, fun a o e => m a o (k a o e), s⟩
def obH (D : HdD) (s : PySem.W.SharedT) : AlH := obsH D (HandSHeadRun.getT s)
theorem obH_eq (D : HdD) (s : PySem.W.SharedT) : obH D s = (hookH D).obs s.abs := by
  show obsH D (HandSHeadRun.getT s) = obsH D s.abs.heap.get?
  rw [show HandSHeadRun.getT s = s.abs.heap.get? from funext (HandSHeadRun.getT_eq s)]
theorem joinH {r : PySem.W.OpenRow} {q : Program} {D : HdD} {M : Nat} {loose : List PySem.Str} {w : World} {os : OsState} (o : Option PySem.W.SharedT) (ho : HandSHeadRun.endF (HandSHeadRun.stepQ (HandSHeadRun.denQ HandSHeadRun.tabQ) r.prog w) M r.prog w os = o)
    (h1 : o.map (fun s => HandSHeadRun.looksF r.prog (PySem.W.boot_heap w.params) s.abs) = some true)
    (h2 : o.map (fun s => HandSHeadRun.seenQ q loose (importedModules r.prog.main.body) (fun s => PySem.W.xlAt q [] s && PySem.W.recOk r.records s) s.abs) = some (PySem.W.openGood q loose))
    (h3 : o.map (fun s => D.ex (He.frG (HandSHeadRun.getT s) D.as)) = some true) (h4 : o.map (fun s => D.fs.map (fnX (He.frG (HandSHeadRun.getT s) D.as))) = some D.fv)
    (h5 : o.map (fun s => D.ds.map (He.dicW (He.frG (HandSHeadRun.getT s) D.as))) = some (D.dk.map fun ks => some (He.keysIn w.params ks))) :
    Option.map (fun s => (HandSHeadRun.looksF r.prog (PySem.W.boot_heap w.params) s.abs, HandSHeadRun.seenQ q loose (importedModules r.prog.main.body) (fun s => PySem.W.xlAt q [] s && PySem.W.recOk r.records s) s.abs, obH D s)) (HandSHeadRun.endF (HandSHeadRun.stepQ (HandSHeadRun.denQ HandSHeadRun.tabQ) r.prog w) M r.prog w os) = some (true, PySem.W.openGood q loose, (hookH D).val w) := by
  rw [ho]
  cases o with
  | none => cases h1
  | some s =>
    have e1 := Option.some.inj h1
    have e2 := Option.some.inj h2
    have e3 := Option.some.inj h3
    have e4 := Option.some.inj h4
    have e5 := Option.some.inj h5
    show some (_, _, (D.ex (He.frG (HandSHeadRun.getT s) D.as), D.fs.map (fnX (He.frG (HandSHeadRun.getT s) D.as)), D.ds.map (He.dicW (He.frG (HandSHeadRun.getT s) D.as)))) = some (true, _, (true, D.fv, D.dk.map fun ks => some (He.keysIn w.params ks)))
    dsimp only at e1 e2 e3 e4 e5
    rw [e1, e2, e3, e4, e5]
theorem fn_at {D : HdD} {w : World} {K : PySem.W.Frag} (s : SaysH D w K) (i : Nat) {f : Addr} {v : FnX} (h1 : D.fs[i]? = some f) (h2 : D.fv[i]? = some v) : fnX K f = v := by
  have e := s.fn
  have e2 : (D.fs.map (fnX K))[i]? = D.fv[i]? := by rw [e]
  rw [List.getElem?_map, h1, h2] at e2
  exact Option.some.inj e2
theorem dc_at {D : HdD} {w : World} {K : PySem.W.Frag} (s : SaysH D w K) (i : Nat) {a : Addr} {ks : List PySem.Str} (h1 : D.ds[i]? = some a) (h2 : D.dk[i]? = some ks) : ∃ es n, KDict K w a es n := by
  have e2 : (D.ds.map (He.dicW K))[i]? = (D.dk.map fun ks => some (He.keysIn w.params ks))[i]? := by rw [s.dc]
  rw [List.getElem?_map, List.getElem?_map, h1, h2] at e2
  exact He.dicW_ok (Option.some.inj e2)
theorem kd_of {w : World} {K : PySem.W.Frag} {a : Addr} {x : PySem.Str} {b : Addr} (h : ∃ es n, KDict K w a es n) (h2 : eqR (PySem.W.nsIn K a x) b = true) : KDct K w a x (.ref b) := by
  obtain ⟨es, n, k⟩ := h
  exact ⟨es, n, .ref b, k.at_, k.lit, eqR_ok h2, rfl⟩
end
end Rn
namespace Ct
open PySem PySem.W PySem.Calls PyProof.Rows HandSHeadRun
set_option autoImplicit false
noncomputable section
/-! ### the top in pieces, each from a written state to a written state -/
section
variable (st : SharedT → Thread → Option (SharedT × Thread)) (n0 : Nat) (ann : Option Value) (b : Nat)
def segF : Nat → SharedT → Thread → Option (Flow × SharedT × Code × Pos)
  | 0, _, _ => none
  | m + 1, s, t => match endAt b t with
    | some f => some (f, s, t.code, t.pos)
    | none => match stepOk n0 ann t with
      | false => none
      | true => match st s t with
        | some (s', t') => frS s' fun s' => segF m s' t'
        | none => none
def preF : Nat → SharedT → Thread → Option (SharedT × Thread)
  | 0, s, t => some (s, t)
  | m + 1, s, t => match through t with
    | true => none
    | false => match stepOk n0 ann t with
      | false => none
      | true => match st s t with
        | some (s', t') => frS s' fun s' => preF m s' t'
        | none => none
end
section
variable {tb : String → Option Builtin} {p : Program} {w : World} {n0 : Nat} {ann : Option Value} {b : Nat}
theorem segF_ok : ∀ {m : Nat} {s s' : SharedT} {t : Thread} {f : Flow} {c : Code} {q : Pos}, segF (stepT (denote tb) p w) n0 ann b m s t = some (f, s', c, q) → segRun tb p w n0 ann b m s.abs t = some (f, s'.abs, c, q)
  | 0, _, _, _, _, _, _, h => by cases h
  | m + 1, s, s', t, f, c, q, h => by
    have h1 : (match endAt b t with
      | some f => some (f, s, t.code, t.pos)
      | none => match stepOk n0 ann t with
        | false => none
        | true => match stepT (denote tb) p w s t with
          | some (s', t') => frS s' fun s' => segF (stepT (denote tb) p w) n0 ann b m s' t'
          | none => none) = some (f, s', c, q) := h
    show (match endAt b t with
      | some f => some (f, s.abs, t.code, t.pos)
      | none => match stepOk n0 ann t with
        | false => none
        | true => match step (denote tb) p w s.abs t with
          | .go s' t' => segRun tb p w n0 ann b m s' t'
          | .halt _ _ => none) = some (f, s'.abs, c, q)
    cases he : endAt b t with
    | some g =>
      rw [he] at h1
      cases h1
      rfl
    | none =>
      rw [he] at h1
      cases hk : stepOk n0 ann t with
      | false =>
        rw [hk] at h1
        cases h1
      | true =>
        rw [hk] at h1
        have h2 : (match stepT (denote tb) p w s t with
          | some (s', t') => frS s' fun s' => segF (stepT (denote tb) p w) n0 ann b m s' t'
          | none => none) = some (f, s', c, q) := h1
        cases hs : stepT (denote tb) p w s t with
        | none =>
          rw [hs] at h2
          cases h2
        | some r =>
          obtain ⟨s2, t2⟩ := r
          rw [hs] at h2
          have h3 : (frS s2 fun s' => segF (stepT (denote tb) p w) n0 ann b m s' t2) = some (f, s', c, q) := h2
          rw [frS_eq] at h3
          have r := segF_ok h3
          show (match step (denote tb) p w s.abs t with
            | .go s' t' => segRun tb p w n0 ann b m s' t'
            | .halt _ _ => none) = _
          rw [stepT_spec hs]
          exact r
theorem preF_ok : ∀ {m : Nat} {s s' : SharedT} {t t' : Thread}, preF (stepT (denote tb) p w) n0 ann m s t = some (s', t') → topGo tb p w n0 ann m s.abs t = some (s'.abs, t')
  | 0, _, _, _, _, h => by cases h; rfl
  | m + 1, s, s', t, t', h => by
    have h1 : (match through t with
      | true => none
      | false => match stepOk n0 ann t with
        | false => none
        | true => match stepT (denote tb) p w s t with
          | some (s', t') => frS s' fun s' => preF (stepT (denote tb) p w) n0 ann m s' t'
          | none => none) = some (s', t') := h
    show (match through t with
      | true => none
      | false => match stepOk n0 ann t with
        | false => none
        | true => match step (denote tb) p w s.abs t with
          | .go s' t' => topGo tb p w n0 ann m s' t'
          | .halt _ _ => none) = some (s'.abs, t')
    cases ht : through t with
    | true =>
      rw [ht] at h1
      cases h1
    | false =>
      rw [ht] at h1
      cases hk : stepOk n0 ann t with
      | false =>
        rw [hk] at h1
        cases h1
      | true =>
        rw [hk] at h1
        have h2 : (match stepT (denote tb) p w s t with
          | some (s', t') => frS s' fun s' => preF (stepT (denote tb) p w) n0 ann m s' t'
          | none => none) = some (s', t') := h1
        cases hs : stepT (denote tb) p w s t with
        | none =>
          rw [hs] at h2
          cases h2
        | some r =>
          obtain ⟨s2, t2⟩ := r
          rw [hs] at h2
          have h3 : (frS s2 fun s' => preF (stepT (denote tb) p w) n0 ann m s' t2) = some (s', t') := h2
          rw [frS_eq] at h3
          have r := preF_ok h3
          show (match step (denote tb) p w s.abs t with
            | .go s' t' => topGo tb p w n0 ann m s' t'
            | .halt _ _ => none) = _
          rw [stepT_spec hs]
          exact r
end
/-! the twins of exec -/
def execsQ : List Stmt → Env → Sem Flow := PySem.W.Fast.tw12563942051412417395
theorem execsQ_eq : @PySem.execs = execsQ := PySem.W.Fast.te12563942051412417395
def blockStartQ : List Stmt → Env → Sem Unit := PySem.W.Fast.tw1066825118222455980
theorem blockStartQ_eq : @PySem.blockStart = blockStartQ := PySem.W.Fast.te1066825118222455980
abbrev piecesQ (l : List Stmt) (env : Env) (c : Code) (p : Pos) (B : List Frame) : Thread := ⟨(execsQ l env).wrap doneF deadEnd id id, c, p, B⟩
abbrev blockQ (b : List Stmt) (env : Env) (c : Code) (p : Pos) (B : List Frame) : Thread := ⟨(blockStartQ b env).wrap (fun _ => doneF .next) deadEnd id id, c, p, B⟩
abbrev stQ (p : Program) (w : World) : SharedT → Thread → Option (SharedT × Thread) := stepQ (denQ tabQ) p w
section
variable {p : Program} {w : World} {n0 : Nat} {ann : Option Value} {env : Env} {q : Pos}
theorem pieceQ {m N : Nat} {s s' : SharedT} {r : Shared} {l rest : List Stmt} {c : Code} {pos p' : Pos} (h : segF (stQ p w) n0 ann 1 m s (piecesQ l env c pos [topFrame q]) = some (.next, s', c, p'))
    (k : topRun treeTable p w n0 ann N s'.abs (restOf rest env c p' [topFrame q]) = some r) : topRun treeTable p w n0 ann (m + N) s.abs (restOf (l ++ rest) env c pos [topFrame q]) = some r := by
  unfold stQ piecesQ at h
  rw [← stepQ_eq, ← denQ_eq, ← tabQ_eq, ← execsQ_eq] at h
  exact piece_app (segF_ok h) k
theorem blockQ_ok {m N : Nat} {s s' : SharedT} {r : Shared} {b : List Stmt} {c : Code} {pos p' : Pos} (h : segF (stQ p w) n0 ann 1 m s (blockQ b env c pos [topFrame q]) = some (.next, s', c, p'))
    (k : topRun treeTable p w n0 ann N s'.abs (restOf b env c p' [topFrame q]) = some r) : topRun treeTable p w n0 ann (m + N) s.abs ⟨denote treeTable (.body b env), c, pos, [topFrame q]⟩ = some r := by
  unfold stQ blockQ at h
  rw [← stepQ_eq, ← denQ_eq, ← tabQ_eq, ← blockStartQ_eq] at h
  exact piece_block (segF_ok h) k
theorem preQ {m N : Nat} {s s' : SharedT} {r : Shared} {b : List Stmt} {c : Code} {pos : Pos} {t : Thread} {B : List Frame} (h : preF (stQ p w) n0 ann m s t = some (s', ⟨denQ tabQ (.body b env), c, pos, B⟩))
    (k : topRun treeTable p w n0 ann N s'.abs ⟨denote treeTable (.body b env), c, pos, B⟩ = some r) : topRun treeTable p w n0 ann (m + N) s.abs t = some r := by
  unfold stQ at h
  rw [← stepQ_eq, ← denQ_eq, ← tabQ_eq] at h
  exact go_top (preF_ok h) k
theorem finQ {m : Nat} {s s' : SharedT} {c : Code} {pos : Pos} (h : goF (stQ p w) n0 ann m s ⟨doneF .next, c, pos, [topFrame q]⟩ = some s') : topRun treeTable p w n0 ann m s.abs (restOf [] env c pos [topFrame q]) = some s'.abs := by
  unfold stQ at h
  rw [← stepQ_eq, ← denQ_eq, ← tabQ_eq] at h
  exact piece_nil (goF_ok h)
end
theorem left_cut {p q : Program} {loose : List PySem.Str} {Xt : Shared → Bool} {α : Type} {Yf : Shared → α} {Ya : World → α} {N M : Nat} {SF : World → OsState → SharedT}
    (e : opening p = plainProg p.main.scope.names) (hN : Nat.ble 600 N = true) (f : ∀ s, fenceModules? p s = some s) (le : Nat.ble M N = true)
    (top : ∀ (w : World) (os : OsState), topRun treeTable p w (boot_heap w.params).objs.size (bootAnn w) M ⟨boot_heap w.params, #[], boot_drawn, boot_toks, os⟩ (topStub p) = some (SF w os).abs)
    (run : ∀ (w : World) (os : OsState), (some (SF w os)).map (fun s => (looksF p (boot_heap w.params) s.abs, openSeen q loose (importedModules p.main.body) Xt true s.abs, Yf s.abs)) = some (true, openGood q loose, Ya w)) :
    LeftO p q loose Xt Yf Ya N true := fun w => by
  obtain ⟨⟨h, gs, d, k, os⟩, a, a'⟩ := Option.map_eq_some_iff.mp (boot_open e hN f w)
  obtain ⟨rfl, rfl, rfl, rfl⟩ : h = boot_heap w.params ∧ gs = Array.mk [] ∧ d = boot_drawn ∧ k = boot_toks := by simpa using a'
  have hv := Option.some.inj (run w os)
  obtain ⟨l1, l2, l3⟩ : _ ∧ _ ∧ _ := by simpa only [Prod.mk.injEq] using hv
  have r := topRun_mono (N - M) _ _ _ _ (top w os)
  rw [show M + (N - M) = N by have := Nat.le_of_ble_eq_true le; omega] at r
  have l1' : (staticsOk (importedModules p.main.body) (boot_heap w.params) (SF w os).abs.heap && namesBound p (SF w os).abs.heap && gensDone (SF w os).abs && laidKept (boot_heap w.params) (SF w os).abs.heap) = true := l1
  have t : topFrom treeTable p w N ⟨boot_heap w.params, Array.mk [], boot_drawn, boot_toks, os⟩ = some (SF w os).abs := by
    unfold topFrom
    dsimp only
    rw [boot_ns]
    show (topRun treeTable p w (boot_heap w.params).objs.size (bootAnn w) N ⟨boot_heap w.params, #[], boot_drawn, boot_toks, os⟩ (topStub p)).bind _ = _
    rw [r]
    show (match staticsOk (importedModules p.main.body) (boot_heap w.params) (SF w os).abs.heap && namesBound p (SF w os).abs.heap && gensDone (SF w os).abs && laidKept (boot_heap w.params) (SF w os).abs.heap with | true => some (SF w os).abs | false => none) = _
    rw [l1']
  unfold openEnds
  rw [a]
  show (topFrom treeTable p w N _).map _ = _
  rw [t]
  exact congrArg some (Prod.ext l2 l3)
def RunEq (r : OpenRow) (q : Program) (H : Hook) (ob : SharedT → H.α) (SF : World → OsState → SharedT) (loose : List PySem.Str) (w : World) : Prop :=
  ∀ os : OsState, (some (SF w os)).map (fun s => (looksF r.prog (boot_heap w.params) s.abs, seenQ q loose (importedModules r.prog.main.body) (fun s => xlAt q [] s && recOk r.toRowW.records s) s.abs, ob s)) = some (true, openGood q loose, H.val w)
theorem head_cut {r : OpenRow} {q : Program} {H : Hook} {ob : SharedT → H.α} {M : Nat} {SF : World → OsState → SharedT} {loose : List PySem.Str} {d : DefRec} {kwd : List (PySem.Str × PySem.Expr)} (ho : ∀ s : SharedT, ob s = H.obs s.abs)
    (e : opening r.prog = plainProg r.prog.main.scope.names) (f : ∀ s, fenceModules? r.prog s = some s)
    (top : ∀ (w : World) (os : OsState), topRun treeTable r.prog w (boot_heap w.params).objs.size (bootAnn w) M ⟨boot_heap w.params, #[], boot_drawn, boot_toks, os⟩ (topStub r.prog) = some (SF w os).abs)
    (run : ∀ w, RunEq r q H ob SF loose w)
    (hdef : defOf q r.name = some (d, kwd)) (hp : r.prog.theDef r.name = some (d.params, d.body, d.scope)) (hk : kwWritten? d.params.kwonlyargs d.params.kw_defaults = some kwd)
    (hwr : (!r.writes || r.records.isEmpty) = true) (k1 : r.wellSaid = true) (ok : (chainsOk q && opensWell r.prog && (frees r.toRowW && r.within.isEmpty)) = true) (hb : r.prog.bare) (hw : r.toRowW.promised)
    (call : WalkO q loose (XL q []) H.says r.toRowW d kwd fun f vs => PySem.call f vs) : r.Holds := by
  have left : LeftO r.prog q loose (fun s => xlAt q [] s && recOk r.toRowW.records s) H.obs H.val (M + 600) true :=
    left_cut (M := M) e (Nat.ble_eq_true_of_le (by omega)) f (Nat.ble_eq_true_of_le (by omega)) top fun w os => by
      have z := run w os
      have eo : ob = fun s => H.obs s.abs := funext ho
      rw [eo] at z
      simp only [seenQ_eq]
      exact z
  exact holds_open (r := r) (q := q) (loose := loose) (XP := XL q []) (YP := H.says) (d := d) (kwd := kwd) left H.of H.keeps (fun s z => xl_of s (Bool.and_eq_true_iff.mp z).1) XL.keeps hdef hp hk (fun s z => recFacts_of (Bool.and_eq_true_iff.mp z).2) hwr k1 ok hb hw call
theorem joinC {r : PySem.W.OpenRow} {q : Program} {D : Rn.HdD} {loose : List PySem.Str} {w : World} {x : PySem.W.SharedT} (o : Option PySem.W.SharedT) (ho : some x = o)
    (h1 : o.map (fun s => HandSHeadRun.looksF r.prog (PySem.W.boot_heap w.params) s.abs) = some true)
    (h2 : o.map (fun s => HandSHeadRun.seenQ q loose (importedModules r.prog.main.body) (fun s => PySem.W.xlAt q [] s && PySem.W.recOk r.records s) s.abs) = some (PySem.W.openGood q loose))
    (h3 : o.map (fun s => D.ex (He.frG (HandSHeadRun.getT s) D.as)) = some true) (h4 : o.map (fun s => D.fs.map (Rn.fnX (He.frG (HandSHeadRun.getT s) D.as))) = some D.fv)
    (h5 : o.map (fun s => D.ds.map (He.dicW (He.frG (HandSHeadRun.getT s) D.as))) = some (D.dk.map fun ks => some (He.keysIn w.params ks))) :
    Option.map (fun s => (HandSHeadRun.looksF r.prog (PySem.W.boot_heap w.params) s.abs, HandSHeadRun.seenQ q loose (importedModules r.prog.main.body) (fun s => PySem.W.xlAt q [] s && PySem.W.recOk r.records s) s.abs, Rn.obH D s)) (some x) = some (true, PySem.W.openGood q loose, (Rn.hookH D).val w) := by
  rw [ho]
  cases o with
  | none => cases h1
  | some s =>
    have e1 := Option.some.inj h1
    have e2 := Option.some.inj h2
    have e3 := Option.some.inj h3
    have e4 := Option.some.inj h4
    have e5 := Option.some.inj h5
    show some (_, _, (D.ex (He.frG (HandSHeadRun.getT s) D.as), D.fs.map (Rn.fnX (He.frG (HandSHeadRun.getT s) D.as)), D.ds.map (He.dicW (He.frG (HandSHeadRun.getT s) D.as)))) = some (true, _, (true, D.fv, D.dk.map fun ks => some (He.keysIn w.params ks)))
    dsimp only at e1 e2 e3 e4 e5
    rw [e1, e2, e3, e4, e5]
end
end Ct
namespace K39
open PySem PySem.Spec PyProof.Rows L2 Dv
set_option autoImplicit false
noncomputable section
theorem kit_self {K : PySem.W.Frag} {C : Addr} : PySem.W.kitOne K (.ref C) (.ref C) = some true := if_pos (beq_self_eq_true _)
theorem kit_own {K : PySem.W.Frag} {C D : Addr} {r : Bool} (h1 : PySem.W.isClsIn K D = true) (h2 : PySem.W.typeIn K (.ref D) = some (.type "type")) (h3 : PySem.W.subIn K (.ref C) (.ref D) = some r) (h4 : (Value.ref C == Value.ref D) = false) :
    PySem.W.kitOne K (.ref C) (.ref D) = some r := by
  have a1 : ((PySem.W.clsIn K D).isSome && PySem.W.typeIn K (.ref D) == some (.type "type")) = true := by
    rw [h2, show (PySem.W.clsIn K D).isSome = true from h1] <;> rfl
  have a2 : PySem.W.kitCls K (.ref C) (.ref D) = some r := Eq.trans (if_pos a1) h3
  exact Eq.trans (if_neg (by rw [h4] <;> decide)) a2
def topS (i : Nat) : Stmt := PySem.Challenge.pw_oneheap_k39_what_contents_tell.main.body.getD i (.Pass ⟨0, 0, 0, 0⟩)
structure Ad where
  C_IntSort : Addr
  C_TextSort : Addr
  C_RefSort : Addr
  C_ListSort : Addr
  C_Thing : Addr
  C_PictureSource : Addr
  C_Field : Addr
  C_Kind : Addr
  C_Schema : Addr
  f_IntSort___init__ : Addr
  fd_IntSort___init__ : FuncData
  f_TextSort___init__ : Addr
  fd_TextSort___init__ : FuncData
  f_RefSort___init__ : Addr
  fd_RefSort___init__ : FuncData
  f_ListSort___init__ : Addr
  fd_ListSort___init__ : FuncData
  f_Thing___init__ : Addr
  fd_Thing___init__ : FuncData
  f_Thing_copied : Addr
  fd_Thing_copied : FuncData
  f_Thing___eq__ : Addr
  fd_Thing___eq__ : FuncData
  f_PictureSource___init__ : Addr
  fd_PictureSource___init__ : FuncData
  f_PictureSource_thing : Addr
  fd_PictureSource_thing : FuncData
  f_Field___init__ : Addr
  fd_Field___init__ : FuncData
  f_Kind___init__ : Addr
  fd_Kind___init__ : FuncData
  f_Kind_field_of : Addr
  fd_Kind_field_of : FuncData
  f_Schema___init__ : Addr
  fd_Schema___init__ : FuncData
  f_Schema_kind_of : Addr
  fd_Schema_kind_of : FuncData
  f_is_reference : Addr
  fd_is_reference : FuncData
  f_is_list : Addr
  fd_is_list : FuncData
  f_blank : Addr
  fd_blank : FuncData
  f_content_copy : Addr
  fd_content_copy : FuncData
  f_blank_thing : Addr
  fd_blank_thing : FuncData
  f_holds_number : Addr
  fd_holds_number : FuncData
  f_told_content : Addr
  fd_told_content : FuncData
  f_is_one_of : Addr
  fd_is_one_of : FuncData
  f_picture_copy : Addr
  fd_picture_copy : FuncData
  f__law_cells : Addr
  fd__law_cells : FuncData
  f__law_draw : Addr
  fd__law_draw : FuncData
  f__law_pick : Addr
  fd__law_pick : FuncData
  f__law_links : Addr
  fd__law_links : FuncData
  f__law_names : Addr
  fd__law_names : FuncData
  f__law_rules : Addr
  fd__law_rules : FuncData
  f__law_schema : Addr
  fd__law_schema : FuncData
  f__law_number : Addr
  fd__law_number : FuncData
  f__law_list : Addr
  fd__law_list : FuncData
  f__law_contents : Addr
  fd__law_contents : FuncData
  f__law_picture : Addr
  fd__law_picture : FuncData
  f__law_there : Addr
  fd__law_there : FuncData
  f__law_told : Addr
  fd__law_told : FuncData
  f__law_shown : Addr
  fd__law_shown : FuncData
  f__law_holds : Addr
  fd__law_holds : FuncData
  f__law_contents_tell : Addr
  fd__law_contents_tell : FuncData
  f_law : Addr
  fd_law : FuncData
/-- what the top leaves, as the proofs of the defs ask it -/
structure Txt (K : PySem.W.Frag) (mg : Str → Option Value) (A : Ad) : Prop where
  b_int : mg "int" = none
  b_isinstance : mg "isinstance" = none
  b_len : mg "len" = none
  b_list : mg "list" = none
  b_range : mg "range" = none
  b_repr : mg "repr" = none
  b_sorted : mg "sorted" = none
  g_IntSort : mg "IntSort" = some (.ref A.C_IntSort)
  cl_IntSort : Cls K A.C_IntSort
  mk_IntSort : Mk K A.C_IntSort A.f_IntSort___init__
  na_IntSort_low : NoAttr K A.C_IntSort "low"
  na_IntSort_high : NoAttr K A.C_IntSort "high"
  ii_IntSort : ∀ (H : Hp) (a dx : Addr) (fs : List (Str × V)), H a = some (.ins A.C_IntSort dx fs) → TyX K H (.ref a) (.ref A.C_IntSort)
  g_TextSort : mg "TextSort" = some (.ref A.C_TextSort)
  cl_TextSort : Cls K A.C_TextSort
  mk_TextSort : Mk K A.C_TextSort A.f_TextSort___init__
  na_TextSort_longest : NoAttr K A.C_TextSort "longest"
  na_TextSort_without : NoAttr K A.C_TextSort "without"
  ii_TextSort : ∀ (H : Hp) (a dx : Addr) (fs : List (Str × V)), H a = some (.ins A.C_TextSort dx fs) → TyX K H (.ref a) (.ref A.C_TextSort)
  g_RefSort : mg "RefSort" = some (.ref A.C_RefSort)
  cl_RefSort : Cls K A.C_RefSort
  mk_RefSort : Mk K A.C_RefSort A.f_RefSort___init__
  na_RefSort_kinds : NoAttr K A.C_RefSort "kinds"
  na_RefSort_rule : NoAttr K A.C_RefSort "rule"
  ii_RefSort : ∀ (H : Hp) (a dx : Addr) (fs : List (Str × V)), H a = some (.ins A.C_RefSort dx fs) → TyX K H (.ref a) (.ref A.C_RefSort)
  g_ListSort : mg "ListSort" = some (.ref A.C_ListSort)
  cl_ListSort : Cls K A.C_ListSort
  mk_ListSort : Mk K A.C_ListSort A.f_ListSort___init__
  na_ListSort_kinds : NoAttr K A.C_ListSort "kinds"
  ii_ListSort : ∀ (H : Hp) (a dx : Addr) (fs : List (Str × V)), H a = some (.ins A.C_ListSort dx fs) → TyX K H (.ref a) (.ref A.C_ListSort)
  g_Thing : mg "Thing" = some (.ref A.C_Thing)
  cl_Thing : Cls K A.C_Thing
  mk_Thing : Mk K A.C_Thing A.f_Thing___init__
  na_Thing_kind : NoAttr K A.C_Thing "kind"
  na_Thing_contents : NoAttr K A.C_Thing "contents"
  me_Thing_copied : Meth K A.C_Thing "copied" A.f_Thing_copied
  me_Thing___eq__ : Meth K A.C_Thing "__eq__" A.f_Thing___eq__
  ii_Thing : ∀ (H : Hp) (a dx : Addr) (fs : List (Str × V)), H a = some (.ins A.C_Thing dx fs) → TyX K H (.ref a) (.ref A.C_Thing)
  g_PictureSource : mg "PictureSource" = some (.ref A.C_PictureSource)
  cl_PictureSource : Cls K A.C_PictureSource
  mk_PictureSource : Mk K A.C_PictureSource A.f_PictureSource___init__
  na_PictureSource_things : NoAttr K A.C_PictureSource "things"
  me_PictureSource_thing : Meth K A.C_PictureSource "thing" A.f_PictureSource_thing
  g_Field : mg "Field" = some (.ref A.C_Field)
  cl_Field : Cls K A.C_Field
  mk_Field : Mk K A.C_Field A.f_Field___init__
  na_Field_name : NoAttr K A.C_Field "name"
  na_Field_shape : NoAttr K A.C_Field "shape"
  na_Field_needed : NoAttr K A.C_Field "needed"
  g_Kind : mg "Kind" = some (.ref A.C_Kind)
  cl_Kind : Cls K A.C_Kind
  mk_Kind : Mk K A.C_Kind A.f_Kind___init__
  na_Kind_name : NoAttr K A.C_Kind "name"
  na_Kind_fields : NoAttr K A.C_Kind "fields"
  na_Kind_key_rows : NoAttr K A.C_Kind "key_rows"
  me_Kind_field_of : Meth K A.C_Kind "field_of" A.f_Kind_field_of
  g_Schema : mg "Schema" = some (.ref A.C_Schema)
  cl_Schema : Cls K A.C_Schema
  mk_Schema : Mk K A.C_Schema A.f_Schema___init__
  na_Schema_kinds : NoAttr K A.C_Schema "kinds"
  me_Schema_kind_of : Meth K A.C_Schema "kind_of" A.f_Schema_kind_of
  is_IntSort_RefSort : PySem.W.kitOne K (.ref A.C_IntSort) (.ref A.C_RefSort) = some false
  is_TextSort_RefSort : PySem.W.kitOne K (.ref A.C_TextSort) (.ref A.C_RefSort) = some false
  is_RefSort_RefSort : PySem.W.kitOne K (.ref A.C_RefSort) (.ref A.C_RefSort) = some true
  is_ListSort_RefSort : PySem.W.kitOne K (.ref A.C_ListSort) (.ref A.C_RefSort) = some false
  is_IntSort_ListSort : PySem.W.kitOne K (.ref A.C_IntSort) (.ref A.C_ListSort) = some false
  is_TextSort_ListSort : PySem.W.kitOne K (.ref A.C_TextSort) (.ref A.C_ListSort) = some false
  is_RefSort_ListSort : PySem.W.kitOne K (.ref A.C_RefSort) (.ref A.C_ListSort) = some false
  is_ListSort_ListSort : PySem.W.kitOne K (.ref A.C_ListSort) (.ref A.C_ListSort) = some true
  is_Thing_Thing : PySem.W.kitOne K (.ref A.C_Thing) (.ref A.C_Thing) = some true
  F_IntSort___init__ : Fun K "__init__" "IntSort.__init__" (inClass (topS 2) 0) A.f_IntSort___init__ A.fd_IntSort___init__
  b_IntSort___init__ : Binds K A.fd_IntSort___init__ ["self", "low", "high"] []
  F_TextSort___init__ : FunD K "__init__" "TextSort.__init__" (defArgs (inClass (topS 3) 0)) (defBody (inClass (topS 3) 0)) (defScope (inClass (topS 3) 0)) [.non] [] A.f_TextSort___init__ A.fd_TextSort___init__
  b_TextSort___init__ : Binds K A.fd_TextSort___init__ ["self", "longest", "without"] []
  F_RefSort___init__ : Fun K "__init__" "RefSort.__init__" (inClass (topS 4) 0) A.f_RefSort___init__ A.fd_RefSort___init__
  b_RefSort___init__ : Binds K A.fd_RefSort___init__ ["self", "kinds", "rule"] []
  F_ListSort___init__ : Fun K "__init__" "ListSort.__init__" (inClass (topS 5) 0) A.f_ListSort___init__ A.fd_ListSort___init__
  b_ListSort___init__ : Binds K A.fd_ListSort___init__ ["self", "kinds"] []
  F_Thing___init__ : Fun K "__init__" "Thing.__init__" (inClass (topS 10) 0) A.f_Thing___init__ A.fd_Thing___init__
  b_Thing___init__ : Binds K A.fd_Thing___init__ ["self", "kind", "contents"] []
  F_Thing_copied : Fun K "copied" "Thing.copied" (inClass (topS 10) 1) A.f_Thing_copied A.fd_Thing_copied
  b_Thing_copied : Binds K A.fd_Thing_copied ["self"] []
  F_Thing___eq__ : Fun K "__eq__" "Thing.__eq__" (inClass (topS 10) 2) A.f_Thing___eq__ A.fd_Thing___eq__
  b_Thing___eq__ : Binds K A.fd_Thing___eq__ ["self", "other"] []
  F_PictureSource___init__ : Fun K "__init__" "PictureSource.__init__" (inClass (topS 18) 0) A.f_PictureSource___init__ A.fd_PictureSource___init__
  b_PictureSource___init__ : Binds K A.fd_PictureSource___init__ ["self", "picture"] []
  F_PictureSource_thing : Fun K "thing" "PictureSource.thing" (inClass (topS 18) 1) A.f_PictureSource_thing A.fd_PictureSource_thing
  b_PictureSource_thing : Binds K A.fd_PictureSource_thing ["self", "number"] []
  F_Field___init__ : FunD K "__init__" "Field.__init__" (defArgs (inClass (topS 20) 0)) (defBody (inClass (topS 20) 0)) (defScope (inClass (topS 20) 0)) [.bl false] [] A.f_Field___init__ A.fd_Field___init__
  b_Field___init__ : Binds K A.fd_Field___init__ ["self", "name", "shape", "needed"] []
  F_Kind___init__ : Fun K "__init__" "Kind.__init__" (inClass (topS 21) 0) A.f_Kind___init__ A.fd_Kind___init__
  b_Kind___init__ : Binds K A.fd_Kind___init__ ["self", "name", "fields", "key_rows"] []
  F_Kind_field_of : Fun K "field_of" "Kind.field_of" (inClass (topS 21) 1) A.f_Kind_field_of A.fd_Kind_field_of
  b_Kind_field_of : Binds K A.fd_Kind_field_of ["self", "name"] []
  F_Schema___init__ : Fun K "__init__" "Schema.__init__" (inClass (topS 22) 0) A.f_Schema___init__ A.fd_Schema___init__
  b_Schema___init__ : Binds K A.fd_Schema___init__ ["self", "kinds"] []
  F_Schema_kind_of : Fun K "kind_of" "Schema.kind_of" (inClass (topS 22) 1) A.f_Schema_kind_of A.fd_Schema_kind_of
  b_Schema_kind_of : Binds K A.fd_Schema_kind_of ["self", "name"] []
  F_is_reference : Fun K "is_reference" "is_reference" (topS 6) A.f_is_reference A.fd_is_reference
  b_is_reference : Binds K A.fd_is_reference ["shape"] []
  g_is_reference : mg "is_reference" = some (.ref A.f_is_reference)
  F_is_list : Fun K "is_list" "is_list" (topS 7) A.f_is_list A.fd_is_list
  b_is_list : Binds K A.fd_is_list ["shape"] []
  g_is_list : mg "is_list" = some (.ref A.f_is_list)
  F_blank : Fun K "blank" "blank" (topS 8) A.f_blank A.fd_blank
  b_blank : Binds K A.fd_blank ["shape"] []
  g_blank : mg "blank" = some (.ref A.f_blank)
  F_content_copy : Fun K "content_copy" "content_copy" (topS 11) A.f_content_copy A.fd_content_copy
  b_content_copy : Binds K A.fd_content_copy ["content"] []
  g_content_copy : mg "content_copy" = some (.ref A.f_content_copy)
  F_blank_thing : Fun K "blank_thing" "blank_thing" (topS 12) A.f_blank_thing A.fd_blank_thing
  b_blank_thing : Binds K A.fd_blank_thing ["kind"] []
  g_blank_thing : mg "blank_thing" = some (.ref A.f_blank_thing)
  F_holds_number : Fun K "holds_number" "holds_number" (topS 13) A.f_holds_number A.fd_holds_number
  b_holds_number : Binds K A.fd_holds_number ["content", "number"] []
  g_holds_number : mg "holds_number" = some (.ref A.f_holds_number)
  F_told_content : Fun K "told_content" "told_content" (topS 14) A.f_told_content A.fd_told_content
  b_told_content : Binds K A.fd_told_content ["source", "field", "content"] []
  g_told_content : mg "told_content" = some (.ref A.f_told_content)
  F_is_one_of : Fun K "is_one_of" "is_one_of" (topS 15) A.f_is_one_of A.fd_is_one_of
  b_is_one_of : Binds K A.fd_is_one_of ["source", "number", "kinds"] []
  g_is_one_of : mg "is_one_of" = some (.ref A.f_is_one_of)
  F_picture_copy : Fun K "picture_copy" "picture_copy" (topS 16) A.f_picture_copy A.fd_picture_copy
  b_picture_copy : Binds K A.fd_picture_copy ["picture"] []
  g_picture_copy : mg "picture_copy" = some (.ref A.f_picture_copy)
  F__law_cells : Fun K "_law_cells" "_law_cells" (topS 24) A.f__law_cells A.fd__law_cells
  b__law_cells : Binds K A.fd__law_cells ["script", "count"] []
  g__law_cells : mg "_law_cells" = some (.ref A.f__law_cells)
  F__law_draw : Fun K "_law_draw" "_law_draw" (topS 25) A.f__law_draw A.fd__law_draw
  b__law_draw : Binds K A.fd__law_draw ["draws", "bound"] []
  g__law_draw : mg "_law_draw" = some (.ref A.f__law_draw)
  F__law_pick : Fun K "_law_pick" "_law_pick" (topS 26) A.f__law_pick A.fd__law_pick
  b__law_pick : Binds K A.fd__law_pick ["draws", "row"] []
  g__law_pick : mg "_law_pick" = some (.ref A.f__law_pick)
  F__law_links : Fun K "_law_links" "_law_links" (topS 27) A.f__law_links A.fd__law_links
  b__law_links : Binds K A.fd__law_links ["kind", "rules"] []
  g__law_links : mg "_law_links" = some (.ref A.f__law_links)
  F__law_names : Fun K "_law_names" "_law_names" (topS 28) A.f__law_names A.fd__law_names
  b__law_names : Binds K A.fd__law_names ["kind"] []
  g__law_names : mg "_law_names" = some (.ref A.f__law_names)
  F__law_rules : Fun K "_law_rules" "_law_rules" (topS 29) A.f__law_rules A.fd__law_rules
  b__law_rules : Binds K A.fd__law_rules ["draws"] []
  g__law_rules : mg "_law_rules" = some (.ref A.f__law_rules)
  F__law_schema : Fun K "_law_schema" "_law_schema" (topS 30) A.f__law_schema A.fd__law_schema
  b__law_schema : Binds K A.fd__law_schema ["rules", "needed"] []
  g__law_schema : mg "_law_schema" = some (.ref A.f__law_schema)
  F__law_number : Fun K "_law_number" "_law_number" (topS 31) A.f__law_number A.fd__law_number
  b__law_number : Binds K A.fd__law_number ["draws"] []
  g__law_number : mg "_law_number" = some (.ref A.f__law_number)
  F__law_list : Fun K "_law_list" "_law_list" (topS 32) A.f__law_list A.fd__law_list
  b__law_list : Binds K A.fd__law_list ["draws"] []
  g__law_list : mg "_law_list" = some (.ref A.f__law_list)
  F__law_contents : Fun K "_law_contents" "_law_contents" (topS 33) A.f__law_contents A.fd__law_contents
  b__law_contents : Binds K A.fd__law_contents ["draws", "kind"] []
  g__law_contents : mg "_law_contents" = some (.ref A.f__law_contents)
  F__law_picture : Fun K "_law_picture" "_law_picture" (topS 34) A.f__law_picture A.fd__law_picture
  b__law_picture : Binds K A.fd__law_picture ["draws"] []
  g__law_picture : mg "_law_picture" = some (.ref A.f__law_picture)
  F__law_there : Fun K "_law_there" "_law_there" (topS 35) A.f__law_there A.fd__law_there
  b__law_there : Binds K A.fd__law_there ["picture", "kinds", "number"] []
  g__law_there : mg "_law_there" = some (.ref A.f__law_there)
  F__law_told : Fun K "_law_told" "_law_told" (topS 36) A.f__law_told A.fd__law_told
  b__law_told : Binds K A.fd__law_told ["picture", "rules", "thing", "name"] []
  g__law_told : mg "_law_told" = some (.ref A.f__law_told)
  F__law_shown : Fun K "_law_shown" "_law_shown" (topS 37) A.f__law_shown A.fd__law_shown
  b__law_shown : Binds K A.fd__law_shown ["picture"] []
  g__law_shown : mg "_law_shown" = some (.ref A.f__law_shown)
  F__law_holds : Fun K "_law_holds" "_law_holds" (topS 38) A.f__law_holds A.fd__law_holds
  b__law_holds : Binds K A.fd__law_holds ["content", "number"] []
  g__law_holds : mg "_law_holds" = some (.ref A.f__law_holds)
  F__law_contents_tell : Fun K "_law_contents_tell" "_law_contents_tell" (topS 39) A.f__law_contents_tell A.fd__law_contents_tell
  b__law_contents_tell : Binds K A.fd__law_contents_tell ["schema", "picture", "rules"] []
  g__law_contents_tell : mg "_law_contents_tell" = some (.ref A.f__law_contents_tell)
  F_law : Fun K "law" "law" (topS 40) A.f_law A.fd_law
  b_law : Binds K A.fd_law ["script"] []
  isn_int_Thing : PySem.W.kitOne K (.type "int") (.ref A.C_Thing) = some false
  eqo_Thing : Dv.EqOf K A.C_Thing A.f_Thing___eq__
  sbi_Thing : PySem.W.subIn K (.type "int") (.ref A.C_Thing) = some false
  b1_TextSort___init__ : ∃ ds, Vals [V.non] ds ∧ Binds K A.fd_TextSort___init__ ["self", "longest", "without"] ds
  b1_Field___init__ : ∃ ds, Vals [V.bl false] ds ∧ Binds K A.fd_Field___init__ ["self", "name", "shape", "needed"] ds
def SL (A : Ad) : List Addr := [A.C_IntSort, A.C_TextSort, A.C_RefSort, A.C_ListSort, A.C_Thing, A.C_PictureSource, A.C_Field, A.C_Kind, A.C_Schema, A.f_IntSort___init__, A.f_TextSort___init__, A.f_RefSort___init__, A.f_ListSort___init__, A.f_is_reference, A.f_is_list, A.f_blank, A.f_Thing___init__, A.f_Thing_copied, A.f_Thing___eq__, A.f_content_copy, A.f_blank_thing, A.f_holds_number, A.f_told_content, A.f_is_one_of, A.f_picture_copy, A.f_PictureSource___init__, A.f_PictureSource_thing, A.f_Field___init__, A.f_Kind___init__, A.f_Kind_field_of, A.f_Schema___init__, A.f_Schema_kind_of, A.f__law_cells, A.f__law_draw, A.f__law_pick, A.f__law_links, A.f__law_names, A.f__law_rules, A.f__law_schema, A.f__law_number, A.f__law_list, A.f__law_contents, A.f__law_picture, A.f__law_there, A.f__law_told, A.f__law_shown, A.f__law_holds, A.f__law_contents_tell, A.f_law]
def S (A : Ad) (n : Nat) : Addr := match (SL A)[n]? with
  | some a => a
  | none => A.C_IntSort
def fc_low : List Nat := [0]
def fc_high : List Nat := [0]
def fc_longest : List Nat := [1]
def fc_without : List Nat := [1]
def fc_kinds : List Nat := [2, 3, 8]
def fc_rule : List Nat := [2]
def fc_kind : List Nat := [4]
def fc_contents : List Nat := [4]
def fc_things : List Nat := [5]
def fc_name : List Nat := [6, 7]
def fc_shape : List Nat := [6]
def fc_needed : List Nat := [6]
def fc_fields : List Nat := [7]
def fc_key_rows : List Nat := [7]
def isOO (c d : Nat) : Option Bool := match c, d with
  | 0, 2 => some false
  | 1, 2 => some false
  | 2, 2 => some true
  | 3, 2 => some false
  | 0, 3 => some false
  | 1, 3 => some false
  | 2, 3 => some false
  | 3, 3 => some true
  | 4, 4 => some true
  | _, _ => none
def isOB (c : Nat) (d : String) : Option Bool := none
def isBT (c : String) (d : Nat) : Option Bool := match c, d with
  | "int", 4 => some false
  | _, _ => none
def b_IntSort___init__ : EvS := (xSeq (xFldS fc_low "low" 0 (xVal 1))
 (xFldS fc_high "high" 0 (xVal 2)))
@[irreducible] def d_IntSort___init__ : Fn := runF false 3 b_IntSort___init__
theorem e_IntSort___init__ : d_IntSort___init__ = runF false 3 b_IntSort___init__ := by unfold d_IntSort___init__; rfl
def b_TextSort___init__ : EvS := (xSeq (xFldS fc_longest "longest" 0 (xVal 1))
 (xFldS fc_without "without" 0 (xVal 2)))
@[irreducible] def d_TextSort___init__ : Fn := runF false 3 b_TextSort___init__
theorem e_TextSort___init__ : d_TextSort___init__ = runF false 3 b_TextSort___init__ := by unfold d_TextSort___init__; rfl
def b_RefSort___init__ : EvS := (xSeq (xFldS fc_kinds "kinds" 0 (xCB fList (xCons (xVal 1) xNil)))
 (xFldS fc_rule "rule" 0 (xVal 2)))
@[irreducible] def d_RefSort___init__ : Fn := runF false 3 b_RefSort___init__
theorem e_RefSort___init__ : d_RefSort___init__ = runF false 3 b_RefSort___init__ := by unfold d_RefSort___init__; rfl
def b_ListSort___init__ : EvS := (xFldS fc_kinds "kinds" 0 (xCB fList (xCons (xVal 1) xNil)))
@[irreducible] def d_ListSort___init__ : Fn := runF false 2 b_ListSort___init__
theorem e_ListSort___init__ : d_ListSort___init__ = runF false 2 b_ListSort___init__ := by unfold d_ListSort___init__; rfl
def b_is_reference : EvS := (xRet (xCB (fIs isOO isOB isBT) (xCons (xVal 0) (xCons (xC (.st 2)) xNil))))
@[irreducible] def d_is_reference : Fn := runF false 1 b_is_reference
theorem e_is_reference : d_is_reference = runF false 1 b_is_reference := by unfold d_is_reference; rfl
def b_is_list : EvS := (xRet (xCB (fIs isOO isOB isBT) (xCons (xVal 0) (xCons (xC (.st 3)) xNil))))
@[irreducible] def d_is_list : Fn := runF false 1 b_is_list
theorem e_is_list : d_is_list = runF false 1 b_is_list := by unfold d_is_list; rfl
def b_Thing___eq__ : EvS := (xRet (xAndV (xCB (fIs isOO isOB isBT) (xCons (xVal 1) (xCons (xC (.st 4)) xNil))) (xAndV (xOp oEq (xFld fc_kind "kind" (xVal 0)) (xFld fc_kind "kind" (xVal 1))) (xOp oEqK (xFld fc_contents "contents" (xVal 0)) (xFld fc_contents "contents" (xVal 1))))))
@[irreducible] def d_Thing___eq__ : Fn := runF false 2 b_Thing___eq__
theorem e_Thing___eq__ : d_Thing___eq__ = runF false 2 b_Thing___eq__ := by unfold d_Thing___eq__; rfl
def b_content_copy : EvS := (xRet (xIf (xTest (xCB (fIs isOO isOB isBT) (xCons (xVal 0) (xCons (xC (.ty "list")) xNil)))) (xCB fList (xCons (xVal 0) xNil)) (xVal 0)))
@[irreducible] def d_content_copy : Fn := runF false 1 b_content_copy
theorem e_content_copy : d_content_copy = runF false 1 b_content_copy := by unfold d_content_copy; rfl
def b_holds_number : EvS := (xSeq (xIfS (xTest (xCB (fIs isOO isOB isBT) (xCons (xVal 0) (xCons (xC (.ty "list")) xNil))))
 (xRet (xOp (oOr (oIn false) (oInD false)) (xVal 1) (xVal 0)))
 xNx)
 (xRet (xOp oEq (xVal 0) (xVal 1))))
@[irreducible] def d_holds_number : Fn := runF false 2 b_holds_number
theorem e_holds_number : d_holds_number = runF false 2 b_holds_number := by unfold d_holds_number; rfl
def b_PictureSource___init__ : EvS := (xFldS fc_things "things" 0 (xVal 1))
@[irreducible] def d_PictureSource___init__ : Fn := runF false 2 b_PictureSource___init__
theorem e_PictureSource___init__ : d_PictureSource___init__ = runF false 2 b_PictureSource___init__ := by unfold d_PictureSource___init__; rfl
def b_PictureSource_thing : EvS := (xRet (xDGet1 (xFld fc_things "things" (xVal 0)) (xVal 1)))
@[irreducible] def d_PictureSource_thing : Fn := runF false 2 b_PictureSource_thing
theorem e_PictureSource_thing : d_PictureSource_thing = runF false 2 b_PictureSource_thing := by unfold d_PictureSource_thing; rfl
def b_Field___init__ : EvS := (xSeq (xFldS fc_name "name" 0 (xVal 1))
 (xSeq (xFldS fc_shape "shape" 0 (xVal 2))
 (xFldS fc_needed "needed" 0 (xVal 3))))
@[irreducible] def d_Field___init__ : Fn := runF false 4 b_Field___init__
theorem e_Field___init__ : d_Field___init__ = runF false 4 b_Field___init__ := by unfold d_Field___init__; rfl
def b_Kind___init__ : EvS := (xSeq (xFldS fc_name "name" 0 (xVal 1))
 (xSeq (xFldS fc_fields "fields" 0 (xCB fList (xCons (xVal 2) xNil)))
 (xFldS fc_key_rows "key_rows" 0 (xLc (iSq (xVal 3)) (yName 4) xYes (xCB fList (xCons (xVal 4) xNil)) [4]))))
@[irreducible] def d_Kind___init__ : Fn := runF false 5 b_Kind___init__
theorem e_Kind___init__ : d_Kind___init__ = runF false 5 b_Kind___init__ := by unfold d_Kind___init__; rfl
def b_Kind_field_of : EvS := (xSeq (xFor (iSq (xFld fc_fields "fields" (xVal 0))) (yName 2)
 (xIfS (xTest (xOp oEq (xFld fc_name "name" (xVal 2)) (xVal 1)))
 (xRet (xVal 2))
 xNx))
 (xRet (xC .non)))
@[irreducible] def d_Kind_field_of : Fn := runF false 3 b_Kind_field_of
theorem e_Kind_field_of : d_Kind_field_of = runF false 3 b_Kind_field_of := by unfold d_Kind_field_of; rfl
def b_Schema___init__ : EvS := (xFldS fc_kinds "kinds" 0 (xCB fList (xCons (xVal 1) xNil)))
@[irreducible] def d_Schema___init__ : Fn := runF false 2 b_Schema___init__
theorem e_Schema___init__ : d_Schema___init__ = runF false 2 b_Schema___init__ := by unfold d_Schema___init__; rfl
def b_Schema_kind_of : EvS := (xSeq (xFor (iSq (xFld fc_kinds "kinds" (xVal 0))) (yName 2)
 (xIfS (xTest (xOp oEq (xFld fc_name "name" (xVal 2)) (xVal 1)))
 (xRet (xVal 2))
 xNx))
 (xRet (xC .non)))
@[irreducible] def d_Schema_kind_of : Fn := runF false 3 b_Schema_kind_of
theorem e_Schema_kind_of : d_Schema_kind_of = runF false 3 b_Schema_kind_of := by unfold d_Schema_kind_of; rfl
def b__law_cells : EvS := (xSeq (xBox 2 (xLst xNil))
 (xSeq (xFor (iRg1 (xCons (xVal 1) xNil)) (yName 3)
 (xSeq (xSet 4 (xOp oAdd (xOp oMul (xC (.int 11)) (xVal 3)) (xC (.int 5))))
 (xSeq (xIfS (xTest (xOp oLt (xVal 3) (xCB fLen (xCons (xVal 0) xNil))))
 (xSeq (xSet 4 (xCB fInt (xCons (xOp oIx (xVal 0) (xVal 3)) xNil)))
 (xIfS (xTest (xOp oLt (xVal 4) (xC (.int 0))))
 (xSet 4 (xOp oSub (xC (.int 1)) (xOp oMul (xC (.int 2)) (xVal 4))))
 xNx))
 xNx)
 (xSeq (xIfS (xTest (xOp oLt (xVal 4) (xC (.int 1000000000))))
 (xSeq (xSet 4 (xOp oMod (xCB fInt (xCons (xOp oAdd (xOp oAdd (xOp oMul (xCB fInt (xCons (xVal 4) xNil)) (xC (.int 48271))) (xOp oMul (xC (.int 17)) (xVal 3))) (xC (.int 3))) xNil)) (xC (.int 2147483647))))
 (xSet 4 (xOp oMod (xCB fInt (xCons (xOp oAdd (xOp oMul (xCB fInt (xCons (xVal 4) xNil)) (xC (.int 2862933555777941757))) (xC (.int 3037000493))) xNil)) (xC (.int 18446744073709551557)))))
 xNx)
 (xDrop (xOwnM mApp 2 (xCons (xVal 4) xNil)))))))
 (xRetV 2)))
@[irreducible] def d__law_cells : Fn := runF true 5 b__law_cells
theorem e__law_cells : d__law_cells = runF true 5 b__law_cells := by unfold d__law_cells; rfl
def b__law_draw : EvS := (xSeq (xIfS (xAndT (xBorT (xTest (xOp oEq (xOp oIx (xVal 0) (xC (.int 0))) (xC (.int 0))))) (xBorT (xTest (xOp oGt (xCB fLen (xCons (xVal 0) xNil)) (xC (.int 1))))))
 (xDrop (xOwnM mPopAt 0 (xCons (xC (.int 0)) xNil)))
 xNx)
 (xSeq (xSet 2 (xBor (xOp oMod (xCB fInt (xCons (xOp oIx (xVal 0) (xC (.int 0))) xNil)) (xVal 1))))
 (xSeq (xSetIx 0 (xC (.int 0)) (xBor (xOp oFdv (xOp oIx (xVal 0) (xC (.int 0))) (xVal 1))))
 (xRet (xVal 2)))))
@[irreducible] def d__law_draw : Fn := runF false 3 b__law_draw
theorem e__law_draw : d__law_draw = runF false 3 b__law_draw := by unfold d__law_draw; rfl
def b__law_links : EvS := (xSeq (xIfS (xTest (xOp oEq (xVal 0) (xC (.str "A"))))
 (xRet (xLst (xCons (xTup (xCons (xC (.str "r")) (xCons (xLst (xCons (xC (.str "A")) (xCons (xC (.str "B")) xNil))) (xCons (xOp oIx (xVal 1) (xC (.int 0))) xNil)))) (xCons (xTup (xCons (xC (.str "l")) (xCons (xLst (xCons (xC (.str "A")) xNil)) (xCons (xC (.str "list")) xNil)))) xNil))))
 xNx)
 (xRet (xLst (xCons (xTup (xCons (xC (.str "p")) (xCons (xLst (xCons (xC (.str "A")) xNil)) (xCons (xOp oIx (xVal 1) (xC (.int 1))) xNil)))) (xCons (xTup (xCons (xC (.str "q")) (xCons (xLst (xCons (xC (.str "B")) xNil)) (xCons (xOp oIx (xVal 1) (xC (.int 2))) xNil)))) (xCons (xTup (xCons (xC (.str "m")) (xCons (xLst (xCons (xC (.str "A")) (xCons (xC (.str "B")) xNil))) (xCons (xC (.str "list")) xNil)))) xNil))))))
@[irreducible] def d__law_links : Fn := runF false 2 b__law_links
theorem e__law_links : d__law_links = runF false 2 b__law_links := by unfold d__law_links; rfl
def b__law_names : EvS := (xSeq (xIfS (xTest (xOp oEq (xVal 0) (xC (.str "A"))))
 (xRet (xLst (xCons (xC (.str "a")) (xCons (xC (.str "t")) (xCons (xC (.str "r")) (xCons (xC (.str "l")) xNil))))))
 xNx)
 (xRet (xLst (xCons (xC (.str "p")) (xCons (xC (.str "q")) (xCons (xC (.str "m")) xNil))))))
@[irreducible] def d__law_names : Fn := runF false 1 b__law_names
theorem e__law_names : d__law_names = runF false 1 b__law_names := by unfold d__law_names; rfl
def b__law_there : EvS := (xRet (xAndV (xOp oIsnt (xVal 2) (xC .non)) (xAndV (xOp (oDIn false) (xVal 2) (xVal 0)) (xOp (oOr (oIn false) (oInD false)) (xFld fc_kind "kind" (xOp oDGet (xVal 0) (xVal 2))) (xVal 1)))))
@[irreducible] def d__law_there : Fn := runF false 3 b__law_there
theorem e__law_there : d__law_there = runF false 3 b__law_there := by unfold d__law_there; rfl
def b__law_shown : EvS := (xRet (xLc (iSq (xCB fSorted (xCons (xCB fListD (xCons (xVal 0) xNil)) xNil))) (yName 1) xYes (xTup (xCons (xVal 1) (xCons (xFld fc_kind "kind" (xOp oDGet (xVal 0) (xVal 1))) (xCons (xCB fRepr (xCons (xFld fc_contents "contents" (xOp oDGet (xVal 0) (xVal 1))) xNil)) xNil)))) [1]))
@[irreducible] def d__law_shown : Fn := runF false 2 b__law_shown
theorem e__law_shown : d__law_shown = runF false 2 b__law_shown := by unfold d__law_shown; rfl
def b__law_holds : EvS := (xSeq (xIfS (xTest (xCB (fIs isOO isOB isBT) (xCons (xVal 0) (xCons (xC (.ty "list")) xNil))))
 (xRet (xOp (oOr (oIn false) (oInD false)) (xVal 1) (xVal 0)))
 xNx)
 (xRet (xAndV (xCB (fIs isOO isOB isBT) (xCons (xVal 0) (xCons (xC (.ty "int")) xNil))) (xOp oEq (xVal 0) (xVal 1)))))
@[irreducible] def d__law_holds : Fn := runF false 2 b__law_holds
theorem e__law_holds : d__law_holds = runF false 2 b__law_holds := by unfold d__law_holds; rfl
def b_blank : EvS := (xRet (xIf (xTest (xCall 1 d_is_list (gVal (xVal 0) gNil))) (xLst xNil) (xC .non)))
@[irreducible] def d_blank : Fn := runF false 1 b_blank
theorem e_blank : d_blank = runF false 1 b_blank := by unfold d_blank; rfl
def b_Thing___init__ : EvS := (xSeq (xFldS fc_kind "kind" 0 (xVal 1))
 (xFldS fc_contents "contents" 0 (xDcD (pSlot 2) .items (yTup 2 (yCons (yName 3) (yCons (yName 4) yNil))) xYes (xVal 3) (xCall 1 d_content_copy (gVal (xVal 4) gNil)) [3, 4])))
@[irreducible] def d_Thing___init__ : Fn := runF false 5 b_Thing___init__
theorem e_Thing___init__ : d_Thing___init__ = runF false 5 b_Thing___init__ := by unfold d_Thing___init__; rfl
def b__law_pick : EvS := (xRet (xOp oIx (xVal 1) (xCall 2 d__law_draw (gSlot 0 (gVal (xCB fLen (xCons (xVal 1) xNil)) gNil)))))
@[irreducible] def d__law_pick : Fn := runF false 2 b__law_pick
theorem e__law_pick : d__law_pick = runF false 2 b__law_pick := by unfold d__law_pick; rfl
def b__law_number : EvS := (xSeq (xSet 1 (xCall 2 d__law_draw (gSlot 0 (gVal (xC (.int 10)) gNil))))
 (xSeq (xIfS (xTest (xOp oEq (xVal 1) (xC (.int 0))))
 (xRet (xC .non))
 xNx)
 (xRet (xVal 1))))
@[irreducible] def d__law_number : Fn := runF false 2 b__law_number
theorem e__law_number : d__law_number = runF false 2 b__law_number := by unfold d__law_number; rfl
def b__law_list : EvS := (xSeq (xBox 1 (xLst xNil))
 (xSeq (xFor (iRg1 (xCons (xCall 2 d__law_draw (gSlot 0 (gVal (xC (.int 5)) gNil))) xNil)) (yName 2)
 (xSeq (xSet 3 (xOp oAdd (xC (.int 1)) (xCall 2 d__law_draw (gSlot 0 (gVal (xC (.int 9)) gNil)))))
 (xIfS (xBorT (xTest (xOp (oOr (oIn true) (oInD true)) (xVal 3) (xVal 1))))
 (xDrop (xOwnM mApp 1 (xCons (xVal 3) xNil)))
 xNx)))
 (xRet (xVar 1))))
@[irreducible] def d__law_list : Fn := runF false 4 b__law_list
theorem e__law_list : d__law_list = runF false 4 b__law_list := by unfold d__law_list; rfl
def b__law_told : EvS := (xSeq (xFor (iSq (xCall 2 d__law_links (gVal (xFld fc_kind "kind" (xVal 2)) (gVal (xVal 1) gNil)))) (yName 4)
 (xIfS (xTest (xOp oEq (xOp oIx (xVal 4) (xC (.int 0))) (xVal 3)))
 (xSeq (xIfS (xTest (xOp oEq (xOp oIx (xVal 4) (xC (.int 2))) (xC (.str "list"))))
 (xRet (xLc (iSq (xOp oDGet (xFld fc_contents "contents" (xVal 2)) (xVal 3))) (yName 5) (xTest (xCall 3 d__law_there (gVal (xVal 0) (gVal (xOp oIx (xVal 4) (xC (.int 1))) (gVal (xVal 5) gNil))))) (xVal 5) [5]))
 xNx)
 (xSeq (xIfS (xTest (xCall 3 d__law_there (gVal (xVal 0) (gVal (xOp oIx (xVal 4) (xC (.int 1))) (gVal (xOp oDGet (xFld fc_contents "contents" (xVal 2)) (xVal 3)) gNil)))))
 (xRet (xOp oDGet (xFld fc_contents "contents" (xVal 2)) (xVal 3)))
 xNx)
 (xRet (xC .non))))
 xNx))
 (xRet (xOp oDGet (xFld fc_contents "contents" (xVal 2)) (xVal 3))))
@[irreducible] def d__law_told : Fn := runF false 6 b__law_told
theorem e__law_told : d__law_told = runF false 6 b__law_told := by unfold d__law_told; rfl
def b_is_one_of : EvS := (xSeq (xSet 3 (xMeth "thing" 2 [(5, 26, d_PictureSource_thing)] (xVal 0) (gVal (xVal 1) gNil)))
 (xRet (xAndV (xOp oIsnt (xVal 3) (xC .non)) (xOp (oOr (oIn false) (oInD false)) (xFld fc_kind "kind" (xVal 3)) (xVal 2)))))
@[irreducible] def d_is_one_of : Fn := runF false 4 b_is_one_of
theorem e_is_one_of : d_is_one_of = runF false 4 b_is_one_of := by unfold d_is_one_of; rfl
def b__law_rules : EvS := (xRet (xLc (iRg1 (xCons (xC (.int 3)) xNil)) (yName 1) xYes (xCall 2 d__law_pick (gSlot 0 (gVal (xLst (xCons (xC (.str "clears")) (xCons (xC (.str "refuses")) (xCons (xC (.str "takes")) xNil)))) gNil))) [1]))
@[irreducible] def d__law_rules : Fn := runF false 2 b__law_rules
theorem e__law_rules : d__law_rules = runF false 2 b__law_rules := by unfold d__law_rules; rfl
def b__law_schema : EvS := (xSeq (xSet 2 (xMake 7 4 [] d_Kind___init__ (xCons (xC (.str "A")) (xCons (xLst (xCons (xMake 6 4 [] d_Field___init__ (xCons (xC (.str "a")) (xCons (xMake 0 3 [] d_IntSort___init__ (xCons (xC (.int 0)) (xCons (xC (.int 9)) xNil))) (xCons (xVal 1) xNil)))) (xCons (xMake 6 4 [.bl false] d_Field___init__ (xCons (xC (.str "t")) (xCons (xMake 1 3 [.non] d_TextSort___init__ (xCons (xC (.int 4)) xNil)) xNil))) (xCons (xMake 6 4 [.bl false] d_Field___init__ (xCons (xC (.str "r")) (xCons (xMake 2 3 [] d_RefSort___init__ (xCons (xLst (xCons (xC (.str "A")) (xCons (xC (.str "B")) xNil))) (xCons (xOp oIx (xVal 0) (xC (.int 0))) xNil))) xNil))) (xCons (xMake 6 4 [.bl false] d_Field___init__ (xCons (xC (.str "l")) (xCons (xMake 3 2 [] d_ListSort___init__ (xCons (xLst (xCons (xC (.str "A")) xNil)) xNil)) xNil))) xNil))))) (xCons (xLst (xCons (xLst (xCons (xC (.str "a")) (xCons (xC (.str "t")) xNil))) xNil)) xNil)))))
 (xSeq (xSet 3 (xMake 7 4 [] d_Kind___init__ (xCons (xC (.str "B")) (xCons (xLst (xCons (xMake 6 4 [] d_Field___init__ (xCons (xC (.str "p")) (xCons (xMake 2 3 [] d_RefSort___init__ (xCons (xLst (xCons (xC (.str "A")) xNil)) (xCons (xOp oIx (xVal 0) (xC (.int 1))) xNil))) (xCons (xVal 1) xNil)))) (xCons (xMake 6 4 [.bl false] d_Field___init__ (xCons (xC (.str "q")) (xCons (xMake 2 3 [] d_RefSort___init__ (xCons (xLst (xCons (xC (.str "B")) xNil)) (xCons (xOp oIx (xVal 0) (xC (.int 2))) xNil))) xNil))) (xCons (xMake 6 4 [.bl false] d_Field___init__ (xCons (xC (.str "m")) (xCons (xMake 3 2 [] d_ListSort___init__ (xCons (xLst (xCons (xC (.str "A")) (xCons (xC (.str "B")) xNil))) xNil)) xNil))) xNil)))) (xCons (xLst (xCons (xLst (xCons (xC (.str "q")) xNil)) xNil)) xNil)))))
 (xRet (xMake 8 2 [] d_Schema___init__ (xCons (xLst (xCons (xVal 2) (xCons (xVal 3) xNil))) xNil)))))
@[irreducible] def d__law_schema : Fn := runF false 4 b__law_schema
theorem e__law_schema : d__law_schema = runF false 4 b__law_schema := by unfold d__law_schema; rfl
def b__law_contents : EvS := (xSeq (xBox 2 xDNew)
 (xSeq (xIfS (xTest (xOp oEq (xVal 1) (xC (.str "A"))))
 (xSeq (xDPut 2 (xC (.str "a")) (xCall 2 d__law_pick (gSlot 0 (gVal (xLst (xCons (xC .non) (xCons (xC (.int 0)) (xCons (xC (.int 1)) (xCons (xC (.int 2)) (xCons (xC (.int 9)) xNil)))))) gNil))))
 (xSeq (xDPut 2 (xC (.str "t")) (xCall 2 d__law_pick (gSlot 0 (gVal (xLst (xCons (xC .non) (xCons (xC (.str "")) (xCons (xC (.str "b")) (xCons (xC (.str "ab")) xNil))))) gNil))))
 (xSeq (xDPut 2 (xC (.str "r")) (xCall 1 d__law_number (gSlot 0 gNil)))
 (xSeq (xDPut 2 (xC (.str "l")) (xCall 1 d__law_list (gSlot 0 gNil)))
 (xRet (xVar 2))))))
 xNx)
 (xSeq (xDPut 2 (xC (.str "p")) (xCall 1 d__law_number (gSlot 0 gNil)))
 (xSeq (xDPut 2 (xC (.str "q")) (xCall 1 d__law_number (gSlot 0 gNil)))
 (xSeq (xDPut 2 (xC (.str "m")) (xCall 1 d__law_list (gSlot 0 gNil)))
 (xRet (xVar 2)))))))
@[irreducible] def d__law_contents : Fn := runF false 3 b__law_contents
theorem e__law_contents : d__law_contents = runF false 3 b__law_contents := by unfold d__law_contents; rfl
def b_Thing_copied : EvS := (xRet (xMake 4 3 [] d_Thing___init__ (xCons (xFld fc_kind "kind" (xVal 0)) (xCons (xFld fc_contents "contents" (xVal 0)) xNil))))
@[irreducible] def d_Thing_copied : Fn := runF false 1 b_Thing_copied
theorem e_Thing_copied : d_Thing_copied = runF false 1 b_Thing_copied := by unfold d_Thing_copied; rfl
def b_blank_thing : EvS := (xRet (xMake 4 3 [] d_Thing___init__ (xCons (xFld fc_name "name" (xVal 0)) (xCons (xDc (iSq (xFld fc_fields "fields" (xVal 0))) (yName 1) xYes (xFld fc_name "name" (xVal 1)) (xCall 1 d_blank (gVal (xFld fc_shape "shape" (xVal 1)) gNil)) [1]) xNil))))
@[irreducible] def d_blank_thing : Fn := runF false 2 b_blank_thing
theorem e_blank_thing : d_blank_thing = runF false 2 b_blank_thing := by unfold d_blank_thing; rfl
def b_told_content : EvS := (xSeq (xIfS (xTest (xCall 1 d_is_list (gVal (xFld fc_shape "shape" (xVal 1)) gNil)))
 (xRetF (xLc (iSq (xVal 2)) (yName 3) (xTest (xCall 3 d_is_one_of (gVal (xVal 0) (gVal (xVal 3) (gVal (xFld fc_kinds "kinds" (xFld fc_shape "shape" (xVal 1))) gNil))))) (xVal 3) [3]))
 xNx)
 (xSeq (xIfS (xTest (xCall 1 d_is_reference (gVal (xFld fc_shape "shape" (xVal 1)) gNil)))
 (xRet (xIf (xAndT (xTest (xOp oIsnt (xVal 2) (xC .non))) (xTest (xCall 3 d_is_one_of (gVal (xVal 0) (gVal (xVal 2) (gVal (xFld fc_kinds "kinds" (xFld fc_shape "shape" (xVal 1))) gNil)))))) (xVal 2) (xC .non)))
 xNx)
 (xRet (xVal 2))))
@[irreducible] def d_told_content : Fn := runY 4 b_told_content
theorem e_told_content : d_told_content = runY 4 b_told_content := by unfold d_told_content; rfl
def b__law_picture : EvS := (xSeq (xBox 1 xDNew)
 (xSeq (xFor (iRg1 (xCons (xCall 2 d__law_draw (gSlot 0 (gVal (xC (.int 8)) gNil))) xNil)) (yName 2)
 (xSeq (xSet 3 (xOp oAdd (xC (.int 1)) (xCall 2 d__law_draw (gSlot 0 (gVal (xC (.int 9)) gNil)))))
 (xSeq (xSet 4 (xCall 2 d__law_pick (gSlot 0 (gVal (xLst (xCons (xC (.str "A")) (xCons (xC (.str "B")) xNil))) gNil))))
 (xDPut 1 (xVal 3) (xMake 4 3 [] d_Thing___init__ (xCons (xVal 4) (xCons (xCall 2 d__law_contents (gSlot 0 (gVal (xVal 4) gNil))) xNil)))))))
 (xRet (xVar 1))))
@[irreducible] def d__law_picture : Fn := runF false 5 b__law_picture
theorem e__law_picture : d__law_picture = runF false 5 b__law_picture := by unfold d__law_picture; rfl
def b__law_contents_tell : EvS := (xSeq (xSet 3 (xMake 5 2 [] d_PictureSource___init__ (xCons (xVal 1) xNil)))
 (xSeq (xFor (iSq (xCB fSorted (xCons (xCB fListD (xCons (xVal 1) xNil)) xNil))) (yName 4)
 (xSeq (xSet 5 (xOp oDGet (xVal 1) (xVal 4)))
 (xSeq (xSet 6 (xMeth "kind_of" 2 [(8, 31, d_Schema_kind_of)] (xVal 0) (gVal (xFld fc_kind "kind" (xVal 5)) gNil)))
 (xFor (iSq (xCall 1 d__law_names (gVal (xFld fc_kind "kind" (xVal 5)) gNil))) (yName 7)
 (xSeq (xSet 8 (xOp oDGet (xFld fc_contents "contents" (xVal 5)) (xVal 7)))
 (xSeq (xSetY 9 (xCall 3 d_told_content (gVal (xVal 3) (gVal (xMeth "field_of" 2 [(7, 29, d_Kind_field_of)] (xVal 6) (gVal (xVal 7) gNil)) (gVal (xVal 8) gNil)))))
 (xSeq (xIfS (xBorT (xTest (xOp oNe (xCB fRepr (xCons (xVal 9) xNil)) (xCB fRepr (xCons (xCall 4 d__law_told (gVal (xVal 1) (gVal (xVal 2) (gVal (xVal 5) (gVal (xVal 7) gNil))))) xNil)))))
 (xRet (xC (.bl false)))
 xNx)
 (xSeq (xIfS (xBorT (xTest (xCB (fIs isOO isOB isBT) (xCons (xVal 9) (xCons (xC (.ty "list")) xNil)))))
 (xDrop (xOwnM mApp 9 (xCons (xC (.int 77)) xNil)))
 xNx)
 (xFor (iRg1 (xCons (xC (.int 11)) xNil)) (yName 10)
 (xIfS (xAndT (xTest (xOp oNe (xVal 7) (xC (.str "t")))) (xTest (xOp oNe (xCall 2 d_holds_number (gVal (xVal 8) (gVal (xVal 10) gNil))) (xCall 2 d__law_holds (gVal (xVal 8) (gVal (xVal 10) gNil))))))
 (xRet (xC (.bl false)))
 xNx))))))))))
 (xRet (xC (.bl true)))))
@[irreducible] def d__law_contents_tell : Fn := runF false 11 b__law_contents_tell
theorem e__law_contents_tell : d__law_contents_tell = runF false 11 b__law_contents_tell := by unfold d__law_contents_tell; rfl
end
end K39
namespace K39
open PySem PySem.Spec PyProof.Rows L2
open Rn
set_option autoImplicit false
set_option maxHeartbeats 0
noncomputable section
abbrev RR : PySem.W.OpenRow := PySem.W.OpenLaw.row PySem.Challenge.rw_oneheap_k39_what_contents_tell
def sv (s : String) (t : Nat) : Value := .str (Str.ofString s) t
def iv (i : Int) : Value := .int i 0
def rv (a : Nat) : Value := .ref a
def nv : Value := .none
def ob (c : Value) (d : PySem.Data) : Obj := Obj.mk c none d #[]
def de (P : Params) (s : String) (t : Nat) (v : Value) : PySem.DictEntry := DictEntry.mk (PyData.keyHash P (Str.ofString s)) (.str (Str.ofString s) t) v
abbrev nD (o : Obj) (l r : PySem.W.BT) : PySem.W.BT := .node o l r
abbrev lF (o : Obj) : PySem.W.BT := .node o .nil .nil
abbrev fdm (n q : String) (st : Stmt) := FuncData.mk (Str.ofString n) (Str.ofString q) (defArgs st) (.stmts (defBody st)) (defScope st)
def o11_1 (P : Params) : Obj := ob (Value.type "tuple") (Data.seq #[])
def o12_1 (P : Params) : Obj := ob nv (Data.fields #[])
def o13_1 (P : Params) : Obj := ob (Value.type "code") (Data.fields #[sv "<module>" 182, sv "<module>" 183, sv "/claim/cut.py" 184, iv 1, iv 0, iv 0, iv 0, iv 0, rv 11, Value.bool false, iv 181, rv 12, nv, nv, nv, nv, iv 185, iv 1, sv "/claim/cut.py" 186])
def o14_1 (P : Params) : Obj := Obj.mk (Value.type "frame") .none Data.plain #[.some (rv 13), .some (rv 3), .some (rv 3), .none, .some (sv "__main__" 164), .none, .some (rv 0)]
def tr1 (P : Params) : PySem.W.BT := (.node (PySem.W.boot_o_0 P) (.node (PySem.W.boot_o_1 P) (.node (PySem.W.boot_o_3 P) (.node (PySem.W.boot_o_7 P) .nil .nil) (.node (o11_1 P) .nil .nil)) (.node (PySem.W.boot_o_5 P) (.node (PySem.W.boot_o_9 P) .nil .nil) (.node (o13_1 P) .nil .nil))) (.node (PySem.W.boot_o_2 P) (.node (PySem.W.boot_o_4 P) (.node (PySem.W.boot_o_8 P) .nil .nil) (.node (o12_1 P) .nil .nil)) (.node (PySem.W.boot_o_6 P) (.node (PySem.W.boot_o_10 P) .nil .nil) (.node (o14_1 P) .nil .nil))))
def sT1 (w : World) (os : OsState) : PySem.W.SharedT := ⟨tr1 w.params, 15, (Life.mk [] [] [] 0 [] [] false #[] [] 0 false false false 0 [2000, 10, 10] false 0 true [] [] 0 false), #[], (Drawn.mk 0 0 0 0), 187, os⟩
def sT2 (w : World) (os : OsState) : PySem.W.SharedT := ⟨tr1 w.params, 15, (Life.mk [] [] [] 0 [] [] false #[] [] 0 false false false 0 [2000, 10, 10] false 0 true [] [] 0 false), #[], (Drawn.mk 0 0 0 0), 187, os⟩
def o3_3 (P : Params) : Obj := ob (Value.type "dict") (Data.dict #[de P "__name__" 165 (sv "oneheap.objects.source" 524), de P "__doc__" 166 nv, de P "__package__" 167 nv, de P "__loader__" 168 (Value.builtin "__main__.__loader__#opaque"), de P "__spec__" 169 nv, de P "__annotations__" 170 (rv 6), de P "__builtins__" 171 (rv 4), de P "__file__" 173 (sv "/claim/cut.py" 172), de P "__cached__" 174 nv, de P "_wall" 193 (rv 21), de P "IntSort" 250 (rv 59), de P "TextSort" 305 (rv 102), de P "RefSort" 360 (rv 144), de P "ListSort" 413 (rv 186), de P "is_reference" 420 (rv 197), de P "is_list" 427 (rv 204), de P "blank" 434 (rv 211), de P "Thing" 480 (rv 240), de P "content_copy" 487 (rv 251), de P "blank_thing" 493 (rv 256), de P "holds_number" 501 (rv 263), de P "told_content" 507 (rv 268), de P "is_one_of" 517 (rv 275), de P "picture_copy" 523 (rv 280), de P "PictureSource" 588 (rv 323)] 25)
def o12_3 (P : Params) : Obj := ob nv (Data.fields #[iv 1, iv 0, rv 20, iv 5, iv 0, rv 27, iv 19, iv 0, rv 69, iv 33, iv 0, rv 112, iv 47, iv 0, rv 154, iv 60, iv 0, rv 196, iv 62, iv 0, rv 203, iv 64, iv 0, rv 210, iv 67, iv 0, rv 217, iv 78, iv 0, rv 250, iv 80, iv 0, rv 255, iv 82, iv 0, rv 262, iv 86, iv 0, rv 267, iv 92, iv 0, rv 274, iv 95, iv 0, rv 279, iv 98, iv 0, rv 286])
def o15_3 (P : Params) : Obj := ob (Value.type "tuple") (Data.seq #[])
def o16_3 (P : Params) : Obj := ob nv (Data.fields #[])
def o17_3 (P : Params) : Obj := ob (Value.type "tuple") (Data.seq #[sv "k" 190])
def o18_3 (P : Params) : Obj := ob (Value.type "tuple") (Data.seq #[])
def o19_3 (P : Params) : Obj := ob nv (Data.func (fdm "_wall" "_wall" (topS 0) 0 [] nv nv nv nv .none nv nv 0))
def o20_3 (P : Params) : Obj := ob (Value.type "code") (Data.fields #[sv "_wall" 187, sv "_wall" 188, sv "/claim/cut.py" 189, iv 1, iv 1, iv 0, iv 0, iv 3, rv 15, Value.bool true, iv 181, rv 16, nv, rv 17, rv 18, rv 19, iv 191, iv 1, sv "/claim/cut.py" 192])
def o21_3 (P : Params) : Obj := ob (Value.type "function") (Data.func (fdm "_wall" "_wall" (topS 0) 3 [] nv nv nv (sv "__main__" 164) .none (rv 20) nv 0))
def o22_3 (P : Params) : Obj := ob (Value.type "tuple") (Data.seq #[])
def o23_3 (P : Params) : Obj := ob (Value.type "builtin_function_or_method") (Data.fields #[Value.builtin "type.__prepare__", Value.type "type"])
def o24_3 (P : Params) : Obj := ob (Value.type "dict") (Data.dict #[de P "__module__" 203 (sv "oneheap.schemas.sorts" 194), de P "__qualname__" 205 (sv "IntSort" 204), de P "__firstlineno__" 207 (Value.int 5 206), de P "__init__" 216 (rv 35), de P "holds" 224 (rv 42), de P "written" 231 (rv 49), de P "__eq__" 239 (rv 56), de P "__static_attributes__" 242 (rv 57)] 8)
def o25_3 (P : Params) : Obj := ob (Value.type "tuple") (Data.seq #[])
def o26_3 (P : Params) : Obj := ob nv (Data.fields #[iv 7, iv 4, rv 34, iv 11, iv 4, rv 41, iv 14, iv 4, rv 48, iv 17, iv 4, rv 55])
def o27_3 (P : Params) : Obj := ob (Value.type "code") (Data.fields #[sv "IntSort" 198, sv "IntSort" 199, sv "/claim/cut.py" 200, iv 5, iv 0, iv 0, iv 0, iv 0, rv 25, Value.bool false, iv 181, rv 26, nv, nv, nv, nv, iv 201, iv 5, sv "/claim/cut.py" 202])
def o28_3 (P : Params) : Obj := Obj.mk (Value.type "frame") .none Data.plain #[.some (rv 27), .some (rv 3), .some (rv 24), .none, .some (sv "oneheap.schemas.sorts" 194), .none, .some (rv 0)]
def o29_3 (P : Params) : Obj := ob (Value.type "tuple") (Data.seq #[])
def o30_3 (P : Params) : Obj := ob nv (Data.fields #[])
def o31_3 (P : Params) : Obj := ob (Value.type "tuple") (Data.seq #[sv "self" 211, sv "low" 212, sv "high" 213])
def o32_3 (P : Params) : Obj := ob (Value.type "tuple") (Data.seq #[])
def o33_3 (P : Params) : Obj := ob nv (Data.func (fdm "__init__" "IntSort.__init__" (inClass (topS 2) 0) 0 [] nv nv nv nv .none nv nv 0))
def o34_3 (P : Params) : Obj := ob (Value.type "code") (Data.fields #[sv "__init__" 208, sv "IntSort.__init__" 209, sv "/claim/cut.py" 210, iv 7, iv 3, iv 0, iv 0, iv 3, rv 29, Value.bool true, iv 181, rv 30, nv, rv 31, rv 32, rv 33, iv 214, iv 7, sv "/claim/cut.py" 215])
def o35_3 (P : Params) : Obj := ob (Value.type "function") (Data.func (fdm "__init__" "IntSort.__init__" (inClass (topS 2) 0) 3 [] nv nv nv (sv "oneheap.schemas.sorts" 194) .none (rv 34) nv 0))
def o36_3 (P : Params) : Obj := ob (Value.type "tuple") (Data.seq #[])
def o37_3 (P : Params) : Obj := ob nv (Data.fields #[])
def o38_3 (P : Params) : Obj := ob (Value.type "tuple") (Data.seq #[sv "self" 220, sv "value" 221])
def o39_3 (P : Params) : Obj := ob (Value.type "tuple") (Data.seq #[])
def o40_3 (P : Params) : Obj := ob nv (Data.func (fdm "holds" "IntSort.holds" (inClass (topS 2) 1) 0 [] nv nv nv nv .none nv nv 0))
def o41_3 (P : Params) : Obj := ob (Value.type "code") (Data.fields #[sv "holds" 217, sv "IntSort.holds" 218, sv "/claim/cut.py" 219, iv 11, iv 2, iv 0, iv 0, iv 3, rv 36, Value.bool true, iv 181, rv 37, nv, rv 38, rv 39, rv 40, iv 222, iv 11, sv "/claim/cut.py" 223])
def o42_3 (P : Params) : Obj := ob (Value.type "function") (Data.func (fdm "holds" "IntSort.holds" (inClass (topS 2) 1) 3 [] nv nv nv (sv "oneheap.schemas.sorts" 194) .none (rv 41) nv 0))
def o43_3 (P : Params) : Obj := ob (Value.type "tuple") (Data.seq #[])
def o44_3 (P : Params) : Obj := ob nv (Data.fields #[])
def o45_3 (P : Params) : Obj := ob (Value.type "tuple") (Data.seq #[sv "self" 228])
def o46_3 (P : Params) : Obj := ob (Value.type "tuple") (Data.seq #[])
def o47_3 (P : Params) : Obj := ob nv (Data.func (fdm "written" "IntSort.written" (inClass (topS 2) 2) 0 [] nv nv nv nv .none nv nv 0))
def o48_3 (P : Params) : Obj := ob (Value.type "code") (Data.fields #[sv "written" 225, sv "IntSort.written" 226, sv "/claim/cut.py" 227, iv 14, iv 1, iv 0, iv 0, iv 3, rv 43, Value.bool true, iv 181, rv 44, nv, rv 45, rv 46, rv 47, iv 229, iv 14, sv "/claim/cut.py" 230])
def o49_3 (P : Params) : Obj := ob (Value.type "function") (Data.func (fdm "written" "IntSort.written" (inClass (topS 2) 2) 3 [] nv nv nv (sv "oneheap.schemas.sorts" 194) .none (rv 48) nv 0))
def o50_3 (P : Params) : Obj := ob (Value.type "tuple") (Data.seq #[])
def o51_3 (P : Params) : Obj := ob nv (Data.fields #[])
def o52_3 (P : Params) : Obj := ob (Value.type "tuple") (Data.seq #[sv "self" 235, sv "other" 236])
def o53_3 (P : Params) : Obj := ob (Value.type "tuple") (Data.seq #[])
def o54_3 (P : Params) : Obj := ob nv (Data.func (fdm "__eq__" "IntSort.__eq__" (inClass (topS 2) 3) 0 [] nv nv nv nv .none nv nv 0))
def o55_3 (P : Params) : Obj := ob (Value.type "code") (Data.fields #[sv "__eq__" 232, sv "IntSort.__eq__" 233, sv "/claim/cut.py" 234, iv 17, iv 2, iv 0, iv 0, iv 3, rv 50, Value.bool true, iv 181, rv 51, nv, rv 52, rv 53, rv 54, iv 237, iv 17, sv "/claim/cut.py" 238])
def o56_3 (P : Params) : Obj := ob (Value.type "function") (Data.func (fdm "__eq__" "IntSort.__eq__" (inClass (topS 2) 3) 3 [] nv nv nv (sv "oneheap.schemas.sorts" 194) .none (rv 55) nv 0))
def o57_3 (P : Params) : Obj := ob (Value.type "tuple") (Data.seq #[sv "high" 240, sv "low" 241])
def o58_3 (P : Params) : Obj := ob (Value.type "dict") (Data.dict #[de P "__module__" 203 (sv "oneheap.schemas.sorts" 194), de P "__firstlineno__" 207 (Value.int 5 206), de P "__init__" 216 (rv 35), de P "holds" 224 (rv 42), de P "written" 231 (rv 49), de P "__eq__" 239 (rv 56), de P "__static_attributes__" 242 (rv 57), de P "__dict__" 244 (rv 60), de P "__weakref__" 246 (rv 61), de P "__doc__" 247 nv, de P "__hash__" 248 nv] 5)
def o59_3 (P : Params) : Obj := Obj.mk (Value.type "type") .none (Data.cls (ClassData.mk (Str.ofString "IntSort") [Value.type "object"] [rv 59, Value.type "object"] 58 (Str.ofString "IntSort") true [] [] false .none false)) #[.none, .none, .some (sv "IntSort" 196), .some (sv "IntSort" 204), .some (Value.builtin "object.__new__"), .some (Value.bool true)]
def o60_3 (P : Params) : Obj := ob (Value.type "getset_descriptor") (Data.fields #[sv "__dict__" 243, rv 59, Value.builtin "function.__dict__", Value.builtin "function.__dict__#set"])
def o61_3 (P : Params) : Obj := ob (Value.type "getset_descriptor") (Data.fields #[sv "__weakref__" 245, rv 59, Value.builtin "ExceptionGroup.__weakref__", nv])
def o62_3 (P : Params) : Obj := ob (Value.type "super") (Data.fields #[rv 59, rv 59, rv 59])
def o63_3 (P : Params) : Obj := ob (Value.type "builtin_function_or_method") (Data.fields #[Value.builtin "object.__init_subclass__", rv 59])
def o64_3 (P : Params) : Obj := ob (Value.type "tuple") (Data.seq #[])
def o65_3 (P : Params) : Obj := ob (Value.type "builtin_function_or_method") (Data.fields #[Value.builtin "type.__prepare__", Value.type "type"])
def o66_3 (P : Params) : Obj := ob (Value.type "dict") (Data.dict #[de P "__module__" 258 (sv "oneheap.schemas.sorts" 194), de P "__qualname__" 260 (sv "TextSort" 259), de P "__firstlineno__" 262 (Value.int 19 261), de P "__init__" 271 (rv 78), de P "holds" 279 (rv 85), de P "written" 286 (rv 92), de P "__eq__" 294 (rv 99), de P "__static_attributes__" 297 (rv 100)] 8)
def o67_3 (P : Params) : Obj := ob (Value.type "tuple") (Data.seq #[])
def o68_3 (P : Params) : Obj := ob nv (Data.fields #[iv 21, iv 4, rv 77, iv 25, iv 4, rv 84, iv 28, iv 4, rv 91, iv 31, iv 4, rv 98])
def o69_3 (P : Params) : Obj := ob (Value.type "code") (Data.fields #[sv "TextSort" 253, sv "TextSort" 254, sv "/claim/cut.py" 255, iv 19, iv 0, iv 0, iv 0, iv 0, rv 67, Value.bool false, iv 181, rv 68, nv, nv, nv, nv, iv 256, iv 19, sv "/claim/cut.py" 257])
def o70_3 (P : Params) : Obj := Obj.mk (Value.type "frame") .none Data.plain #[.some (rv 69), .some (rv 3), .some (rv 66), .none, .some (sv "oneheap.schemas.sorts" 194), .none, .some (rv 0)]
def o71_3 (P : Params) : Obj := ob (Value.type "tuple") (Data.seq #[nv])
def o72_3 (P : Params) : Obj := ob (Value.type "tuple") (Data.seq #[])
def o73_3 (P : Params) : Obj := ob nv (Data.fields #[])
def o74_3 (P : Params) : Obj := ob (Value.type "tuple") (Data.seq #[sv "self" 266, sv "longest" 267, sv "without" 268])
def o75_3 (P : Params) : Obj := ob (Value.type "tuple") (Data.seq #[])
def o76_3 (P : Params) : Obj := ob nv (Data.func (fdm "__init__" "TextSort.__init__" (inClass (topS 3) 0) 0 [] nv nv nv nv .none nv nv 0))
def o77_3 (P : Params) : Obj := ob (Value.type "code") (Data.fields #[sv "__init__" 263, sv "TextSort.__init__" 264, sv "/claim/cut.py" 265, iv 21, iv 3, iv 0, iv 0, iv 3, rv 72, Value.bool true, iv 181, rv 73, nv, rv 74, rv 75, rv 76, iv 269, iv 21, sv "/claim/cut.py" 270])
def o78_3 (P : Params) : Obj := ob (Value.type "function") (Data.func (fdm "__init__" "TextSort.__init__" (inClass (topS 3) 0) 3 [] (rv 71) nv nv (sv "oneheap.schemas.sorts" 194) .none (rv 77) nv 0))
def o79_3 (P : Params) : Obj := ob (Value.type "tuple") (Data.seq #[])
def o80_3 (P : Params) : Obj := ob nv (Data.fields #[])
def o81_3 (P : Params) : Obj := ob (Value.type "tuple") (Data.seq #[sv "self" 275, sv "value" 276])
def o82_3 (P : Params) : Obj := ob (Value.type "tuple") (Data.seq #[])
def o83_3 (P : Params) : Obj := ob nv (Data.func (fdm "holds" "TextSort.holds" (inClass (topS 3) 1) 0 [] nv nv nv nv .none nv nv 0))
def o84_3 (P : Params) : Obj := ob (Value.type "code") (Data.fields #[sv "holds" 272, sv "TextSort.holds" 273, sv "/claim/cut.py" 274, iv 25, iv 2, iv 0, iv 0, iv 3, rv 79, Value.bool true, iv 181, rv 80, nv, rv 81, rv 82, rv 83, iv 277, iv 25, sv "/claim/cut.py" 278])
def o85_3 (P : Params) : Obj := ob (Value.type "function") (Data.func (fdm "holds" "TextSort.holds" (inClass (topS 3) 1) 3 [] nv nv nv (sv "oneheap.schemas.sorts" 194) .none (rv 84) nv 0))
def o86_3 (P : Params) : Obj := ob (Value.type "tuple") (Data.seq #[])
def o87_3 (P : Params) : Obj := ob nv (Data.fields #[])
def o88_3 (P : Params) : Obj := ob (Value.type "tuple") (Data.seq #[sv "self" 283])
def o89_3 (P : Params) : Obj := ob (Value.type "tuple") (Data.seq #[])
def o90_3 (P : Params) : Obj := ob nv (Data.func (fdm "written" "TextSort.written" (inClass (topS 3) 2) 0 [] nv nv nv nv .none nv nv 0))
def o91_3 (P : Params) : Obj := ob (Value.type "code") (Data.fields #[sv "written" 280, sv "TextSort.written" 281, sv "/claim/cut.py" 282, iv 28, iv 1, iv 0, iv 0, iv 3, rv 86, Value.bool true, iv 181, rv 87, nv, rv 88, rv 89, rv 90, iv 284, iv 28, sv "/claim/cut.py" 285])
def o92_3 (P : Params) : Obj := ob (Value.type "function") (Data.func (fdm "written" "TextSort.written" (inClass (topS 3) 2) 3 [] nv nv nv (sv "oneheap.schemas.sorts" 194) .none (rv 91) nv 0))
def o93_3 (P : Params) : Obj := ob (Value.type "tuple") (Data.seq #[])
def o94_3 (P : Params) : Obj := ob nv (Data.fields #[])
def o95_3 (P : Params) : Obj := ob (Value.type "tuple") (Data.seq #[sv "self" 290, sv "other" 291])
def o96_3 (P : Params) : Obj := ob (Value.type "tuple") (Data.seq #[])
def o97_3 (P : Params) : Obj := ob nv (Data.func (fdm "__eq__" "TextSort.__eq__" (inClass (topS 3) 3) 0 [] nv nv nv nv .none nv nv 0))
def o98_3 (P : Params) : Obj := ob (Value.type "code") (Data.fields #[sv "__eq__" 287, sv "TextSort.__eq__" 288, sv "/claim/cut.py" 289, iv 31, iv 2, iv 0, iv 0, iv 3, rv 93, Value.bool true, iv 181, rv 94, nv, rv 95, rv 96, rv 97, iv 292, iv 31, sv "/claim/cut.py" 293])
def o99_3 (P : Params) : Obj := ob (Value.type "function") (Data.func (fdm "__eq__" "TextSort.__eq__" (inClass (topS 3) 3) 3 [] nv nv nv (sv "oneheap.schemas.sorts" 194) .none (rv 98) nv 0))
def o100_3 (P : Params) : Obj := ob (Value.type "tuple") (Data.seq #[sv "longest" 295, sv "without" 296])
def o101_3 (P : Params) : Obj := ob (Value.type "dict") (Data.dict #[de P "__module__" 258 (sv "oneheap.schemas.sorts" 194), de P "__firstlineno__" 262 (Value.int 19 261), de P "__init__" 271 (rv 78), de P "holds" 279 (rv 85), de P "written" 286 (rv 92), de P "__eq__" 294 (rv 99), de P "__static_attributes__" 297 (rv 100), de P "__dict__" 299 (rv 103), de P "__weakref__" 301 (rv 104), de P "__doc__" 302 nv, de P "__hash__" 303 nv] 5)
def o102_3 (P : Params) : Obj := Obj.mk (Value.type "type") .none (Data.cls (ClassData.mk (Str.ofString "TextSort") [Value.type "object"] [rv 102, Value.type "object"] 101 (Str.ofString "TextSort") true [] [] false .none false)) #[.none, .none, .some (sv "TextSort" 251), .some (sv "TextSort" 259), .some (Value.builtin "object.__new__"), .some (Value.bool true)]
def o103_3 (P : Params) : Obj := ob (Value.type "getset_descriptor") (Data.fields #[sv "__dict__" 298, rv 102, Value.builtin "function.__dict__", Value.builtin "function.__dict__#set"])
def o104_3 (P : Params) : Obj := ob (Value.type "getset_descriptor") (Data.fields #[sv "__weakref__" 300, rv 102, Value.builtin "ExceptionGroup.__weakref__", nv])
def o105_3 (P : Params) : Obj := ob (Value.type "super") (Data.fields #[rv 102, rv 102, rv 102])
def o106_3 (P : Params) : Obj := ob (Value.type "builtin_function_or_method") (Data.fields #[Value.builtin "object.__init_subclass__", rv 102])
def o107_3 (P : Params) : Obj := ob (Value.type "tuple") (Data.seq #[])
def o108_3 (P : Params) : Obj := ob (Value.type "builtin_function_or_method") (Data.fields #[Value.builtin "type.__prepare__", Value.type "type"])
def o109_3 (P : Params) : Obj := ob (Value.type "dict") (Data.dict #[de P "__module__" 313 (sv "oneheap.schemas.sorts" 194), de P "__qualname__" 315 (sv "RefSort" 314), de P "__firstlineno__" 317 (Value.int 33 316), de P "__init__" 326 (rv 120), de P "holds" 334 (rv 127), de P "written" 341 (rv 134), de P "__eq__" 349 (rv 141), de P "__static_attributes__" 352 (rv 142)] 8)
def o110_3 (P : Params) : Obj := ob (Value.type "tuple") (Data.seq #[])
def o111_3 (P : Params) : Obj := ob nv (Data.fields #[iv 35, iv 4, rv 119, iv 39, iv 4, rv 126, iv 42, iv 4, rv 133, iv 45, iv 4, rv 140])
def o112_3 (P : Params) : Obj := ob (Value.type "code") (Data.fields #[sv "RefSort" 308, sv "RefSort" 309, sv "/claim/cut.py" 310, iv 33, iv 0, iv 0, iv 0, iv 0, rv 110, Value.bool false, iv 181, rv 111, nv, nv, nv, nv, iv 311, iv 33, sv "/claim/cut.py" 312])
def o113_3 (P : Params) : Obj := Obj.mk (Value.type "frame") .none Data.plain #[.some (rv 112), .some (rv 3), .some (rv 109), .none, .some (sv "oneheap.schemas.sorts" 194), .none, .some (rv 0)]
def o114_3 (P : Params) : Obj := ob (Value.type "tuple") (Data.seq #[])
def o115_3 (P : Params) : Obj := ob nv (Data.fields #[])
def o116_3 (P : Params) : Obj := ob (Value.type "tuple") (Data.seq #[sv "self" 321, sv "kinds" 322, sv "rule" 323])
def o117_3 (P : Params) : Obj := ob (Value.type "tuple") (Data.seq #[])
def o118_3 (P : Params) : Obj := ob nv (Data.func (fdm "__init__" "RefSort.__init__" (inClass (topS 4) 0) 0 [] nv nv nv nv .none nv nv 0))
def o119_3 (P : Params) : Obj := ob (Value.type "code") (Data.fields #[sv "__init__" 318, sv "RefSort.__init__" 319, sv "/claim/cut.py" 320, iv 35, iv 3, iv 0, iv 0, iv 3, rv 114, Value.bool true, iv 181, rv 115, nv, rv 116, rv 117, rv 118, iv 324, iv 35, sv "/claim/cut.py" 325])
def o120_3 (P : Params) : Obj := ob (Value.type "function") (Data.func (fdm "__init__" "RefSort.__init__" (inClass (topS 4) 0) 3 [] nv nv nv (sv "oneheap.schemas.sorts" 194) .none (rv 119) nv 0))
def o121_3 (P : Params) : Obj := ob (Value.type "tuple") (Data.seq #[])
def o122_3 (P : Params) : Obj := ob nv (Data.fields #[])
def o123_3 (P : Params) : Obj := ob (Value.type "tuple") (Data.seq #[sv "self" 330, sv "value" 331])
def o124_3 (P : Params) : Obj := ob (Value.type "tuple") (Data.seq #[])
def o125_3 (P : Params) : Obj := ob nv (Data.func (fdm "holds" "RefSort.holds" (inClass (topS 4) 1) 0 [] nv nv nv nv .none nv nv 0))
def o126_3 (P : Params) : Obj := ob (Value.type "code") (Data.fields #[sv "holds" 327, sv "RefSort.holds" 328, sv "/claim/cut.py" 329, iv 39, iv 2, iv 0, iv 0, iv 3, rv 121, Value.bool true, iv 181, rv 122, nv, rv 123, rv 124, rv 125, iv 332, iv 39, sv "/claim/cut.py" 333])
def o127_3 (P : Params) : Obj := ob (Value.type "function") (Data.func (fdm "holds" "RefSort.holds" (inClass (topS 4) 1) 3 [] nv nv nv (sv "oneheap.schemas.sorts" 194) .none (rv 126) nv 0))
def o128_3 (P : Params) : Obj := ob (Value.type "tuple") (Data.seq #[])
def o129_3 (P : Params) : Obj := ob nv (Data.fields #[])
def o130_3 (P : Params) : Obj := ob (Value.type "tuple") (Data.seq #[sv "self" 338])
def o131_3 (P : Params) : Obj := ob (Value.type "tuple") (Data.seq #[])
def o132_3 (P : Params) : Obj := ob nv (Data.func (fdm "written" "RefSort.written" (inClass (topS 4) 2) 0 [] nv nv nv nv .none nv nv 0))
def o133_3 (P : Params) : Obj := ob (Value.type "code") (Data.fields #[sv "written" 335, sv "RefSort.written" 336, sv "/claim/cut.py" 337, iv 42, iv 1, iv 0, iv 0, iv 3, rv 128, Value.bool true, iv 181, rv 129, nv, rv 130, rv 131, rv 132, iv 339, iv 42, sv "/claim/cut.py" 340])
def o134_3 (P : Params) : Obj := ob (Value.type "function") (Data.func (fdm "written" "RefSort.written" (inClass (topS 4) 2) 3 [] nv nv nv (sv "oneheap.schemas.sorts" 194) .none (rv 133) nv 0))
def o135_3 (P : Params) : Obj := ob (Value.type "tuple") (Data.seq #[])
def o136_3 (P : Params) : Obj := ob nv (Data.fields #[])
def o137_3 (P : Params) : Obj := ob (Value.type "tuple") (Data.seq #[sv "self" 345, sv "other" 346])
def o138_3 (P : Params) : Obj := ob (Value.type "tuple") (Data.seq #[])
def o139_3 (P : Params) : Obj := ob nv (Data.func (fdm "__eq__" "RefSort.__eq__" (inClass (topS 4) 3) 0 [] nv nv nv nv .none nv nv 0))
def o140_3 (P : Params) : Obj := ob (Value.type "code") (Data.fields #[sv "__eq__" 342, sv "RefSort.__eq__" 343, sv "/claim/cut.py" 344, iv 45, iv 2, iv 0, iv 0, iv 3, rv 135, Value.bool true, iv 181, rv 136, nv, rv 137, rv 138, rv 139, iv 347, iv 45, sv "/claim/cut.py" 348])
def o141_3 (P : Params) : Obj := ob (Value.type "function") (Data.func (fdm "__eq__" "RefSort.__eq__" (inClass (topS 4) 3) 3 [] nv nv nv (sv "oneheap.schemas.sorts" 194) .none (rv 140) nv 0))
def o142_3 (P : Params) : Obj := ob (Value.type "tuple") (Data.seq #[sv "kinds" 350, sv "rule" 351])
def o143_3 (P : Params) : Obj := ob (Value.type "dict") (Data.dict #[de P "__module__" 313 (sv "oneheap.schemas.sorts" 194), de P "__firstlineno__" 317 (Value.int 33 316), de P "__init__" 326 (rv 120), de P "holds" 334 (rv 127), de P "written" 341 (rv 134), de P "__eq__" 349 (rv 141), de P "__static_attributes__" 352 (rv 142), de P "__dict__" 354 (rv 145), de P "__weakref__" 356 (rv 146), de P "__doc__" 357 nv, de P "__hash__" 358 nv] 5)
def o144_3 (P : Params) : Obj := Obj.mk (Value.type "type") .none (Data.cls (ClassData.mk (Str.ofString "RefSort") [Value.type "object"] [rv 144, Value.type "object"] 143 (Str.ofString "RefSort") true [] [] false .none false)) #[.none, .none, .some (sv "RefSort" 306), .some (sv "RefSort" 314), .some (Value.builtin "object.__new__"), .some (Value.bool true)]
def o145_3 (P : Params) : Obj := ob (Value.type "getset_descriptor") (Data.fields #[sv "__dict__" 353, rv 144, Value.builtin "function.__dict__", Value.builtin "function.__dict__#set"])
def o146_3 (P : Params) : Obj := ob (Value.type "getset_descriptor") (Data.fields #[sv "__weakref__" 355, rv 144, Value.builtin "ExceptionGroup.__weakref__", nv])
def o147_3 (P : Params) : Obj := ob (Value.type "super") (Data.fields #[rv 144, rv 144, rv 144])
def o148_3 (P : Params) : Obj := ob (Value.type "builtin_function_or_method") (Data.fields #[Value.builtin "object.__init_subclass__", rv 144])
def o149_3 (P : Params) : Obj := ob (Value.type "tuple") (Data.seq #[])
def o150_3 (P : Params) : Obj := ob (Value.type "builtin_function_or_method") (Data.fields #[Value.builtin "type.__prepare__", Value.type "type"])
def o151_3 (P : Params) : Obj := ob (Value.type "dict") (Data.dict #[de P "__module__" 368 (sv "oneheap.schemas.sorts" 194), de P "__qualname__" 370 (sv "ListSort" 369), de P "__firstlineno__" 372 (Value.int 47 371), de P "__init__" 380 (rv 162), de P "holds" 388 (rv 169), de P "written" 395 (rv 176), de P "__eq__" 403 (rv 183), de P "__static_attributes__" 405 (rv 184)] 8)
def o152_3 (P : Params) : Obj := ob (Value.type "tuple") (Data.seq #[])
def o153_3 (P : Params) : Obj := ob nv (Data.fields #[iv 49, iv 4, rv 161, iv 52, iv 4, rv 168, iv 55, iv 4, rv 175, iv 58, iv 4, rv 182])
def o154_3 (P : Params) : Obj := ob (Value.type "code") (Data.fields #[sv "ListSort" 363, sv "ListSort" 364, sv "/claim/cut.py" 365, iv 47, iv 0, iv 0, iv 0, iv 0, rv 152, Value.bool false, iv 181, rv 153, nv, nv, nv, nv, iv 366, iv 47, sv "/claim/cut.py" 367])
def o155_3 (P : Params) : Obj := Obj.mk (Value.type "frame") .none Data.plain #[.some (rv 154), .some (rv 3), .some (rv 151), .none, .some (sv "oneheap.schemas.sorts" 194), .none, .some (rv 0)]
def o156_3 (P : Params) : Obj := ob (Value.type "tuple") (Data.seq #[])
def o157_3 (P : Params) : Obj := ob nv (Data.fields #[])
def o158_3 (P : Params) : Obj := ob (Value.type "tuple") (Data.seq #[sv "self" 376, sv "kinds" 377])
def o159_3 (P : Params) : Obj := ob (Value.type "tuple") (Data.seq #[])
def o160_3 (P : Params) : Obj := ob nv (Data.func (fdm "__init__" "ListSort.__init__" (inClass (topS 5) 0) 0 [] nv nv nv nv .none nv nv 0))
def o161_3 (P : Params) : Obj := ob (Value.type "code") (Data.fields #[sv "__init__" 373, sv "ListSort.__init__" 374, sv "/claim/cut.py" 375, iv 49, iv 2, iv 0, iv 0, iv 3, rv 156, Value.bool true, iv 181, rv 157, nv, rv 158, rv 159, rv 160, iv 378, iv 49, sv "/claim/cut.py" 379])
def o162_3 (P : Params) : Obj := ob (Value.type "function") (Data.func (fdm "__init__" "ListSort.__init__" (inClass (topS 5) 0) 3 [] nv nv nv (sv "oneheap.schemas.sorts" 194) .none (rv 161) nv 0))
def o163_3 (P : Params) : Obj := ob (Value.type "tuple") (Data.seq #[])
def o164_3 (P : Params) : Obj := ob nv (Data.fields #[])
def o165_3 (P : Params) : Obj := ob (Value.type "tuple") (Data.seq #[sv "self" 384, sv "value" 385])
def o166_3 (P : Params) : Obj := ob (Value.type "tuple") (Data.seq #[])
def o167_3 (P : Params) : Obj := ob nv (Data.func (fdm "holds" "ListSort.holds" (inClass (topS 5) 1) 0 [] nv nv nv nv .none nv nv 0))
def o168_3 (P : Params) : Obj := ob (Value.type "code") (Data.fields #[sv "holds" 381, sv "ListSort.holds" 382, sv "/claim/cut.py" 383, iv 52, iv 2, iv 0, iv 0, iv 3, rv 163, Value.bool true, iv 181, rv 164, nv, rv 165, rv 166, rv 167, iv 386, iv 52, sv "/claim/cut.py" 387])
def o169_3 (P : Params) : Obj := ob (Value.type "function") (Data.func (fdm "holds" "ListSort.holds" (inClass (topS 5) 1) 3 [] nv nv nv (sv "oneheap.schemas.sorts" 194) .none (rv 168) nv 0))
def o170_3 (P : Params) : Obj := ob (Value.type "tuple") (Data.seq #[])
def o171_3 (P : Params) : Obj := ob nv (Data.fields #[])
def o172_3 (P : Params) : Obj := ob (Value.type "tuple") (Data.seq #[sv "self" 392])
def o173_3 (P : Params) : Obj := ob (Value.type "tuple") (Data.seq #[])
def o174_3 (P : Params) : Obj := ob nv (Data.func (fdm "written" "ListSort.written" (inClass (topS 5) 2) 0 [] nv nv nv nv .none nv nv 0))
def o175_3 (P : Params) : Obj := ob (Value.type "code") (Data.fields #[sv "written" 389, sv "ListSort.written" 390, sv "/claim/cut.py" 391, iv 55, iv 1, iv 0, iv 0, iv 3, rv 170, Value.bool true, iv 181, rv 171, nv, rv 172, rv 173, rv 174, iv 393, iv 55, sv "/claim/cut.py" 394])
def o176_3 (P : Params) : Obj := ob (Value.type "function") (Data.func (fdm "written" "ListSort.written" (inClass (topS 5) 2) 3 [] nv nv nv (sv "oneheap.schemas.sorts" 194) .none (rv 175) nv 0))
def o177_3 (P : Params) : Obj := ob (Value.type "tuple") (Data.seq #[])
def o178_3 (P : Params) : Obj := ob nv (Data.fields #[])
def o179_3 (P : Params) : Obj := ob (Value.type "tuple") (Data.seq #[sv "self" 399, sv "other" 400])
def o180_3 (P : Params) : Obj := ob (Value.type "tuple") (Data.seq #[])
def o181_3 (P : Params) : Obj := ob nv (Data.func (fdm "__eq__" "ListSort.__eq__" (inClass (topS 5) 3) 0 [] nv nv nv nv .none nv nv 0))
def o182_3 (P : Params) : Obj := ob (Value.type "code") (Data.fields #[sv "__eq__" 396, sv "ListSort.__eq__" 397, sv "/claim/cut.py" 398, iv 58, iv 2, iv 0, iv 0, iv 3, rv 177, Value.bool true, iv 181, rv 178, nv, rv 179, rv 180, rv 181, iv 401, iv 58, sv "/claim/cut.py" 402])
def o183_3 (P : Params) : Obj := ob (Value.type "function") (Data.func (fdm "__eq__" "ListSort.__eq__" (inClass (topS 5) 3) 3 [] nv nv nv (sv "oneheap.schemas.sorts" 194) .none (rv 182) nv 0))
def o184_3 (P : Params) : Obj := ob (Value.type "tuple") (Data.seq #[sv "kinds" 404])
def o185_3 (P : Params) : Obj := ob (Value.type "dict") (Data.dict #[de P "__module__" 368 (sv "oneheap.schemas.sorts" 194), de P "__firstlineno__" 372 (Value.int 47 371), de P "__init__" 380 (rv 162), de P "holds" 388 (rv 169), de P "written" 395 (rv 176), de P "__eq__" 403 (rv 183), de P "__static_attributes__" 405 (rv 184), de P "__dict__" 407 (rv 187), de P "__weakref__" 409 (rv 188), de P "__doc__" 410 nv, de P "__hash__" 411 nv] 5)
def o186_3 (P : Params) : Obj := Obj.mk (Value.type "type") .none (Data.cls (ClassData.mk (Str.ofString "ListSort") [Value.type "object"] [rv 186, Value.type "object"] 185 (Str.ofString "ListSort") true [] [] false .none false)) #[.none, .none, .some (sv "ListSort" 361), .some (sv "ListSort" 369), .some (Value.builtin "object.__new__"), .some (Value.bool true)]
def o187_3 (P : Params) : Obj := ob (Value.type "getset_descriptor") (Data.fields #[sv "__dict__" 406, rv 186, Value.builtin "function.__dict__", Value.builtin "function.__dict__#set"])
def o188_3 (P : Params) : Obj := ob (Value.type "getset_descriptor") (Data.fields #[sv "__weakref__" 408, rv 186, Value.builtin "ExceptionGroup.__weakref__", nv])
def o189_3 (P : Params) : Obj := ob (Value.type "super") (Data.fields #[rv 186, rv 186, rv 186])
def o190_3 (P : Params) : Obj := ob (Value.type "builtin_function_or_method") (Data.fields #[Value.builtin "object.__init_subclass__", rv 186])
def o191_3 (P : Params) : Obj := ob (Value.type "tuple") (Data.seq #[])
def o192_3 (P : Params) : Obj := ob nv (Data.fields #[])
def o193_3 (P : Params) : Obj := ob (Value.type "tuple") (Data.seq #[sv "shape" 417])
def o194_3 (P : Params) : Obj := ob (Value.type "tuple") (Data.seq #[])
def o195_3 (P : Params) : Obj := ob nv (Data.func (fdm "is_reference" "is_reference" (topS 6) 0 [] nv nv nv nv .none nv nv 0))
def o196_3 (P : Params) : Obj := ob (Value.type "code") (Data.fields #[sv "is_reference" 414, sv "is_reference" 415, sv "/claim/cut.py" 416, iv 60, iv 1, iv 0, iv 0, iv 3, rv 191, Value.bool true, iv 181, rv 192, nv, rv 193, rv 194, rv 195, iv 418, iv 60, sv "/claim/cut.py" 419])
def o197_3 (P : Params) : Obj := ob (Value.type "function") (Data.func (fdm "is_reference" "is_reference" (topS 6) 3 [] nv nv nv (sv "oneheap.schemas.sorts" 194) .none (rv 196) nv 0))
def o198_3 (P : Params) : Obj := ob (Value.type "tuple") (Data.seq #[])
def o199_3 (P : Params) : Obj := ob nv (Data.fields #[])
def o200_3 (P : Params) : Obj := ob (Value.type "tuple") (Data.seq #[sv "shape" 424])
def o201_3 (P : Params) : Obj := ob (Value.type "tuple") (Data.seq #[])
def o202_3 (P : Params) : Obj := ob nv (Data.func (fdm "is_list" "is_list" (topS 7) 0 [] nv nv nv nv .none nv nv 0))
def o203_3 (P : Params) : Obj := ob (Value.type "code") (Data.fields #[sv "is_list" 421, sv "is_list" 422, sv "/claim/cut.py" 423, iv 62, iv 1, iv 0, iv 0, iv 3, rv 198, Value.bool true, iv 181, rv 199, nv, rv 200, rv 201, rv 202, iv 425, iv 62, sv "/claim/cut.py" 426])
def o204_3 (P : Params) : Obj := ob (Value.type "function") (Data.func (fdm "is_list" "is_list" (topS 7) 3 [] nv nv nv (sv "oneheap.schemas.sorts" 194) .none (rv 203) nv 0))
def o205_3 (P : Params) : Obj := ob (Value.type "tuple") (Data.seq #[])
def o206_3 (P : Params) : Obj := ob nv (Data.fields #[])
def o207_3 (P : Params) : Obj := ob (Value.type "tuple") (Data.seq #[sv "shape" 431])
def o208_3 (P : Params) : Obj := ob (Value.type "tuple") (Data.seq #[])
def o209_3 (P : Params) : Obj := ob nv (Data.func (fdm "blank" "blank" (topS 8) 0 [] nv nv nv nv .none nv nv 0))
def o210_3 (P : Params) : Obj := ob (Value.type "code") (Data.fields #[sv "blank" 428, sv "blank" 429, sv "/claim/cut.py" 430, iv 64, iv 1, iv 0, iv 0, iv 3, rv 205, Value.bool true, iv 181, rv 206, nv, rv 207, rv 208, rv 209, iv 432, iv 64, sv "/claim/cut.py" 433])
def o211_3 (P : Params) : Obj := ob (Value.type "function") (Data.func (fdm "blank" "blank" (topS 8) 3 [] nv nv nv (sv "oneheap.schemas.sorts" 194) .none (rv 210) nv 0))
def o212_3 (P : Params) : Obj := ob (Value.type "tuple") (Data.seq #[])
def o213_3 (P : Params) : Obj := ob (Value.type "builtin_function_or_method") (Data.fields #[Value.builtin "type.__prepare__", Value.type "type"])
def o214_3 (P : Params) : Obj := ob (Value.type "dict") (Data.dict #[de P "__module__" 444 (sv "oneheap.objects.thing" 435), de P "__qualname__" 446 (sv "Thing" 445), de P "__firstlineno__" 448 (Value.int 67 447), de P "__init__" 454 (rv 223), de P "copied" 461 (rv 230), de P "__eq__" 469 (rv 237), de P "__static_attributes__" 472 (rv 238)] 7)
def o215_3 (P : Params) : Obj := ob (Value.type "tuple") (Data.seq #[])
def o216_3 (P : Params) : Obj := ob nv (Data.fields #[iv 69, iv 4, rv 222, iv 73, iv 4, rv 229, iv 76, iv 4, rv 236])
def o217_3 (P : Params) : Obj := ob (Value.type "code") (Data.fields #[sv "Thing" 439, sv "Thing" 440, sv "/claim/cut.py" 441, iv 67, iv 0, iv 0, iv 0, iv 0, rv 215, Value.bool false, iv 181, rv 216, nv, nv, nv, nv, iv 442, iv 67, sv "/claim/cut.py" 443])
def o218_3 (P : Params) : Obj := Obj.mk (Value.type "frame") .none Data.plain #[.some (rv 217), .some (rv 3), .some (rv 214), .none, .some (sv "oneheap.objects.thing" 435), .none, .some (rv 0)]
def o219_3 (P : Params) : Obj := ob (Value.type "tuple") (Data.seq #[])
def o220_3 (P : Params) : Obj := ob nv (Data.fields #[])
def o221_3 (P : Params) : Obj := ob nv (Data.func (fdm "__init__" "Thing.__init__" (inClass (topS 10) 0) 0 [] nv nv nv nv .none nv nv 0))
def o222_3 (P : Params) : Obj := ob (Value.type "code") (Data.fields #[sv "__init__" 449, sv "Thing.__init__" 450, sv "/claim/cut.py" 451, iv 69, iv 3, iv 0, iv 0, iv 3, rv 219, Value.bool true, iv 181, rv 220, nv, nv, nv, rv 221, iv 452, iv 69, sv "/claim/cut.py" 453])
def o223_3 (P : Params) : Obj := ob (Value.type "function") (Data.func (fdm "__init__" "Thing.__init__" (inClass (topS 10) 0) 3 [] nv nv nv (sv "oneheap.objects.thing" 435) .none (rv 222) nv 0))
def o224_3 (P : Params) : Obj := ob (Value.type "tuple") (Data.seq #[])
def o225_3 (P : Params) : Obj := ob nv (Data.fields #[])
def o226_3 (P : Params) : Obj := ob (Value.type "tuple") (Data.seq #[sv "self" 458])
def o227_3 (P : Params) : Obj := ob (Value.type "tuple") (Data.seq #[])
def o228_3 (P : Params) : Obj := ob nv (Data.func (fdm "copied" "Thing.copied" (inClass (topS 10) 1) 0 [] nv nv nv nv .none nv nv 0))
def o229_3 (P : Params) : Obj := ob (Value.type "code") (Data.fields #[sv "copied" 455, sv "Thing.copied" 456, sv "/claim/cut.py" 457, iv 73, iv 1, iv 0, iv 0, iv 3, rv 224, Value.bool true, iv 181, rv 225, nv, rv 226, rv 227, rv 228, iv 459, iv 73, sv "/claim/cut.py" 460])
def o230_3 (P : Params) : Obj := ob (Value.type "function") (Data.func (fdm "copied" "Thing.copied" (inClass (topS 10) 1) 3 [] nv nv nv (sv "oneheap.objects.thing" 435) .none (rv 229) nv 0))
def o231_3 (P : Params) : Obj := ob (Value.type "tuple") (Data.seq #[])
def o232_3 (P : Params) : Obj := ob nv (Data.fields #[])
def o233_3 (P : Params) : Obj := ob (Value.type "tuple") (Data.seq #[sv "self" 465, sv "other" 466])
def o234_3 (P : Params) : Obj := ob (Value.type "tuple") (Data.seq #[])
def o235_3 (P : Params) : Obj := ob nv (Data.func (fdm "__eq__" "Thing.__eq__" (inClass (topS 10) 2) 0 [] nv nv nv nv .none nv nv 0))
def o236_3 (P : Params) : Obj := ob (Value.type "code") (Data.fields #[sv "__eq__" 462, sv "Thing.__eq__" 463, sv "/claim/cut.py" 464, iv 76, iv 2, iv 0, iv 0, iv 3, rv 231, Value.bool true, iv 181, rv 232, nv, rv 233, rv 234, rv 235, iv 467, iv 76, sv "/claim/cut.py" 468])
def o237_3 (P : Params) : Obj := ob (Value.type "function") (Data.func (fdm "__eq__" "Thing.__eq__" (inClass (topS 10) 2) 3 [] nv nv nv (sv "oneheap.objects.thing" 435) .none (rv 236) nv 0))
def o238_3 (P : Params) : Obj := ob (Value.type "tuple") (Data.seq #[sv "contents" 470, sv "kind" 471])
def o239_3 (P : Params) : Obj := ob (Value.type "dict") (Data.dict #[de P "__module__" 444 (sv "oneheap.objects.thing" 435), de P "__firstlineno__" 448 (Value.int 67 447), de P "__init__" 454 (rv 223), de P "copied" 461 (rv 230), de P "__eq__" 469 (rv 237), de P "__static_attributes__" 472 (rv 238), de P "__dict__" 474 (rv 241), de P "__weakref__" 476 (rv 242), de P "__doc__" 477 nv, de P "__hash__" 478 nv] 5)
def o240_3 (P : Params) : Obj := Obj.mk (Value.type "type") .none (Data.cls (ClassData.mk (Str.ofString "Thing") [Value.type "object"] [rv 240, Value.type "object"] 239 (Str.ofString "Thing") true [] [] false .none false)) #[.none, .none, .some (sv "Thing" 437), .some (sv "Thing" 445), .some (Value.builtin "object.__new__"), .some (Value.bool true)]
def o241_3 (P : Params) : Obj := ob (Value.type "getset_descriptor") (Data.fields #[sv "__dict__" 473, rv 240, Value.builtin "function.__dict__", Value.builtin "function.__dict__#set"])
def o242_3 (P : Params) : Obj := ob (Value.type "getset_descriptor") (Data.fields #[sv "__weakref__" 475, rv 240, Value.builtin "ExceptionGroup.__weakref__", nv])
def o243_3 (P : Params) : Obj := ob (Value.type "super") (Data.fields #[rv 240, rv 240, rv 240])
def o244_3 (P : Params) : Obj := ob (Value.type "builtin_function_or_method") (Data.fields #[Value.builtin "object.__init_subclass__", rv 240])
def o245_3 (P : Params) : Obj := ob (Value.type "tuple") (Data.seq #[])
def o246_3 (P : Params) : Obj := ob nv (Data.fields #[])
def o247_3 (P : Params) : Obj := ob (Value.type "tuple") (Data.seq #[sv "content" 484])
def o248_3 (P : Params) : Obj := ob (Value.type "tuple") (Data.seq #[])
def o249_3 (P : Params) : Obj := ob nv (Data.func (fdm "content_copy" "content_copy" (topS 11) 0 [] nv nv nv nv .none nv nv 0))
def o250_3 (P : Params) : Obj := ob (Value.type "code") (Data.fields #[sv "content_copy" 481, sv "content_copy" 482, sv "/claim/cut.py" 483, iv 78, iv 1, iv 0, iv 0, iv 3, rv 245, Value.bool true, iv 181, rv 246, nv, rv 247, rv 248, rv 249, iv 485, iv 78, sv "/claim/cut.py" 486])
def o251_3 (P : Params) : Obj := ob (Value.type "function") (Data.func (fdm "content_copy" "content_copy" (topS 11) 3 [] nv nv nv (sv "oneheap.objects.thing" 435) .none (rv 250) nv 0))
def o252_3 (P : Params) : Obj := ob (Value.type "tuple") (Data.seq #[])
def o253_3 (P : Params) : Obj := ob nv (Data.fields #[])
def o254_3 (P : Params) : Obj := ob nv (Data.func (fdm "blank_thing" "blank_thing" (topS 12) 0 [] nv nv nv nv .none nv nv 0))
def o255_3 (P : Params) : Obj := ob (Value.type "code") (Data.fields #[sv "blank_thing" 488, sv "blank_thing" 489, sv "/claim/cut.py" 490, iv 80, iv 1, iv 0, iv 0, iv 3, rv 252, Value.bool true, iv 181, rv 253, nv, nv, nv, rv 254, iv 491, iv 80, sv "/claim/cut.py" 492])
def o256_3 (P : Params) : Obj := ob (Value.type "function") (Data.func (fdm "blank_thing" "blank_thing" (topS 12) 3 [] nv nv nv (sv "oneheap.objects.thing" 435) .none (rv 255) nv 0))
def o257_3 (P : Params) : Obj := ob (Value.type "tuple") (Data.seq #[])
def o258_3 (P : Params) : Obj := ob nv (Data.fields #[])
def o259_3 (P : Params) : Obj := ob (Value.type "tuple") (Data.seq #[sv "content" 497, sv "number" 498])
def o260_3 (P : Params) : Obj := ob (Value.type "tuple") (Data.seq #[])
def o261_3 (P : Params) : Obj := ob nv (Data.func (fdm "holds_number" "holds_number" (topS 13) 0 [] nv nv nv nv .none nv nv 0))
def o262_3 (P : Params) : Obj := ob (Value.type "code") (Data.fields #[sv "holds_number" 494, sv "holds_number" 495, sv "/claim/cut.py" 496, iv 82, iv 2, iv 0, iv 0, iv 3, rv 257, Value.bool true, iv 181, rv 258, nv, rv 259, rv 260, rv 261, iv 499, iv 82, sv "/claim/cut.py" 500])
def o263_3 (P : Params) : Obj := ob (Value.type "function") (Data.func (fdm "holds_number" "holds_number" (topS 13) 3 [] nv nv nv (sv "oneheap.objects.thing" 435) .none (rv 262) nv 0))
def o264_3 (P : Params) : Obj := ob (Value.type "tuple") (Data.seq #[])
def o265_3 (P : Params) : Obj := ob nv (Data.fields #[])
def o266_3 (P : Params) : Obj := ob nv (Data.func (fdm "told_content" "told_content" (topS 14) 0 [] nv nv nv nv .none nv nv 0))
def o267_3 (P : Params) : Obj := ob (Value.type "code") (Data.fields #[sv "told_content" 502, sv "told_content" 503, sv "/claim/cut.py" 504, iv 86, iv 3, iv 0, iv 0, iv 3, rv 264, Value.bool true, iv 181, rv 265, nv, nv, nv, rv 266, iv 505, iv 86, sv "/claim/cut.py" 506])
def o268_3 (P : Params) : Obj := ob (Value.type "function") (Data.func (fdm "told_content" "told_content" (topS 14) 3 [] nv nv nv (sv "oneheap.objects.thing" 435) .none (rv 267) nv 0))
def o269_3 (P : Params) : Obj := ob (Value.type "tuple") (Data.seq #[])
def o270_3 (P : Params) : Obj := ob nv (Data.fields #[])
def o271_3 (P : Params) : Obj := ob (Value.type "tuple") (Data.seq #[sv "source" 511, sv "number" 512, sv "kinds" 513, sv "thing" 514])
def o272_3 (P : Params) : Obj := ob (Value.type "tuple") (Data.seq #[])
def o273_3 (P : Params) : Obj := ob nv (Data.func (fdm "is_one_of" "is_one_of" (topS 15) 0 [] nv nv nv nv .none nv nv 0))
def o274_3 (P : Params) : Obj := ob (Value.type "code") (Data.fields #[sv "is_one_of" 508, sv "is_one_of" 509, sv "/claim/cut.py" 510, iv 92, iv 3, iv 0, iv 0, iv 3, rv 269, Value.bool true, iv 181, rv 270, nv, rv 271, rv 272, rv 273, iv 515, iv 92, sv "/claim/cut.py" 516])
def o275_3 (P : Params) : Obj := ob (Value.type "function") (Data.func (fdm "is_one_of" "is_one_of" (topS 15) 3 [] nv nv nv (sv "oneheap.objects.thing" 435) .none (rv 274) nv 0))
def o276_3 (P : Params) : Obj := ob (Value.type "tuple") (Data.seq #[])
def o277_3 (P : Params) : Obj := ob nv (Data.fields #[])
def o278_3 (P : Params) : Obj := ob nv (Data.func (fdm "picture_copy" "picture_copy" (topS 16) 0 [] nv nv nv nv .none nv nv 0))
def o279_3 (P : Params) : Obj := ob (Value.type "code") (Data.fields #[sv "picture_copy" 518, sv "picture_copy" 519, sv "/claim/cut.py" 520, iv 95, iv 1, iv 0, iv 0, iv 3, rv 276, Value.bool true, iv 181, rv 277, nv, nv, nv, rv 278, iv 521, iv 95, sv "/claim/cut.py" 522])
def o280_3 (P : Params) : Obj := ob (Value.type "function") (Data.func (fdm "picture_copy" "picture_copy" (topS 16) 3 [] nv nv nv (sv "oneheap.objects.thing" 435) .none (rv 279) nv 0))
def o281_3 (P : Params) : Obj := ob (Value.type "tuple") (Data.seq #[])
def o282_3 (P : Params) : Obj := ob (Value.type "builtin_function_or_method") (Data.fields #[Value.builtin "type.__prepare__", Value.type "type"])
def o283_3 (P : Params) : Obj := ob (Value.type "dict") (Data.dict #[de P "__module__" 533 (sv "oneheap.objects.source" 524), de P "__qualname__" 535 (sv "PictureSource" 534), de P "__firstlineno__" 537 (Value.int 98 536), de P "__init__" 545 (rv 294), de P "thing" 553 (rv 301), de P "numbers" 559 (rv 306), de P "referrers" 569 (rv 313), de P "alike" 579 (rv 320), de P "__static_attributes__" 581 (rv 321)] 9)
def o284_3 (P : Params) : Obj := ob (Value.type "tuple") (Data.seq #[])
def o285_3 (P : Params) : Obj := ob nv (Data.fields #[iv 100, iv 4, rv 293, iv 103, iv 4, rv 300, iv 106, iv 4, rv 305, iv 109, iv 4, rv 312, iv 112, iv 4, rv 319])
def o286_3 (P : Params) : Obj := ob (Value.type "code") (Data.fields #[sv "PictureSource" 528, sv "PictureSource" 529, sv "/claim/cut.py" 530, iv 98, iv 0, iv 0, iv 0, iv 0, rv 284, Value.bool false, iv 181, rv 285, nv, nv, nv, nv, iv 531, iv 98, sv "/claim/cut.py" 532])
def o287_3 (P : Params) : Obj := Obj.mk (Value.type "frame") .none Data.plain #[.some (rv 286), .some (rv 3), .some (rv 283), .none, .some (sv "oneheap.objects.source" 524), .none, .some (rv 0)]
def o288_3 (P : Params) : Obj := ob (Value.type "tuple") (Data.seq #[])
def o289_3 (P : Params) : Obj := ob nv (Data.fields #[])
def o290_3 (P : Params) : Obj := ob (Value.type "tuple") (Data.seq #[sv "self" 541, sv "picture" 542])
def o291_3 (P : Params) : Obj := ob (Value.type "tuple") (Data.seq #[])
def o292_3 (P : Params) : Obj := ob nv (Data.func (fdm "__init__" "PictureSource.__init__" (inClass (topS 18) 0) 0 [] nv nv nv nv .none nv nv 0))
def o293_3 (P : Params) : Obj := ob (Value.type "code") (Data.fields #[sv "__init__" 538, sv "PictureSource.__init__" 539, sv "/claim/cut.py" 540, iv 100, iv 2, iv 0, iv 0, iv 3, rv 288, Value.bool true, iv 181, rv 289, nv, rv 290, rv 291, rv 292, iv 543, iv 100, sv "/claim/cut.py" 544])
def o294_3 (P : Params) : Obj := ob (Value.type "function") (Data.func (fdm "__init__" "PictureSource.__init__" (inClass (topS 18) 0) 3 [] nv nv nv (sv "oneheap.objects.source" 524) .none (rv 293) nv 0))
def o295_3 (P : Params) : Obj := ob (Value.type "tuple") (Data.seq #[])
def o296_3 (P : Params) : Obj := ob nv (Data.fields #[])
def o297_3 (P : Params) : Obj := ob (Value.type "tuple") (Data.seq #[sv "self" 549, sv "number" 550])
def o298_3 (P : Params) : Obj := ob (Value.type "tuple") (Data.seq #[])
def o299_3 (P : Params) : Obj := ob nv (Data.func (fdm "thing" "PictureSource.thing" (inClass (topS 18) 1) 0 [] nv nv nv nv .none nv nv 0))
def o300_3 (P : Params) : Obj := ob (Value.type "code") (Data.fields #[sv "thing" 546, sv "PictureSource.thing" 547, sv "/claim/cut.py" 548, iv 103, iv 2, iv 0, iv 0, iv 3, rv 295, Value.bool true, iv 181, rv 296, nv, rv 297, rv 298, rv 299, iv 551, iv 103, sv "/claim/cut.py" 552])
def o301_3 (P : Params) : Obj := ob (Value.type "function") (Data.func (fdm "thing" "PictureSource.thing" (inClass (topS 18) 1) 3 [] nv nv nv (sv "oneheap.objects.source" 524) .none (rv 300) nv 0))
def o302_3 (P : Params) : Obj := ob (Value.type "tuple") (Data.seq #[])
def o303_3 (P : Params) : Obj := ob nv (Data.fields #[])
def o304_3 (P : Params) : Obj := ob nv (Data.func (fdm "numbers" "PictureSource.numbers" (inClass (topS 18) 2) 0 [] nv nv nv nv .none nv nv 0))
def o305_3 (P : Params) : Obj := ob (Value.type "code") (Data.fields #[sv "numbers" 554, sv "PictureSource.numbers" 555, sv "/claim/cut.py" 556, iv 106, iv 2, iv 0, iv 0, iv 3, rv 302, Value.bool true, iv 181, rv 303, nv, nv, nv, rv 304, iv 557, iv 106, sv "/claim/cut.py" 558])
def o306_3 (P : Params) : Obj := ob (Value.type "function") (Data.func (fdm "numbers" "PictureSource.numbers" (inClass (topS 18) 2) 3 [] nv nv nv (sv "oneheap.objects.source" 524) .none (rv 305) nv 0))
def o307_3 (P : Params) : Obj := ob (Value.type "tuple") (Data.seq #[])
def o308_3 (P : Params) : Obj := ob nv (Data.fields #[])
def o309_3 (P : Params) : Obj := ob (Value.type "tuple") (Data.seq #[sv "self" 563, sv "number" 564, sv "kind" 565, sv "field" 566])
def o310_3 (P : Params) : Obj := ob (Value.type "tuple") (Data.seq #[])
def o311_3 (P : Params) : Obj := ob nv (Data.func (fdm "referrers" "PictureSource.referrers" (inClass (topS 18) 3) 0 [] nv nv nv nv .none nv nv 0))
def o312_3 (P : Params) : Obj := ob (Value.type "code") (Data.fields #[sv "referrers" 560, sv "PictureSource.referrers" 561, sv "/claim/cut.py" 562, iv 109, iv 4, iv 0, iv 0, iv 3, rv 307, Value.bool true, iv 181, rv 308, nv, rv 309, rv 310, rv 311, iv 567, iv 109, sv "/claim/cut.py" 568])
def o313_3 (P : Params) : Obj := ob (Value.type "function") (Data.func (fdm "referrers" "PictureSource.referrers" (inClass (topS 18) 3) 3 [] nv nv nv (sv "oneheap.objects.source" 524) .none (rv 312) nv 0))
def o314_3 (P : Params) : Obj := ob (Value.type "tuple") (Data.seq #[])
def o315_3 (P : Params) : Obj := ob nv (Data.fields #[])
def o316_3 (P : Params) : Obj := ob (Value.type "tuple") (Data.seq #[sv "self" 573, sv "kind" 574, sv "names" 575, sv "amounts" 576])
def o317_3 (P : Params) : Obj := ob (Value.type "tuple") (Data.seq #[])
def o318_3 (P : Params) : Obj := ob nv (Data.func (fdm "alike" "PictureSource.alike" (inClass (topS 18) 4) 0 [] nv nv nv nv .none nv nv 0))
def o319_3 (P : Params) : Obj := ob (Value.type "code") (Data.fields #[sv "alike" 570, sv "PictureSource.alike" 571, sv "/claim/cut.py" 572, iv 112, iv 4, iv 0, iv 0, iv 3, rv 314, Value.bool true, iv 181, rv 315, nv, rv 316, rv 317, rv 318, iv 577, iv 112, sv "/claim/cut.py" 578])
def o320_3 (P : Params) : Obj := ob (Value.type "function") (Data.func (fdm "alike" "PictureSource.alike" (inClass (topS 18) 4) 3 [] nv nv nv (sv "oneheap.objects.source" 524) .none (rv 319) nv 0))
def o321_3 (P : Params) : Obj := ob (Value.type "tuple") (Data.seq #[sv "things" 580])
def o322_3 (P : Params) : Obj := ob (Value.type "dict") (Data.dict #[de P "__module__" 533 (sv "oneheap.objects.source" 524), de P "__firstlineno__" 537 (Value.int 98 536), de P "__init__" 545 (rv 294), de P "thing" 553 (rv 301), de P "numbers" 559 (rv 306), de P "referrers" 569 (rv 313), de P "alike" 579 (rv 320), de P "__static_attributes__" 581 (rv 321), de P "__dict__" 583 (rv 324), de P "__weakref__" 585 (rv 325), de P "__doc__" 586 nv] 4)
def o323_3 (P : Params) : Obj := Obj.mk (Value.type "type") .none (Data.cls (ClassData.mk (Str.ofString "PictureSource") [Value.type "object"] [rv 323, Value.type "object"] 322 (Str.ofString "PictureSource") true [] [] false .none false)) #[.none, .none, .some (sv "PictureSource" 526), .some (sv "PictureSource" 534), .some (Value.builtin "object.__new__"), .some (Value.bool true)]
def o324_3 (P : Params) : Obj := ob (Value.type "getset_descriptor") (Data.fields #[sv "__dict__" 582, rv 323, Value.builtin "function.__dict__", Value.builtin "function.__dict__#set"])
def o325_3 (P : Params) : Obj := ob (Value.type "getset_descriptor") (Data.fields #[sv "__weakref__" 584, rv 323, Value.builtin "ExceptionGroup.__weakref__", nv])
def o326_3 (P : Params) : Obj := ob (Value.type "super") (Data.fields #[rv 323, rv 323, rv 323])
def o327_3 (P : Params) : Obj := ob (Value.type "builtin_function_or_method") (Data.fields #[Value.builtin "object.__init_subclass__", rv 323])
def tr3 (P : Params) : PySem.W.BT := (.node (PySem.W.boot_o_0 P) (.node (PySem.W.boot_o_1 P) (.node (o3_3 P) (.node (PySem.W.boot_o_7 P) (.node (o15_3 P) (.node (o31_3 P) (.node (o63_3 P) (.node (o127_3 P) (.node (o255_3 P) .nil .nil) .nil) (.node (o191_3 P) (.node (o319_3 P) .nil .nil) .nil)) (.node (o95_3 P) (.node (o159_3 P) (.node (o287_3 P) .nil .nil) .nil) (.node (o223_3 P) .nil .nil))) (.node (o47_3 P) (.node (o79_3 P) (.node (o143_3 P) (.node (o271_3 P) .nil .nil) .nil) (.node (o207_3 P) .nil .nil)) (.node (o111_3 P) (.node (o175_3 P) (.node (o303_3 P) .nil .nil) .nil) (.node (o239_3 P) .nil .nil)))) (.node (o23_3 P) (.node (o39_3 P) (.node (o71_3 P) (.node (o135_3 P) (.node (o263_3 P) .nil .nil) .nil) (.node (o199_3 P) (.node (o327_3 P) .nil .nil) .nil)) (.node (o103_3 P) (.node (o167_3 P) (.node (o295_3 P) .nil .nil) .nil) (.node (o231_3 P) .nil .nil))) (.node (o55_3 P) (.node (o87_3 P) (.node (o151_3 P) (.node (o279_3 P) .nil .nil) .nil) (.node (o215_3 P) .nil .nil)) (.node (o119_3 P) (.node (o183_3 P) (.node (o311_3 P) .nil .nil) .nil) (.node (o247_3 P) .nil .nil))))) (.node (o11_1 P) (.node (o19_3 P) (.node (o35_3 P) (.node (o67_3 P) (.node (o131_3 P) (.node (o259_3 P) .nil .nil) .nil) (.node (o195_3 P) (.node (o323_3 P) .nil .nil) .nil)) (.node (o99_3 P) (.node (o163_3 P) (.node (o291_3 P) .nil .nil) .nil) (.node (o227_3 P) .nil .nil))) (.node (o51_3 P) (.node (o83_3 P) (.node (o147_3 P) (.node (o275_3 P) .nil .nil) .nil) (.node (o211_3 P) .nil .nil)) (.node (o115_3 P) (.node (o179_3 P) (.node (o307_3 P) .nil .nil) .nil) (.node (o243_3 P) .nil .nil)))) (.node (o27_3 P) (.node (o43_3 P) (.node (o75_3 P) (.node (o139_3 P) (.node (o267_3 P) .nil .nil) .nil) (.node (o203_3 P) .nil .nil)) (.node (o107_3 P) (.node (o171_3 P) (.node (o299_3 P) .nil .nil) .nil) (.node (o235_3 P) .nil .nil))) (.node (o59_3 P) (.node (o91_3 P) (.node (o155_3 P) (.node (o283_3 P) .nil .nil) .nil) (.node (o219_3 P) .nil .nil)) (.node (o123_3 P) (.node (o187_3 P) (.node (o315_3 P) .nil .nil) .nil) (.node (o251_3 P) .nil .nil)))))) (.node (PySem.W.boot_o_5 P) (.node (PySem.W.boot_o_9 P) (.node (o17_3 P) (.node (o33_3 P) (.node (o65_3 P) (.node (o129_3 P) (.node (o257_3 P) .nil .nil) .nil) (.node (o193_3 P) (.node (o321_3 P) .nil .nil) .nil)) (.node (o97_3 P) (.node (o161_3 P) (.node (o289_3 P) .nil .nil) .nil) (.node (o225_3 P) .nil .nil))) (.node (o49_3 P) (.node (o81_3 P) (.node (o145_3 P) (.node (o273_3 P) .nil .nil) .nil) (.node (o209_3 P) .nil .nil)) (.node (o113_3 P) (.node (o177_3 P) (.node (o305_3 P) .nil .nil) .nil) (.node (o241_3 P) .nil .nil)))) (.node (o25_3 P) (.node (o41_3 P) (.node (o73_3 P) (.node (o137_3 P) (.node (o265_3 P) .nil .nil) .nil) (.node (o201_3 P) .nil .nil)) (.node (o105_3 P) (.node (o169_3 P) (.node (o297_3 P) .nil .nil) .nil) (.node (o233_3 P) .nil .nil))) (.node (o57_3 P) (.node (o89_3 P) (.node (o153_3 P) (.node (o281_3 P) .nil .nil) .nil) (.node (o217_3 P) .nil .nil)) (.node (o121_3 P) (.node (o185_3 P) (.node (o313_3 P) .nil .nil) .nil) (.node (o249_3 P) .nil .nil))))) (.node (o13_1 P) (.node (o21_3 P) (.node (o37_3 P) (.node (o69_3 P) (.node (o133_3 P) (.node (o261_3 P) .nil .nil) .nil) (.node (o197_3 P) (.node (o325_3 P) .nil .nil) .nil)) (.node (o101_3 P) (.node (o165_3 P) (.node (o293_3 P) .nil .nil) .nil) (.node (o229_3 P) .nil .nil))) (.node (o53_3 P) (.node (o85_3 P) (.node (o149_3 P) (.node (o277_3 P) .nil .nil) .nil) (.node (o213_3 P) .nil .nil)) (.node (o117_3 P) (.node (o181_3 P) (.node (o309_3 P) .nil .nil) .nil) (.node (o245_3 P) .nil .nil)))) (.node (o29_3 P) (.node (o45_3 P) (.node (o77_3 P) (.node (o141_3 P) (.node (o269_3 P) .nil .nil) .nil) (.node (o205_3 P) .nil .nil)) (.node (o109_3 P) (.node (o173_3 P) (.node (o301_3 P) .nil .nil) .nil) (.node (o237_3 P) .nil .nil))) (.node (o61_3 P) (.node (o93_3 P) (.node (o157_3 P) (.node (o285_3 P) .nil .nil) .nil) (.node (o221_3 P) .nil .nil)) (.node (o125_3 P) (.node (o189_3 P) (.node (o317_3 P) .nil .nil) .nil) (.node (o253_3 P) .nil .nil))))))) (.node (PySem.W.boot_o_2 P) (.node (PySem.W.boot_o_4 P) (.node (PySem.W.boot_o_8 P) (.node (o16_3 P) (.node (o32_3 P) (.node (o64_3 P) (.node (o128_3 P) (.node (o256_3 P) .nil .nil) .nil) (.node (o192_3 P) (.node (o320_3 P) .nil .nil) .nil)) (.node (o96_3 P) (.node (o160_3 P) (.node (o288_3 P) .nil .nil) .nil) (.node (o224_3 P) .nil .nil))) (.node (o48_3 P) (.node (o80_3 P) (.node (o144_3 P) (.node (o272_3 P) .nil .nil) .nil) (.node (o208_3 P) .nil .nil)) (.node (o112_3 P) (.node (o176_3 P) (.node (o304_3 P) .nil .nil) .nil) (.node (o240_3 P) .nil .nil)))) (.node (o24_3 P) (.node (o40_3 P) (.node (o72_3 P) (.node (o136_3 P) (.node (o264_3 P) .nil .nil) .nil) (.node (o200_3 P) .nil .nil)) (.node (o104_3 P) (.node (o168_3 P) (.node (o296_3 P) .nil .nil) .nil) (.node (o232_3 P) .nil .nil))) (.node (o56_3 P) (.node (o88_3 P) (.node (o152_3 P) (.node (o280_3 P) .nil .nil) .nil) (.node (o216_3 P) .nil .nil)) (.node (o120_3 P) (.node (o184_3 P) (.node (o312_3 P) .nil .nil) .nil) (.node (o248_3 P) .nil .nil))))) (.node (o12_3 P) (.node (o20_3 P) (.node (o36_3 P) (.node (o68_3 P) (.node (o132_3 P) (.node (o260_3 P) .nil .nil) .nil) (.node (o196_3 P) (.node (o324_3 P) .nil .nil) .nil)) (.node (o100_3 P) (.node (o164_3 P) (.node (o292_3 P) .nil .nil) .nil) (.node (o228_3 P) .nil .nil))) (.node (o52_3 P) (.node (o84_3 P) (.node (o148_3 P) (.node (o276_3 P) .nil .nil) .nil) (.node (o212_3 P) .nil .nil)) (.node (o116_3 P) (.node (o180_3 P) (.node (o308_3 P) .nil .nil) .nil) (.node (o244_3 P) .nil .nil)))) (.node (o28_3 P) (.node (o44_3 P) (.node (o76_3 P) (.node (o140_3 P) (.node (o268_3 P) .nil .nil) .nil) (.node (o204_3 P) .nil .nil)) (.node (o108_3 P) (.node (o172_3 P) (.node (o300_3 P) .nil .nil) .nil) (.node (o236_3 P) .nil .nil))) (.node (o60_3 P) (.node (o92_3 P) (.node (o156_3 P) (.node (o284_3 P) .nil .nil) .nil) (.node (o220_3 P) .nil .nil)) (.node (o124_3 P) (.node (o188_3 P) (.node (o316_3 P) .nil .nil) .nil) (.node (o252_3 P) .nil .nil)))))) (.node (PySem.W.boot_o_6 P) (.node (PySem.W.boot_o_10 P) (.node (o18_3 P) (.node (o34_3 P) (.node (o66_3 P) (.node (o130_3 P) (.node (o258_3 P) .nil .nil) .nil) (.node (o194_3 P) (.node (o322_3 P) .nil .nil) .nil)) (.node (o98_3 P) (.node (o162_3 P) (.node (o290_3 P) .nil .nil) .nil) (.node (o226_3 P) .nil .nil))) (.node (o50_3 P) (.node (o82_3 P) (.node (o146_3 P) (.node (o274_3 P) .nil .nil) .nil) (.node (o210_3 P) .nil .nil)) (.node (o114_3 P) (.node (o178_3 P) (.node (o306_3 P) .nil .nil) .nil) (.node (o242_3 P) .nil .nil)))) (.node (o26_3 P) (.node (o42_3 P) (.node (o74_3 P) (.node (o138_3 P) (.node (o266_3 P) .nil .nil) .nil) (.node (o202_3 P) .nil .nil)) (.node (o106_3 P) (.node (o170_3 P) (.node (o298_3 P) .nil .nil) .nil) (.node (o234_3 P) .nil .nil))) (.node (o58_3 P) (.node (o90_3 P) (.node (o154_3 P) (.node (o282_3 P) .nil .nil) .nil) (.node (o218_3 P) .nil .nil)) (.node (o122_3 P) (.node (o186_3 P) (.node (o314_3 P) .nil .nil) .nil) (.node (o250_3 P) .nil .nil))))) (.node (o14_1 P) (.node (o22_3 P) (.node (o38_3 P) (.node (o70_3 P) (.node (o134_3 P) (.node (o262_3 P) .nil .nil) .nil) (.node (o198_3 P) (.node (o326_3 P) .nil .nil) .nil)) (.node (o102_3 P) (.node (o166_3 P) (.node (o294_3 P) .nil .nil) .nil) (.node (o230_3 P) .nil .nil))) (.node (o54_3 P) (.node (o86_3 P) (.node (o150_3 P) (.node (o278_3 P) .nil .nil) .nil) (.node (o214_3 P) .nil .nil)) (.node (o118_3 P) (.node (o182_3 P) (.node (o310_3 P) .nil .nil) .nil) (.node (o246_3 P) .nil .nil)))) (.node (o30_3 P) (.node (o46_3 P) (.node (o78_3 P) (.node (o142_3 P) (.node (o270_3 P) .nil .nil) .nil) (.node (o206_3 P) .nil .nil)) (.node (o110_3 P) (.node (o174_3 P) (.node (o302_3 P) .nil .nil) .nil) (.node (o238_3 P) .nil .nil))) (.node (o62_3 P) (.node (o94_3 P) (.node (o158_3 P) (.node (o286_3 P) .nil .nil) .nil) (.node (o222_3 P) .nil .nil)) (.node (o126_3 P) (.node (o190_3 P) (.node (o318_3 P) .nil .nil) .nil) (.node (o254_3 P) .nil .nil))))))))
def sT3 (w : World) (os : OsState) : PySem.W.SharedT := ⟨tr3 w.params, 328, (Life.mk [] [] [] 0 [] [] false #[] [] 0 false false false 0 [2000, 10, 10] false 0 true [] [] 0 false), #[], (Drawn.mk 0 0 0 0), 589, os⟩
def o3_4 (P : Params) : Obj := ob (Value.type "dict") (Data.dict #[de P "__name__" 165 (sv "law_oneheap_k39_what_contents_tell" 743), de P "__doc__" 166 nv, de P "__package__" 167 nv, de P "__loader__" 168 (Value.builtin "__main__.__loader__#opaque"), de P "__spec__" 169 nv, de P "__annotations__" 170 (rv 6), de P "__builtins__" 171 (rv 4), de P "__file__" 173 (sv "/claim/cut.py" 172), de P "__cached__" 174 nv, de P "_wall" 193 (rv 21), de P "IntSort" 250 (rv 59), de P "TextSort" 305 (rv 102), de P "RefSort" 360 (rv 144), de P "ListSort" 413 (rv 186), de P "is_reference" 420 (rv 197), de P "is_list" 427 (rv 204), de P "blank" 434 (rv 211), de P "Thing" 480 (rv 240), de P "content_copy" 487 (rv 251), de P "blank_thing" 493 (rv 256), de P "holds_number" 501 (rv 263), de P "told_content" 507 (rv 268), de P "is_one_of" 517 (rv 275), de P "picture_copy" 523 (rv 280), de P "PictureSource" 588 (rv 323), de P "Field" 630 (rv 352), de P "Kind" 681 (rv 390), de P "Schema" 742 (rv 437), de P "_law_cells" 755 (rv 448), de P "_law_draw" 764 (rv 455), de P "_law_pick" 772 (rv 462), de P "_law_links" 780 (rv 469), de P "_law_names" 787 (rv 476), de P "_law_rules" 793 (rv 481), de P "_law_schema" 803 (rv 488), de P "_law_number" 811 (rv 495), de P "_law_list" 821 (rv 502), de P "_law_contents" 830 (rv 509), de P "_law_picture" 841 (rv 516), de P "_law_there" 850 (rv 523), de P "_law_told" 856 (rv 528), de P "_law_shown" 862 (rv 533), de P "_law_holds" 870 (rv 540), de P "_law_contents_tell" 887 (rv 547), de P "law" 904 (rv 554)] 45)
def o12_4 (P : Params) : Obj := ob nv (Data.fields #[iv 1, iv 0, rv 20, iv 5, iv 0, rv 27, iv 19, iv 0, rv 69, iv 33, iv 0, rv 112, iv 47, iv 0, rv 154, iv 60, iv 0, rv 196, iv 62, iv 0, rv 203, iv 64, iv 0, rv 210, iv 67, iv 0, rv 217, iv 78, iv 0, rv 250, iv 80, iv 0, rv 255, iv 82, iv 0, rv 262, iv 86, iv 0, rv 267, iv 92, iv 0, rv 274, iv 95, iv 0, rv 279, iv 98, iv 0, rv 286, iv 115, iv 0, rv 333, iv 124, iv 0, rv 362, iv 142, iv 0, rv 400, iv 163, iv 0, rv 447, iv 176, iv 0, rv 454, iv 182, iv 0, rv 461, iv 184, iv 0, rv 468, iv 188, iv 0, rv 475, iv 192, iv 0, rv 480, iv 194, iv 0, rv 487, iv 198, iv 0, rv 494, iv 203, iv 0, rv 501, iv 210, iv 0, rv 508, iv 222, iv 0, rv 515, iv 229, iv 0, rv 522, iv 231, iv 0, rv 527, iv 240, iv 0, rv 532, iv 242, iv 0, rv 539, iv 246, iv 0, rv 546, iv 262, iv 0, rv 553])
def o328_4 (P : Params) : Obj := ob (Value.type "tuple") (Data.seq #[])
def o329_4 (P : Params) : Obj := ob (Value.type "builtin_function_or_method") (Data.fields #[Value.builtin "type.__prepare__", Value.type "type"])
def o330_4 (P : Params) : Obj := ob (Value.type "dict") (Data.dict #[de P "__module__" 598 (sv "oneheap.schemas.schema" 589), de P "__qualname__" 600 (sv "Field" 599), de P "__firstlineno__" 602 (Value.int 115 601), de P "__init__" 612 (rv 342), de P "written" 619 (rv 349), de P "__static_attributes__" 623 (rv 350)] 6)
def o331_4 (P : Params) : Obj := ob (Value.type "tuple") (Data.seq #[])
def o332_4 (P : Params) : Obj := ob nv (Data.fields #[iv 117, iv 4, rv 341, iv 122, iv 4, rv 348])
def o333_4 (P : Params) : Obj := ob (Value.type "code") (Data.fields #[sv "Field" 593, sv "Field" 594, sv "/claim/cut.py" 595, iv 115, iv 0, iv 0, iv 0, iv 0, rv 331, Value.bool false, iv 181, rv 332, nv, nv, nv, nv, iv 596, iv 115, sv "/claim/cut.py" 597])
def o334_4 (P : Params) : Obj := Obj.mk (Value.type "frame") .none Data.plain #[.some (rv 333), .some (rv 3), .some (rv 330), .none, .some (sv "oneheap.schemas.schema" 589), .none, .some (rv 0)]
def o335_4 (P : Params) : Obj := ob (Value.type "tuple") (Data.seq #[Value.bool false])
def o336_4 (P : Params) : Obj := ob (Value.type "tuple") (Data.seq #[])
def o337_4 (P : Params) : Obj := ob nv (Data.fields #[])
def o338_4 (P : Params) : Obj := ob (Value.type "tuple") (Data.seq #[sv "self" 606, sv "name" 607, sv "shape" 608, sv "needed" 609])
def o339_4 (P : Params) : Obj := ob (Value.type "tuple") (Data.seq #[])
def o340_4 (P : Params) : Obj := ob nv (Data.func (fdm "__init__" "Field.__init__" (inClass (topS 20) 0) 0 [] nv nv nv nv .none nv nv 0))
def o341_4 (P : Params) : Obj := ob (Value.type "code") (Data.fields #[sv "__init__" 603, sv "Field.__init__" 604, sv "/claim/cut.py" 605, iv 117, iv 4, iv 0, iv 0, iv 3, rv 336, Value.bool true, iv 181, rv 337, nv, rv 338, rv 339, rv 340, iv 610, iv 117, sv "/claim/cut.py" 611])
def o342_4 (P : Params) : Obj := ob (Value.type "function") (Data.func (fdm "__init__" "Field.__init__" (inClass (topS 20) 0) 3 [] (rv 335) nv nv (sv "oneheap.schemas.schema" 589) .none (rv 341) nv 0))
def o343_4 (P : Params) : Obj := ob (Value.type "tuple") (Data.seq #[])
def o344_4 (P : Params) : Obj := ob nv (Data.fields #[])
def o345_4 (P : Params) : Obj := ob (Value.type "tuple") (Data.seq #[sv "self" 616])
def o346_4 (P : Params) : Obj := ob (Value.type "tuple") (Data.seq #[])
def o347_4 (P : Params) : Obj := ob nv (Data.func (fdm "written" "Field.written" (inClass (topS 20) 1) 0 [] nv nv nv nv .none nv nv 0))
def o348_4 (P : Params) : Obj := ob (Value.type "code") (Data.fields #[sv "written" 613, sv "Field.written" 614, sv "/claim/cut.py" 615, iv 122, iv 1, iv 0, iv 0, iv 3, rv 343, Value.bool true, iv 181, rv 344, nv, rv 345, rv 346, rv 347, iv 617, iv 122, sv "/claim/cut.py" 618])
def o349_4 (P : Params) : Obj := ob (Value.type "function") (Data.func (fdm "written" "Field.written" (inClass (topS 20) 1) 3 [] nv nv nv (sv "oneheap.schemas.schema" 589) .none (rv 348) nv 0))
def o350_4 (P : Params) : Obj := ob (Value.type "tuple") (Data.seq #[sv "name" 620, sv "needed" 621, sv "shape" 622])
def o351_4 (P : Params) : Obj := ob (Value.type "dict") (Data.dict #[de P "__module__" 598 (sv "oneheap.schemas.schema" 589), de P "__firstlineno__" 602 (Value.int 115 601), de P "__init__" 612 (rv 342), de P "written" 619 (rv 349), de P "__static_attributes__" 623 (rv 350), de P "__dict__" 625 (rv 353), de P "__weakref__" 627 (rv 354), de P "__doc__" 628 nv] 4)
def o352_4 (P : Params) : Obj := Obj.mk (Value.type "type") .none (Data.cls (ClassData.mk (Str.ofString "Field") [Value.type "object"] [rv 352, Value.type "object"] 351 (Str.ofString "Field") true [] [] false .none false)) #[.none, .none, .some (sv "Field" 591), .some (sv "Field" 599), .some (Value.builtin "object.__new__"), .some (Value.bool true)]
def o353_4 (P : Params) : Obj := ob (Value.type "getset_descriptor") (Data.fields #[sv "__dict__" 624, rv 352, Value.builtin "function.__dict__", Value.builtin "function.__dict__#set"])
def o354_4 (P : Params) : Obj := ob (Value.type "getset_descriptor") (Data.fields #[sv "__weakref__" 626, rv 352, Value.builtin "ExceptionGroup.__weakref__", nv])
def o355_4 (P : Params) : Obj := ob (Value.type "super") (Data.fields #[rv 352, rv 352, rv 352])
def o356_4 (P : Params) : Obj := ob (Value.type "builtin_function_or_method") (Data.fields #[Value.builtin "object.__init_subclass__", rv 352])
def o357_4 (P : Params) : Obj := ob (Value.type "tuple") (Data.seq #[])
def o358_4 (P : Params) : Obj := ob (Value.type "builtin_function_or_method") (Data.fields #[Value.builtin "type.__prepare__", Value.type "type"])
def o359_4 (P : Params) : Obj := ob (Value.type "dict") (Data.dict #[de P "__module__" 638 (sv "oneheap.schemas.schema" 589), de P "__qualname__" 640 (sv "Kind" 639), de P "__firstlineno__" 642 (Value.int 124 641), de P "__init__" 648 (rv 368), de P "field_of" 657 (rv 375), de P "names" 663 (rv 380), de P "written" 670 (rv 387), de P "__static_attributes__" 674 (rv 388)] 8)
def o360_4 (P : Params) : Obj := ob (Value.type "tuple") (Data.seq #[])
def o361_4 (P : Params) : Obj := ob nv (Data.fields #[iv 126, iv 4, rv 367, iv 131, iv 4, rv 374, iv 137, iv 4, rv 379, iv 140, iv 4, rv 386])
def o362_4 (P : Params) : Obj := ob (Value.type "code") (Data.fields #[sv "Kind" 633, sv "Kind" 634, sv "/claim/cut.py" 635, iv 124, iv 0, iv 0, iv 0, iv 0, rv 360, Value.bool false, iv 181, rv 361, nv, nv, nv, nv, iv 636, iv 124, sv "/claim/cut.py" 637])
def o363_4 (P : Params) : Obj := Obj.mk (Value.type "frame") .none Data.plain #[.some (rv 362), .some (rv 3), .some (rv 359), .none, .some (sv "oneheap.schemas.schema" 589), .none, .some (rv 0)]
def o364_4 (P : Params) : Obj := ob (Value.type "tuple") (Data.seq #[])
def o365_4 (P : Params) : Obj := ob nv (Data.fields #[])
def o366_4 (P : Params) : Obj := ob nv (Data.func (fdm "__init__" "Kind.__init__" (inClass (topS 21) 0) 0 [] nv nv nv nv .none nv nv 0))
def o367_4 (P : Params) : Obj := ob (Value.type "code") (Data.fields #[sv "__init__" 643, sv "Kind.__init__" 644, sv "/claim/cut.py" 645, iv 126, iv 4, iv 0, iv 0, iv 3, rv 364, Value.bool true, iv 181, rv 365, nv, nv, nv, rv 366, iv 646, iv 126, sv "/claim/cut.py" 647])
def o368_4 (P : Params) : Obj := ob (Value.type "function") (Data.func (fdm "__init__" "Kind.__init__" (inClass (topS 21) 0) 3 [] nv nv nv (sv "oneheap.schemas.schema" 589) .none (rv 367) nv 0))
def o369_4 (P : Params) : Obj := ob (Value.type "tuple") (Data.seq #[])
def o370_4 (P : Params) : Obj := ob nv (Data.fields #[])
def o371_4 (P : Params) : Obj := ob (Value.type "tuple") (Data.seq #[sv "self" 652, sv "name" 653, sv "field" 654])
def o372_4 (P : Params) : Obj := ob (Value.type "tuple") (Data.seq #[])
def o373_4 (P : Params) : Obj := ob nv (Data.func (fdm "field_of" "Kind.field_of" (inClass (topS 21) 1) 0 [] nv nv nv nv .none nv nv 0))
def o374_4 (P : Params) : Obj := ob (Value.type "code") (Data.fields #[sv "field_of" 649, sv "Kind.field_of" 650, sv "/claim/cut.py" 651, iv 131, iv 2, iv 0, iv 0, iv 3, rv 369, Value.bool true, iv 181, rv 370, nv, rv 371, rv 372, rv 373, iv 655, iv 131, sv "/claim/cut.py" 656])
def o375_4 (P : Params) : Obj := ob (Value.type "function") (Data.func (fdm "field_of" "Kind.field_of" (inClass (topS 21) 1) 3 [] nv nv nv (sv "oneheap.schemas.schema" 589) .none (rv 374) nv 0))
def o376_4 (P : Params) : Obj := ob (Value.type "tuple") (Data.seq #[])
def o377_4 (P : Params) : Obj := ob nv (Data.fields #[])
def o378_4 (P : Params) : Obj := ob nv (Data.func (fdm "names" "Kind.names" (inClass (topS 21) 2) 0 [] nv nv nv nv .none nv nv 0))
def o379_4 (P : Params) : Obj := ob (Value.type "code") (Data.fields #[sv "names" 658, sv "Kind.names" 659, sv "/claim/cut.py" 660, iv 137, iv 1, iv 0, iv 0, iv 3, rv 376, Value.bool true, iv 181, rv 377, nv, nv, nv, rv 378, iv 661, iv 137, sv "/claim/cut.py" 662])
def o380_4 (P : Params) : Obj := ob (Value.type "function") (Data.func (fdm "names" "Kind.names" (inClass (topS 21) 2) 3 [] nv nv nv (sv "oneheap.schemas.schema" 589) .none (rv 379) nv 0))
def o381_4 (P : Params) : Obj := ob (Value.type "tuple") (Data.seq #[])
def o382_4 (P : Params) : Obj := ob nv (Data.fields #[])
def o383_4 (P : Params) : Obj := ob (Value.type "tuple") (Data.seq #[sv "self" 667])
def o384_4 (P : Params) : Obj := ob (Value.type "tuple") (Data.seq #[])
def o385_4 (P : Params) : Obj := ob nv (Data.func (fdm "written" "Kind.written" (inClass (topS 21) 3) 0 [] nv nv nv nv .none nv nv 0))
def o386_4 (P : Params) : Obj := ob (Value.type "code") (Data.fields #[sv "written" 664, sv "Kind.written" 665, sv "/claim/cut.py" 666, iv 140, iv 1, iv 0, iv 0, iv 3, rv 381, Value.bool true, iv 181, rv 382, nv, rv 383, rv 384, rv 385, iv 668, iv 140, sv "/claim/cut.py" 669])
def o387_4 (P : Params) : Obj := ob (Value.type "function") (Data.func (fdm "written" "Kind.written" (inClass (topS 21) 3) 3 [] nv nv nv (sv "oneheap.schemas.schema" 589) .none (rv 386) nv 0))
def o388_4 (P : Params) : Obj := ob (Value.type "tuple") (Data.seq #[sv "fields" 671, sv "key_rows" 672, sv "name" 673])
def o389_4 (P : Params) : Obj := ob (Value.type "dict") (Data.dict #[de P "__module__" 638 (sv "oneheap.schemas.schema" 589), de P "__firstlineno__" 642 (Value.int 124 641), de P "__init__" 648 (rv 368), de P "field_of" 657 (rv 375), de P "names" 663 (rv 380), de P "written" 670 (rv 387), de P "__static_attributes__" 674 (rv 388), de P "__dict__" 676 (rv 391), de P "__weakref__" 678 (rv 392), de P "__doc__" 679 nv] 4)
def o390_4 (P : Params) : Obj := Obj.mk (Value.type "type") .none (Data.cls (ClassData.mk (Str.ofString "Kind") [Value.type "object"] [rv 390, Value.type "object"] 389 (Str.ofString "Kind") true [] [] false .none false)) #[.none, .none, .some (sv "Kind" 631), .some (sv "Kind" 639), .some (Value.builtin "object.__new__"), .some (Value.bool true)]
def o391_4 (P : Params) : Obj := ob (Value.type "getset_descriptor") (Data.fields #[sv "__dict__" 675, rv 390, Value.builtin "function.__dict__", Value.builtin "function.__dict__#set"])
def o392_4 (P : Params) : Obj := ob (Value.type "getset_descriptor") (Data.fields #[sv "__weakref__" 677, rv 390, Value.builtin "ExceptionGroup.__weakref__", nv])
def o393_4 (P : Params) : Obj := ob (Value.type "super") (Data.fields #[rv 390, rv 390, rv 390])
def o394_4 (P : Params) : Obj := ob (Value.type "builtin_function_or_method") (Data.fields #[Value.builtin "object.__init_subclass__", rv 390])
def o395_4 (P : Params) : Obj := ob (Value.type "tuple") (Data.seq #[])
def o396_4 (P : Params) : Obj := ob (Value.type "builtin_function_or_method") (Data.fields #[Value.builtin "type.__prepare__", Value.type "type"])
def o397_4 (P : Params) : Obj := ob (Value.type "dict") (Data.dict #[de P "__module__" 689 (sv "oneheap.schemas.schema" 589), de P "__qualname__" 691 (sv "Schema" 690), de P "__firstlineno__" 693 (Value.int 142 692), de P "__init__" 701 (rv 408), de P "kind_of" 710 (rv 415), de P "field_of" 720 (rv 422), de P "names" 726 (rv 427), de P "written" 733 (rv 434), de P "__static_attributes__" 735 (rv 435)] 9)
def o398_4 (P : Params) : Obj := ob (Value.type "tuple") (Data.seq #[])
def o399_4 (P : Params) : Obj := ob nv (Data.fields #[iv 144, iv 4, rv 407, iv 147, iv 4, rv 414, iv 153, iv 4, rv 421, iv 157, iv 4, rv 426, iv 160, iv 4, rv 433])
def o400_4 (P : Params) : Obj := ob (Value.type "code") (Data.fields #[sv "Schema" 684, sv "Schema" 685, sv "/claim/cut.py" 686, iv 142, iv 0, iv 0, iv 0, iv 0, rv 398, Value.bool false, iv 181, rv 399, nv, nv, nv, nv, iv 687, iv 142, sv "/claim/cut.py" 688])
def o401_4 (P : Params) : Obj := Obj.mk (Value.type "frame") .none Data.plain #[.some (rv 400), .some (rv 3), .some (rv 397), .none, .some (sv "oneheap.schemas.schema" 589), .none, .some (rv 0)]
def o402_4 (P : Params) : Obj := ob (Value.type "tuple") (Data.seq #[])
def o403_4 (P : Params) : Obj := ob nv (Data.fields #[])
def o404_4 (P : Params) : Obj := ob (Value.type "tuple") (Data.seq #[sv "self" 697, sv "kinds" 698])
def o405_4 (P : Params) : Obj := ob (Value.type "tuple") (Data.seq #[])
def o406_4 (P : Params) : Obj := ob nv (Data.func (fdm "__init__" "Schema.__init__" (inClass (topS 22) 0) 0 [] nv nv nv nv .none nv nv 0))
def o407_4 (P : Params) : Obj := ob (Value.type "code") (Data.fields #[sv "__init__" 694, sv "Schema.__init__" 695, sv "/claim/cut.py" 696, iv 144, iv 2, iv 0, iv 0, iv 3, rv 402, Value.bool true, iv 181, rv 403, nv, rv 404, rv 405, rv 406, iv 699, iv 144, sv "/claim/cut.py" 700])
def o408_4 (P : Params) : Obj := ob (Value.type "function") (Data.func (fdm "__init__" "Schema.__init__" (inClass (topS 22) 0) 3 [] nv nv nv (sv "oneheap.schemas.schema" 589) .none (rv 407) nv 0))
def o409_4 (P : Params) : Obj := ob (Value.type "tuple") (Data.seq #[])
def o410_4 (P : Params) : Obj := ob nv (Data.fields #[])
def o411_4 (P : Params) : Obj := ob (Value.type "tuple") (Data.seq #[sv "self" 705, sv "name" 706, sv "kind" 707])
def o412_4 (P : Params) : Obj := ob (Value.type "tuple") (Data.seq #[])
def o413_4 (P : Params) : Obj := ob nv (Data.func (fdm "kind_of" "Schema.kind_of" (inClass (topS 22) 1) 0 [] nv nv nv nv .none nv nv 0))
def o414_4 (P : Params) : Obj := ob (Value.type "code") (Data.fields #[sv "kind_of" 702, sv "Schema.kind_of" 703, sv "/claim/cut.py" 704, iv 147, iv 2, iv 0, iv 0, iv 3, rv 409, Value.bool true, iv 181, rv 410, nv, rv 411, rv 412, rv 413, iv 708, iv 147, sv "/claim/cut.py" 709])
def o415_4 (P : Params) : Obj := ob (Value.type "function") (Data.func (fdm "kind_of" "Schema.kind_of" (inClass (topS 22) 1) 3 [] nv nv nv (sv "oneheap.schemas.schema" 589) .none (rv 414) nv 0))
def o416_4 (P : Params) : Obj := ob (Value.type "tuple") (Data.seq #[])
def o417_4 (P : Params) : Obj := ob nv (Data.fields #[])
def o418_4 (P : Params) : Obj := ob (Value.type "tuple") (Data.seq #[sv "self" 714, sv "kind" 715, sv "name" 716, sv "found" 717])
def o419_4 (P : Params) : Obj := ob (Value.type "tuple") (Data.seq #[])
def o420_4 (P : Params) : Obj := ob nv (Data.func (fdm "field_of" "Schema.field_of" (inClass (topS 22) 2) 0 [] nv nv nv nv .none nv nv 0))
def o421_4 (P : Params) : Obj := ob (Value.type "code") (Data.fields #[sv "field_of" 711, sv "Schema.field_of" 712, sv "/claim/cut.py" 713, iv 153, iv 3, iv 0, iv 0, iv 3, rv 416, Value.bool true, iv 181, rv 417, nv, rv 418, rv 419, rv 420, iv 718, iv 153, sv "/claim/cut.py" 719])
def o422_4 (P : Params) : Obj := ob (Value.type "function") (Data.func (fdm "field_of" "Schema.field_of" (inClass (topS 22) 2) 3 [] nv nv nv (sv "oneheap.schemas.schema" 589) .none (rv 421) nv 0))
def o423_4 (P : Params) : Obj := ob (Value.type "tuple") (Data.seq #[])
def o424_4 (P : Params) : Obj := ob nv (Data.fields #[])
def o425_4 (P : Params) : Obj := ob nv (Data.func (fdm "names" "Schema.names" (inClass (topS 22) 3) 0 [] nv nv nv nv .none nv nv 0))
def o426_4 (P : Params) : Obj := ob (Value.type "code") (Data.fields #[sv "names" 721, sv "Schema.names" 722, sv "/claim/cut.py" 723, iv 157, iv 1, iv 0, iv 0, iv 3, rv 423, Value.bool true, iv 181, rv 424, nv, nv, nv, rv 425, iv 724, iv 157, sv "/claim/cut.py" 725])
def o427_4 (P : Params) : Obj := ob (Value.type "function") (Data.func (fdm "names" "Schema.names" (inClass (topS 22) 3) 3 [] nv nv nv (sv "oneheap.schemas.schema" 589) .none (rv 426) nv 0))
def o428_4 (P : Params) : Obj := ob (Value.type "tuple") (Data.seq #[])
def o429_4 (P : Params) : Obj := ob nv (Data.fields #[])
def o430_4 (P : Params) : Obj := ob (Value.type "tuple") (Data.seq #[sv "self" 730])
def o431_4 (P : Params) : Obj := ob (Value.type "tuple") (Data.seq #[])
def o432_4 (P : Params) : Obj := ob nv (Data.func (fdm "written" "Schema.written" (inClass (topS 22) 4) 0 [] nv nv nv nv .none nv nv 0))
def o433_4 (P : Params) : Obj := ob (Value.type "code") (Data.fields #[sv "written" 727, sv "Schema.written" 728, sv "/claim/cut.py" 729, iv 160, iv 1, iv 0, iv 0, iv 3, rv 428, Value.bool true, iv 181, rv 429, nv, rv 430, rv 431, rv 432, iv 731, iv 160, sv "/claim/cut.py" 732])
def o434_4 (P : Params) : Obj := ob (Value.type "function") (Data.func (fdm "written" "Schema.written" (inClass (topS 22) 4) 3 [] nv nv nv (sv "oneheap.schemas.schema" 589) .none (rv 433) nv 0))
def o435_4 (P : Params) : Obj := ob (Value.type "tuple") (Data.seq #[sv "kinds" 734])
def o436_4 (P : Params) : Obj := ob (Value.type "dict") (Data.dict #[de P "__module__" 689 (sv "oneheap.schemas.schema" 589), de P "__firstlineno__" 693 (Value.int 142 692), de P "__init__" 701 (rv 408), de P "kind_of" 710 (rv 415), de P "field_of" 720 (rv 422), de P "names" 726 (rv 427), de P "written" 733 (rv 434), de P "__static_attributes__" 735 (rv 435), de P "__dict__" 737 (rv 438), de P "__weakref__" 739 (rv 439), de P "__doc__" 740 nv] 4)
def o437_4 (P : Params) : Obj := Obj.mk (Value.type "type") .none (Data.cls (ClassData.mk (Str.ofString "Schema") [Value.type "object"] [rv 437, Value.type "object"] 436 (Str.ofString "Schema") true [] [] false .none false)) #[.none, .none, .some (sv "Schema" 682), .some (sv "Schema" 690), .some (Value.builtin "object.__new__"), .some (Value.bool true)]
def o438_4 (P : Params) : Obj := ob (Value.type "getset_descriptor") (Data.fields #[sv "__dict__" 736, rv 437, Value.builtin "function.__dict__", Value.builtin "function.__dict__#set"])
def o439_4 (P : Params) : Obj := ob (Value.type "getset_descriptor") (Data.fields #[sv "__weakref__" 738, rv 437, Value.builtin "ExceptionGroup.__weakref__", nv])
def o440_4 (P : Params) : Obj := ob (Value.type "super") (Data.fields #[rv 437, rv 437, rv 437])
def o441_4 (P : Params) : Obj := ob (Value.type "builtin_function_or_method") (Data.fields #[Value.builtin "object.__init_subclass__", rv 437])
def o442_4 (P : Params) : Obj := ob (Value.type "tuple") (Data.seq #[])
def o443_4 (P : Params) : Obj := ob nv (Data.fields #[])
def o444_4 (P : Params) : Obj := ob (Value.type "tuple") (Data.seq #[sv "script" 748, sv "count" 749, sv "cells" 750, sv "k" 751, sv "cell" 752])
def o445_4 (P : Params) : Obj := ob (Value.type "tuple") (Data.seq #[])
def o446_4 (P : Params) : Obj := ob nv (Data.func (fdm "_law_cells" "_law_cells" (topS 24) 0 [] nv nv nv nv .none nv nv 0))
def o447_4 (P : Params) : Obj := ob (Value.type "code") (Data.fields #[sv "_law_cells" 745, sv "_law_cells" 746, sv "/claim/cut.py" 747, iv 163, iv 2, iv 0, iv 0, iv 3, rv 442, Value.bool true, iv 181, rv 443, nv, rv 444, rv 445, rv 446, iv 753, iv 163, sv "/claim/cut.py" 754])
def o448_4 (P : Params) : Obj := ob (Value.type "function") (Data.func (fdm "_law_cells" "_law_cells" (topS 24) 3 [] nv nv nv (sv "law_oneheap_k39_what_contents_tell" 743) .none (rv 447) nv 0))
def o449_4 (P : Params) : Obj := ob (Value.type "tuple") (Data.seq #[])
def o450_4 (P : Params) : Obj := ob nv (Data.fields #[])
def o451_4 (P : Params) : Obj := ob (Value.type "tuple") (Data.seq #[sv "draws" 759, sv "bound" 760, sv "amount" 761])
def o452_4 (P : Params) : Obj := ob (Value.type "tuple") (Data.seq #[])
def o453_4 (P : Params) : Obj := ob nv (Data.func (fdm "_law_draw" "_law_draw" (topS 25) 0 [] nv nv nv nv .none nv nv 0))
def o454_4 (P : Params) : Obj := ob (Value.type "code") (Data.fields #[sv "_law_draw" 756, sv "_law_draw" 757, sv "/claim/cut.py" 758, iv 176, iv 2, iv 0, iv 0, iv 3, rv 449, Value.bool true, iv 181, rv 450, nv, rv 451, rv 452, rv 453, iv 762, iv 176, sv "/claim/cut.py" 763])
def o455_4 (P : Params) : Obj := ob (Value.type "function") (Data.func (fdm "_law_draw" "_law_draw" (topS 25) 3 [] nv nv nv (sv "law_oneheap_k39_what_contents_tell" 743) .none (rv 454) nv 0))
def o456_4 (P : Params) : Obj := ob (Value.type "tuple") (Data.seq #[])
def o457_4 (P : Params) : Obj := ob nv (Data.fields #[])
def o458_4 (P : Params) : Obj := ob (Value.type "tuple") (Data.seq #[sv "draws" 768, sv "row" 769])
def o459_4 (P : Params) : Obj := ob (Value.type "tuple") (Data.seq #[])
def o460_4 (P : Params) : Obj := ob nv (Data.func (fdm "_law_pick" "_law_pick" (topS 26) 0 [] nv nv nv nv .none nv nv 0))
def o461_4 (P : Params) : Obj := ob (Value.type "code") (Data.fields #[sv "_law_pick" 765, sv "_law_pick" 766, sv "/claim/cut.py" 767, iv 182, iv 2, iv 0, iv 0, iv 3, rv 456, Value.bool true, iv 181, rv 457, nv, rv 458, rv 459, rv 460, iv 770, iv 182, sv "/claim/cut.py" 771])
def o462_4 (P : Params) : Obj := ob (Value.type "function") (Data.func (fdm "_law_pick" "_law_pick" (topS 26) 3 [] nv nv nv (sv "law_oneheap_k39_what_contents_tell" 743) .none (rv 461) nv 0))
def o463_4 (P : Params) : Obj := ob (Value.type "tuple") (Data.seq #[])
def o464_4 (P : Params) : Obj := ob nv (Data.fields #[])
def o465_4 (P : Params) : Obj := ob (Value.type "tuple") (Data.seq #[sv "kind" 776, sv "rules" 777])
def o466_4 (P : Params) : Obj := ob (Value.type "tuple") (Data.seq #[])
def o467_4 (P : Params) : Obj := ob nv (Data.func (fdm "_law_links" "_law_links" (topS 27) 0 [] nv nv nv nv .none nv nv 0))
def o468_4 (P : Params) : Obj := ob (Value.type "code") (Data.fields #[sv "_law_links" 773, sv "_law_links" 774, sv "/claim/cut.py" 775, iv 184, iv 2, iv 0, iv 0, iv 3, rv 463, Value.bool true, iv 181, rv 464, nv, rv 465, rv 466, rv 467, iv 778, iv 184, sv "/claim/cut.py" 779])
def o469_4 (P : Params) : Obj := ob (Value.type "function") (Data.func (fdm "_law_links" "_law_links" (topS 27) 3 [] nv nv nv (sv "law_oneheap_k39_what_contents_tell" 743) .none (rv 468) nv 0))
def o470_4 (P : Params) : Obj := ob (Value.type "tuple") (Data.seq #[])
def o471_4 (P : Params) : Obj := ob nv (Data.fields #[])
def o472_4 (P : Params) : Obj := ob (Value.type "tuple") (Data.seq #[sv "kind" 784])
def o473_4 (P : Params) : Obj := ob (Value.type "tuple") (Data.seq #[])
def o474_4 (P : Params) : Obj := ob nv (Data.func (fdm "_law_names" "_law_names" (topS 28) 0 [] nv nv nv nv .none nv nv 0))
def o475_4 (P : Params) : Obj := ob (Value.type "code") (Data.fields #[sv "_law_names" 781, sv "_law_names" 782, sv "/claim/cut.py" 783, iv 188, iv 1, iv 0, iv 0, iv 3, rv 470, Value.bool true, iv 181, rv 471, nv, rv 472, rv 473, rv 474, iv 785, iv 188, sv "/claim/cut.py" 786])
def o476_4 (P : Params) : Obj := ob (Value.type "function") (Data.func (fdm "_law_names" "_law_names" (topS 28) 3 [] nv nv nv (sv "law_oneheap_k39_what_contents_tell" 743) .none (rv 475) nv 0))
def o477_4 (P : Params) : Obj := ob (Value.type "tuple") (Data.seq #[])
def o478_4 (P : Params) : Obj := ob nv (Data.fields #[])
def o479_4 (P : Params) : Obj := ob nv (Data.func (fdm "_law_rules" "_law_rules" (topS 29) 0 [] nv nv nv nv .none nv nv 0))
def o480_4 (P : Params) : Obj := ob (Value.type "code") (Data.fields #[sv "_law_rules" 788, sv "_law_rules" 789, sv "/claim/cut.py" 790, iv 192, iv 1, iv 0, iv 0, iv 3, rv 477, Value.bool true, iv 181, rv 478, nv, nv, nv, rv 479, iv 791, iv 192, sv "/claim/cut.py" 792])
def o481_4 (P : Params) : Obj := ob (Value.type "function") (Data.func (fdm "_law_rules" "_law_rules" (topS 29) 3 [] nv nv nv (sv "law_oneheap_k39_what_contents_tell" 743) .none (rv 480) nv 0))
def o482_4 (P : Params) : Obj := ob (Value.type "tuple") (Data.seq #[])
def o483_4 (P : Params) : Obj := ob nv (Data.fields #[])
def o484_4 (P : Params) : Obj := ob (Value.type "tuple") (Data.seq #[sv "rules" 797, sv "needed" 798, sv "first" 799, sv "second" 800])
def o485_4 (P : Params) : Obj := ob (Value.type "tuple") (Data.seq #[])
def o486_4 (P : Params) : Obj := ob nv (Data.func (fdm "_law_schema" "_law_schema" (topS 30) 0 [] nv nv nv nv .none nv nv 0))
def o487_4 (P : Params) : Obj := ob (Value.type "code") (Data.fields #[sv "_law_schema" 794, sv "_law_schema" 795, sv "/claim/cut.py" 796, iv 194, iv 2, iv 0, iv 0, iv 3, rv 482, Value.bool true, iv 181, rv 483, nv, rv 484, rv 485, rv 486, iv 801, iv 194, sv "/claim/cut.py" 802])
def o488_4 (P : Params) : Obj := ob (Value.type "function") (Data.func (fdm "_law_schema" "_law_schema" (topS 30) 3 [] nv nv nv (sv "law_oneheap_k39_what_contents_tell" 743) .none (rv 487) nv 0))
def o489_4 (P : Params) : Obj := ob (Value.type "tuple") (Data.seq #[])
def o490_4 (P : Params) : Obj := ob nv (Data.fields #[])
def o491_4 (P : Params) : Obj := ob (Value.type "tuple") (Data.seq #[sv "draws" 807, sv "digit" 808])
def o492_4 (P : Params) : Obj := ob (Value.type "tuple") (Data.seq #[])
def o493_4 (P : Params) : Obj := ob nv (Data.func (fdm "_law_number" "_law_number" (topS 31) 0 [] nv nv nv nv .none nv nv 0))
def o494_4 (P : Params) : Obj := ob (Value.type "code") (Data.fields #[sv "_law_number" 804, sv "_law_number" 805, sv "/claim/cut.py" 806, iv 198, iv 1, iv 0, iv 0, iv 3, rv 489, Value.bool true, iv 181, rv 490, nv, rv 491, rv 492, rv 493, iv 809, iv 198, sv "/claim/cut.py" 810])
def o495_4 (P : Params) : Obj := ob (Value.type "function") (Data.func (fdm "_law_number" "_law_number" (topS 31) 3 [] nv nv nv (sv "law_oneheap_k39_what_contents_tell" 743) .none (rv 494) nv 0))
def o496_4 (P : Params) : Obj := ob (Value.type "tuple") (Data.seq #[])
def o497_4 (P : Params) : Obj := ob nv (Data.fields #[])
def o498_4 (P : Params) : Obj := ob (Value.type "tuple") (Data.seq #[sv "draws" 815, sv "row" 816, sv "_law_turn" 817, sv "digit" 818])
def o499_4 (P : Params) : Obj := ob (Value.type "tuple") (Data.seq #[])
def o500_4 (P : Params) : Obj := ob nv (Data.func (fdm "_law_list" "_law_list" (topS 32) 0 [] nv nv nv nv .none nv nv 0))
def o501_4 (P : Params) : Obj := ob (Value.type "code") (Data.fields #[sv "_law_list" 812, sv "_law_list" 813, sv "/claim/cut.py" 814, iv 203, iv 1, iv 0, iv 0, iv 3, rv 496, Value.bool true, iv 181, rv 497, nv, rv 498, rv 499, rv 500, iv 819, iv 203, sv "/claim/cut.py" 820])
def o502_4 (P : Params) : Obj := ob (Value.type "function") (Data.func (fdm "_law_list" "_law_list" (topS 32) 3 [] nv nv nv (sv "law_oneheap_k39_what_contents_tell" 743) .none (rv 501) nv 0))
def o503_4 (P : Params) : Obj := ob (Value.type "tuple") (Data.seq #[])
def o504_4 (P : Params) : Obj := ob nv (Data.fields #[])
def o505_4 (P : Params) : Obj := ob (Value.type "tuple") (Data.seq #[sv "draws" 825, sv "kind" 826, sv "known" 827])
def o506_4 (P : Params) : Obj := ob (Value.type "tuple") (Data.seq #[])
def o507_4 (P : Params) : Obj := ob nv (Data.func (fdm "_law_contents" "_law_contents" (topS 33) 0 [] nv nv nv nv .none nv nv 0))
def o508_4 (P : Params) : Obj := ob (Value.type "code") (Data.fields #[sv "_law_contents" 822, sv "_law_contents" 823, sv "/claim/cut.py" 824, iv 210, iv 2, iv 0, iv 0, iv 3, rv 503, Value.bool true, iv 181, rv 504, nv, rv 505, rv 506, rv 507, iv 828, iv 210, sv "/claim/cut.py" 829])
def o509_4 (P : Params) : Obj := ob (Value.type "function") (Data.func (fdm "_law_contents" "_law_contents" (topS 33) 3 [] nv nv nv (sv "law_oneheap_k39_what_contents_tell" 743) .none (rv 508) nv 0))
def o510_4 (P : Params) : Obj := ob (Value.type "tuple") (Data.seq #[])
def o511_4 (P : Params) : Obj := ob nv (Data.fields #[])
def o512_4 (P : Params) : Obj := ob (Value.type "tuple") (Data.seq #[sv "draws" 834, sv "picture" 835, sv "_law_turn" 836, sv "number" 837, sv "kind" 838])
def o513_4 (P : Params) : Obj := ob (Value.type "tuple") (Data.seq #[])
def o514_4 (P : Params) : Obj := ob nv (Data.func (fdm "_law_picture" "_law_picture" (topS 34) 0 [] nv nv nv nv .none nv nv 0))
def o515_4 (P : Params) : Obj := ob (Value.type "code") (Data.fields #[sv "_law_picture" 831, sv "_law_picture" 832, sv "/claim/cut.py" 833, iv 222, iv 1, iv 0, iv 0, iv 3, rv 510, Value.bool true, iv 181, rv 511, nv, rv 512, rv 513, rv 514, iv 839, iv 222, sv "/claim/cut.py" 840])
def o516_4 (P : Params) : Obj := ob (Value.type "function") (Data.func (fdm "_law_picture" "_law_picture" (topS 34) 3 [] nv nv nv (sv "law_oneheap_k39_what_contents_tell" 743) .none (rv 515) nv 0))
def o517_4 (P : Params) : Obj := ob (Value.type "tuple") (Data.seq #[])
def o518_4 (P : Params) : Obj := ob nv (Data.fields #[])
def o519_4 (P : Params) : Obj := ob (Value.type "tuple") (Data.seq #[sv "picture" 845, sv "kinds" 846, sv "number" 847])
def o520_4 (P : Params) : Obj := ob (Value.type "tuple") (Data.seq #[])
def o521_4 (P : Params) : Obj := ob nv (Data.func (fdm "_law_there" "_law_there" (topS 35) 0 [] nv nv nv nv .none nv nv 0))
def o522_4 (P : Params) : Obj := ob (Value.type "code") (Data.fields #[sv "_law_there" 842, sv "_law_there" 843, sv "/claim/cut.py" 844, iv 229, iv 3, iv 0, iv 0, iv 3, rv 517, Value.bool true, iv 181, rv 518, nv, rv 519, rv 520, rv 521, iv 848, iv 229, sv "/claim/cut.py" 849])
def o523_4 (P : Params) : Obj := ob (Value.type "function") (Data.func (fdm "_law_there" "_law_there" (topS 35) 3 [] nv nv nv (sv "law_oneheap_k39_what_contents_tell" 743) .none (rv 522) nv 0))
def o524_4 (P : Params) : Obj := ob (Value.type "tuple") (Data.seq #[])
def o525_4 (P : Params) : Obj := ob nv (Data.fields #[])
def o526_4 (P : Params) : Obj := ob nv (Data.func (fdm "_law_told" "_law_told" (topS 36) 0 [] nv nv nv nv .none nv nv 0))
def o527_4 (P : Params) : Obj := ob (Value.type "code") (Data.fields #[sv "_law_told" 851, sv "_law_told" 852, sv "/claim/cut.py" 853, iv 231, iv 4, iv 0, iv 0, iv 3, rv 524, Value.bool true, iv 181, rv 525, nv, nv, nv, rv 526, iv 854, iv 231, sv "/claim/cut.py" 855])
def o528_4 (P : Params) : Obj := ob (Value.type "function") (Data.func (fdm "_law_told" "_law_told" (topS 36) 3 [] nv nv nv (sv "law_oneheap_k39_what_contents_tell" 743) .none (rv 527) nv 0))
def o529_4 (P : Params) : Obj := ob (Value.type "tuple") (Data.seq #[])
def o530_4 (P : Params) : Obj := ob nv (Data.fields #[])
def o531_4 (P : Params) : Obj := ob nv (Data.func (fdm "_law_shown" "_law_shown" (topS 37) 0 [] nv nv nv nv .none nv nv 0))
def o532_4 (P : Params) : Obj := ob (Value.type "code") (Data.fields #[sv "_law_shown" 857, sv "_law_shown" 858, sv "/claim/cut.py" 859, iv 240, iv 1, iv 0, iv 0, iv 3, rv 529, Value.bool true, iv 181, rv 530, nv, nv, nv, rv 531, iv 860, iv 240, sv "/claim/cut.py" 861])
def o533_4 (P : Params) : Obj := ob (Value.type "function") (Data.func (fdm "_law_shown" "_law_shown" (topS 37) 3 [] nv nv nv (sv "law_oneheap_k39_what_contents_tell" 743) .none (rv 532) nv 0))
def o534_4 (P : Params) : Obj := ob (Value.type "tuple") (Data.seq #[])
def o535_4 (P : Params) : Obj := ob nv (Data.fields #[])
def o536_4 (P : Params) : Obj := ob (Value.type "tuple") (Data.seq #[sv "content" 866, sv "number" 867])
def o537_4 (P : Params) : Obj := ob (Value.type "tuple") (Data.seq #[])
def o538_4 (P : Params) : Obj := ob nv (Data.func (fdm "_law_holds" "_law_holds" (topS 38) 0 [] nv nv nv nv .none nv nv 0))
def o539_4 (P : Params) : Obj := ob (Value.type "code") (Data.fields #[sv "_law_holds" 863, sv "_law_holds" 864, sv "/claim/cut.py" 865, iv 242, iv 2, iv 0, iv 0, iv 3, rv 534, Value.bool true, iv 181, rv 535, nv, rv 536, rv 537, rv 538, iv 868, iv 242, sv "/claim/cut.py" 869])
def o540_4 (P : Params) : Obj := ob (Value.type "function") (Data.func (fdm "_law_holds" "_law_holds" (topS 38) 3 [] nv nv nv (sv "law_oneheap_k39_what_contents_tell" 743) .none (rv 539) nv 0))
def o541_4 (P : Params) : Obj := ob (Value.type "tuple") (Data.seq #[])
def o542_4 (P : Params) : Obj := ob nv (Data.fields #[])
def o543_4 (P : Params) : Obj := ob (Value.type "tuple") (Data.seq #[sv "schema" 874, sv "picture" 875, sv "rules" 876, sv "source" 877, sv "number" 878, sv "thing" 879, sv "kind" 880, sv "name" 881, sv "content" 882, sv "found" 883, sv "other" 884])
def o544_4 (P : Params) : Obj := ob (Value.type "tuple") (Data.seq #[])
def o545_4 (P : Params) : Obj := ob nv (Data.func (fdm "_law_contents_tell" "_law_contents_tell" (topS 39) 0 [] nv nv nv nv .none nv nv 0))
def o546_4 (P : Params) : Obj := ob (Value.type "code") (Data.fields #[sv "_law_contents_tell" 871, sv "_law_contents_tell" 872, sv "/claim/cut.py" 873, iv 246, iv 3, iv 0, iv 0, iv 3, rv 541, Value.bool true, iv 181, rv 542, nv, rv 543, rv 544, rv 545, iv 885, iv 246, sv "/claim/cut.py" 886])
def o547_4 (P : Params) : Obj := ob (Value.type "function") (Data.func (fdm "_law_contents_tell" "_law_contents_tell" (topS 39) 3 [] nv nv nv (sv "law_oneheap_k39_what_contents_tell" 743) .none (rv 546) nv 0))
def o548_4 (P : Params) : Obj := ob (Value.type "tuple") (Data.seq #[])
def o549_4 (P : Params) : Obj := ob nv (Data.fields #[])
def o550_4 (P : Params) : Obj := ob (Value.type "tuple") (Data.seq #[sv "script" 891, sv "draws" 892, sv "rules" 893, sv "schema" 894, sv "picture" 895, sv "kept" 896, sv "other" 897, sv "number" 898, sv "thing" 899, sv "row" 900, sv "blank_v" 901])
def o551_4 (P : Params) : Obj := ob (Value.type "tuple") (Data.seq #[])
def o552_4 (P : Params) : Obj := ob nv (Data.func (fdm "law" "law" (topS 40) 0 [] nv nv nv nv .none nv nv 0))
def o553_4 (P : Params) : Obj := ob (Value.type "code") (Data.fields #[sv "law" 888, sv "law" 889, sv "/claim/cut.py" 890, iv 262, iv 1, iv 0, iv 0, iv 3, rv 548, Value.bool true, iv 181, rv 549, nv, rv 550, rv 551, rv 552, iv 902, iv 262, sv "/claim/cut.py" 903])
def o554_4 (P : Params) : Obj := ob (Value.type "function") (Data.func (fdm "law" "law" (topS 40) 3 [] nv nv nv (sv "law_oneheap_k39_what_contents_tell" 743) .none (rv 553) nv 0))
def tr4 (P : Params) : PySem.W.BT := (.node (PySem.W.boot_o_0 P) (.node (PySem.W.boot_o_1 P) (.node (o3_4 P) (.node (PySem.W.boot_o_7 P) (.node (o15_3 P) (.node (o31_3 P) (.node (o63_3 P) (.node (o127_3 P) (.node (o255_3 P) (.node (o511_4 P) .nil .nil) .nil) (.node (o383_4 P) .nil .nil)) (.node (o191_3 P) (.node (o319_3 P) .nil .nil) (.node (o447_4 P) .nil .nil))) (.node (o95_3 P) (.node (o159_3 P) (.node (o287_3 P) (.node (o543_4 P) .nil .nil) .nil) (.node (o415_4 P) .nil .nil)) (.node (o223_3 P) (.node (o351_4 P) .nil .nil) (.node (o479_4 P) .nil .nil)))) (.node (o47_3 P) (.node (o79_3 P) (.node (o143_3 P) (.node (o271_3 P) (.node (o527_4 P) .nil .nil) .nil) (.node (o399_4 P) .nil .nil)) (.node (o207_3 P) (.node (o335_4 P) .nil .nil) (.node (o463_4 P) .nil .nil))) (.node (o111_3 P) (.node (o175_3 P) (.node (o303_3 P) .nil .nil) (.node (o431_4 P) .nil .nil)) (.node (o239_3 P) (.node (o367_4 P) .nil .nil) (.node (o495_4 P) .nil .nil))))) (.node (o23_3 P) (.node (o39_3 P) (.node (o71_3 P) (.node (o135_3 P) (.node (o263_3 P) (.node (o519_4 P) .nil .nil) .nil) (.node (o391_4 P) .nil .nil)) (.node (o199_3 P) (.node (o327_3 P) .nil .nil) (.node (o455_4 P) .nil .nil))) (.node (o103_3 P) (.node (o167_3 P) (.node (o295_3 P) (.node (o551_4 P) .nil .nil) .nil) (.node (o423_4 P) .nil .nil)) (.node (o231_3 P) (.node (o359_4 P) .nil .nil) (.node (o487_4 P) .nil .nil)))) (.node (o55_3 P) (.node (o87_3 P) (.node (o151_3 P) (.node (o279_3 P) (.node (o535_4 P) .nil .nil) .nil) (.node (o407_4 P) .nil .nil)) (.node (o215_3 P) (.node (o343_4 P) .nil .nil) (.node (o471_4 P) .nil .nil))) (.node (o119_3 P) (.node (o183_3 P) (.node (o311_3 P) .nil .nil) (.node (o439_4 P) .nil .nil)) (.node (o247_3 P) (.node (o375_4 P) .nil .nil) (.node (o503_4 P) .nil .nil)))))) (.node (o11_1 P) (.node (o19_3 P) (.node (o35_3 P) (.node (o67_3 P) (.node (o131_3 P) (.node (o259_3 P) (.node (o515_4 P) .nil .nil) .nil) (.node (o387_4 P) .nil .nil)) (.node (o195_3 P) (.node (o323_3 P) .nil .nil) (.node (o451_4 P) .nil .nil))) (.node (o99_3 P) (.node (o163_3 P) (.node (o291_3 P) (.node (o547_4 P) .nil .nil) .nil) (.node (o419_4 P) .nil .nil)) (.node (o227_3 P) (.node (o355_4 P) .nil .nil) (.node (o483_4 P) .nil .nil)))) (.node (o51_3 P) (.node (o83_3 P) (.node (o147_3 P) (.node (o275_3 P) (.node (o531_4 P) .nil .nil) .nil) (.node (o403_4 P) .nil .nil)) (.node (o211_3 P) (.node (o339_4 P) .nil .nil) (.node (o467_4 P) .nil .nil))) (.node (o115_3 P) (.node (o179_3 P) (.node (o307_3 P) .nil .nil) (.node (o435_4 P) .nil .nil)) (.node (o243_3 P) (.node (o371_4 P) .nil .nil) (.node (o499_4 P) .nil .nil))))) (.node (o27_3 P) (.node (o43_3 P) (.node (o75_3 P) (.node (o139_3 P) (.node (o267_3 P) (.node (o523_4 P) .nil .nil) .nil) (.node (o395_4 P) .nil .nil)) (.node (o203_3 P) (.node (o331_4 P) .nil .nil) (.node (o459_4 P) .nil .nil))) (.node (o107_3 P) (.node (o171_3 P) (.node (o299_3 P) .nil .nil) (.node (o427_4 P) .nil .nil)) (.node (o235_3 P) (.node (o363_4 P) .nil .nil) (.node (o491_4 P) .nil .nil)))) (.node (o59_3 P) (.node (o91_3 P) (.node (o155_3 P) (.node (o283_3 P) (.node (o539_4 P) .nil .nil) .nil) (.node (o411_4 P) .nil .nil)) (.node (o219_3 P) (.node (o347_4 P) .nil .nil) (.node (o475_4 P) .nil .nil))) (.node (o123_3 P) (.node (o187_3 P) (.node (o315_3 P) .nil .nil) (.node (o443_4 P) .nil .nil)) (.node (o251_3 P) (.node (o379_4 P) .nil .nil) (.node (o507_4 P) .nil .nil))))))) (.node (PySem.W.boot_o_5 P) (.node (PySem.W.boot_o_9 P) (.node (o17_3 P) (.node (o33_3 P) (.node (o65_3 P) (.node (o129_3 P) (.node (o257_3 P) (.node (o513_4 P) .nil .nil) .nil) (.node (o385_4 P) .nil .nil)) (.node (o193_3 P) (.node (o321_3 P) .nil .nil) (.node (o449_4 P) .nil .nil))) (.node (o97_3 P) (.node (o161_3 P) (.node (o289_3 P) (.node (o545_4 P) .nil .nil) .nil) (.node (o417_4 P) .nil .nil)) (.node (o225_3 P) (.node (o353_4 P) .nil .nil) (.node (o481_4 P) .nil .nil)))) (.node (o49_3 P) (.node (o81_3 P) (.node (o145_3 P) (.node (o273_3 P) (.node (o529_4 P) .nil .nil) .nil) (.node (o401_4 P) .nil .nil)) (.node (o209_3 P) (.node (o337_4 P) .nil .nil) (.node (o465_4 P) .nil .nil))) (.node (o113_3 P) (.node (o177_3 P) (.node (o305_3 P) .nil .nil) (.node (o433_4 P) .nil .nil)) (.node (o241_3 P) (.node (o369_4 P) .nil .nil) (.node (o497_4 P) .nil .nil))))) (.node (o25_3 P) (.node (o41_3 P) (.node (o73_3 P) (.node (o137_3 P) (.node (o265_3 P) (.node (o521_4 P) .nil .nil) .nil) (.node (o393_4 P) .nil .nil)) (.node (o201_3 P) (.node (o329_4 P) .nil .nil) (.node (o457_4 P) .nil .nil))) (.node (o105_3 P) (.node (o169_3 P) (.node (o297_3 P) (.node (o553_4 P) .nil .nil) .nil) (.node (o425_4 P) .nil .nil)) (.node (o233_3 P) (.node (o361_4 P) .nil .nil) (.node (o489_4 P) .nil .nil)))) (.node (o57_3 P) (.node (o89_3 P) (.node (o153_3 P) (.node (o281_3 P) (.node (o537_4 P) .nil .nil) .nil) (.node (o409_4 P) .nil .nil)) (.node (o217_3 P) (.node (o345_4 P) .nil .nil) (.node (o473_4 P) .nil .nil))) (.node (o121_3 P) (.node (o185_3 P) (.node (o313_3 P) .nil .nil) (.node (o441_4 P) .nil .nil)) (.node (o249_3 P) (.node (o377_4 P) .nil .nil) (.node (o505_4 P) .nil .nil)))))) (.node (o13_1 P) (.node (o21_3 P) (.node (o37_3 P) (.node (o69_3 P) (.node (o133_3 P) (.node (o261_3 P) (.node (o517_4 P) .nil .nil) .nil) (.node (o389_4 P) .nil .nil)) (.node (o197_3 P) (.node (o325_3 P) .nil .nil) (.node (o453_4 P) .nil .nil))) (.node (o101_3 P) (.node (o165_3 P) (.node (o293_3 P) (.node (o549_4 P) .nil .nil) .nil) (.node (o421_4 P) .nil .nil)) (.node (o229_3 P) (.node (o357_4 P) .nil .nil) (.node (o485_4 P) .nil .nil)))) (.node (o53_3 P) (.node (o85_3 P) (.node (o149_3 P) (.node (o277_3 P) (.node (o533_4 P) .nil .nil) .nil) (.node (o405_4 P) .nil .nil)) (.node (o213_3 P) (.node (o341_4 P) .nil .nil) (.node (o469_4 P) .nil .nil))) (.node (o117_3 P) (.node (o181_3 P) (.node (o309_3 P) .nil .nil) (.node (o437_4 P) .nil .nil)) (.node (o245_3 P) (.node (o373_4 P) .nil .nil) (.node (o501_4 P) .nil .nil))))) (.node (o29_3 P) (.node (o45_3 P) (.node (o77_3 P) (.node (o141_3 P) (.node (o269_3 P) (.node (o525_4 P) .nil .nil) .nil) (.node (o397_4 P) .nil .nil)) (.node (o205_3 P) (.node (o333_4 P) .nil .nil) (.node (o461_4 P) .nil .nil))) (.node (o109_3 P) (.node (o173_3 P) (.node (o301_3 P) .nil .nil) (.node (o429_4 P) .nil .nil)) (.node (o237_3 P) (.node (o365_4 P) .nil .nil) (.node (o493_4 P) .nil .nil)))) (.node (o61_3 P) (.node (o93_3 P) (.node (o157_3 P) (.node (o285_3 P) (.node (o541_4 P) .nil .nil) .nil) (.node (o413_4 P) .nil .nil)) (.node (o221_3 P) (.node (o349_4 P) .nil .nil) (.node (o477_4 P) .nil .nil))) (.node (o125_3 P) (.node (o189_3 P) (.node (o317_3 P) .nil .nil) (.node (o445_4 P) .nil .nil)) (.node (o253_3 P) (.node (o381_4 P) .nil .nil) (.node (o509_4 P) .nil .nil)))))))) (.node (PySem.W.boot_o_2 P) (.node (PySem.W.boot_o_4 P) (.node (PySem.W.boot_o_8 P) (.node (o16_3 P) (.node (o32_3 P) (.node (o64_3 P) (.node (o128_3 P) (.node (o256_3 P) (.node (o512_4 P) .nil .nil) .nil) (.node (o384_4 P) .nil .nil)) (.node (o192_3 P) (.node (o320_3 P) .nil .nil) (.node (o448_4 P) .nil .nil))) (.node (o96_3 P) (.node (o160_3 P) (.node (o288_3 P) (.node (o544_4 P) .nil .nil) .nil) (.node (o416_4 P) .nil .nil)) (.node (o224_3 P) (.node (o352_4 P) .nil .nil) (.node (o480_4 P) .nil .nil)))) (.node (o48_3 P) (.node (o80_3 P) (.node (o144_3 P) (.node (o272_3 P) (.node (o528_4 P) .nil .nil) .nil) (.node (o400_4 P) .nil .nil)) (.node (o208_3 P) (.node (o336_4 P) .nil .nil) (.node (o464_4 P) .nil .nil))) (.node (o112_3 P) (.node (o176_3 P) (.node (o304_3 P) .nil .nil) (.node (o432_4 P) .nil .nil)) (.node (o240_3 P) (.node (o368_4 P) .nil .nil) (.node (o496_4 P) .nil .nil))))) (.node (o24_3 P) (.node (o40_3 P) (.node (o72_3 P) (.node (o136_3 P) (.node (o264_3 P) (.node (o520_4 P) .nil .nil) .nil) (.node (o392_4 P) .nil .nil)) (.node (o200_3 P) (.node (o328_4 P) .nil .nil) (.node (o456_4 P) .nil .nil))) (.node (o104_3 P) (.node (o168_3 P) (.node (o296_3 P) (.node (o552_4 P) .nil .nil) .nil) (.node (o424_4 P) .nil .nil)) (.node (o232_3 P) (.node (o360_4 P) .nil .nil) (.node (o488_4 P) .nil .nil)))) (.node (o56_3 P) (.node (o88_3 P) (.node (o152_3 P) (.node (o280_3 P) (.node (o536_4 P) .nil .nil) .nil) (.node (o408_4 P) .nil .nil)) (.node (o216_3 P) (.node (o344_4 P) .nil .nil) (.node (o472_4 P) .nil .nil))) (.node (o120_3 P) (.node (o184_3 P) (.node (o312_3 P) .nil .nil) (.node (o440_4 P) .nil .nil)) (.node (o248_3 P) (.node (o376_4 P) .nil .nil) (.node (o504_4 P) .nil .nil)))))) (.node (o12_4 P) (.node (o20_3 P) (.node (o36_3 P) (.node (o68_3 P) (.node (o132_3 P) (.node (o260_3 P) (.node (o516_4 P) .nil .nil) .nil) (.node (o388_4 P) .nil .nil)) (.node (o196_3 P) (.node (o324_3 P) .nil .nil) (.node (o452_4 P) .nil .nil))) (.node (o100_3 P) (.node (o164_3 P) (.node (o292_3 P) (.node (o548_4 P) .nil .nil) .nil) (.node (o420_4 P) .nil .nil)) (.node (o228_3 P) (.node (o356_4 P) .nil .nil) (.node (o484_4 P) .nil .nil)))) (.node (o52_3 P) (.node (o84_3 P) (.node (o148_3 P) (.node (o276_3 P) (.node (o532_4 P) .nil .nil) .nil) (.node (o404_4 P) .nil .nil)) (.node (o212_3 P) (.node (o340_4 P) .nil .nil) (.node (o468_4 P) .nil .nil))) (.node (o116_3 P) (.node (o180_3 P) (.node (o308_3 P) .nil .nil) (.node (o436_4 P) .nil .nil)) (.node (o244_3 P) (.node (o372_4 P) .nil .nil) (.node (o500_4 P) .nil .nil))))) (.node (o28_3 P) (.node (o44_3 P) (.node (o76_3 P) (.node (o140_3 P) (.node (o268_3 P) (.node (o524_4 P) .nil .nil) .nil) (.node (o396_4 P) .nil .nil)) (.node (o204_3 P) (.node (o332_4 P) .nil .nil) (.node (o460_4 P) .nil .nil))) (.node (o108_3 P) (.node (o172_3 P) (.node (o300_3 P) .nil .nil) (.node (o428_4 P) .nil .nil)) (.node (o236_3 P) (.node (o364_4 P) .nil .nil) (.node (o492_4 P) .nil .nil)))) (.node (o60_3 P) (.node (o92_3 P) (.node (o156_3 P) (.node (o284_3 P) (.node (o540_4 P) .nil .nil) .nil) (.node (o412_4 P) .nil .nil)) (.node (o220_3 P) (.node (o348_4 P) .nil .nil) (.node (o476_4 P) .nil .nil))) (.node (o124_3 P) (.node (o188_3 P) (.node (o316_3 P) .nil .nil) (.node (o444_4 P) .nil .nil)) (.node (o252_3 P) (.node (o380_4 P) .nil .nil) (.node (o508_4 P) .nil .nil))))))) (.node (PySem.W.boot_o_6 P) (.node (PySem.W.boot_o_10 P) (.node (o18_3 P) (.node (o34_3 P) (.node (o66_3 P) (.node (o130_3 P) (.node (o258_3 P) (.node (o514_4 P) .nil .nil) .nil) (.node (o386_4 P) .nil .nil)) (.node (o194_3 P) (.node (o322_3 P) .nil .nil) (.node (o450_4 P) .nil .nil))) (.node (o98_3 P) (.node (o162_3 P) (.node (o290_3 P) (.node (o546_4 P) .nil .nil) .nil) (.node (o418_4 P) .nil .nil)) (.node (o226_3 P) (.node (o354_4 P) .nil .nil) (.node (o482_4 P) .nil .nil)))) (.node (o50_3 P) (.node (o82_3 P) (.node (o146_3 P) (.node (o274_3 P) (.node (o530_4 P) .nil .nil) .nil) (.node (o402_4 P) .nil .nil)) (.node (o210_3 P) (.node (o338_4 P) .nil .nil) (.node (o466_4 P) .nil .nil))) (.node (o114_3 P) (.node (o178_3 P) (.node (o306_3 P) .nil .nil) (.node (o434_4 P) .nil .nil)) (.node (o242_3 P) (.node (o370_4 P) .nil .nil) (.node (o498_4 P) .nil .nil))))) (.node (o26_3 P) (.node (o42_3 P) (.node (o74_3 P) (.node (o138_3 P) (.node (o266_3 P) (.node (o522_4 P) .nil .nil) .nil) (.node (o394_4 P) .nil .nil)) (.node (o202_3 P) (.node (o330_4 P) .nil .nil) (.node (o458_4 P) .nil .nil))) (.node (o106_3 P) (.node (o170_3 P) (.node (o298_3 P) (.node (o554_4 P) .nil .nil) .nil) (.node (o426_4 P) .nil .nil)) (.node (o234_3 P) (.node (o362_4 P) .nil .nil) (.node (o490_4 P) .nil .nil)))) (.node (o58_3 P) (.node (o90_3 P) (.node (o154_3 P) (.node (o282_3 P) (.node (o538_4 P) .nil .nil) .nil) (.node (o410_4 P) .nil .nil)) (.node (o218_3 P) (.node (o346_4 P) .nil .nil) (.node (o474_4 P) .nil .nil))) (.node (o122_3 P) (.node (o186_3 P) (.node (o314_3 P) .nil .nil) (.node (o442_4 P) .nil .nil)) (.node (o250_3 P) (.node (o378_4 P) .nil .nil) (.node (o506_4 P) .nil .nil)))))) (.node (o14_1 P) (.node (o22_3 P) (.node (o38_3 P) (.node (o70_3 P) (.node (o134_3 P) (.node (o262_3 P) (.node (o518_4 P) .nil .nil) .nil) (.node (o390_4 P) .nil .nil)) (.node (o198_3 P) (.node (o326_3 P) .nil .nil) (.node (o454_4 P) .nil .nil))) (.node (o102_3 P) (.node (o166_3 P) (.node (o294_3 P) (.node (o550_4 P) .nil .nil) .nil) (.node (o422_4 P) .nil .nil)) (.node (o230_3 P) (.node (o358_4 P) .nil .nil) (.node (o486_4 P) .nil .nil)))) (.node (o54_3 P) (.node (o86_3 P) (.node (o150_3 P) (.node (o278_3 P) (.node (o534_4 P) .nil .nil) .nil) (.node (o406_4 P) .nil .nil)) (.node (o214_3 P) (.node (o342_4 P) .nil .nil) (.node (o470_4 P) .nil .nil))) (.node (o118_3 P) (.node (o182_3 P) (.node (o310_3 P) .nil .nil) (.node (o438_4 P) .nil .nil)) (.node (o246_3 P) (.node (o374_4 P) .nil .nil) (.node (o502_4 P) .nil .nil))))) (.node (o30_3 P) (.node (o46_3 P) (.node (o78_3 P) (.node (o142_3 P) (.node (o270_3 P) (.node (o526_4 P) .nil .nil) .nil) (.node (o398_4 P) .nil .nil)) (.node (o206_3 P) (.node (o334_4 P) .nil .nil) (.node (o462_4 P) .nil .nil))) (.node (o110_3 P) (.node (o174_3 P) (.node (o302_3 P) .nil .nil) (.node (o430_4 P) .nil .nil)) (.node (o238_3 P) (.node (o366_4 P) .nil .nil) (.node (o494_4 P) .nil .nil)))) (.node (o62_3 P) (.node (o94_3 P) (.node (o158_3 P) (.node (o286_3 P) (.node (o542_4 P) .nil .nil) .nil) (.node (o414_4 P) .nil .nil)) (.node (o222_3 P) (.node (o350_4 P) .nil .nil) (.node (o478_4 P) .nil .nil))) (.node (o126_3 P) (.node (o190_3 P) (.node (o318_3 P) .nil .nil) (.node (o446_4 P) .nil .nil)) (.node (o254_3 P) (.node (o382_4 P) .nil .nil) (.node (o510_4 P) .nil .nil)))))))))
def sT4 (w : World) (os : OsState) : PySem.W.SharedT := ⟨tr4 w.params, 555, (Life.mk [] [] [] 0 [] [] false #[] [] 0 false false false 0 [2000, 10, 10] false 0 true [] [] 0 false), #[], (Drawn.mk 0 0 0 0), 905, os⟩
def sT5 (w : World) (os : OsState) : PySem.W.SharedT := ⟨tr4 w.params, 555, (Life.mk [] [] [] 0 [] [] false #[] [] 0 false false false 0 [2000, 10, 10] false 0 true [] [] 0 false), #[], (Drawn.mk 0 0 0 0), 905, os⟩
abbrev cAnn : Option Value := .some (Value.ref 6)
abbrev cFp : Pos := Pos.mk 0 0 0 0
abbrev cBody : List Stmt := PySem.W.behindTheImports RR.prog
abbrev cEnv : PySem.Env := { scope := RR.prog.main.scope, locals := mainNs, globals := mainNs, cells := [], code := Value.ref 13, frame := some 14 }
abbrev cCode : Code := .body cBody cEnv
def cSl (a n : Nat) : List Stmt := (cBody.drop a).take n
def cBt (w : World) : PySem.W.BT := match HandSHeadRun.putAll (PySem.W.boot_heap w.params).objs.toList .nil 0 with
  | some (t, _) => t
  | none => .nil
end
end K39
namespace K39
open PySem PySem.Spec PyProof.Rows L2
open Rn
set_option autoImplicit false
set_option maxHeartbeats 0
noncomputable section
theorem cPut (w : World) : HandSHeadRun.putAll (PySem.W.boot_heap w.params).objs.toList .nil 0 = some (cBt w, 11) := by kernel_rfl
theorem cSize (w : World) : (PySem.W.boot_heap w.params).objs.size = 11 := by kernel_rfl
theorem cAnnE (w : World) : HandSHeadRun.bootAnn w = cAnn := by kernel_rfl
theorem cPre (w : World) (os : OsState) : Ct.preF (Ct.stQ RR.prog w) 11 cAnn 12 (HandSHeadRun.bootT w os (cBt w, 11)) (PySem.W.topStub RR.prog) = some (sT1 w os, ⟨HandSHeadRun.denQ HandSHeadRun.tabQ cCode, cCode, (Pos.mk 0 0 0 0), [PySem.W.topFrame cFp]⟩) := by kernel_rfl
theorem cBlk (w : World) (os : OsState) : Ct.segF (Ct.stQ RR.prog w) 11 cAnn 1 1 (sT1 w os) (Ct.blockQ cBody cEnv cCode (Pos.mk 0 0 0 0) [PySem.W.topFrame cFp]) = some (.next, sT2 w os, cCode, (Pos.mk 0 0 0 0)) := by kernel_rfl
theorem cRun3 (w : World) (os : OsState) : Ct.segF (Ct.stQ RR.prog w) 11 cAnn 1 2250 (sT2 w os) (Ct.piecesQ (cSl 0 19) cEnv cCode (Pos.mk 0 0 0 0) [PySem.W.topFrame cFp]) = some (.next, sT3 w os, cCode, (Pos.mk 98 0 113 16)) := by kernel_rfl
theorem cRun4 (w : World) (os : OsState) : Ct.segF (Ct.stQ RR.prog w) 11 cAnn 1 1465 (sT3 w os) (Ct.piecesQ (cSl 19 22) cEnv cCode (Pos.mk 98 0 113 16) [PySem.W.topFrame cFp]) = some (.next, sT4 w os, cCode, (Pos.mk 262 0 284 55)) := by kernel_rfl
theorem cFin (w : World) (os : OsState) : HandSHeadRun.goF (Ct.stQ RR.prog w) 11 cAnn 2 (sT4 w os) ⟨PySem.W.doneF .next, cCode, (Pos.mk 262 0 284 55), [PySem.W.topFrame cFp]⟩ = some (sT5 w os) := by kernel_rfl
theorem cAll : cBody = cSl 0 19 ++ (cSl 19 22 ++ []) := by kernel_rfl
theorem cTop (w : World) (os : OsState) : PySem.W.topRun treeTable RR.prog w (PySem.W.boot_heap w.params).objs.size (HandSHeadRun.bootAnn w) 3730 ⟨PySem.W.boot_heap w.params, #[], PySem.W.boot_drawn, PySem.W.boot_toks, os⟩ (PySem.W.topStub RR.prog) = some (sT5 w os).abs := by
  have eb : (HandSHeadRun.bootT w os (cBt w, 11)).abs = ⟨PySem.W.boot_heap w.params, #[], PySem.W.boot_drawn, PySem.W.boot_toks, os⟩ := by
    show (⟨PySem.W.absHeap (cBt w) 11 (PySem.W.boot_heap w.params).life, #[], PySem.W.boot_drawn, PySem.W.boot_toks, os⟩ : Shared) = _
    rw [HandSHeadRun.putAll_heap (cPut w)]
  rw [← eb, cSize w, cAnnE w]
  have z : PySem.W.topRun treeTable RR.prog w 11 cAnn (1+ (2250+ (1465+ (2)))) (sT1 w os).abs ⟨denote treeTable (.body cBody cEnv), cCode, (Pos.mk 0 0 0 0), [PySem.W.topFrame cFp]⟩ = some (sT5 w os).abs := by
    refine Ct.blockQ_ok (cBlk w os) ?_
    rw [cAll]
    exact Ct.pieceQ (cRun3 w os) (Ct.pieceQ (cRun4 w os) (Ct.finQ (cFin w os)))
  exact Ct.preQ (cPre w os) z
end
end K39
namespace K39
open PySem PySem.Spec PyProof.Rows L2 Dv
set_option autoImplicit false
noncomputable section
open Rn
set_option maxHeartbeats 0
def e0 (K : PySem.W.Frag) : List Bool := [eqN (PySem.W.nsIn K mainGlobals "int"), eqN (PySem.W.nsIn K mainGlobals "isinstance"), eqN (PySem.W.nsIn K mainGlobals "len"), eqN (PySem.W.nsIn K mainGlobals "list"), eqN (PySem.W.nsIn K mainGlobals "range"), eqN (PySem.W.nsIn K mainGlobals "repr"), eqN (PySem.W.nsIn K mainGlobals "sorted"), eqR (PySem.W.nsIn K mainGlobals "IntSort") 59, eqR (PySem.W.nsIn K mainGlobals "TextSort") 102, eqR (PySem.W.nsIn K mainGlobals "RefSort") 144, eqR (PySem.W.nsIn K mainGlobals "ListSort") 186, eqR (PySem.W.nsIn K mainGlobals "Thing") 240, eqR (PySem.W.nsIn K mainGlobals "PictureSource") 323, eqR (PySem.W.nsIn K mainGlobals "Field") 352, eqR (PySem.W.nsIn K mainGlobals "Kind") 390, eqR (PySem.W.nsIn K mainGlobals "Schema") 437, eqR (PySem.W.nsIn K mainGlobals "is_reference") 197, eqR (PySem.W.nsIn K mainGlobals "is_list") 204, eqR (PySem.W.nsIn K mainGlobals "blank") 211, eqR (PySem.W.nsIn K mainGlobals "content_copy") 251, eqR (PySem.W.nsIn K mainGlobals "blank_thing") 256, eqR (PySem.W.nsIn K mainGlobals "holds_number") 263, eqR (PySem.W.nsIn K mainGlobals "told_content") 268, eqR (PySem.W.nsIn K mainGlobals "is_one_of") 275, eqR (PySem.W.nsIn K mainGlobals "picture_copy") 280, eqR (PySem.W.nsIn K mainGlobals "_law_cells") 448, eqR (PySem.W.nsIn K mainGlobals "_law_draw") 455, eqR (PySem.W.nsIn K mainGlobals "_law_pick") 462, eqR (PySem.W.nsIn K mainGlobals "_law_links") 469, eqR (PySem.W.nsIn K mainGlobals "_law_names") 476, eqR (PySem.W.nsIn K mainGlobals "_law_rules") 481, eqR (PySem.W.nsIn K mainGlobals "_law_schema") 488, eqR (PySem.W.nsIn K mainGlobals "_law_number") 495, eqR (PySem.W.nsIn K mainGlobals "_law_list") 502, eqR (PySem.W.nsIn K mainGlobals "_law_contents") 509, eqR (PySem.W.nsIn K mainGlobals "_law_picture") 516, eqR (PySem.W.nsIn K mainGlobals "_law_there") 523, eqR (PySem.W.nsIn K mainGlobals "_law_told") 528, eqR (PySem.W.nsIn K mainGlobals "_law_shown") 533, eqR (PySem.W.nsIn K mainGlobals "_law_holds") 540]
def e1 (K : PySem.W.Frag) : List Bool := [eqR (PySem.W.nsIn K mainGlobals "_law_contents_tell") 547, eqR (PySem.W.nsIn K mainGlobals "law") 554]
def e2 (K : PySem.W.Frag) : List Bool := [PySem.W.plainGet K 59 Str.empty, PySem.W.hasDictIn K 59, PySem.W.plainOver K 59, eqF (PySem.W.findIn K (.ref 59) "__setattr__") "object.__setattr__", PySem.W.makesIn K 59, PySem.W.keepIn K (.ref 59), eqN (PySem.W.findIn K (.ref 59) "low"), eqN (PySem.W.findIn K (.ref 59) "high"), eqR (PySem.W.findIn K (.ref 59) "__init__") 35, eqF (PySem.W.findIn K (.ref 59) "__class__") "object.__class__", eqB (PySem.W.mroIn K 59 (.type "object")) true]
def e3 (K : PySem.W.Frag) : List Bool := [PySem.W.plainGet K 102 Str.empty, PySem.W.hasDictIn K 102, PySem.W.plainOver K 102, eqF (PySem.W.findIn K (.ref 102) "__setattr__") "object.__setattr__", PySem.W.makesIn K 102, PySem.W.keepIn K (.ref 102), eqN (PySem.W.findIn K (.ref 102) "longest"), eqN (PySem.W.findIn K (.ref 102) "without"), eqR (PySem.W.findIn K (.ref 102) "__init__") 78, eqF (PySem.W.findIn K (.ref 102) "__class__") "object.__class__", eqB (PySem.W.mroIn K 102 (.type "object")) true]
def e4 (K : PySem.W.Frag) : List Bool := [PySem.W.plainGet K 144 Str.empty, PySem.W.hasDictIn K 144, PySem.W.plainOver K 144, eqF (PySem.W.findIn K (.ref 144) "__setattr__") "object.__setattr__", PySem.W.makesIn K 144, PySem.W.keepIn K (.ref 144), eqN (PySem.W.findIn K (.ref 144) "kinds"), eqN (PySem.W.findIn K (.ref 144) "rule"), eqR (PySem.W.findIn K (.ref 144) "__init__") 120, eqF (PySem.W.findIn K (.ref 144) "__class__") "object.__class__", eqB (PySem.W.mroIn K 144 (.type "object")) true]
def e5 (K : PySem.W.Frag) : List Bool := [PySem.W.plainGet K 186 Str.empty, PySem.W.hasDictIn K 186, PySem.W.plainOver K 186, eqF (PySem.W.findIn K (.ref 186) "__setattr__") "object.__setattr__", PySem.W.makesIn K 186, PySem.W.keepIn K (.ref 186), eqN (PySem.W.findIn K (.ref 186) "kinds"), eqR (PySem.W.findIn K (.ref 186) "__init__") 162, eqF (PySem.W.findIn K (.ref 186) "__class__") "object.__class__", eqB (PySem.W.mroIn K 186 (.type "object")) true]
def e6 (K : PySem.W.Frag) : List Bool := [PySem.W.plainGet K 240 Str.empty, PySem.W.hasDictIn K 240, PySem.W.plainOver K 240, eqF (PySem.W.findIn K (.ref 240) "__setattr__") "object.__setattr__", PySem.W.makesIn K 240, PySem.W.keepIn K (.ref 240), eqN (PySem.W.findIn K (.ref 240) "kind"), eqN (PySem.W.findIn K (.ref 240) "contents"), eqR (PySem.W.findIn K (.ref 240) "__init__") 223, eqR (PySem.W.findIn K (.ref 240) "copied") 230, eqR (PySem.W.findIn K (.ref 240) "__eq__") 237, eqF (PySem.W.findIn K (.ref 240) "__class__") "object.__class__", eqB (PySem.W.mroIn K 240 (.type "object")) true]
def e7 (K : PySem.W.Frag) : List Bool := [PySem.W.plainGet K 323 Str.empty, PySem.W.hasDictIn K 323, PySem.W.plainOver K 323, eqF (PySem.W.findIn K (.ref 323) "__setattr__") "object.__setattr__", PySem.W.makesIn K 323, PySem.W.keepIn K (.ref 323), eqN (PySem.W.findIn K (.ref 323) "things"), eqR (PySem.W.findIn K (.ref 323) "__init__") 294, eqR (PySem.W.findIn K (.ref 323) "thing") 301]
def e8 (K : PySem.W.Frag) : List Bool := [PySem.W.plainGet K 352 Str.empty, PySem.W.hasDictIn K 352, PySem.W.plainOver K 352, eqF (PySem.W.findIn K (.ref 352) "__setattr__") "object.__setattr__", PySem.W.makesIn K 352, PySem.W.keepIn K (.ref 352), eqN (PySem.W.findIn K (.ref 352) "name"), eqN (PySem.W.findIn K (.ref 352) "shape"), eqN (PySem.W.findIn K (.ref 352) "needed"), eqR (PySem.W.findIn K (.ref 352) "__init__") 342]
def e9 (K : PySem.W.Frag) : List Bool := [PySem.W.plainGet K 390 Str.empty, PySem.W.hasDictIn K 390, PySem.W.plainOver K 390, eqF (PySem.W.findIn K (.ref 390) "__setattr__") "object.__setattr__", PySem.W.makesIn K 390, PySem.W.keepIn K (.ref 390), eqN (PySem.W.findIn K (.ref 390) "name"), eqN (PySem.W.findIn K (.ref 390) "fields"), eqN (PySem.W.findIn K (.ref 390) "key_rows"), eqR (PySem.W.findIn K (.ref 390) "__init__") 368, eqR (PySem.W.findIn K (.ref 390) "field_of") 375]
def e10 (K : PySem.W.Frag) : List Bool := [PySem.W.plainGet K 437 Str.empty, PySem.W.hasDictIn K 437, PySem.W.plainOver K 437, eqF (PySem.W.findIn K (.ref 437) "__setattr__") "object.__setattr__", PySem.W.makesIn K 437, PySem.W.keepIn K (.ref 437), eqN (PySem.W.findIn K (.ref 437) "kinds"), eqR (PySem.W.findIn K (.ref 437) "__init__") 408, eqR (PySem.W.findIn K (.ref 437) "kind_of") 415]
def e11 (K : PySem.W.Frag) : List Bool := [eqF (PySem.W.specialIn K (.builtin "object.__class__") "__get__") "getset_descriptor.__get__", eqB (PySem.W.takesIn K (.builtin "object.__class__")) true, eqB (PySem.W.kitOne K (.ref 59) (.ref 144)) false, eqB (PySem.W.kitOne K (.ref 102) (.ref 144)) false, eqB (PySem.W.kitOne K (.ref 144) (.ref 144)) true, eqB (PySem.W.kitOne K (.ref 186) (.ref 144)) false, eqB (PySem.W.kitOne K (.ref 59) (.ref 186)) false, eqB (PySem.W.kitOne K (.ref 102) (.ref 186)) false, eqB (PySem.W.kitOne K (.ref 144) (.ref 186)) false, eqB (PySem.W.kitOne K (.ref 186) (.ref 186)) true, eqB (PySem.W.kitOne K (.ref 240) (.ref 240)) true, eqB (PySem.W.kitOne K (.type "int") (.ref 240)) false, eqF (PySem.W.findIn K (.ref 240) "__ne__") "object.__ne__", eqB (PySem.W.subIn K (.ref 240) (.type "object")) true, eqB (PySem.W.subIn K (.type "int") (.ref 240)) false]
def e12 (K : PySem.W.Frag) : List Bool := [fkB K 35 "IntSort.__init__", fnBD K 78 "TextSort.__init__" [V.non], PySem.W.keepIn K (.ref 78), PySem.W.isFn K (.ref 78), fkB K 120 "RefSort.__init__", fkB K 162 "ListSort.__init__", fkB K 223 "Thing.__init__", fkB K 230 "Thing.copied", fkB K 237 "Thing.__eq__", fkB K 294 "PictureSource.__init__", fkB K 301 "PictureSource.thing", fnBD K 342 "Field.__init__" [V.bl false], PySem.W.keepIn K (.ref 342), PySem.W.isFn K (.ref 342), fkB K 368 "Kind.__init__", fkB K 375 "Kind.field_of", fkB K 408 "Schema.__init__", fkB K 415 "Schema.kind_of", fkB K 197 "is_reference", fkB K 204 "is_list", fkB K 211 "blank", fkB K 251 "content_copy", fkB K 256 "blank_thing", fkB K 263 "holds_number", fkB K 268 "told_content", fkB K 275 "is_one_of", fkB K 280 "picture_copy", fkB K 448 "_law_cells", fkB K 455 "_law_draw", fkB K 462 "_law_pick", fkB K 469 "_law_links", fkB K 476 "_law_names", fkB K 481 "_law_rules", fkB K 488 "_law_schema", fkB K 495 "_law_number", fkB K 502 "_law_list", fkB K 509 "_law_contents", fkB K 516 "_law_picture", fkB K 523 "_law_there", fkB K 528 "_law_told"]
def e13 (K : PySem.W.Frag) : List Bool := [fkB K 533 "_law_shown", fkB K 540 "_law_holds", fkB K 547 "_law_contents_tell", fkB K 554 "law"]
def eA (K : PySem.W.Frag) : List Bool := [allB (e0 K), allB (e1 K)]
def eB (K : PySem.W.Frag) : List Bool := [allB (e12 K), allB (e13 K)]
def eC (K : PySem.W.Frag) : List Bool := [allB (e11 K)]
def eP (K : PySem.W.Frag) : List Bool := [allB (e2 K), allB (e3 K), allB (e4 K), allB (e5 K), allB (e6 K), allB (e7 K), allB (e8 K), allB (e9 K), allB (e10 K)]
def exB (K : PySem.W.Frag) : Bool := allB [allB (eA K), allB (eB K), allB (eC K), allB (eP K)]
def asL0 : List Addr := [3, 2, 59, 58, 102, 101, 144, 143, 186, 185, 240, 239, 323, 322, 352, 351, 390, 389, 437, 436, 35, 34, 78, 77, 71, 120, 119, 162, 161, 223, 222, 230, 229, 237, 236, 294, 293, 301, 300, 342]
def asL1 : List Addr := [341, 335, 368, 367, 375, 374, 408, 407, 415, 414, 197, 196, 204, 203, 211, 210, 251, 250, 256, 255, 263, 262, 268, 267, 275, 274, 280, 279, 448, 447, 455, 454, 462, 461, 469, 468, 476, 475, 481, 480]
def asL2 : List Addr := [488, 487, 495, 494, 502, 501, 509, 508, 516, 515, 523, 522, 528, 527, 533, 532, 540, 539, 547, 546, 554, 553]
def asL : List Addr := asL0 ++ asL1 ++ asL2
def fsL0 : List Addr := [35, 78, 120, 162, 223, 230, 237, 294, 301, 342, 368, 375, 408, 415, 197, 204, 211, 251, 256, 263, 268, 275, 280, 448, 455, 462, 469, 476, 481, 488, 495, 502, 509, 516, 523, 528, 533, 540, 547, 554]
def fsL : List Addr := fsL0
def fvL0 : List FnX := [fnV "__init__" "IntSort.__init__" (inClass (topS 2) 0), fnV "__init__" "TextSort.__init__" (inClass (topS 3) 0), fnV "__init__" "RefSort.__init__" (inClass (topS 4) 0), fnV "__init__" "ListSort.__init__" (inClass (topS 5) 0), fnV "__init__" "Thing.__init__" (inClass (topS 10) 0), fnV "copied" "Thing.copied" (inClass (topS 10) 1), fnV "__eq__" "Thing.__eq__" (inClass (topS 10) 2), fnV "__init__" "PictureSource.__init__" (inClass (topS 18) 0), fnV "thing" "PictureSource.thing" (inClass (topS 18) 1), fnV "__init__" "Field.__init__" (inClass (topS 20) 0), fnV "__init__" "Kind.__init__" (inClass (topS 21) 0), fnV "field_of" "Kind.field_of" (inClass (topS 21) 1), fnV "__init__" "Schema.__init__" (inClass (topS 22) 0), fnV "kind_of" "Schema.kind_of" (inClass (topS 22) 1), fnV "is_reference" "is_reference" (topS 6), fnV "is_list" "is_list" (topS 7), fnV "blank" "blank" (topS 8), fnV "content_copy" "content_copy" (topS 11), fnV "blank_thing" "blank_thing" (topS 12), fnV "holds_number" "holds_number" (topS 13), fnV "told_content" "told_content" (topS 14), fnV "is_one_of" "is_one_of" (topS 15), fnV "picture_copy" "picture_copy" (topS 16), fnV "_law_cells" "_law_cells" (topS 24), fnV "_law_draw" "_law_draw" (topS 25), fnV "_law_pick" "_law_pick" (topS 26), fnV "_law_links" "_law_links" (topS 27), fnV "_law_names" "_law_names" (topS 28), fnV "_law_rules" "_law_rules" (topS 29), fnV "_law_schema" "_law_schema" (topS 30), fnV "_law_number" "_law_number" (topS 31), fnV "_law_list" "_law_list" (topS 32), fnV "_law_contents" "_law_contents" (topS 33), fnV "_law_picture" "_law_picture" (topS 34), fnV "_law_there" "_law_there" (topS 35), fnV "_law_told" "_law_told" (topS 36), fnV "_law_shown" "_law_shown" (topS 37), fnV "_law_holds" "_law_holds" (topS 38), fnV "_law_contents_tell" "_law_contents_tell" (topS 39), fnV "law" "law" (topS 40)]
def fvL : List FnX := fvL0
def HD : HdD := { as := asL, ex := exB, fs := fsL, fv := fvL, ds := [], dk := [] }
def adr (K : PySem.W.Frag) : Ad := {
  C_IntSort := 59,
  C_TextSort := 102,
  C_RefSort := 144,
  C_ListSort := 186,
  C_Thing := 240,
  C_PictureSource := 323,
  C_Field := 352,
  C_Kind := 390,
  C_Schema := 437,
  f_IntSort___init__ := 35,
  fd_IntSort___init__ := fdOf K 35,
  f_TextSort___init__ := 78,
  fd_TextSort___init__ := fdOf K 78,
  f_RefSort___init__ := 120,
  fd_RefSort___init__ := fdOf K 120,
  f_ListSort___init__ := 162,
  fd_ListSort___init__ := fdOf K 162,
  f_Thing___init__ := 223,
  fd_Thing___init__ := fdOf K 223,
  f_Thing_copied := 230,
  fd_Thing_copied := fdOf K 230,
  f_Thing___eq__ := 237,
  fd_Thing___eq__ := fdOf K 237,
  f_PictureSource___init__ := 294,
  fd_PictureSource___init__ := fdOf K 294,
  f_PictureSource_thing := 301,
  fd_PictureSource_thing := fdOf K 301,
  f_Field___init__ := 342,
  fd_Field___init__ := fdOf K 342,
  f_Kind___init__ := 368,
  fd_Kind___init__ := fdOf K 368,
  f_Kind_field_of := 375,
  fd_Kind_field_of := fdOf K 375,
  f_Schema___init__ := 408,
  fd_Schema___init__ := fdOf K 408,
  f_Schema_kind_of := 415,
  fd_Schema_kind_of := fdOf K 415,
  f_is_reference := 197,
  fd_is_reference := fdOf K 197,
  f_is_list := 204,
  fd_is_list := fdOf K 204,
  f_blank := 211,
  fd_blank := fdOf K 211,
  f_content_copy := 251,
  fd_content_copy := fdOf K 251,
  f_blank_thing := 256,
  fd_blank_thing := fdOf K 256,
  f_holds_number := 263,
  fd_holds_number := fdOf K 263,
  f_told_content := 268,
  fd_told_content := fdOf K 268,
  f_is_one_of := 275,
  fd_is_one_of := fdOf K 275,
  f_picture_copy := 280,
  fd_picture_copy := fdOf K 280,
  f__law_cells := 448,
  fd__law_cells := fdOf K 448,
  f__law_draw := 455,
  fd__law_draw := fdOf K 455,
  f__law_pick := 462,
  fd__law_pick := fdOf K 462,
  f__law_links := 469,
  fd__law_links := fdOf K 469,
  f__law_names := 476,
  fd__law_names := fdOf K 476,
  f__law_rules := 481,
  fd__law_rules := fdOf K 481,
  f__law_schema := 488,
  fd__law_schema := fdOf K 488,
  f__law_number := 495,
  fd__law_number := fdOf K 495,
  f__law_list := 502,
  fd__law_list := fdOf K 502,
  f__law_contents := 509,
  fd__law_contents := fdOf K 509,
  f__law_picture := 516,
  fd__law_picture := fdOf K 516,
  f__law_there := 523,
  fd__law_there := fdOf K 523,
  f__law_told := 528,
  fd__law_told := fdOf K 528,
  f__law_shown := 533,
  fd__law_shown := fdOf K 533,
  f__law_holds := 540,
  fd__law_holds := fdOf K 540,
  f__law_contents_tell := 547,
  fd__law_contents_tell := fdOf K 547,
  f_law := 554,
  fd_law := fdOf K 554 }
def nm0 : List PySem.Str := ["_wall", "IntSort", "TextSort", "RefSort", "ListSort", "is_reference", "is_list", "blank", "Thing", "content_copy", "blank_thing", "holds_number", "told_content", "is_one_of", "picture_copy", "PictureSource", "Field", "Kind", "Schema", "_law_cells", "_law_draw", "_law_pick", "_law_links", "_law_names", "_law_rules", "_law_schema", "_law_number", "_law_list", "_law_contents", "_law_picture"]
def nm1 : List PySem.Str := ["_law_there", "_law_told", "_law_shown", "_law_holds", "_law_contents_tell"]
def nms : List PySem.Str := nm0 ++ nm1
abbrev qv : Program := PySem.W.view RR.prog [40]
def finS (w : World) (os : OsState) : Option PySem.W.SharedT := some (sT5 w os)
abbrev wf (w : World) (b : Bool) : World := w.withFollow "special-get-raises" b
theorem runLf (w : World) (os : OsState) : (finS (wf w false) os).map (fun s => HandSHeadRun.looksF RR.prog (PySem.W.boot_heap (wf w false).params) s.abs) = some (true) := by kernel_rfl
theorem runSf (w : World) (os : OsState) : (finS (wf w false) os).map (fun s => (HandSHeadRun.seenQ qv nms (importedModules RR.prog.main.body) (fun s => PySem.W.xlAt qv [] s && PySem.W.recOk RR.records s) s.abs, HD.ds.map (He.dicW (He.frG (HandSHeadRun.getT s) asL)), allB (eC (He.frG (HandSHeadRun.getT s) asL)))) = some ((PySem.W.openGood qv nms, (HD.dk.map fun ks => some (He.keysIn (wf w false).params ks)), true)) := by kernel_rfl
theorem runAf (w : World) (os : OsState) : (finS (wf w false) os).map (fun s => allB (eA (He.frG (HandSHeadRun.getT s) asL))) = some (true) := by kernel_rfl
theorem runBf (w : World) (os : OsState) : (finS (wf w false) os).map (fun s => allB (eB (He.frG (HandSHeadRun.getT s) asL))) = some (true) := by kernel_rfl
theorem runFf (w : World) (os : OsState) : (finS (wf w false) os).map (fun s => (fsL.map (fnX (He.frG (HandSHeadRun.getT s) asL)), allB (eP (He.frG (HandSHeadRun.getT s) asL)))) = some ((fvL, true)) := by kernel_rfl
theorem runLt (w : World) (os : OsState) : (finS (wf w true) os).map (fun s => HandSHeadRun.looksF RR.prog (PySem.W.boot_heap (wf w true).params) s.abs) = some (true) := by kernel_rfl
theorem runSt (w : World) (os : OsState) : (finS (wf w true) os).map (fun s => (HandSHeadRun.seenQ qv nms (importedModules RR.prog.main.body) (fun s => PySem.W.xlAt qv [] s && PySem.W.recOk RR.records s) s.abs, HD.ds.map (He.dicW (He.frG (HandSHeadRun.getT s) asL)), allB (eC (He.frG (HandSHeadRun.getT s) asL)))) = some ((PySem.W.openGood qv nms, (HD.dk.map fun ks => some (He.keysIn (wf w true).params ks)), true)) := by kernel_rfl
theorem runAt (w : World) (os : OsState) : (finS (wf w true) os).map (fun s => allB (eA (He.frG (HandSHeadRun.getT s) asL))) = some (true) := by kernel_rfl
theorem runBt (w : World) (os : OsState) : (finS (wf w true) os).map (fun s => allB (eB (He.frG (HandSHeadRun.getT s) asL))) = some (true) := by kernel_rfl
theorem runFt (w : World) (os : OsState) : (finS (wf w true) os).map (fun s => (fsL.map (fnX (He.frG (HandSHeadRun.getT s) asL)), allB (eP (He.frG (HandSHeadRun.getT s) asL)))) = some ((fvL, true)) := by kernel_rfl
theorem join2 {α a b : Type} {o : Option α} {f1 : α → a} {f2 : α → b} {v1 : a} {v2 : b} (h1 : o.map f1 = some v1) (h2 : o.map f2 = some v2) : o.map (fun s => (f1 s, f2 s)) = some (v1, v2) := by
  cases o with
  | none => cases h1
  | some s =>
    rw [Option.map_some] at h1 h2 ⊢
    rw [Option.some.inj h1, Option.some.inj h2]
theorem runCf (w : World) (os : OsState) : (finS (wf w false) os).map (fun s => allB (eC (He.frG (HandSHeadRun.getT s) asL))) = some true := by
  have h := runSf w os
  generalize finS (wf w false) os = o at h ⊢
  cases o with
  | none => cases h
  | some s =>
    have h2 := Option.some.inj h
    exact congrArg some (congrArg (fun p => p.2.2) h2)
theorem runCt (w : World) (os : OsState) : (finS (wf w true) os).map (fun s => allB (eC (He.frG (HandSHeadRun.getT s) asL))) = some true := by
  have h := runSt w os
  generalize finS (wf w true) os = o at h ⊢
  cases o with
  | none => cases h
  | some s =>
    have h2 := Option.some.inj h
    exact congrArg some (congrArg (fun p => p.2.2) h2)
theorem runPf (w : World) (os : OsState) : (finS (wf w false) os).map (fun s => allB (eP (He.frG (HandSHeadRun.getT s) asL))) = some true := by
  have h := runFf w os
  generalize finS (wf w false) os = o at h ⊢
  cases o with
  | none => cases h
  | some s =>
    have h2 := Option.some.inj h
    exact congrArg some (congrArg Prod.snd h2)
theorem runPt (w : World) (os : OsState) : (finS (wf w true) os).map (fun s => allB (eP (He.frG (HandSHeadRun.getT s) asL))) = some true := by
  have h := runFt w os
  generalize finS (wf w true) os = o at h ⊢
  cases o with
  | none => cases h
  | some s =>
    have h2 := Option.some.inj h
    exact congrArg some (congrArg Prod.snd h2)
theorem ex_of {K : PySem.W.Frag} (a : allB (eA K) = true) (b : allB (eB K) = true) (c : allB (eC K) = true) (d : allB (eP K) = true) : exB K = true := by
  unfold exB
  rw [a, b, c, d]
  rfl
theorem exRun {o : Option PySem.W.SharedT} (a : o.map (fun s => allB (eA (He.frG (HandSHeadRun.getT s) asL))) = some true) (b : o.map (fun s => allB (eB (He.frG (HandSHeadRun.getT s) asL))) = some true) (c : o.map (fun s => allB (eC (He.frG (HandSHeadRun.getT s) asL))) = some true) (d : o.map (fun s => allB (eP (He.frG (HandSHeadRun.getT s) asL))) = some true) : o.map (fun s => exB (He.frG (HandSHeadRun.getT s) asL)) = some true := by
  cases o with
  | none => cases a
  | some s => exact congrArg some (ex_of (Option.some.inj a) (Option.some.inj b) (Option.some.inj c) (Option.some.inj d))
theorem runf (w : World) : Ct.RunEq RR qv (hookH HD) (obH HD) sT5 nms (wf w false) := by
  intro os
  refine Ct.joinC (D := HD) (finS (wf w false) os) rfl ?_ ?_ ?_ ?_ ?_
  · have h := runLf w os
    generalize finS (wf w false) os = o at h ⊢
    exact h
  · have h := runSf w os
    generalize finS (wf w false) os = o at h ⊢
    cases o with
    | none => cases h
    | some s =>
      have h2 := Option.some.inj h
      exact congrArg some (congrArg Prod.fst h2)
  · have h := exRun (runAf w os) (runBf w os) (runCf w os) (runPf w os)
    generalize finS (wf w false) os = o at h ⊢
    exact h
  · have h := runFf w os
    generalize finS (wf w false) os = o at h ⊢
    cases o with
    | none => cases h
    | some s =>
      have h2 := Option.some.inj h
      exact congrArg some (congrArg Prod.fst h2)
  · have h := runSf w os
    generalize finS (wf w false) os = o at h ⊢
    cases o with
    | none => cases h
    | some s =>
      have h2 := Option.some.inj h
      exact congrArg some (congrArg (fun p => p.2.1) h2)
theorem runt (w : World) : Ct.RunEq RR qv (hookH HD) (obH HD) sT5 nms (wf w true) := by
  intro os
  refine Ct.joinC (D := HD) (finS (wf w true) os) rfl ?_ ?_ ?_ ?_ ?_
  · have h := runLt w os
    generalize finS (wf w true) os = o at h ⊢
    exact h
  · have h := runSt w os
    generalize finS (wf w true) os = o at h ⊢
    cases o with
    | none => cases h
    | some s =>
      have h2 := Option.some.inj h
      exact congrArg some (congrArg Prod.fst h2)
  · have h := exRun (runAt w os) (runBt w os) (runCt w os) (runPt w os)
    generalize finS (wf w true) os = o at h ⊢
    exact h
  · have h := runFt w os
    generalize finS (wf w true) os = o at h ⊢
    cases o with
    | none => cases h
    | some s =>
      have h2 := Option.some.inj h
      exact congrArg some (congrArg Prod.fst h2)
  · have h := runSt w os
    generalize finS (wf w true) os = o at h ⊢
    cases o with
    | none => cases h
    | some s =>
      have h2 := Option.some.inj h
      exact congrArg some (congrArg (fun p => p.2.1) h2)
theorem runH (w : World) : Ct.RunEq RR qv (hookH HD) (obH HD) sT5 nms w :=
  PySem.W.byRow2 "special-get-raises" (P := fun w => Ct.RunEq RR qv (hookH HD) (obH HD) sT5 nms w) runf runt w
end
end K39
namespace K39
open PySem PySem.Spec PyProof.Rows L2 Dv
set_option autoImplicit false
noncomputable section
open Rn
set_option maxHeartbeats 0
set_option maxHeartbeats 0 in
theorem mk_txt {w : World} {K : PySem.W.Frag} {h : Heap} {mg : Str → Option Value} (X : K.In h) (G : h.Ns mainGlobals mg) (s : SaysH HD w K) : Txt K mg (adr K) := by
  have E : exB K = true := s.ex
  have gA : allB (eA K) = true := allB_at E 0 rfl
  have g0 : allB (e0 K) = true := allB_at gA 0 rfl
  have g1 : allB (e1 K) = true := allB_at gA 1 rfl
  have gB : allB (eB K) = true := allB_at E 1 rfl
  have g12 : allB (e12 K) = true := allB_at gB 0 rfl
  have g13 : allB (e13 K) = true := allB_at gB 1 rfl
  have gC : allB (eC K) = true := allB_at E 2 rfl
  have g11 : allB (e11 K) = true := allB_at gC 0 rfl
  have gP : allB (eP K) = true := allB_at E 3 rfl
  have g2 : allB (e2 K) = true := allB_at gP 0 rfl
  have g3 : allB (e3 K) = true := allB_at gP 1 rfl
  have g4 : allB (e4 K) = true := allB_at gP 2 rfl
  have g5 : allB (e5 K) = true := allB_at gP 3 rfl
  have g6 : allB (e6 K) = true := allB_at gP 4 rfl
  have g7 : allB (e7 K) = true := allB_at gP 5 rfl
  have g8 : allB (e8 K) = true := allB_at gP 6 rfl
  have g9 : allB (e9 K) = true := allB_at gP 7 rfl
  have g10 : allB (e10 K) = true := allB_at gP 8 rfl
  have F0 : Fun K "__init__" "IntSort.__init__" (inClass (topS 2) 0) 35 (fdOf K 35) := fun_of (fn_at s 0 rfl rfl) (fk_ok (allB_at g12 0 rfl)).1 (fk_ok (allB_at g12 0 rfl)).2.1
  have b0 : Binds K (fdOf K 35) ["self", "low", "high"] [] := F0.binds (ps := ["self", "low", "high"]) fun _ _ _ _ _ _ us hl => match us, hl with | [_, _, _], _ => rfl
  have F1 : FunD K "__init__" "TextSort.__init__" (defArgs (inClass (topS 3) 0)) (defBody (inClass (topS 3) 0)) (defScope (inClass (topS 3) 0)) [V.non] [] 78 (fdOf K 78) := funD_of (by simp) (fn_at s 1 rfl rfl) (allB_at g12 1 rfl) (allB_at g12 2 rfl)
  have b1 : Binds K (fdOf K 78) ["self", "longest", "without"] [] := by
    obtain ⟨ds, h1, h2⟩ := F1.binds1 (ps := ["self", "longest", "without"]) 3 1 (by simp) (by rfl) (fun _ _ _ _ _ _ _ us its h3 h4 => match us, its, h3, h4 with | [_, _, _], [_], _, _ => ⟨_, rfl, rfl⟩)
    cases h1
    exact h2
  have F2 : Fun K "__init__" "RefSort.__init__" (inClass (topS 4) 0) 120 (fdOf K 120) := fun_of (fn_at s 2 rfl rfl) (fk_ok (allB_at g12 4 rfl)).1 (fk_ok (allB_at g12 4 rfl)).2.1
  have b2 : Binds K (fdOf K 120) ["self", "kinds", "rule"] [] := F2.binds (ps := ["self", "kinds", "rule"]) fun _ _ _ _ _ _ us hl => match us, hl with | [_, _, _], _ => rfl
  have F3 : Fun K "__init__" "ListSort.__init__" (inClass (topS 5) 0) 162 (fdOf K 162) := fun_of (fn_at s 3 rfl rfl) (fk_ok (allB_at g12 5 rfl)).1 (fk_ok (allB_at g12 5 rfl)).2.1
  have b3 : Binds K (fdOf K 162) ["self", "kinds"] [] := F3.binds (ps := ["self", "kinds"]) fun _ _ _ _ _ _ us hl => match us, hl with | [_, _], _ => rfl
  have F4 : Fun K "__init__" "Thing.__init__" (inClass (topS 10) 0) 223 (fdOf K 223) := fun_of (fn_at s 4 rfl rfl) (fk_ok (allB_at g12 6 rfl)).1 (fk_ok (allB_at g12 6 rfl)).2.1
  have b4 : Binds K (fdOf K 223) ["self", "kind", "contents"] [] := F4.binds (ps := ["self", "kind", "contents"]) fun _ _ _ _ _ _ us hl => match us, hl with | [_, _, _], _ => rfl
  have F5 : Fun K "copied" "Thing.copied" (inClass (topS 10) 1) 230 (fdOf K 230) := fun_of (fn_at s 5 rfl rfl) (fk_ok (allB_at g12 7 rfl)).1 (fk_ok (allB_at g12 7 rfl)).2.1
  have b5 : Binds K (fdOf K 230) ["self"] [] := F5.binds (ps := ["self"]) fun _ _ _ _ _ _ us hl => match us, hl with | [_], _ => rfl
  have F6 : Fun K "__eq__" "Thing.__eq__" (inClass (topS 10) 2) 237 (fdOf K 237) := fun_of (fn_at s 6 rfl rfl) (fk_ok (allB_at g12 8 rfl)).1 (fk_ok (allB_at g12 8 rfl)).2.1
  have b6 : Binds K (fdOf K 237) ["self", "other"] [] := F6.binds (ps := ["self", "other"]) fun _ _ _ _ _ _ us hl => match us, hl with | [_, _], _ => rfl
  have F7 : Fun K "__init__" "PictureSource.__init__" (inClass (topS 18) 0) 294 (fdOf K 294) := fun_of (fn_at s 7 rfl rfl) (fk_ok (allB_at g12 9 rfl)).1 (fk_ok (allB_at g12 9 rfl)).2.1
  have b7 : Binds K (fdOf K 294) ["self", "picture"] [] := F7.binds (ps := ["self", "picture"]) fun _ _ _ _ _ _ us hl => match us, hl with | [_, _], _ => rfl
  have F8 : Fun K "thing" "PictureSource.thing" (inClass (topS 18) 1) 301 (fdOf K 301) := fun_of (fn_at s 8 rfl rfl) (fk_ok (allB_at g12 10 rfl)).1 (fk_ok (allB_at g12 10 rfl)).2.1
  have b8 : Binds K (fdOf K 301) ["self", "number"] [] := F8.binds (ps := ["self", "number"]) fun _ _ _ _ _ _ us hl => match us, hl with | [_, _], _ => rfl
  have F9 : FunD K "__init__" "Field.__init__" (defArgs (inClass (topS 20) 0)) (defBody (inClass (topS 20) 0)) (defScope (inClass (topS 20) 0)) [V.bl false] [] 342 (fdOf K 342) := funD_of (by simp) (fn_at s 9 rfl rfl) (allB_at g12 11 rfl) (allB_at g12 12 rfl)
  have b9 : Binds K (fdOf K 342) ["self", "name", "shape", "needed"] [] := by
    obtain ⟨ds, h1, h2⟩ := F9.binds1 (ps := ["self", "name", "shape", "needed"]) 4 1 (by simp) (by rfl) (fun _ _ _ _ _ _ _ us its h3 h4 => match us, its, h3, h4 with | [_, _, _, _], [_], _, _ => ⟨_, rfl, rfl⟩)
    cases h1
    exact h2
  have F10 : Fun K "__init__" "Kind.__init__" (inClass (topS 21) 0) 368 (fdOf K 368) := fun_of (fn_at s 10 rfl rfl) (fk_ok (allB_at g12 14 rfl)).1 (fk_ok (allB_at g12 14 rfl)).2.1
  have b10 : Binds K (fdOf K 368) ["self", "name", "fields", "key_rows"] [] := F10.binds (ps := ["self", "name", "fields", "key_rows"]) fun _ _ _ _ _ _ us hl => match us, hl with | [_, _, _, _], _ => rfl
  have F11 : Fun K "field_of" "Kind.field_of" (inClass (topS 21) 1) 375 (fdOf K 375) := fun_of (fn_at s 11 rfl rfl) (fk_ok (allB_at g12 15 rfl)).1 (fk_ok (allB_at g12 15 rfl)).2.1
  have b11 : Binds K (fdOf K 375) ["self", "name"] [] := F11.binds (ps := ["self", "name"]) fun _ _ _ _ _ _ us hl => match us, hl with | [_, _], _ => rfl
  have F12 : Fun K "__init__" "Schema.__init__" (inClass (topS 22) 0) 408 (fdOf K 408) := fun_of (fn_at s 12 rfl rfl) (fk_ok (allB_at g12 16 rfl)).1 (fk_ok (allB_at g12 16 rfl)).2.1
  have b12 : Binds K (fdOf K 408) ["self", "kinds"] [] := F12.binds (ps := ["self", "kinds"]) fun _ _ _ _ _ _ us hl => match us, hl with | [_, _], _ => rfl
  have F13 : Fun K "kind_of" "Schema.kind_of" (inClass (topS 22) 1) 415 (fdOf K 415) := fun_of (fn_at s 13 rfl rfl) (fk_ok (allB_at g12 17 rfl)).1 (fk_ok (allB_at g12 17 rfl)).2.1
  have b13 : Binds K (fdOf K 415) ["self", "name"] [] := F13.binds (ps := ["self", "name"]) fun _ _ _ _ _ _ us hl => match us, hl with | [_, _], _ => rfl
  have F14 : Fun K "is_reference" "is_reference" (topS 6) 197 (fdOf K 197) := fun_of (fn_at s 14 rfl rfl) (fk_ok (allB_at g12 18 rfl)).1 (fk_ok (allB_at g12 18 rfl)).2.1
  have b14 : Binds K (fdOf K 197) ["shape"] [] := F14.binds (ps := ["shape"]) fun _ _ _ _ _ _ us hl => match us, hl with | [_], _ => rfl
  have F15 : Fun K "is_list" "is_list" (topS 7) 204 (fdOf K 204) := fun_of (fn_at s 15 rfl rfl) (fk_ok (allB_at g12 19 rfl)).1 (fk_ok (allB_at g12 19 rfl)).2.1
  have b15 : Binds K (fdOf K 204) ["shape"] [] := F15.binds (ps := ["shape"]) fun _ _ _ _ _ _ us hl => match us, hl with | [_], _ => rfl
  have F16 : Fun K "blank" "blank" (topS 8) 211 (fdOf K 211) := fun_of (fn_at s 16 rfl rfl) (fk_ok (allB_at g12 20 rfl)).1 (fk_ok (allB_at g12 20 rfl)).2.1
  have b16 : Binds K (fdOf K 211) ["shape"] [] := F16.binds (ps := ["shape"]) fun _ _ _ _ _ _ us hl => match us, hl with | [_], _ => rfl
  have F17 : Fun K "content_copy" "content_copy" (topS 11) 251 (fdOf K 251) := fun_of (fn_at s 17 rfl rfl) (fk_ok (allB_at g12 21 rfl)).1 (fk_ok (allB_at g12 21 rfl)).2.1
  have b17 : Binds K (fdOf K 251) ["content"] [] := F17.binds (ps := ["content"]) fun _ _ _ _ _ _ us hl => match us, hl with | [_], _ => rfl
  have F18 : Fun K "blank_thing" "blank_thing" (topS 12) 256 (fdOf K 256) := fun_of (fn_at s 18 rfl rfl) (fk_ok (allB_at g12 22 rfl)).1 (fk_ok (allB_at g12 22 rfl)).2.1
  have b18 : Binds K (fdOf K 256) ["kind"] [] := F18.binds (ps := ["kind"]) fun _ _ _ _ _ _ us hl => match us, hl with | [_], _ => rfl
  have F19 : Fun K "holds_number" "holds_number" (topS 13) 263 (fdOf K 263) := fun_of (fn_at s 19 rfl rfl) (fk_ok (allB_at g12 23 rfl)).1 (fk_ok (allB_at g12 23 rfl)).2.1
  have b19 : Binds K (fdOf K 263) ["content", "number"] [] := F19.binds (ps := ["content", "number"]) fun _ _ _ _ _ _ us hl => match us, hl with | [_, _], _ => rfl
  have F20 : Fun K "told_content" "told_content" (topS 14) 268 (fdOf K 268) := fun_of (fn_at s 20 rfl rfl) (fk_ok (allB_at g12 24 rfl)).1 (fk_ok (allB_at g12 24 rfl)).2.1
  have b20 : Binds K (fdOf K 268) ["source", "field", "content"] [] := F20.binds (ps := ["source", "field", "content"]) fun _ _ _ _ _ _ us hl => match us, hl with | [_, _, _], _ => rfl
  have F21 : Fun K "is_one_of" "is_one_of" (topS 15) 275 (fdOf K 275) := fun_of (fn_at s 21 rfl rfl) (fk_ok (allB_at g12 25 rfl)).1 (fk_ok (allB_at g12 25 rfl)).2.1
  have b21 : Binds K (fdOf K 275) ["source", "number", "kinds"] [] := F21.binds (ps := ["source", "number", "kinds"]) fun _ _ _ _ _ _ us hl => match us, hl with | [_, _, _], _ => rfl
  have F22 : Fun K "picture_copy" "picture_copy" (topS 16) 280 (fdOf K 280) := fun_of (fn_at s 22 rfl rfl) (fk_ok (allB_at g12 26 rfl)).1 (fk_ok (allB_at g12 26 rfl)).2.1
  have b22 : Binds K (fdOf K 280) ["picture"] [] := F22.binds (ps := ["picture"]) fun _ _ _ _ _ _ us hl => match us, hl with | [_], _ => rfl
  have F23 : Fun K "_law_cells" "_law_cells" (topS 24) 448 (fdOf K 448) := fun_of (fn_at s 23 rfl rfl) (fk_ok (allB_at g12 27 rfl)).1 (fk_ok (allB_at g12 27 rfl)).2.1
  have b23 : Binds K (fdOf K 448) ["script", "count"] [] := F23.binds (ps := ["script", "count"]) fun _ _ _ _ _ _ us hl => match us, hl with | [_, _], _ => rfl
  have F24 : Fun K "_law_draw" "_law_draw" (topS 25) 455 (fdOf K 455) := fun_of (fn_at s 24 rfl rfl) (fk_ok (allB_at g12 28 rfl)).1 (fk_ok (allB_at g12 28 rfl)).2.1
  have b24 : Binds K (fdOf K 455) ["draws", "bound"] [] := F24.binds (ps := ["draws", "bound"]) fun _ _ _ _ _ _ us hl => match us, hl with | [_, _], _ => rfl
  have F25 : Fun K "_law_pick" "_law_pick" (topS 26) 462 (fdOf K 462) := fun_of (fn_at s 25 rfl rfl) (fk_ok (allB_at g12 29 rfl)).1 (fk_ok (allB_at g12 29 rfl)).2.1
  have b25 : Binds K (fdOf K 462) ["draws", "row"] [] := F25.binds (ps := ["draws", "row"]) fun _ _ _ _ _ _ us hl => match us, hl with | [_, _], _ => rfl
  have F26 : Fun K "_law_links" "_law_links" (topS 27) 469 (fdOf K 469) := fun_of (fn_at s 26 rfl rfl) (fk_ok (allB_at g12 30 rfl)).1 (fk_ok (allB_at g12 30 rfl)).2.1
  have b26 : Binds K (fdOf K 469) ["kind", "rules"] [] := F26.binds (ps := ["kind", "rules"]) fun _ _ _ _ _ _ us hl => match us, hl with | [_, _], _ => rfl
  have F27 : Fun K "_law_names" "_law_names" (topS 28) 476 (fdOf K 476) := fun_of (fn_at s 27 rfl rfl) (fk_ok (allB_at g12 31 rfl)).1 (fk_ok (allB_at g12 31 rfl)).2.1
  have b27 : Binds K (fdOf K 476) ["kind"] [] := F27.binds (ps := ["kind"]) fun _ _ _ _ _ _ us hl => match us, hl with | [_], _ => rfl
  have F28 : Fun K "_law_rules" "_law_rules" (topS 29) 481 (fdOf K 481) := fun_of (fn_at s 28 rfl rfl) (fk_ok (allB_at g12 32 rfl)).1 (fk_ok (allB_at g12 32 rfl)).2.1
  have b28 : Binds K (fdOf K 481) ["draws"] [] := F28.binds (ps := ["draws"]) fun _ _ _ _ _ _ us hl => match us, hl with | [_], _ => rfl
  have F29 : Fun K "_law_schema" "_law_schema" (topS 30) 488 (fdOf K 488) := fun_of (fn_at s 29 rfl rfl) (fk_ok (allB_at g12 33 rfl)).1 (fk_ok (allB_at g12 33 rfl)).2.1
  have b29 : Binds K (fdOf K 488) ["rules", "needed"] [] := F29.binds (ps := ["rules", "needed"]) fun _ _ _ _ _ _ us hl => match us, hl with | [_, _], _ => rfl
  have F30 : Fun K "_law_number" "_law_number" (topS 31) 495 (fdOf K 495) := fun_of (fn_at s 30 rfl rfl) (fk_ok (allB_at g12 34 rfl)).1 (fk_ok (allB_at g12 34 rfl)).2.1
  have b30 : Binds K (fdOf K 495) ["draws"] [] := F30.binds (ps := ["draws"]) fun _ _ _ _ _ _ us hl => match us, hl with | [_], _ => rfl
  have F31 : Fun K "_law_list" "_law_list" (topS 32) 502 (fdOf K 502) := fun_of (fn_at s 31 rfl rfl) (fk_ok (allB_at g12 35 rfl)).1 (fk_ok (allB_at g12 35 rfl)).2.1
  have b31 : Binds K (fdOf K 502) ["draws"] [] := F31.binds (ps := ["draws"]) fun _ _ _ _ _ _ us hl => match us, hl with | [_], _ => rfl
  have F32 : Fun K "_law_contents" "_law_contents" (topS 33) 509 (fdOf K 509) := fun_of (fn_at s 32 rfl rfl) (fk_ok (allB_at g12 36 rfl)).1 (fk_ok (allB_at g12 36 rfl)).2.1
  have b32 : Binds K (fdOf K 509) ["draws", "kind"] [] := F32.binds (ps := ["draws", "kind"]) fun _ _ _ _ _ _ us hl => match us, hl with | [_, _], _ => rfl
  have F33 : Fun K "_law_picture" "_law_picture" (topS 34) 516 (fdOf K 516) := fun_of (fn_at s 33 rfl rfl) (fk_ok (allB_at g12 37 rfl)).1 (fk_ok (allB_at g12 37 rfl)).2.1
  have b33 : Binds K (fdOf K 516) ["draws"] [] := F33.binds (ps := ["draws"]) fun _ _ _ _ _ _ us hl => match us, hl with | [_], _ => rfl
  have F34 : Fun K "_law_there" "_law_there" (topS 35) 523 (fdOf K 523) := fun_of (fn_at s 34 rfl rfl) (fk_ok (allB_at g12 38 rfl)).1 (fk_ok (allB_at g12 38 rfl)).2.1
  have b34 : Binds K (fdOf K 523) ["picture", "kinds", "number"] [] := F34.binds (ps := ["picture", "kinds", "number"]) fun _ _ _ _ _ _ us hl => match us, hl with | [_, _, _], _ => rfl
  have F35 : Fun K "_law_told" "_law_told" (topS 36) 528 (fdOf K 528) := fun_of (fn_at s 35 rfl rfl) (fk_ok (allB_at g12 39 rfl)).1 (fk_ok (allB_at g12 39 rfl)).2.1
  have b35 : Binds K (fdOf K 528) ["picture", "rules", "thing", "name"] [] := F35.binds (ps := ["picture", "rules", "thing", "name"]) fun _ _ _ _ _ _ us hl => match us, hl with | [_, _, _, _], _ => rfl
  have F36 : Fun K "_law_shown" "_law_shown" (topS 37) 533 (fdOf K 533) := fun_of (fn_at s 36 rfl rfl) (fk_ok (allB_at g13 0 rfl)).1 (fk_ok (allB_at g13 0 rfl)).2.1
  have b36 : Binds K (fdOf K 533) ["picture"] [] := F36.binds (ps := ["picture"]) fun _ _ _ _ _ _ us hl => match us, hl with | [_], _ => rfl
  have F37 : Fun K "_law_holds" "_law_holds" (topS 38) 540 (fdOf K 540) := fun_of (fn_at s 37 rfl rfl) (fk_ok (allB_at g13 1 rfl)).1 (fk_ok (allB_at g13 1 rfl)).2.1
  have b37 : Binds K (fdOf K 540) ["content", "number"] [] := F37.binds (ps := ["content", "number"]) fun _ _ _ _ _ _ us hl => match us, hl with | [_, _], _ => rfl
  have F38 : Fun K "_law_contents_tell" "_law_contents_tell" (topS 39) 547 (fdOf K 547) := fun_of (fn_at s 38 rfl rfl) (fk_ok (allB_at g13 2 rfl)).1 (fk_ok (allB_at g13 2 rfl)).2.1
  have b38 : Binds K (fdOf K 547) ["schema", "picture", "rules"] [] := F38.binds (ps := ["schema", "picture", "rules"]) fun _ _ _ _ _ _ us hl => match us, hl with | [_, _, _], _ => rfl
  have F39 : Fun K "law" "law" (topS 40) 554 (fdOf K 554) := fun_of (fn_at s 39 rfl rfl) (fk_ok (allB_at g13 3 rfl)).1 (fk_ok (allB_at g13 3 rfl)).2.1
  have b39 : Binds K (fdOf K 554) ["script"] [] := F39.binds (ps := ["script"]) fun _ _ _ _ _ _ us hl => match us, hl with | [_], _ => rfl
  exact {
    b_int := PySem.W.mg_none_of X G (eqN_ok (allB_at g0 0 rfl)),
    b_isinstance := PySem.W.mg_none_of X G (eqN_ok (allB_at g0 1 rfl)),
    b_len := PySem.W.mg_none_of X G (eqN_ok (allB_at g0 2 rfl)),
    b_list := PySem.W.mg_none_of X G (eqN_ok (allB_at g0 3 rfl)),
    b_range := PySem.W.mg_none_of X G (eqN_ok (allB_at g0 4 rfl)),
    b_repr := PySem.W.mg_none_of X G (eqN_ok (allB_at g0 5 rfl)),
    b_sorted := PySem.W.mg_none_of X G (eqN_ok (allB_at g0 6 rfl)),
    g_IntSort := PySem.W.mg_of X G (eqR_ok (allB_at g0 7 rfl)),
    cl_IntSort := ⟨(allB_at g2 0 rfl), (allB_at g2 1 rfl), (allB_at g2 2 rfl), eqF_ok (allB_at g2 3 rfl)⟩,
    mk_IntSort := ⟨(allB_at g2 4 rfl), eqR_ok (allB_at g2 8 rfl), (fk_ok (allB_at g12 0 rfl)).2.2, (allB_at g2 5 rfl)⟩,
    na_IntSort_low := eqN_ok (allB_at g2 6 rfl),
    na_IntSort_high := eqN_ok (allB_at g2 7 rfl),
    ii_IntSort := fun H a dx fs e => .base (.ins e ⟨(allB_at g2 0 rfl), (allB_at g2 1 rfl), (allB_at g2 2 rfl), eqF_ok (allB_at g2 3 rfl)⟩ (eqF_ok (allB_at g2 9 rfl)) (eqF_ok (allB_at g11 0 rfl)) (eqB_ok (allB_at g11 1 rfl)) (eqB_ok (allB_at g2 10 rfl))),
    g_TextSort := PySem.W.mg_of X G (eqR_ok (allB_at g0 8 rfl)),
    cl_TextSort := ⟨(allB_at g3 0 rfl), (allB_at g3 1 rfl), (allB_at g3 2 rfl), eqF_ok (allB_at g3 3 rfl)⟩,
    mk_TextSort := ⟨(allB_at g3 4 rfl), eqR_ok (allB_at g3 8 rfl), (allB_at g12 3 rfl), (allB_at g3 5 rfl)⟩,
    na_TextSort_longest := eqN_ok (allB_at g3 6 rfl),
    na_TextSort_without := eqN_ok (allB_at g3 7 rfl),
    ii_TextSort := fun H a dx fs e => .base (.ins e ⟨(allB_at g3 0 rfl), (allB_at g3 1 rfl), (allB_at g3 2 rfl), eqF_ok (allB_at g3 3 rfl)⟩ (eqF_ok (allB_at g3 9 rfl)) (eqF_ok (allB_at g11 0 rfl)) (eqB_ok (allB_at g11 1 rfl)) (eqB_ok (allB_at g3 10 rfl))),
    g_RefSort := PySem.W.mg_of X G (eqR_ok (allB_at g0 9 rfl)),
    cl_RefSort := ⟨(allB_at g4 0 rfl), (allB_at g4 1 rfl), (allB_at g4 2 rfl), eqF_ok (allB_at g4 3 rfl)⟩,
    mk_RefSort := ⟨(allB_at g4 4 rfl), eqR_ok (allB_at g4 8 rfl), (fk_ok (allB_at g12 4 rfl)).2.2, (allB_at g4 5 rfl)⟩,
    na_RefSort_kinds := eqN_ok (allB_at g4 6 rfl),
    na_RefSort_rule := eqN_ok (allB_at g4 7 rfl),
    ii_RefSort := fun H a dx fs e => .base (.ins e ⟨(allB_at g4 0 rfl), (allB_at g4 1 rfl), (allB_at g4 2 rfl), eqF_ok (allB_at g4 3 rfl)⟩ (eqF_ok (allB_at g4 9 rfl)) (eqF_ok (allB_at g11 0 rfl)) (eqB_ok (allB_at g11 1 rfl)) (eqB_ok (allB_at g4 10 rfl))),
    g_ListSort := PySem.W.mg_of X G (eqR_ok (allB_at g0 10 rfl)),
    cl_ListSort := ⟨(allB_at g5 0 rfl), (allB_at g5 1 rfl), (allB_at g5 2 rfl), eqF_ok (allB_at g5 3 rfl)⟩,
    mk_ListSort := ⟨(allB_at g5 4 rfl), eqR_ok (allB_at g5 7 rfl), (fk_ok (allB_at g12 5 rfl)).2.2, (allB_at g5 5 rfl)⟩,
    na_ListSort_kinds := eqN_ok (allB_at g5 6 rfl),
    ii_ListSort := fun H a dx fs e => .base (.ins e ⟨(allB_at g5 0 rfl), (allB_at g5 1 rfl), (allB_at g5 2 rfl), eqF_ok (allB_at g5 3 rfl)⟩ (eqF_ok (allB_at g5 8 rfl)) (eqF_ok (allB_at g11 0 rfl)) (eqB_ok (allB_at g11 1 rfl)) (eqB_ok (allB_at g5 9 rfl))),
    g_Thing := PySem.W.mg_of X G (eqR_ok (allB_at g0 11 rfl)),
    cl_Thing := ⟨(allB_at g6 0 rfl), (allB_at g6 1 rfl), (allB_at g6 2 rfl), eqF_ok (allB_at g6 3 rfl)⟩,
    mk_Thing := ⟨(allB_at g6 4 rfl), eqR_ok (allB_at g6 8 rfl), (fk_ok (allB_at g12 6 rfl)).2.2, (allB_at g6 5 rfl)⟩,
    na_Thing_kind := eqN_ok (allB_at g6 6 rfl),
    na_Thing_contents := eqN_ok (allB_at g6 7 rfl),
    me_Thing_copied := ⟨eqR_ok (allB_at g6 9 rfl), (fk_ok (allB_at g12 7 rfl)).2.2, (fk_ok (allB_at g12 7 rfl)).2.1⟩,
    me_Thing___eq__ := ⟨eqR_ok (allB_at g6 10 rfl), (fk_ok (allB_at g12 8 rfl)).2.2, (fk_ok (allB_at g12 8 rfl)).2.1⟩,
    ii_Thing := fun H a dx fs e => .base (.ins e ⟨(allB_at g6 0 rfl), (allB_at g6 1 rfl), (allB_at g6 2 rfl), eqF_ok (allB_at g6 3 rfl)⟩ (eqF_ok (allB_at g6 11 rfl)) (eqF_ok (allB_at g11 0 rfl)) (eqB_ok (allB_at g11 1 rfl)) (eqB_ok (allB_at g6 12 rfl))),
    g_PictureSource := PySem.W.mg_of X G (eqR_ok (allB_at g0 12 rfl)),
    cl_PictureSource := ⟨(allB_at g7 0 rfl), (allB_at g7 1 rfl), (allB_at g7 2 rfl), eqF_ok (allB_at g7 3 rfl)⟩,
    mk_PictureSource := ⟨(allB_at g7 4 rfl), eqR_ok (allB_at g7 7 rfl), (fk_ok (allB_at g12 9 rfl)).2.2, (allB_at g7 5 rfl)⟩,
    na_PictureSource_things := eqN_ok (allB_at g7 6 rfl),
    me_PictureSource_thing := ⟨eqR_ok (allB_at g7 8 rfl), (fk_ok (allB_at g12 10 rfl)).2.2, (fk_ok (allB_at g12 10 rfl)).2.1⟩,
    g_Field := PySem.W.mg_of X G (eqR_ok (allB_at g0 13 rfl)),
    cl_Field := ⟨(allB_at g8 0 rfl), (allB_at g8 1 rfl), (allB_at g8 2 rfl), eqF_ok (allB_at g8 3 rfl)⟩,
    mk_Field := ⟨(allB_at g8 4 rfl), eqR_ok (allB_at g8 9 rfl), (allB_at g12 13 rfl), (allB_at g8 5 rfl)⟩,
    na_Field_name := eqN_ok (allB_at g8 6 rfl),
    na_Field_shape := eqN_ok (allB_at g8 7 rfl),
    na_Field_needed := eqN_ok (allB_at g8 8 rfl),
    g_Kind := PySem.W.mg_of X G (eqR_ok (allB_at g0 14 rfl)),
    cl_Kind := ⟨(allB_at g9 0 rfl), (allB_at g9 1 rfl), (allB_at g9 2 rfl), eqF_ok (allB_at g9 3 rfl)⟩,
    mk_Kind := ⟨(allB_at g9 4 rfl), eqR_ok (allB_at g9 9 rfl), (fk_ok (allB_at g12 14 rfl)).2.2, (allB_at g9 5 rfl)⟩,
    na_Kind_name := eqN_ok (allB_at g9 6 rfl),
    na_Kind_fields := eqN_ok (allB_at g9 7 rfl),
    na_Kind_key_rows := eqN_ok (allB_at g9 8 rfl),
    me_Kind_field_of := ⟨eqR_ok (allB_at g9 10 rfl), (fk_ok (allB_at g12 15 rfl)).2.2, (fk_ok (allB_at g12 15 rfl)).2.1⟩,
    g_Schema := PySem.W.mg_of X G (eqR_ok (allB_at g0 15 rfl)),
    cl_Schema := ⟨(allB_at g10 0 rfl), (allB_at g10 1 rfl), (allB_at g10 2 rfl), eqF_ok (allB_at g10 3 rfl)⟩,
    mk_Schema := ⟨(allB_at g10 4 rfl), eqR_ok (allB_at g10 7 rfl), (fk_ok (allB_at g12 16 rfl)).2.2, (allB_at g10 5 rfl)⟩,
    na_Schema_kinds := eqN_ok (allB_at g10 6 rfl),
    me_Schema_kind_of := ⟨eqR_ok (allB_at g10 8 rfl), (fk_ok (allB_at g12 17 rfl)).2.2, (fk_ok (allB_at g12 17 rfl)).2.1⟩,
    is_IntSort_RefSort := eqB_ok (allB_at g11 2 rfl),
    is_TextSort_RefSort := eqB_ok (allB_at g11 3 rfl),
    is_RefSort_RefSort := eqB_ok (allB_at g11 4 rfl),
    is_ListSort_RefSort := eqB_ok (allB_at g11 5 rfl),
    is_IntSort_ListSort := eqB_ok (allB_at g11 6 rfl),
    is_TextSort_ListSort := eqB_ok (allB_at g11 7 rfl),
    is_RefSort_ListSort := eqB_ok (allB_at g11 8 rfl),
    is_ListSort_ListSort := eqB_ok (allB_at g11 9 rfl),
    is_Thing_Thing := eqB_ok (allB_at g11 10 rfl),
    F_IntSort___init__ := F0,
    b_IntSort___init__ := b0,
    F_TextSort___init__ := F1,
    b_TextSort___init__ := b1,
    F_RefSort___init__ := F2,
    b_RefSort___init__ := b2,
    F_ListSort___init__ := F3,
    b_ListSort___init__ := b3,
    F_Thing___init__ := F4,
    b_Thing___init__ := b4,
    F_Thing_copied := F5,
    b_Thing_copied := b5,
    F_Thing___eq__ := F6,
    b_Thing___eq__ := b6,
    F_PictureSource___init__ := F7,
    b_PictureSource___init__ := b7,
    F_PictureSource_thing := F8,
    b_PictureSource_thing := b8,
    F_Field___init__ := F9,
    b_Field___init__ := b9,
    F_Kind___init__ := F10,
    b_Kind___init__ := b10,
    F_Kind_field_of := F11,
    b_Kind_field_of := b11,
    F_Schema___init__ := F12,
    b_Schema___init__ := b12,
    F_Schema_kind_of := F13,
    b_Schema_kind_of := b13,
    F_is_reference := F14,
    b_is_reference := b14,
    g_is_reference := PySem.W.mg_of X G (eqR_ok (allB_at g0 16 rfl)),
    F_is_list := F15,
    b_is_list := b15,
    g_is_list := PySem.W.mg_of X G (eqR_ok (allB_at g0 17 rfl)),
    F_blank := F16,
    b_blank := b16,
    g_blank := PySem.W.mg_of X G (eqR_ok (allB_at g0 18 rfl)),
    F_content_copy := F17,
    b_content_copy := b17,
    g_content_copy := PySem.W.mg_of X G (eqR_ok (allB_at g0 19 rfl)),
    F_blank_thing := F18,
    b_blank_thing := b18,
    g_blank_thing := PySem.W.mg_of X G (eqR_ok (allB_at g0 20 rfl)),
    F_holds_number := F19,
    b_holds_number := b19,
    g_holds_number := PySem.W.mg_of X G (eqR_ok (allB_at g0 21 rfl)),
    F_told_content := F20,
    b_told_content := b20,
    g_told_content := PySem.W.mg_of X G (eqR_ok (allB_at g0 22 rfl)),
    F_is_one_of := F21,
    b_is_one_of := b21,
    g_is_one_of := PySem.W.mg_of X G (eqR_ok (allB_at g0 23 rfl)),
    F_picture_copy := F22,
    b_picture_copy := b22,
    g_picture_copy := PySem.W.mg_of X G (eqR_ok (allB_at g0 24 rfl)),
    F__law_cells := F23,
    b__law_cells := b23,
    g__law_cells := PySem.W.mg_of X G (eqR_ok (allB_at g0 25 rfl)),
    F__law_draw := F24,
    b__law_draw := b24,
    g__law_draw := PySem.W.mg_of X G (eqR_ok (allB_at g0 26 rfl)),
    F__law_pick := F25,
    b__law_pick := b25,
    g__law_pick := PySem.W.mg_of X G (eqR_ok (allB_at g0 27 rfl)),
    F__law_links := F26,
    b__law_links := b26,
    g__law_links := PySem.W.mg_of X G (eqR_ok (allB_at g0 28 rfl)),
    F__law_names := F27,
    b__law_names := b27,
    g__law_names := PySem.W.mg_of X G (eqR_ok (allB_at g0 29 rfl)),
    F__law_rules := F28,
    b__law_rules := b28,
    g__law_rules := PySem.W.mg_of X G (eqR_ok (allB_at g0 30 rfl)),
    F__law_schema := F29,
    b__law_schema := b29,
    g__law_schema := PySem.W.mg_of X G (eqR_ok (allB_at g0 31 rfl)),
    F__law_number := F30,
    b__law_number := b30,
    g__law_number := PySem.W.mg_of X G (eqR_ok (allB_at g0 32 rfl)),
    F__law_list := F31,
    b__law_list := b31,
    g__law_list := PySem.W.mg_of X G (eqR_ok (allB_at g0 33 rfl)),
    F__law_contents := F32,
    b__law_contents := b32,
    g__law_contents := PySem.W.mg_of X G (eqR_ok (allB_at g0 34 rfl)),
    F__law_picture := F33,
    b__law_picture := b33,
    g__law_picture := PySem.W.mg_of X G (eqR_ok (allB_at g0 35 rfl)),
    F__law_there := F34,
    b__law_there := b34,
    g__law_there := PySem.W.mg_of X G (eqR_ok (allB_at g0 36 rfl)),
    F__law_told := F35,
    b__law_told := b35,
    g__law_told := PySem.W.mg_of X G (eqR_ok (allB_at g0 37 rfl)),
    F__law_shown := F36,
    b__law_shown := b36,
    g__law_shown := PySem.W.mg_of X G (eqR_ok (allB_at g0 38 rfl)),
    F__law_holds := F37,
    b__law_holds := b37,
    g__law_holds := PySem.W.mg_of X G (eqR_ok (allB_at g0 39 rfl)),
    F__law_contents_tell := F38,
    b__law_contents_tell := b38,
    g__law_contents_tell := PySem.W.mg_of X G (eqR_ok (allB_at g1 0 rfl)),
    F_law := F39,
    b_law := b39,
    isn_int_Thing := eqB_ok (allB_at g11 11 rfl),
    b1_TextSort___init__ := F1.binds1 (ps := ["self", "longest", "without"]) 2 0 (by simp) (by rfl) (fun _ _ _ _ _ _ _ us its h3 h4 => match us, its, h3, h4 with | [_, _], [_], _, _ => ⟨_, rfl, rfl⟩),
    b1_Field___init__ := F9.binds1 (ps := ["self", "name", "shape", "needed"]) 3 0 (by simp) (by rfl) (fun _ _ _ _ _ _ _ us its h3 h4 => match us, its, h3, h4 with | [_, _, _], [_], _, _ => ⟨_, rfl, rfl⟩),
    eqo_Thing := ⟨eqR_ok (allB_at g6 10 rfl), eqF_ok (allB_at g11 12 rfl), (fk_ok (allB_at g12 8 rfl)).2.2, eqB_ok (allB_at g11 13 rfl)⟩,
    sbi_Thing := eqB_ok (allB_at g11 14 rfl) }
theorem law_at {w : World} {K : PySem.W.Frag} {h : Heap} {mg : Str → Option Value} (X : K.In h) (G : h.Ns mainGlobals mg) (s : SaysH HD w K) : mg "law" = some (.ref (adr K).f_law) := by
  have E : exB K = true := s.ex
  have gA : allB (eA K) = true := allB_at E 0 rfl
  have gB : allB (eB K) = true := allB_at E 1 rfl
  have gC : allB (eC K) = true := allB_at E 2 rfl
  have gP : allB (eP K) = true := allB_at E 3 rfl
  have g1 : allB (e1 K) = true := allB_at gA 1 rfl
  exact PySem.W.mg_of X G (eqR_ok (allB_at g1 1 rfl))
end
end K39
open PySem PySem.W PySem.Calls PyProof.Rows in
set_option maxRecDepth 100000 in
set_option maxHeartbeats 0 in
theorem K39.endPre (hc : PySem.W.WalkO K39.qv K39.nms (PySem.W.XL K39.qv []) (Rn.hookH K39.HD).says (PySem.W.OpenLaw.row PySem.Challenge.rw_oneheap_k39_what_contents_tell).toRowW (HandSHeadRun.topDef (PySem.W.OpenLaw.row PySem.Challenge.rw_oneheap_k39_what_contents_tell).prog 40) [] (fun f vs => PySem.call f vs)) : PySem.Challenge.rw_oneheap_k39_what_contents_tell.Holds := by
  w_on; o_law
  refine Ct.head_cut (SF := K39.sT5) (r := PySem.W.OpenLaw.row PySem.Challenge.rw_oneheap_k39_what_contents_tell) (q := K39.qv) (H := Rn.hookH K39.HD) (ob := Rn.obH K39.HD) (M := 3730) (loose := K39.nms) (d := HandSHeadRun.topDef (PySem.W.OpenLaw.row PySem.Challenge.rw_oneheap_k39_what_contents_tell).prog 40) (kwd := []) (Rn.obH_eq K39.HD)
    (by kernel_rfl) (fun s => by kernel_rfl) K39.cTop K39.runH (by kernel_rfl) (by kernel_rfl) (by kernel_rfl) (by rfl) (by first | assumption | decide +kernel) (by decide +kernel) ⟨rfl, rfl, rfl, rfl, rfl, by decide +kernel⟩ ?hw hc
  case hw => w_witness2
namespace K39
open PySem PySem.Spec PyProof.Rows L2 Dv
set_option autoImplicit false
noncomputable section
section
variable {P : Program} {w : World} {K : PySem.W.Frag} {mg : Str → Option Value} {base : Heap} {A : Ad}
theorem fl_low (T : Txt K mg A) : FldOk K (S A) "low" fc_low := (Dv.fo_cons (show Cls K (S A 0) ∧ NoAttr K (S A 0) "low" from ⟨T.cl_IntSort, T.na_IntSort_low⟩) Dv.fo_nil)
theorem fl_high (T : Txt K mg A) : FldOk K (S A) "high" fc_high := (Dv.fo_cons (show Cls K (S A 0) ∧ NoAttr K (S A 0) "high" from ⟨T.cl_IntSort, T.na_IntSort_high⟩) Dv.fo_nil)
theorem fl_longest (T : Txt K mg A) : FldOk K (S A) "longest" fc_longest := (Dv.fo_cons (show Cls K (S A 1) ∧ NoAttr K (S A 1) "longest" from ⟨T.cl_TextSort, T.na_TextSort_longest⟩) Dv.fo_nil)
theorem fl_without (T : Txt K mg A) : FldOk K (S A) "without" fc_without := (Dv.fo_cons (show Cls K (S A 1) ∧ NoAttr K (S A 1) "without" from ⟨T.cl_TextSort, T.na_TextSort_without⟩) Dv.fo_nil)
theorem fl_kinds (T : Txt K mg A) : FldOk K (S A) "kinds" fc_kinds := (Dv.fo_cons (show Cls K (S A 2) ∧ NoAttr K (S A 2) "kinds" from ⟨T.cl_RefSort, T.na_RefSort_kinds⟩) (Dv.fo_cons (show Cls K (S A 3) ∧ NoAttr K (S A 3) "kinds" from ⟨T.cl_ListSort, T.na_ListSort_kinds⟩) (Dv.fo_cons (show Cls K (S A 8) ∧ NoAttr K (S A 8) "kinds" from ⟨T.cl_Schema, T.na_Schema_kinds⟩) Dv.fo_nil)))
theorem fl_rule (T : Txt K mg A) : FldOk K (S A) "rule" fc_rule := (Dv.fo_cons (show Cls K (S A 2) ∧ NoAttr K (S A 2) "rule" from ⟨T.cl_RefSort, T.na_RefSort_rule⟩) Dv.fo_nil)
theorem fl_kind (T : Txt K mg A) : FldOk K (S A) "kind" fc_kind := (Dv.fo_cons (show Cls K (S A 4) ∧ NoAttr K (S A 4) "kind" from ⟨T.cl_Thing, T.na_Thing_kind⟩) Dv.fo_nil)
theorem fl_contents (T : Txt K mg A) : FldOk K (S A) "contents" fc_contents := (Dv.fo_cons (show Cls K (S A 4) ∧ NoAttr K (S A 4) "contents" from ⟨T.cl_Thing, T.na_Thing_contents⟩) Dv.fo_nil)
theorem fl_things (T : Txt K mg A) : FldOk K (S A) "things" fc_things := (Dv.fo_cons (show Cls K (S A 5) ∧ NoAttr K (S A 5) "things" from ⟨T.cl_PictureSource, T.na_PictureSource_things⟩) Dv.fo_nil)
theorem fl_name (T : Txt K mg A) : FldOk K (S A) "name" fc_name := (Dv.fo_cons (show Cls K (S A 6) ∧ NoAttr K (S A 6) "name" from ⟨T.cl_Field, T.na_Field_name⟩) (Dv.fo_cons (show Cls K (S A 7) ∧ NoAttr K (S A 7) "name" from ⟨T.cl_Kind, T.na_Kind_name⟩) Dv.fo_nil))
theorem fl_shape (T : Txt K mg A) : FldOk K (S A) "shape" fc_shape := (Dv.fo_cons (show Cls K (S A 6) ∧ NoAttr K (S A 6) "shape" from ⟨T.cl_Field, T.na_Field_shape⟩) Dv.fo_nil)
theorem fl_needed (T : Txt K mg A) : FldOk K (S A) "needed" fc_needed := (Dv.fo_cons (show Cls K (S A 6) ∧ NoAttr K (S A 6) "needed" from ⟨T.cl_Field, T.na_Field_needed⟩) Dv.fo_nil)
theorem fl_fields (T : Txt K mg A) : FldOk K (S A) "fields" fc_fields := (Dv.fo_cons (show Cls K (S A 7) ∧ NoAttr K (S A 7) "fields" from ⟨T.cl_Kind, T.na_Kind_fields⟩) Dv.fo_nil)
theorem fl_key_rows (T : Txt K mg A) : FldOk K (S A) "key_rows" fc_key_rows := (Dv.fo_cons (show Cls K (S A 7) ∧ NoAttr K (S A 7) "key_rows" from ⟨T.cl_Kind, T.na_Kind_key_rows⟩) Dv.fo_nil)
theorem isk (T : Txt K mg A) : IsOk K (S A) isOO isOB isBT := ⟨(by
    intro c d b h
    unfold isOO at h
    split at h
    · cases h; exact ⟨T.ii_IntSort, T.is_IntSort_RefSort⟩
    · cases h; exact ⟨T.ii_TextSort, T.is_TextSort_RefSort⟩
    · cases h; exact ⟨T.ii_RefSort, T.is_RefSort_RefSort⟩
    · cases h; exact ⟨T.ii_ListSort, T.is_ListSort_RefSort⟩
    · cases h; exact ⟨T.ii_IntSort, T.is_IntSort_ListSort⟩
    · cases h; exact ⟨T.ii_TextSort, T.is_TextSort_ListSort⟩
    · cases h; exact ⟨T.ii_RefSort, T.is_RefSort_ListSort⟩
    · cases h; exact ⟨T.ii_ListSort, T.is_ListSort_ListSort⟩
    · cases h; exact ⟨T.ii_Thing, T.is_Thing_Thing⟩
    · cases h),
  fun _ _ _ e => (by cases e),
  (by
    intro c d b h
    unfold isBT at h
    split at h
    · cases h; exact T.isn_int_Thing
    · cases h)⟩
end
section
variable {P : Program} {w : World} {K : PySem.W.Frag} {mg : Str → Option Value} {base : Heap} {A : Ad}
theorem sc_IntSort___init__ : FnScope ["self", "low", "high"] ["self", "low", "high"] (defScope (inClass (topS 2) 0)) := ⟨rfl, rfl, rfl, by decide +kernel, rfl, by decide +kernel, by decide +kernel⟩
theorem ok_IntSort___init__ (T : Txt K mg A) : FnOk P w K mg base CX0 1 A.f_IntSort___init__ A.fd_IntSort___init__ ["self", "low", "high"] (spD K (S A) false 3 d_IntSort___init__) := by
  refine T.F_IntSort___init__.ok sc_IntSort___init__ (fun vs H Q E h => spD_len _ _ _ h) (fun cdv Ar outer s H vs Q E hr h => bodyD (N := ["self", "low", "high"]) (f := b_IntSort___init__) ?_ e_IntSort___init__ (by decide) h)
  exact (s_cons (s_fld (fl_low T) (pv 0) (q_vl (pv 1)) rfl)
 (s_one (s_fld (fl_high T) (pv 0) (q_vl (pv 2)) rfl)))
theorem sc_TextSort___init__ : FnScope ["self", "longest", "without"] ["self", "longest", "without"] (defScope (inClass (topS 3) 0)) := ⟨rfl, rfl, rfl, by decide +kernel, rfl, by decide +kernel, by decide +kernel⟩
theorem ok_TextSort___init__ (T : Txt K mg A) : FnOk P w K mg base CX0 1 A.f_TextSort___init__ A.fd_TextSort___init__ ["self", "longest", "without"] (spD K (S A) false 3 d_TextSort___init__) := by
  refine T.F_TextSort___init__.ok sc_TextSort___init__ (fun vs H Q E h => spD_len _ _ _ h) (fun cdv Ar outer s H vs Q E hr h => bodyD (N := ["self", "longest", "without"]) (f := b_TextSort___init__) ?_ e_TextSort___init__ (by decide) h)
  exact (s_cons (s_fld (fl_longest T) (pv 0) (q_vl (pv 1)) rfl)
 (s_one (s_fld (fl_without T) (pv 0) (q_vl (pv 2)) rfl)))
theorem sc_RefSort___init__ : FnScope ["self", "kinds", "rule"] ["self", "kinds", "rule"] (defScope (inClass (topS 4) 0)) := ⟨rfl, rfl, rfl, by decide +kernel, rfl, by decide +kernel, by decide +kernel⟩
theorem ok_RefSort___init__ (T : Txt K mg A) : FnOk P w K mg base CX0 1 A.f_RefSort___init__ A.fd_RefSort___init__ ["self", "kinds", "rule"] (spD K (S A) false 3 d_RefSort___init__) := by
  refine T.F_RefSort___init__.ok sc_RefSort___init__ (fun vs H Q E h => spD_len _ _ _ h) (fun cdv Ar outer s H vs Q E hr h => bodyD (N := ["self", "kinds", "rule"]) (f := b_RefSort___init__) ?_ e_RefSort___init__ (by decide) h)
  exact (s_cons (s_fld (fl_kinds T) (pv 0) (q_fr (qf_callTy (call_list_of) sc_list rfl T.b_list (by decide +kernel) (q_cons (q_vl (pv 1)) q_nil))) rfl)
 (s_one (s_fld (fl_rule T) (pv 0) (q_vl (pv 2)) rfl)))
theorem sc_ListSort___init__ : FnScope ["self", "kinds"] ["self", "kinds"] (defScope (inClass (topS 5) 0)) := ⟨rfl, rfl, rfl, by decide +kernel, rfl, by decide +kernel, by decide +kernel⟩
theorem ok_ListSort___init__ (T : Txt K mg A) : FnOk P w K mg base CX0 1 A.f_ListSort___init__ A.fd_ListSort___init__ ["self", "kinds"] (spD K (S A) false 2 d_ListSort___init__) := by
  refine T.F_ListSort___init__.ok sc_ListSort___init__ (fun vs H Q E h => spD_len _ _ _ h) (fun cdv Ar outer s H vs Q E hr h => bodyD (N := ["self", "kinds"]) (f := b_ListSort___init__) ?_ e_ListSort___init__ (by decide) h)
  exact (s_one (s_fld (fl_kinds T) (pv 0) (q_fr (qf_callTy (call_list_of) sc_list rfl T.b_list (by decide +kernel) (q_cons (q_vl (pv 1)) q_nil))) rfl))
theorem sc_is_reference : FnScope ["shape"] ["shape"] (defScope (topS 6)) := ⟨rfl, rfl, rfl, by decide +kernel, rfl, by decide +kernel, by decide +kernel⟩
theorem ok_is_reference (T : Txt K mg A) : FnOk P w K mg base CX0 1 A.f_is_reference A.fd_is_reference ["shape"] (spD K (S A) false 1 d_is_reference) := by
  refine T.F_is_reference.ok sc_is_reference (fun vs H Q E h => spD_len _ _ _ h) (fun cdv Ar outer s H vs Q E hr h => bodyD (N := ["shape"]) (f := b_is_reference) ?_ e_is_reference (by decide) h)
  exact (s_one (s_ret (q_callB call_isi (sc_is (isk T)) rfl T.b_isinstance (by decide +kernel) (q_cons (q_vl (pv 0)) (q_cons (q_c (pe_glob (v := .ref A.C_RefSort) rfl T.g_RefSort rfl) fun _ => rfl) q_nil)))))
theorem sc_is_list : FnScope ["shape"] ["shape"] (defScope (topS 7)) := ⟨rfl, rfl, rfl, by decide +kernel, rfl, by decide +kernel, by decide +kernel⟩
theorem ok_is_list (T : Txt K mg A) : FnOk P w K mg base CX0 1 A.f_is_list A.fd_is_list ["shape"] (spD K (S A) false 1 d_is_list) := by
  refine T.F_is_list.ok sc_is_list (fun vs H Q E h => spD_len _ _ _ h) (fun cdv Ar outer s H vs Q E hr h => bodyD (N := ["shape"]) (f := b_is_list) ?_ e_is_list (by decide) h)
  exact (s_one (s_ret (q_callB call_isi (sc_is (isk T)) rfl T.b_isinstance (by decide +kernel) (q_cons (q_vl (pv 0)) (q_cons (q_c (pe_glob (v := .ref A.C_ListSort) rfl T.g_ListSort rfl) fun _ => rfl) q_nil)))))
theorem sc_Thing___eq__ : FnScope ["self", "other"] ["self", "other"] (defScope (inClass (topS 10) 2)) := ⟨rfl, rfl, rfl, by decide +kernel, rfl, by decide +kernel, by decide +kernel⟩
theorem ok_Thing___eq__ (T : Txt K mg A) : FnOk P w K mg base CX0 1 A.f_Thing___eq__ A.fd_Thing___eq__ ["self", "other"] (spD K (S A) false 2 d_Thing___eq__) := by
  refine T.F_Thing___eq__.ok sc_Thing___eq__ (fun vs H Q E h => spD_len _ _ _ h) (fun cdv Ar outer s H vs Q E hr h => bodyD (N := ["self", "other"]) (f := b_Thing___eq__) ?_ e_Thing___eq__ (by decide) h)
  exact (s_one (s_ret (q_and (q_callB call_isi (sc_is (isk T)) rfl T.b_isinstance (by decide +kernel) (q_cons (q_vl (pv 1)) (q_cons (q_c (pe_glob (v := .ref A.C_Thing) rfl T.g_Thing rfl) fun _ => rfl) q_nil))) (q_and (q_cmp (opOr op_eq (op_eqD (u64 hr))) so_eq (q_fld (fl_kind T) (q_vl (pv 0)) rfl) (q_fld (fl_kind T) (q_vl (pv 1)) rfl) (nomark _)) (q_one (q_cmp (op_eqK (u80 hr)) so_eqK (q_fld (fl_contents T) (q_vl (pv 0)) rfl) (q_fld (fl_contents T) (q_vl (pv 1)) rfl) (nomark _)))))))
theorem sc_content_copy : FnScope ["content"] ["content"] (defScope (topS 11)) := ⟨rfl, rfl, rfl, by decide +kernel, rfl, by decide +kernel, by decide +kernel⟩
theorem ok_content_copy (T : Txt K mg A) : FnOk P w K mg base CX0 1 A.f_content_copy A.fd_content_copy ["content"] (spD K (S A) false 1 d_content_copy) := by
  refine T.F_content_copy.ok sc_content_copy (fun vs H Q E h => spD_len _ _ _ h) (fun cdv Ar outer s H vs Q E hr h => bodyD (N := ["content"]) (f := b_content_copy) ?_ e_content_copy (by decide) h)
  exact (s_one (s_ret (q_if (q_val (q_callB call_isi (sc_is (isk T)) rfl T.b_isinstance (by decide +kernel) (q_cons (q_vl (pv 0)) (q_cons (q_c (pe_bltn (v := .ty "list") rfl T.b_list (by decide +kernel) rfl) fun _ => rfl) q_nil)))) (q_fr (qf_callTy (call_list_of) sc_list rfl T.b_list (by decide +kernel) (q_cons (q_vl (pv 0)) q_nil))) (q_vl (pv 0)))))
theorem sc_holds_number : FnScope ["content", "number"] ["content", "number"] (defScope (topS 13)) := ⟨rfl, rfl, rfl, by decide +kernel, rfl, by decide +kernel, by decide +kernel⟩
theorem ok_holds_number (T : Txt K mg A) : FnOk P w K mg base CX0 1 A.f_holds_number A.fd_holds_number ["content", "number"] (spD K (S A) false 2 d_holds_number) := by
  refine T.F_holds_number.ok sc_holds_number (fun vs H Q E h => spD_len _ _ _ h) (fun cdv Ar outer s H vs Q E hr h => bodyD (N := ["content", "number"]) (f := b_holds_number) ?_ e_holds_number (by decide) h)
  exact (s_cons (s_if (q_val (q_callB call_isi (sc_is (isk T)) rfl T.b_isinstance (by decide +kernel) (q_cons (q_vl (pv 0)) (q_cons (q_c (pe_bltn (v := .ty "list") rfl T.b_list (by decide +kernel) rfl) fun _ => rfl) q_nil))))
 (s_one (s_ret (q_cmp (opOr op_in_seq (op_inD (u65 hr))) (so_or (so_in false) so_inD) (q_vl (pv 1)) (q_vl (pv 0)) (by rfl))))
 s_nil)
 (s_one (s_ret (q_cmp (opOr op_eq (op_eqD (u64 hr))) so_eq (q_vl (pv 0)) (q_vl (pv 1)) (nomark _)))))
theorem sc_PictureSource___init__ : FnScope ["self", "picture"] ["self", "picture"] (defScope (inClass (topS 18) 0)) := ⟨rfl, rfl, rfl, by decide +kernel, rfl, by decide +kernel, by decide +kernel⟩
theorem ok_PictureSource___init__ (T : Txt K mg A) : FnOk P w K mg base CX0 1 A.f_PictureSource___init__ A.fd_PictureSource___init__ ["self", "picture"] (spD K (S A) false 2 d_PictureSource___init__) := by
  refine T.F_PictureSource___init__.ok sc_PictureSource___init__ (fun vs H Q E h => spD_len _ _ _ h) (fun cdv Ar outer s H vs Q E hr h => bodyD (N := ["self", "picture"]) (f := b_PictureSource___init__) ?_ e_PictureSource___init__ (by decide) h)
  exact (s_one (s_fld (fl_things T) (pv 0) (q_vl (pv 1)) rfl))
theorem sc_PictureSource_thing : FnScope ["self", "number"] ["self", "number"] (defScope (inClass (topS 18) 1)) := ⟨rfl, rfl, rfl, by decide +kernel, rfl, by decide +kernel, by decide +kernel⟩
theorem ok_PictureSource_thing (T : Txt K mg A) : FnOk P w K mg base CX0 1 A.f_PictureSource_thing A.fd_PictureSource_thing ["self", "number"] (spD K (S A) false 2 d_PictureSource_thing) := by
  refine T.F_PictureSource_thing.ok sc_PictureSource_thing (fun vs H Q E h => spD_len _ _ _ h) (fun cdv Ar outer s H vs Q E hr h => bodyD (N := ["self", "number"]) (f := b_PictureSource_thing) ?_ e_PictureSource_thing (by decide) h)
  exact (s_one (s_ret (q_dget1 (u1 hr) (q_fld (fl_things T) (q_vl (pv 0)) rfl) (q_vl (pv 1)) ⟨rfl, rfl, rfl, rfl⟩)))
theorem sc_Field___init__ : FnScope ["self", "name", "shape", "needed"] ["self", "name", "shape", "needed"] (defScope (inClass (topS 20) 0)) := ⟨rfl, rfl, rfl, by decide +kernel, rfl, by decide +kernel, by decide +kernel⟩
theorem ok_Field___init__ (T : Txt K mg A) : FnOk P w K mg base CX0 1 A.f_Field___init__ A.fd_Field___init__ ["self", "name", "shape", "needed"] (spD K (S A) false 4 d_Field___init__) := by
  refine T.F_Field___init__.ok sc_Field___init__ (fun vs H Q E h => spD_len _ _ _ h) (fun cdv Ar outer s H vs Q E hr h => bodyD (N := ["self", "name", "shape", "needed"]) (f := b_Field___init__) ?_ e_Field___init__ (by decide) h)
  exact (s_cons (s_fld (fl_name T) (pv 0) (q_vl (pv 1)) rfl)
 (s_cons (s_fld (fl_shape T) (pv 0) (q_vl (pv 2)) rfl)
 (s_one (s_fld (fl_needed T) (pv 0) (q_vl (pv 3)) rfl))))
theorem sc_Kind___init__ : FnScope ["self", "name", "fields", "key_rows", "row"] ["self", "name", "fields", "key_rows"] (defScope (inClass (topS 21) 0)) := ⟨rfl, rfl, rfl, by decide +kernel, rfl, by decide +kernel, by decide +kernel⟩
theorem ok_Kind___init__ (T : Txt K mg A) : FnOk P w K mg base CX0 1 A.f_Kind___init__ A.fd_Kind___init__ ["self", "name", "fields", "key_rows"] (spD K (S A) false 4 d_Kind___init__) := by
  refine T.F_Kind___init__.ok sc_Kind___init__ (fun vs H Q E h => spD_len _ _ _ h) (fun cdv Ar outer s H vs Q E hr h => bodyD (N := ["self", "name", "fields", "key_rows", "row"]) (f := b_Kind___init__) ?_ e_Kind___init__ (by decide) h)
  exact (s_cons (s_fld (fl_name T) (pv 0) (q_vl (pv 1)) rfl)
 (s_cons (s_fld (fl_fields T) (pv 0) (q_fr (qf_callTy (call_list_of) sc_list rfl T.b_list (by decide +kernel) (q_cons (q_vl (pv 2)) q_nil))) rfl)
 (s_one (s_fld (fl_key_rows T) (pv 0) (q_fr (qf_lc (vs := [4]) rfl sc_Kind___init__.nd (i_seq (q_vl (pv 3))) (blkOk_by (own := [("row", 4)]) (N := ["self", "name", "fields", "key_rows", "row"]) (sc := defScope (inClass (topS 21) 0)) (by decide +kernel)) rfl (fun _ _ _ _ _ => (pg_name (i := 4) sc_Kind___init__.nd rfl (Or.inl rfl))) (Dv.g_name 4) (by decide) (fun _ _ _ _ _ => pts_nil) (fun _ _ _ h => yes_ok h) (fun _ _ _ _ _ => by exact (q_fr (qf_callTy (call_list_of) sc_list rfl T.b_list (by decide +kernel) (q_cons (q_vl (pv 4)) q_nil)))))) rfl))))
theorem sc_Kind_field_of : FnScope ["self", "name", "field"] ["self", "name"] (defScope (inClass (topS 21) 1)) := ⟨rfl, rfl, rfl, by decide +kernel, rfl, by decide +kernel, by decide +kernel⟩
theorem ok_Kind_field_of (T : Txt K mg A) : FnOk P w K mg base CX0 1 A.f_Kind_field_of A.fd_Kind_field_of ["self", "name"] (spD K (S A) false 2 d_Kind_field_of) := by
  refine T.F_Kind_field_of.ok sc_Kind_field_of (fun vs H Q E h => spD_len _ _ _ h) (fun cdv Ar outer s H vs Q E hr h => bodyD (N := ["self", "name", "field"]) (f := b_Kind_field_of) ?_ e_Kind_field_of (by decide) h)
  exact (s_cons (s_for PassesOwn.never rfl (i_seq (q_fld (fl_fields T) (q_vl (pv 0)) rfl)) (pg_name (i := 2) sc_Kind_field_of.nd rfl (.inl rfl)) (Dv.g_name 2)
 (s_one (s_if (q_cmpT (opOr op_eq (op_eqD (u64 hr))) so_eq (q_fld (fl_name T) (q_vl (pv 2)) rfl) (q_vl (pv 1)) (nomark _))
 (s_one (s_ret (q_vl (pv 2))))
 s_nil)))
 (s_one (s_ret (q_c pe_non fun _ => rfl))))
theorem sc_Schema___init__ : FnScope ["self", "kinds"] ["self", "kinds"] (defScope (inClass (topS 22) 0)) := ⟨rfl, rfl, rfl, by decide +kernel, rfl, by decide +kernel, by decide +kernel⟩
theorem ok_Schema___init__ (T : Txt K mg A) : FnOk P w K mg base CX0 1 A.f_Schema___init__ A.fd_Schema___init__ ["self", "kinds"] (spD K (S A) false 2 d_Schema___init__) := by
  refine T.F_Schema___init__.ok sc_Schema___init__ (fun vs H Q E h => spD_len _ _ _ h) (fun cdv Ar outer s H vs Q E hr h => bodyD (N := ["self", "kinds"]) (f := b_Schema___init__) ?_ e_Schema___init__ (by decide) h)
  exact (s_one (s_fld (fl_kinds T) (pv 0) (q_fr (qf_callTy (call_list_of) sc_list rfl T.b_list (by decide +kernel) (q_cons (q_vl (pv 1)) q_nil))) rfl))
theorem sc_Schema_kind_of : FnScope ["self", "name", "kind"] ["self", "name"] (defScope (inClass (topS 22) 1)) := ⟨rfl, rfl, rfl, by decide +kernel, rfl, by decide +kernel, by decide +kernel⟩
theorem ok_Schema_kind_of (T : Txt K mg A) : FnOk P w K mg base CX0 1 A.f_Schema_kind_of A.fd_Schema_kind_of ["self", "name"] (spD K (S A) false 2 d_Schema_kind_of) := by
  refine T.F_Schema_kind_of.ok sc_Schema_kind_of (fun vs H Q E h => spD_len _ _ _ h) (fun cdv Ar outer s H vs Q E hr h => bodyD (N := ["self", "name", "kind"]) (f := b_Schema_kind_of) ?_ e_Schema_kind_of (by decide) h)
  exact (s_cons (s_for PassesOwn.never rfl (i_seq (q_fld (fl_kinds T) (q_vl (pv 0)) rfl)) (pg_name (i := 2) sc_Schema_kind_of.nd rfl (.inl rfl)) (Dv.g_name 2)
 (s_one (s_if (q_cmpT (opOr op_eq (op_eqD (u64 hr))) so_eq (q_fld (fl_name T) (q_vl (pv 2)) rfl) (q_vl (pv 1)) (nomark _))
 (s_one (s_ret (q_vl (pv 2))))
 s_nil)))
 (s_one (s_ret (q_c pe_non fun _ => rfl))))
theorem sc__law_cells : FnScope ["script", "count", "cells", "k", "cell"] ["script", "count"] (defScope (topS 24)) := ⟨rfl, rfl, rfl, by decide +kernel, rfl, by decide +kernel, by decide +kernel⟩
theorem ok__law_cells (T : Txt K mg A) : FnOk P w K mg base CX0 1 A.f__law_cells A.fd__law_cells ["script", "count"] (spD K (S A) true 2 d__law_cells) := by
  refine T.F__law_cells.ok sc__law_cells (fun vs H Q E h => spD_len _ _ _ h) (fun cdv Ar outer s H vs Q E hr h => bodyD (N := ["script", "count", "cells", "k", "cell"]) (f := b__law_cells) ?_ e__law_cells (by decide) h)
  exact (s_cons (s_box (i := 2) sc__law_cells.nd rfl (.inl rfl) (qf_lst q_nil))
 (s_cons (s_for PassesOwn.never rfl (i_rng1 rfl T.b_range (q_cons (q_vl (pv 1)) q_nil)) (pg_name (i := 3) sc__law_cells.nd rfl (.inl rfl)) (Dv.g_name 3)
 (s_cons (s_set (i := 4) sc__law_cells.nd rfl (.inl rfl) (q_op (opOr op_add (opOr op_add_str op_cat)) so_add (q_op op_mul so_mul (q_c pe_int fun _ => rfl) (q_vl (pv 3))) (q_c pe_int fun _ => rfl)))
 (s_cons (s_if (q_cmpT (opOr op_lt op_lt_str) so_cmp (q_vl (pv 3)) (q_callB call_len sc_len rfl T.b_len (by decide +kernel) (q_cons (q_vl (pv 0)) q_nil)) (nomark _))
 (s_cons (s_set (i := 4) sc__law_cells.nd rfl (.inl rfl) (q_callTy call_int1 sc_int rfl T.b_int (by decide +kernel) (q_cons (q_ix ix_seq so_ix (q_vl (pv 0)) (q_vl (pv 3)) (fun _ _ => rfl)) q_nil)))
 (s_one (s_if (q_cmpT (opOr op_lt op_lt_str) so_cmp (q_vl (pv 4)) (q_c pe_int fun _ => rfl) (nomark _))
 (s_one (s_set (i := 4) sc__law_cells.nd rfl (.inl rfl) (q_op op_sub so_sub (q_c pe_int fun _ => rfl) (q_op op_mul so_mul (q_c pe_int fun _ => rfl) (q_vl (pv 4))))))
 s_nil)))
 s_nil)
 (s_cons (s_if (q_cmpT (opOr op_lt op_lt_str) so_cmp (q_vl (pv 4)) (q_c pe_int fun _ => rfl) (nomark _))
 (s_cons (s_set (i := 4) sc__law_cells.nd rfl (.inl rfl) (q_op op_modN so_mod (q_callTy call_int1 sc_int rfl T.b_int (by decide +kernel) (q_cons (q_op (opOr op_add (opOr op_add_str op_cat)) so_add (q_op (opOr op_add (opOr op_add_str op_cat)) so_add (q_op op_mul so_mul (q_callTy call_int1 sc_int rfl T.b_int (by decide +kernel) (q_cons (q_vl (pv 4)) q_nil)) (q_c pe_int fun _ => rfl)) (q_op op_mul so_mul (q_c pe_int fun _ => rfl) (q_vl (pv 3)))) (q_c pe_int fun _ => rfl)) q_nil)) (q_c pe_int fun _ => rfl)))
 (s_one (s_set (i := 4) sc__law_cells.nd rfl (.inl rfl) (q_op op_modN so_mod (q_callTy call_int1 sc_int rfl T.b_int (by decide +kernel) (q_cons (q_op (opOr op_add (opOr op_add_str op_cat)) so_add (q_op op_mul so_mul (q_callTy call_int1 sc_int rfl T.b_int (by decide +kernel) (q_cons (q_vl (pv 4)) q_nil)) (q_c pe_int fun _ => rfl)) (q_c pe_int fun _ => rfl)) q_nil)) (q_c pe_int fun _ => rfl)))))
 s_nil)
 (s_one (s_expr (q_own PySem.F.plainAttrs_list PySem.F.slot_list_append PySem.F.type_list_append mt_append sm_app (pv 2) (q_cons (q_vl (pv 4)) q_nil))))))))
 (s_one (s_retV (pv 2)))))
theorem sc__law_draw : FnScope ["draws", "bound", "amount"] ["draws", "bound"] (defScope (topS 25)) := ⟨rfl, rfl, rfl, by decide +kernel, rfl, by decide +kernel, by decide +kernel⟩
theorem ok__law_draw (T : Txt K mg A) : FnOk P w K mg base CX0 1 A.f__law_draw A.fd__law_draw ["draws", "bound"] (spD K (S A) false 2 d__law_draw) := by
  refine T.F__law_draw.ok sc__law_draw (fun vs H Q E h => spD_len _ _ _ h) (fun cdv Ar outer s H vs Q E hr h => bodyD (N := ["draws", "bound", "amount"]) (f := b__law_draw) ?_ e__law_draw (by decide) h)
  exact (s_cons (s_if (q_pt (q_wand (q_borT (q_cmpT (opOr op_eq (op_eqD (u64 hr))) so_eq (q_ix ix_seq so_ix (q_vl (pv 0)) (q_c pe_int fun _ => rfl) (fun _ _ => rfl)) (q_c pe_int fun _ => rfl) (nomark _))) (q_wand1 (q_borT (q_cmpT (opOr op_gt op_gt_str) so_cmp (q_callB call_len sc_len rfl T.b_len (by decide +kernel) (q_cons (q_vl (pv 0)) q_nil)) (q_c pe_int fun _ => rfl) (nomark _))))))
 (s_one (s_expr (q_own PySem.F.plainAttrs_list PySem.F.slot_list_pop PySem.F.type_list_pop mt_popAt sm_popAt (pv 0) (q_cons (q_c pe_int fun _ => rfl) q_nil))))
 s_nil)
 (s_cons (s_set (i := 2) sc__law_draw.nd rfl (.inl rfl) (q_bor (q_op op_modN so_mod (q_callTy call_int1 sc_int rfl T.b_int (by decide +kernel) (q_cons (q_ix ix_seq so_ix (q_vl (pv 0)) (q_c pe_int fun _ => rfl) (fun _ _ => rfl)) q_nil)) (q_vl (pv 1)))))
 (s_cons (s_setIx (pv 0) (q_c pe_int fun _ => rfl) (q_bor (q_op op_fdivN so_fdv (q_ix ix_seq so_ix (q_vl (pv 0)) (q_c pe_int fun _ => rfl) (fun _ _ => rfl)) (q_vl (pv 1)))) (pg_sub (pv 0) (q_c pe_int fun _ => rfl) set_list))
 (s_one (s_ret (q_vl (pv 2)))))))
theorem sc__law_links : FnScope ["kind", "rules"] ["kind", "rules"] (defScope (topS 27)) := ⟨rfl, rfl, rfl, by decide +kernel, rfl, by decide +kernel, by decide +kernel⟩
theorem ok__law_links (T : Txt K mg A) : FnOk P w K mg base CX0 1 A.f__law_links A.fd__law_links ["kind", "rules"] (spD K (S A) false 2 d__law_links) := by
  refine T.F__law_links.ok sc__law_links (fun vs H Q E h => spD_len _ _ _ h) (fun cdv Ar outer s H vs Q E hr h => bodyD (N := ["kind", "rules"]) (f := b__law_links) ?_ e__law_links (by decide) h)
  exact (s_cons (s_if (q_cmpT (opOr op_eq (op_eqD (u64 hr))) so_eq (q_vl (pv 0)) (q_c pe_str fun _ => rfl) (nomark _))
 (s_one (s_ret (q_fr (qf_lst (q_cons (q_tup (q_cons (q_c pe_str fun _ => rfl) (q_cons (q_fr (qf_lst (q_cons (q_c pe_str fun _ => rfl) (q_cons (q_c pe_str fun _ => rfl) q_nil)))) (q_cons (q_ix ix_seq so_ix (q_vl (pv 1)) (q_c pe_int fun _ => rfl) (fun _ _ => rfl)) q_nil)))) (q_cons (q_tup (q_cons (q_c pe_str fun _ => rfl) (q_cons (q_fr (qf_lst (q_cons (q_c pe_str fun _ => rfl) q_nil))) (q_cons (q_c pe_str fun _ => rfl) q_nil)))) q_nil))))))
 s_nil)
 (s_one (s_ret (q_fr (qf_lst (q_cons (q_tup (q_cons (q_c pe_str fun _ => rfl) (q_cons (q_fr (qf_lst (q_cons (q_c pe_str fun _ => rfl) q_nil))) (q_cons (q_ix ix_seq so_ix (q_vl (pv 1)) (q_c pe_int fun _ => rfl) (fun _ _ => rfl)) q_nil)))) (q_cons (q_tup (q_cons (q_c pe_str fun _ => rfl) (q_cons (q_fr (qf_lst (q_cons (q_c pe_str fun _ => rfl) q_nil))) (q_cons (q_ix ix_seq so_ix (q_vl (pv 1)) (q_c pe_int fun _ => rfl) (fun _ _ => rfl)) q_nil)))) (q_cons (q_tup (q_cons (q_c pe_str fun _ => rfl) (q_cons (q_fr (qf_lst (q_cons (q_c pe_str fun _ => rfl) (q_cons (q_c pe_str fun _ => rfl) q_nil)))) (q_cons (q_c pe_str fun _ => rfl) q_nil)))) q_nil))))))))
theorem sc__law_names : FnScope ["kind"] ["kind"] (defScope (topS 28)) := ⟨rfl, rfl, rfl, by decide +kernel, rfl, by decide +kernel, by decide +kernel⟩
theorem ok__law_names (T : Txt K mg A) : FnOk P w K mg base CX0 1 A.f__law_names A.fd__law_names ["kind"] (spD K (S A) false 1 d__law_names) := by
  refine T.F__law_names.ok sc__law_names (fun vs H Q E h => spD_len _ _ _ h) (fun cdv Ar outer s H vs Q E hr h => bodyD (N := ["kind"]) (f := b__law_names) ?_ e__law_names (by decide) h)
  exact (s_cons (s_if (q_cmpT (opOr op_eq (op_eqD (u64 hr))) so_eq (q_vl (pv 0)) (q_c pe_str fun _ => rfl) (nomark _))
 (s_one (s_ret (q_fr (qf_lst (q_cons (q_c pe_str fun _ => rfl) (q_cons (q_c pe_str fun _ => rfl) (q_cons (q_c pe_str fun _ => rfl) (q_cons (q_c pe_str fun _ => rfl) q_nil))))))))
 s_nil)
 (s_one (s_ret (q_fr (qf_lst (q_cons (q_c pe_str fun _ => rfl) (q_cons (q_c pe_str fun _ => rfl) (q_cons (q_c pe_str fun _ => rfl) q_nil))))))))
theorem sc__law_there : FnScope ["picture", "kinds", "number"] ["picture", "kinds", "number"] (defScope (topS 35)) := ⟨rfl, rfl, rfl, by decide +kernel, rfl, by decide +kernel, by decide +kernel⟩
theorem ok__law_there (T : Txt K mg A) : FnOk P w K mg base CX0 1 A.f__law_there A.fd__law_there ["picture", "kinds", "number"] (spD K (S A) false 3 d__law_there) := by
  refine T.F__law_there.ok sc__law_there (fun vs H Q E h => spD_len _ _ _ h) (fun cdv Ar outer s H vs Q E hr h => bodyD (N := ["picture", "kinds", "number"]) (f := b__law_there) ?_ e__law_there (by decide) h)
  exact (s_one (s_ret (q_and (q_cmp op_notN so_isnt (q_vl (pv 2)) (q_c pe_non fun _ => rfl) (nomark _)) (q_and (q_din (u1 hr) (q_vl (pv 2)) (q_vl (pv 0))) (q_one (q_cmp (opOr op_in_seq (op_inD (u65 hr))) (so_or (so_in false) so_inD) (q_fld (fl_kind T) (q_dget (u1 hr) (q_vl (pv 0)) (q_vl (pv 2)) (fun _ _ => rfl)) rfl) (q_vl (pv 1)) (by rfl)))))))
theorem sc__law_shown : FnScope ["picture", "number"] ["picture"] (defScope (topS 37)) := ⟨rfl, rfl, rfl, by decide +kernel, rfl, by decide +kernel, by decide +kernel⟩
theorem ok__law_shown (T : Txt K mg A) : FnG P w K mg base CX0 1 A.f__law_shown A.fd__law_shown ["picture"] (spD K (S A) false 1 d__law_shown) := by
  refine okG T.F__law_shown sc__law_shown (fun vs H Q E h => spD_len _ _ _ h) (fun cdv Ar gd outer s H vs Q E hr h => bodyD (N := ["picture", "number"]) (f := b__law_shown) ?_ e__law_shown (by decide) h)
  exact (s_one (s_ret (q_fr (qf_lc (vs := [1]) rfl sc__law_shown.nd (i_seq (q_fr (qf_callB (cr_sortedI) sc_sorted rfl T.b_sorted (by decide +kernel) (q_cons (q_fr (qf_callTy (call_listD rfl) sc_listD rfl T.b_list (by decide +kernel) (q_cons (q_vl (pv 0)) q_nil))) q_nil)))) (blkOk_by (own := [("number", 1)]) (N := ["picture", "number"]) (sc := defScope (topS 37)) (by decide +kernel)) rfl (fun _ _ _ _ _ => (pg_name (i := 1) sc__law_shown.nd rfl (Or.inl rfl))) (Dv.g_name 1) (by decide) (fun _ _ _ _ _ => pts_nil) (fun _ _ _ h => yes_ok h) (fun _ _ _ _ _ => by exact (q_tup (q_cons (q_vl (pv 1)) (q_cons (q_fld (fl_kind T) (q_dget (u1 hr) (q_vl (pv 0)) (q_vl (pv 1)) (fun _ _ => rfl)) rfl) (q_cons (q_callB (call_reprD gd (u80 hr)) sc_repr rfl T.b_repr (by decide +kernel) (q_cons (q_fld (fl_contents T) (q_dget (u1 hr) (q_vl (pv 0)) (q_vl (pv 1)) (fun _ _ => rfl)) rfl) q_nil)) q_nil)))))))))
theorem sc__law_holds : FnScope ["content", "number"] ["content", "number"] (defScope (topS 38)) := ⟨rfl, rfl, rfl, by decide +kernel, rfl, by decide +kernel, by decide +kernel⟩
theorem ok__law_holds (T : Txt K mg A) : FnOk P w K mg base CX0 1 A.f__law_holds A.fd__law_holds ["content", "number"] (spD K (S A) false 2 d__law_holds) := by
  refine T.F__law_holds.ok sc__law_holds (fun vs H Q E h => spD_len _ _ _ h) (fun cdv Ar outer s H vs Q E hr h => bodyD (N := ["content", "number"]) (f := b__law_holds) ?_ e__law_holds (by decide) h)
  exact (s_cons (s_if (q_val (q_callB call_isi (sc_is (isk T)) rfl T.b_isinstance (by decide +kernel) (q_cons (q_vl (pv 0)) (q_cons (q_c (pe_bltn (v := .ty "list") rfl T.b_list (by decide +kernel) rfl) fun _ => rfl) q_nil))))
 (s_one (s_ret (q_cmp (opOr op_in_seq (op_inD (u65 hr))) (so_or (so_in false) so_inD) (q_vl (pv 1)) (q_vl (pv 0)) (by rfl))))
 s_nil)
 (s_one (s_ret (q_and (q_callB call_isi (sc_is (isk T)) rfl T.b_isinstance (by decide +kernel) (q_cons (q_vl (pv 0)) (q_cons (q_c (pe_bltn (v := .ty "int") rfl T.b_int (by decide +kernel) rfl) fun _ => rfl) q_nil))) (q_one (q_cmp (opOr op_eq (op_eqD (u64 hr))) so_eq (q_vl (pv 0)) (q_vl (pv 1)) (nomark _)))))))
theorem sc_blank : FnScope ["shape"] ["shape"] (defScope (topS 8)) := ⟨rfl, rfl, rfl, by decide +kernel, rfl, by decide +kernel, by decide +kernel⟩
theorem ok_blank (T : Txt K mg A) : FnOk P w K mg base CX0 2 A.f_blank A.fd_blank ["shape"] (spD K (S A) false 1 d_blank) := by
  refine T.F_blank.ok sc_blank (fun vs H Q E h => spD_len _ _ _ h) (fun cdv Ar outer s H vs Q E hr h => bodyD (N := ["shape"]) (f := b_blank) ?_ e_blank (by decide) h)
  exact (s_one (s_ret (q_if (q_val (q_call (ok_is_list T) (hr.mono (by decide)) (by rfl) T.g_is_list T.F_is_list.kp T.b_is_list pass0 (g_val (q_vl (pv 0)) g_nil))) (q_fr (qf_lst q_nil)) (q_c pe_non fun _ => rfl))))
theorem sc_Thing___init__ : FnScope ["self", "kind", "contents", "name", "content"] ["self", "kind", "contents"] (defScope (inClass (topS 10) 0)) := ⟨rfl, rfl, rfl, by decide +kernel, rfl, by decide +kernel, by decide +kernel⟩
theorem ok_Thing___init__ (T : Txt K mg A) : FnOk P w K mg base CX0 2 A.f_Thing___init__ A.fd_Thing___init__ ["self", "kind", "contents"] (spD K (S A) false 3 d_Thing___init__) := by
  refine T.F_Thing___init__.ok sc_Thing___init__ (fun vs H Q E h => spD_len _ _ _ h) (fun cdv Ar outer s H vs Q E hr h => bodyD (N := ["self", "kind", "contents", "name", "content"]) (f := b_Thing___init__) ?_ e_Thing___init__ (by decide) h)
  exact (s_cons (s_fld (fl_kind T) (pv 0) (q_vl (pv 1)) rfl)
 (s_one (s_fld (fl_contents T) (pv 0) (q_fr (qf_dcD (vs := [3, 4]) rfl sc_Thing___init__.nd (pi_items (pv 2)) wk_items Dv.p_slot (blkOk_by (own := [("name", 3), ("content", 4)]) (N := ["self", "kind", "contents", "name", "content"]) (sc := defScope (inClass (topS 10) 0)) (by decide +kernel)) rfl (fun _ _ _ _ _ => (pg_tup rfl (pgs_cons (pg_name (i := 3) sc_Thing___init__.nd rfl (Or.inl rfl)) (pgs_cons (pg_name (i := 4) sc_Thing___init__.nd rfl (Or.inl rfl)) pgs_nil)))) (Dv.g_tup (gs_cons (Dv.g_name 3) (gs_cons (Dv.g_name 4) gs_nil))) (by decide) (fun _ _ _ _ _ => pts_nil) (fun _ _ _ h => yes_ok h) (fun _ _ _ _ _ => by exact (q_vl (pv 3))) (fun _ _ _ _ _ => by exact (q_call (ok_content_copy T) (hr.mono (by decide)) (by rfl) T.g_content_copy T.F_content_copy.kp T.b_content_copy pass0 (g_val (q_vl (pv 4)) g_nil))))) rfl)))
theorem sc__law_pick : FnScope ["draws", "row"] ["draws", "row"] (defScope (topS 26)) := ⟨rfl, rfl, rfl, by decide +kernel, rfl, by decide +kernel, by decide +kernel⟩
theorem ok__law_pick (T : Txt K mg A) : FnOk P w K mg base CX0 2 A.f__law_pick A.fd__law_pick ["draws", "row"] (spD K (S A) false 2 d__law_pick) := by
  refine T.F__law_pick.ok sc__law_pick (fun vs H Q E h => spD_len _ _ _ h) (fun cdv Ar outer s H vs Q E hr h => bodyD (N := ["draws", "row"]) (f := b__law_pick) ?_ e__law_pick (by decide) h)
  exact (s_one (s_ret (q_ix ix_seq so_ix (q_vl (pv 1)) (q_call (ok__law_draw T) (hr.mono (by decide)) (by rfl) T.g__law_draw T.F__law_draw.kp T.b__law_draw pass0 (g_slot (pv 0) (g_val (q_callB call_len sc_len rfl T.b_len (by decide +kernel) (q_cons (q_vl (pv 1)) q_nil)) g_nil))) (fun _ _ => rfl))))
theorem sc__law_number : FnScope ["draws", "digit"] ["draws"] (defScope (topS 31)) := ⟨rfl, rfl, rfl, by decide +kernel, rfl, by decide +kernel, by decide +kernel⟩
theorem ok__law_number (T : Txt K mg A) : FnOk P w K mg base CX0 2 A.f__law_number A.fd__law_number ["draws"] (spD K (S A) false 1 d__law_number) := by
  refine T.F__law_number.ok sc__law_number (fun vs H Q E h => spD_len _ _ _ h) (fun cdv Ar outer s H vs Q E hr h => bodyD (N := ["draws", "digit"]) (f := b__law_number) ?_ e__law_number (by decide) h)
  exact (s_cons (s_set (i := 1) sc__law_number.nd rfl (.inl rfl) (q_call (ok__law_draw T) (hr.mono (by decide)) (by rfl) T.g__law_draw T.F__law_draw.kp T.b__law_draw pass0 (g_slot (pv 0) (g_val (q_c pe_int fun _ => rfl) g_nil))))
 (s_cons (s_if (q_cmpT (opOr op_eq (op_eqD (u64 hr))) so_eq (q_vl (pv 1)) (q_c pe_int fun _ => rfl) (nomark _))
 (s_one (s_ret (q_c pe_non fun _ => rfl)))
 s_nil)
 (s_one (s_ret (q_vl (pv 1))))))
theorem sc__law_list : FnScope ["draws", "row", "_law_turn", "digit"] ["draws"] (defScope (topS 32)) := ⟨rfl, rfl, rfl, by decide +kernel, rfl, by decide +kernel, by decide +kernel⟩
theorem ok__law_list (T : Txt K mg A) : FnOk P w K mg base CX0 2 A.f__law_list A.fd__law_list ["draws"] (spD K (S A) false 1 d__law_list) := by
  refine T.F__law_list.ok sc__law_list (fun vs H Q E h => spD_len _ _ _ h) (fun cdv Ar outer s H vs Q E hr h => bodyD (N := ["draws", "row", "_law_turn", "digit"]) (f := b__law_list) ?_ e__law_list (by decide) h)
  exact (s_cons (s_box (i := 1) sc__law_list.nd rfl (.inl rfl) (qf_lst q_nil))
 (s_cons (s_for PassesOwn.never rfl (i_rng1 rfl T.b_range (q_cons (q_call (ok__law_draw T) (hr.mono (by decide)) (by rfl) T.g__law_draw T.F__law_draw.kp T.b__law_draw pass0 (g_slot (pv 0) (g_val (q_c pe_int fun _ => rfl) g_nil))) q_nil)) (pg_name (i := 2) sc__law_list.nd rfl (.inl rfl)) (Dv.g_name 2)
 (s_cons (s_set (i := 3) sc__law_list.nd rfl (.inl rfl) (q_op (opOr op_add (opOr op_add_str op_cat)) so_add (q_c pe_int fun _ => rfl) (q_call (ok__law_draw T) (hr.mono (by decide)) (by rfl) T.g__law_draw T.F__law_draw.kp T.b__law_draw pass0 (g_slot (pv 0) (g_val (q_c pe_int fun _ => rfl) g_nil)))))
 (s_one (s_if (q_borT (q_cmpT (opOr op_notIn_seq (op_notInD (u65 hr))) (so_or (so_in true) so_notInD) (q_vl (pv 3)) (q_vl (pv 1)) (by rfl)))
 (s_one (s_expr (q_own PySem.F.plainAttrs_list PySem.F.slot_list_append PySem.F.type_list_append mt_append sm_app (pv 1) (q_cons (q_vl (pv 3)) q_nil))))
 s_nil))))
 (s_one (s_ret (q_var (pv 1))))))
theorem sc__law_told : FnScope ["picture", "rules", "thing", "name", "link", "number"] ["picture", "rules", "thing", "name"] (defScope (topS 36)) := ⟨rfl, rfl, rfl, by decide +kernel, rfl, by decide +kernel, by decide +kernel⟩
theorem ok__law_told (T : Txt K mg A) : FnOk P w K mg base CX0 2 A.f__law_told A.fd__law_told ["picture", "rules", "thing", "name"] (spD K (S A) false 4 d__law_told) := by
  refine T.F__law_told.ok sc__law_told (fun vs H Q E h => spD_len _ _ _ h) (fun cdv Ar outer s H vs Q E hr h => bodyD (N := ["picture", "rules", "thing", "name", "link", "number"]) (f := b__law_told) ?_ e__law_told (by decide) h)
  exact (s_cons (s_for PassesOwn.never rfl (i_seq (q_call (ok__law_links T) (hr.mono (by decide)) (by rfl) T.g__law_links T.F__law_links.kp T.b__law_links pass0 (g_val (q_fld (fl_kind T) (q_vl (pv 2)) rfl) (g_val (q_vl (pv 1)) g_nil)))) (pg_name (i := 4) sc__law_told.nd rfl (.inr rfl)) (Dv.g_name 4)
 (s_one (s_if (q_cmpT (opOr op_eq (op_eqD (u64 hr))) so_eq (q_ix ix_seq so_ix (q_vl (pv 4)) (q_c pe_int fun _ => rfl) (fun _ _ => rfl)) (q_vl (pv 3)) (nomark _))
 (s_cons (s_if (q_cmpT (opOr op_eq (op_eqD (u64 hr))) so_eq (q_ix ix_seq so_ix (q_vl (pv 4)) (q_c pe_int fun _ => rfl) (fun _ _ => rfl)) (q_c pe_str fun _ => rfl) (nomark _))
 (s_one (s_ret (q_fr (qf_lc (vs := [5]) rfl sc__law_told.nd (i_seq (q_dget (u1 hr) (q_fld (fl_contents T) (q_vl (pv 2)) rfl) (q_vl (pv 3)) (fun _ _ => rfl))) (blkOk_by (own := [("number", 5)]) (N := ["picture", "rules", "thing", "name", "link", "number"]) (sc := defScope (topS 36)) (by decide +kernel)) rfl (fun _ _ _ _ _ => (pg_name (i := 5) sc__law_told.nd rfl (Or.inl rfl))) (Dv.g_name 5) (by decide) (fun _ _ _ _ _ => pts_one (by exact (q_val (q_call (ok__law_there T) (hr.mono (by decide)) (by rfl) T.g__law_there T.F__law_there.kp T.b__law_there pass0 (g_val (q_vl (pv 0)) (g_val (q_ix ix_seq so_ix (q_vl (pv 4)) (q_c pe_int fun _ => rfl) (fun _ _ => rfl)) (g_val (q_vl (pv 5)) g_nil))))))) (fun _ _ _ h => h) (fun _ _ _ _ _ => by exact (q_vl (pv 5)))))))
 s_nil)
 (s_cons (s_if (q_val (q_call (ok__law_there T) (hr.mono (by decide)) (by rfl) T.g__law_there T.F__law_there.kp T.b__law_there pass0 (g_val (q_vl (pv 0)) (g_val (q_ix ix_seq so_ix (q_vl (pv 4)) (q_c pe_int fun _ => rfl) (fun _ _ => rfl)) (g_val (q_dget (u1 hr) (q_fld (fl_contents T) (q_vl (pv 2)) rfl) (q_vl (pv 3)) (fun _ _ => rfl)) g_nil)))))
 (s_one (s_ret (q_dget (u1 hr) (q_fld (fl_contents T) (q_vl (pv 2)) rfl) (q_vl (pv 3)) (fun _ _ => rfl))))
 s_nil)
 (s_one (s_ret (q_c pe_non fun _ => rfl)))))
 s_nil)))
 (s_one (s_ret (q_dget (u1 hr) (q_fld (fl_contents T) (q_vl (pv 2)) rfl) (q_vl (pv 3)) (fun _ _ => rfl)))))
theorem sc_is_one_of : FnScope ["source", "number", "kinds", "thing"] ["source", "number", "kinds"] (defScope (topS 15)) := ⟨rfl, rfl, rfl, by decide +kernel, rfl, by decide +kernel, by decide +kernel⟩
theorem ok_is_one_of (T : Txt K mg A) : FnOk P w K mg base CX0 3 A.f_is_one_of A.fd_is_one_of ["source", "number", "kinds"] (spD K (S A) false 3 d_is_one_of) := by
  refine T.F_is_one_of.ok sc_is_one_of (fun vs H Q E h => spD_len _ _ _ h) (fun cdv Ar outer s H vs Q E hr h => bodyD (N := ["source", "number", "kinds", "thing"]) (f := b_is_one_of) ?_ e_is_one_of (by decide) h)
  exact (s_cons (s_set (i := 3) sc_is_one_of.nd rfl (.inl rfl) (q_meth (q_vl (pv 0)) (mt_cons ⟨T.cl_PictureSource, T.me_PictureSource_thing, _, _, (ok_PictureSource_thing T).mono (show 1 ≤ 1 by decide), T.b_PictureSource_thing⟩ mt_nil) (hr.mono (by decide)) pass0 (g_val (q_vl (pv 1)) g_nil)))
 (s_one (s_ret (q_and (q_cmp op_notN so_isnt (q_vl (pv 3)) (q_c pe_non fun _ => rfl) (nomark _)) (q_one (q_cmp (opOr op_in_seq (op_inD (u65 hr))) (so_or (so_in false) so_inD) (q_fld (fl_kind T) (q_vl (pv 3)) rfl) (q_vl (pv 2)) (by rfl)))))))
theorem sc__law_rules : FnScope ["draws", "_law_turn"] ["draws"] (defScope (topS 29)) := ⟨rfl, rfl, rfl, by decide +kernel, rfl, by decide +kernel, by decide +kernel⟩
theorem ok__law_rules (T : Txt K mg A) : FnOk P w K mg base CX0 3 A.f__law_rules A.fd__law_rules ["draws"] (spD K (S A) false 1 d__law_rules) := by
  refine T.F__law_rules.ok sc__law_rules (fun vs H Q E h => spD_len _ _ _ h) (fun cdv Ar outer s H vs Q E hr h => bodyD (N := ["draws", "_law_turn"]) (f := b__law_rules) ?_ e__law_rules (by decide) h)
  exact (s_one (s_ret (q_fr (qf_lc (vs := [1]) rfl sc__law_rules.nd (i_rng1 rfl T.b_range (q_cons (q_c pe_int fun _ => rfl) q_nil)) (blkOk_by (own := [("_law_turn", 1)]) (N := ["draws", "_law_turn"]) (sc := defScope (topS 29)) (by decide +kernel)) rfl (fun _ _ _ _ _ => (pg_name (i := 1) sc__law_rules.nd rfl (Or.inl rfl))) (Dv.g_name 1) (by decide) (fun _ _ _ _ _ => pts_nil) (fun _ _ _ h => yes_ok h) (fun _ _ _ _ _ => by exact (q_call (ok__law_pick T) (hr.mono (by decide)) (by rfl) T.g__law_pick T.F__law_pick.kp T.b__law_pick pass0 (g_slot (pv 0) (g_val (q_fr (qf_lst (q_cons (q_c pe_str fun _ => rfl) (q_cons (q_c pe_str fun _ => rfl) (q_cons (q_c pe_str fun _ => rfl) q_nil))))) g_nil))))))))
theorem sc__law_schema : FnScope ["rules", "needed", "first", "second"] ["rules", "needed"] (defScope (topS 30)) := ⟨rfl, rfl, rfl, by decide +kernel, rfl, by decide +kernel, by decide +kernel⟩
theorem ok__law_schema (T : Txt K mg A) : FnOk P w K mg base CX0 3 A.f__law_schema A.fd__law_schema ["rules", "needed"] (spD K (S A) false 2 d__law_schema) := by
  refine T.F__law_schema.ok sc__law_schema (fun vs H Q E h => spD_len _ _ _ h) (fun cdv Ar outer s H vs Q E hr h => bodyD (N := ["rules", "needed", "first", "second"]) (f := b__law_schema) ?_ e__law_schema (by decide) h)
  exact (s_cons (s_set (i := 2) sc__law_schema.nd rfl (.inl rfl) (q_fr (qf_make (ci := 7) (dcs := []) (fun _ => rfl) T.mk_Kind (ok_Kind___init__ T) (hr.mono (by decide)) (by rfl) T.g_Kind T.b_Kind___init__ .nil pass0 (q_cons (q_c pe_str fun _ => rfl) (q_cons (q_fr (qf_lst (q_cons (q_fr (qf_make (ci := 6) (dcs := []) (fun _ => rfl) T.mk_Field (ok_Field___init__ T) (hr.mono (by decide)) (by rfl) T.g_Field T.b_Field___init__ .nil pass0 (q_cons (q_c pe_str fun _ => rfl) (q_cons (q_fr (qf_make (ci := 0) (dcs := []) (fun _ => rfl) T.mk_IntSort (ok_IntSort___init__ T) (hr.mono (by decide)) (by rfl) T.g_IntSort T.b_IntSort___init__ .nil pass0 (q_cons (q_c pe_int fun _ => rfl) (q_cons (q_c pe_int fun _ => rfl) q_nil)))) (q_cons (q_vl (pv 1)) q_nil))))) (q_cons (q_fr (qf_make (ci := 6) (dcs := [.bl false]) (fun _ => ⟨_, _, rfl, rfl, rfl⟩) T.mk_Field (ok_Field___init__ T) (hr.mono (by decide)) (by rfl) T.g_Field T.b1_Field___init__.choose_spec.2 T.b1_Field___init__.choose_spec.1 pass0 (q_cons (q_c pe_str fun _ => rfl) (q_cons (q_fr (qf_make (ci := 1) (dcs := [.non]) (fun _ => ⟨_, _, rfl, rfl, rfl⟩) T.mk_TextSort (ok_TextSort___init__ T) (hr.mono (by decide)) (by rfl) T.g_TextSort T.b1_TextSort___init__.choose_spec.2 T.b1_TextSort___init__.choose_spec.1 pass0 (q_cons (q_c pe_int fun _ => rfl) q_nil))) q_nil)))) (q_cons (q_fr (qf_make (ci := 6) (dcs := [.bl false]) (fun _ => ⟨_, _, rfl, rfl, rfl⟩) T.mk_Field (ok_Field___init__ T) (hr.mono (by decide)) (by rfl) T.g_Field T.b1_Field___init__.choose_spec.2 T.b1_Field___init__.choose_spec.1 pass0 (q_cons (q_c pe_str fun _ => rfl) (q_cons (q_fr (qf_make (ci := 2) (dcs := []) (fun _ => rfl) T.mk_RefSort (ok_RefSort___init__ T) (hr.mono (by decide)) (by rfl) T.g_RefSort T.b_RefSort___init__ .nil pass0 (q_cons (q_fr (qf_lst (q_cons (q_c pe_str fun _ => rfl) (q_cons (q_c pe_str fun _ => rfl) q_nil)))) (q_cons (q_ix ix_seq so_ix (q_vl (pv 0)) (q_c pe_int fun _ => rfl) (fun _ _ => rfl)) q_nil)))) q_nil)))) (q_cons (q_fr (qf_make (ci := 6) (dcs := [.bl false]) (fun _ => ⟨_, _, rfl, rfl, rfl⟩) T.mk_Field (ok_Field___init__ T) (hr.mono (by decide)) (by rfl) T.g_Field T.b1_Field___init__.choose_spec.2 T.b1_Field___init__.choose_spec.1 pass0 (q_cons (q_c pe_str fun _ => rfl) (q_cons (q_fr (qf_make (ci := 3) (dcs := []) (fun _ => rfl) T.mk_ListSort (ok_ListSort___init__ T) (hr.mono (by decide)) (by rfl) T.g_ListSort T.b_ListSort___init__ .nil pass0 (q_cons (q_fr (qf_lst (q_cons (q_c pe_str fun _ => rfl) q_nil))) q_nil))) q_nil)))) q_nil)))))) (q_cons (q_fr (qf_lst (q_cons (q_fr (qf_lst (q_cons (q_c pe_str fun _ => rfl) (q_cons (q_c pe_str fun _ => rfl) q_nil)))) q_nil))) q_nil))))))
 (s_cons (s_set (i := 3) sc__law_schema.nd rfl (.inl rfl) (q_fr (qf_make (ci := 7) (dcs := []) (fun _ => rfl) T.mk_Kind (ok_Kind___init__ T) (hr.mono (by decide)) (by rfl) T.g_Kind T.b_Kind___init__ .nil pass0 (q_cons (q_c pe_str fun _ => rfl) (q_cons (q_fr (qf_lst (q_cons (q_fr (qf_make (ci := 6) (dcs := []) (fun _ => rfl) T.mk_Field (ok_Field___init__ T) (hr.mono (by decide)) (by rfl) T.g_Field T.b_Field___init__ .nil pass0 (q_cons (q_c pe_str fun _ => rfl) (q_cons (q_fr (qf_make (ci := 2) (dcs := []) (fun _ => rfl) T.mk_RefSort (ok_RefSort___init__ T) (hr.mono (by decide)) (by rfl) T.g_RefSort T.b_RefSort___init__ .nil pass0 (q_cons (q_fr (qf_lst (q_cons (q_c pe_str fun _ => rfl) q_nil))) (q_cons (q_ix ix_seq so_ix (q_vl (pv 0)) (q_c pe_int fun _ => rfl) (fun _ _ => rfl)) q_nil)))) (q_cons (q_vl (pv 1)) q_nil))))) (q_cons (q_fr (qf_make (ci := 6) (dcs := [.bl false]) (fun _ => ⟨_, _, rfl, rfl, rfl⟩) T.mk_Field (ok_Field___init__ T) (hr.mono (by decide)) (by rfl) T.g_Field T.b1_Field___init__.choose_spec.2 T.b1_Field___init__.choose_spec.1 pass0 (q_cons (q_c pe_str fun _ => rfl) (q_cons (q_fr (qf_make (ci := 2) (dcs := []) (fun _ => rfl) T.mk_RefSort (ok_RefSort___init__ T) (hr.mono (by decide)) (by rfl) T.g_RefSort T.b_RefSort___init__ .nil pass0 (q_cons (q_fr (qf_lst (q_cons (q_c pe_str fun _ => rfl) q_nil))) (q_cons (q_ix ix_seq so_ix (q_vl (pv 0)) (q_c pe_int fun _ => rfl) (fun _ _ => rfl)) q_nil)))) q_nil)))) (q_cons (q_fr (qf_make (ci := 6) (dcs := [.bl false]) (fun _ => ⟨_, _, rfl, rfl, rfl⟩) T.mk_Field (ok_Field___init__ T) (hr.mono (by decide)) (by rfl) T.g_Field T.b1_Field___init__.choose_spec.2 T.b1_Field___init__.choose_spec.1 pass0 (q_cons (q_c pe_str fun _ => rfl) (q_cons (q_fr (qf_make (ci := 3) (dcs := []) (fun _ => rfl) T.mk_ListSort (ok_ListSort___init__ T) (hr.mono (by decide)) (by rfl) T.g_ListSort T.b_ListSort___init__ .nil pass0 (q_cons (q_fr (qf_lst (q_cons (q_c pe_str fun _ => rfl) (q_cons (q_c pe_str fun _ => rfl) q_nil)))) q_nil))) q_nil)))) q_nil))))) (q_cons (q_fr (qf_lst (q_cons (q_fr (qf_lst (q_cons (q_c pe_str fun _ => rfl) q_nil))) q_nil))) q_nil))))))
 (s_one (s_ret (q_fr (qf_make (ci := 8) (dcs := []) (fun _ => rfl) T.mk_Schema (ok_Schema___init__ T) (hr.mono (by decide)) (by rfl) T.g_Schema T.b_Schema___init__ .nil pass0 (q_cons (q_fr (qf_lst (q_cons (q_vl (pv 2)) (q_cons (q_vl (pv 3)) q_nil)))) q_nil)))))))
theorem sc__law_contents : FnScope ["draws", "kind", "known"] ["draws", "kind"] (defScope (topS 33)) := ⟨rfl, rfl, rfl, by decide +kernel, rfl, by decide +kernel, by decide +kernel⟩
theorem ok__law_contents (T : Txt K mg A) : FnOk P w K mg base CX0 3 A.f__law_contents A.fd__law_contents ["draws", "kind"] (spD K (S A) false 2 d__law_contents) := by
  refine T.F__law_contents.ok sc__law_contents (fun vs H Q E h => spD_len _ _ _ h) (fun cdv Ar outer s H vs Q E hr h => bodyD (N := ["draws", "kind", "known"]) (f := b__law_contents) ?_ e__law_contents (by decide) h)
  exact (s_cons (s_box (i := 2) sc__law_contents.nd rfl (.inl rfl) qf_dnew)
 (s_cons (s_if (q_cmpT (opOr op_eq (op_eqD (u64 hr))) so_eq (q_vl (pv 1)) (q_c pe_str fun _ => rfl) (nomark _))
 (s_cons (s_dput (u1 hr) (pv 2) (q_c pe_str fun _ => rfl) (q_call (ok__law_pick T) (hr.mono (by decide)) (by rfl) T.g__law_pick T.F__law_pick.kp T.b__law_pick pass0 (g_slot (pv 0) (g_val (q_fr (qf_lst (q_cons (q_c pe_non fun _ => rfl) (q_cons (q_c pe_int fun _ => rfl) (q_cons (q_c pe_int fun _ => rfl) (q_cons (q_c pe_int fun _ => rfl) (q_cons (q_c pe_int fun _ => rfl) q_nil))))))) g_nil))) rfl)
 (s_cons (s_dput (u1 hr) (pv 2) (q_c pe_str fun _ => rfl) (q_call (ok__law_pick T) (hr.mono (by decide)) (by rfl) T.g__law_pick T.F__law_pick.kp T.b__law_pick pass0 (g_slot (pv 0) (g_val (q_fr (qf_lst (q_cons (q_c pe_non fun _ => rfl) (q_cons (q_c pe_str fun _ => rfl) (q_cons (q_c pe_str fun _ => rfl) (q_cons (q_c pe_str fun _ => rfl) q_nil)))))) g_nil))) rfl)
 (s_cons (s_dput (u1 hr) (pv 2) (q_c pe_str fun _ => rfl) (q_call (ok__law_number T) (hr.mono (by decide)) (by rfl) T.g__law_number T.F__law_number.kp T.b__law_number pass0 (g_slot (pv 0) g_nil)) rfl)
 (s_cons (s_dput (u1 hr) (pv 2) (q_c pe_str fun _ => rfl) (q_call (ok__law_list T) (hr.mono (by decide)) (by rfl) T.g__law_list T.F__law_list.kp T.b__law_list pass0 (g_slot (pv 0) g_nil)) rfl)
 (s_one (s_ret (q_var (pv 2))))))))
 s_nil)
 (s_cons (s_dput (u1 hr) (pv 2) (q_c pe_str fun _ => rfl) (q_call (ok__law_number T) (hr.mono (by decide)) (by rfl) T.g__law_number T.F__law_number.kp T.b__law_number pass0 (g_slot (pv 0) g_nil)) rfl)
 (s_cons (s_dput (u1 hr) (pv 2) (q_c pe_str fun _ => rfl) (q_call (ok__law_number T) (hr.mono (by decide)) (by rfl) T.g__law_number T.F__law_number.kp T.b__law_number pass0 (g_slot (pv 0) g_nil)) rfl)
 (s_cons (s_dput (u1 hr) (pv 2) (q_c pe_str fun _ => rfl) (q_call (ok__law_list T) (hr.mono (by decide)) (by rfl) T.g__law_list T.F__law_list.kp T.b__law_list pass0 (g_slot (pv 0) g_nil)) rfl)
 (s_one (s_ret (q_var (pv 2)))))))))
theorem sc_Thing_copied : FnScope ["self"] ["self"] (defScope (inClass (topS 10) 1)) := ⟨rfl, rfl, rfl, by decide +kernel, rfl, by decide +kernel, by decide +kernel⟩
theorem ok_Thing_copied (T : Txt K mg A) : FnOk P w K mg base CX0 4 A.f_Thing_copied A.fd_Thing_copied ["self"] (spD K (S A) false 1 d_Thing_copied) := by
  refine T.F_Thing_copied.ok sc_Thing_copied (fun vs H Q E h => spD_len _ _ _ h) (fun cdv Ar outer s H vs Q E hr h => bodyD (N := ["self"]) (f := b_Thing_copied) ?_ e_Thing_copied (by decide) h)
  exact (s_one (s_ret (q_fr (qf_make (ci := 4) (dcs := []) (fun _ => rfl) T.mk_Thing (ok_Thing___init__ T) (hr.mono (by decide)) (by rfl) T.g_Thing T.b_Thing___init__ .nil pass0 (q_cons (q_fld (fl_kind T) (q_vl (pv 0)) rfl) (q_cons (q_fld (fl_contents T) (q_vl (pv 0)) rfl) q_nil))))))
theorem sc_blank_thing : FnScope ["kind", "field"] ["kind"] (defScope (topS 12)) := ⟨rfl, rfl, rfl, by decide +kernel, rfl, by decide +kernel, by decide +kernel⟩
theorem ok_blank_thing (T : Txt K mg A) : FnOk P w K mg base CX0 4 A.f_blank_thing A.fd_blank_thing ["kind"] (spD K (S A) false 1 d_blank_thing) := by
  refine T.F_blank_thing.ok sc_blank_thing (fun vs H Q E h => spD_len _ _ _ h) (fun cdv Ar outer s H vs Q E hr h => bodyD (N := ["kind", "field"]) (f := b_blank_thing) ?_ e_blank_thing (by decide) h)
  exact (s_one (s_ret (q_fr (qf_make (ci := 4) (dcs := []) (fun _ => rfl) T.mk_Thing (ok_Thing___init__ T) (hr.mono (by decide)) (by rfl) T.g_Thing T.b_Thing___init__ .nil pass0 (q_cons (q_fld (fl_name T) (q_vl (pv 0)) rfl) (q_cons (q_fr (qf_dc (vs := [1]) rfl sc_blank_thing.nd (i_seq (q_fld (fl_fields T) (q_vl (pv 0)) rfl)) (blkOk_by (own := [("field", 1)]) (N := ["kind", "field"]) (sc := defScope (topS 12)) (by decide +kernel)) rfl (fun _ _ _ _ _ => (pg_name (i := 1) sc_blank_thing.nd rfl (Or.inl rfl))) (Dv.g_name 1) (by decide) (fun _ _ _ _ _ => pts_nil) (fun _ _ _ h => yes_ok h) (fun _ _ _ _ _ => by exact (q_fld (fl_name T) (q_vl (pv 1)) rfl)) (fun _ _ _ _ _ => by exact (q_call (ok_blank T) (hr.mono (by decide)) (by rfl) T.g_blank T.F_blank.kp T.b_blank pass0 (g_val (q_fld (fl_shape T) (q_vl (pv 1)) rfl) g_nil))))) q_nil))))))
theorem sc_told_content : FnScope ["source", "field", "content", "number"] ["source", "field", "content"] (defScope (topS 14)) := ⟨rfl, rfl, rfl, by decide +kernel, rfl, by decide +kernel, by decide +kernel⟩
theorem ok_told_content (T : Txt K mg A) : FnOk P w K mg base CX0 4 A.f_told_content A.fd_told_content ["source", "field", "content"] (spY K (S A) 3 d_told_content) := by
  refine T.F_told_content.ok sc_told_content (fun vs H Q E h => spY_len _ _ _ h) (fun cdv Ar outer s H vs Q E hr h => bodyY (N := ["source", "field", "content", "number"]) (f := b_told_content) ?_ e_told_content (by decide) h)
  exact (s_cons (s_if (q_val (q_call (ok_is_list T) (hr.mono (by decide)) (by rfl) T.g_is_list T.F_is_list.kp T.b_is_list pass0 (g_val (q_fld (fl_shape T) (q_vl (pv 1)) rfl) g_nil)))
 (s_one (s_retF (qf_lc (vs := [3]) rfl sc_told_content.nd (i_seq (q_vl (pv 2))) (blkOk_by (own := [("number", 3)]) (N := ["source", "field", "content", "number"]) (sc := defScope (topS 14)) (by decide +kernel)) rfl (fun _ _ _ _ _ => (pg_name (i := 3) sc_told_content.nd rfl (Or.inl rfl))) (Dv.g_name 3) (by decide) (fun _ _ _ _ _ => pts_one (by exact (q_val (q_call (ok_is_one_of T) (hr.mono (by decide)) (by rfl) T.g_is_one_of T.F_is_one_of.kp T.b_is_one_of pass0 (g_val (q_vl (pv 0)) (g_val (q_vl (pv 3)) (g_val (q_fld (fl_kinds T) (q_fld (fl_shape T) (q_vl (pv 1)) rfl) rfl) g_nil))))))) (fun _ _ _ h => h) (fun _ _ _ _ _ => by exact (q_vl (pv 3))))))
 s_nil)
 (s_cons (s_if (q_val (q_call (ok_is_reference T) (hr.mono (by decide)) (by rfl) T.g_is_reference T.F_is_reference.kp T.b_is_reference pass0 (g_val (q_fld (fl_shape T) (q_vl (pv 1)) rfl) g_nil)))
 (s_one (s_ret (q_if (q_pt (q_wand (q_cmpT op_notN so_isnt (q_vl (pv 2)) (q_c pe_non fun _ => rfl) (nomark _)) (q_wand1 (q_val (q_call (ok_is_one_of T) (hr.mono (by decide)) (by rfl) T.g_is_one_of T.F_is_one_of.kp T.b_is_one_of pass0 (g_val (q_vl (pv 0)) (g_val (q_vl (pv 2)) (g_val (q_fld (fl_kinds T) (q_fld (fl_shape T) (q_vl (pv 1)) rfl) rfl) g_nil)))))))) (q_vl (pv 2)) (q_c pe_non fun _ => rfl))))
 s_nil)
 (s_one (s_ret (q_vl (pv 2))))))
theorem sc__law_picture : FnScope ["draws", "picture", "_law_turn", "number", "kind"] ["draws"] (defScope (topS 34)) := ⟨rfl, rfl, rfl, by decide +kernel, rfl, by decide +kernel, by decide +kernel⟩
theorem ok__law_picture (T : Txt K mg A) : FnOk P w K mg base CX0 4 A.f__law_picture A.fd__law_picture ["draws"] (spD K (S A) false 1 d__law_picture) := by
  refine T.F__law_picture.ok sc__law_picture (fun vs H Q E h => spD_len _ _ _ h) (fun cdv Ar outer s H vs Q E hr h => bodyD (N := ["draws", "picture", "_law_turn", "number", "kind"]) (f := b__law_picture) ?_ e__law_picture (by decide) h)
  exact (s_cons (s_box (i := 1) sc__law_picture.nd rfl (.inl rfl) qf_dnew)
 (s_cons (s_for PassesOwn.never rfl (i_rng1 rfl T.b_range (q_cons (q_call (ok__law_draw T) (hr.mono (by decide)) (by rfl) T.g__law_draw T.F__law_draw.kp T.b__law_draw pass0 (g_slot (pv 0) (g_val (q_c pe_int fun _ => rfl) g_nil))) q_nil)) (pg_name (i := 2) sc__law_picture.nd rfl (.inl rfl)) (Dv.g_name 2)
 (s_cons (s_set (i := 3) sc__law_picture.nd rfl (.inl rfl) (q_op (opOr op_add (opOr op_add_str op_cat)) so_add (q_c pe_int fun _ => rfl) (q_call (ok__law_draw T) (hr.mono (by decide)) (by rfl) T.g__law_draw T.F__law_draw.kp T.b__law_draw pass0 (g_slot (pv 0) (g_val (q_c pe_int fun _ => rfl) g_nil)))))
 (s_cons (s_set (i := 4) sc__law_picture.nd rfl (.inl rfl) (q_call (ok__law_pick T) (hr.mono (by decide)) (by rfl) T.g__law_pick T.F__law_pick.kp T.b__law_pick pass0 (g_slot (pv 0) (g_val (q_fr (qf_lst (q_cons (q_c pe_str fun _ => rfl) (q_cons (q_c pe_str fun _ => rfl) q_nil)))) g_nil))))
 (s_one (s_dput (u1 hr) (pv 1) (q_vl (pv 3)) (q_fr (qf_make (ci := 4) (dcs := []) (fun _ => rfl) T.mk_Thing (ok_Thing___init__ T) (hr.mono (by decide)) (by rfl) T.g_Thing T.b_Thing___init__ .nil pass0 (q_cons (q_vl (pv 4)) (q_cons (q_call (ok__law_contents T) (hr.mono (by decide)) (by rfl) T.g__law_contents T.F__law_contents.kp T.b__law_contents pass0 (g_slot (pv 0) (g_val (q_vl (pv 4)) g_nil))) q_nil)))) rfl)))))
 (s_one (s_ret (q_var (pv 1))))))
theorem sc__law_contents_tell : FnScope ["schema", "picture", "rules", "source", "number", "thing", "kind", "name", "content", "found", "other"] ["schema", "picture", "rules"] (defScope (topS 39)) := ⟨rfl, rfl, rfl, by decide +kernel, rfl, by decide +kernel, by decide +kernel⟩
theorem ok__law_contents_tell (T : Txt K mg A) : FnG P w K mg base CX0 5 A.f__law_contents_tell A.fd__law_contents_tell ["schema", "picture", "rules"] (spD K (S A) false 3 d__law_contents_tell) := by
  refine okG T.F__law_contents_tell sc__law_contents_tell (fun vs H Q E h => spD_len _ _ _ h) (fun cdv Ar gd outer s H vs Q E hr h => bodyD (N := ["schema", "picture", "rules", "source", "number", "thing", "kind", "name", "content", "found", "other"]) (f := b__law_contents_tell) ?_ e__law_contents_tell (by decide) h)
  exact (s_cons (s_set (i := 3) sc__law_contents_tell.nd rfl (.inl rfl) (q_fr (qf_make (ci := 5) (dcs := []) (fun _ => rfl) T.mk_PictureSource (ok_PictureSource___init__ T) (hr.mono (by decide)) (by rfl) T.g_PictureSource T.b_PictureSource___init__ .nil pass0 (q_cons (q_vl (pv 1)) q_nil))))
 (s_cons (s_for PassesOwn.never rfl (i_seq (q_fr (qf_callB (cr_sortedI) sc_sorted rfl T.b_sorted (by decide +kernel) (q_cons (q_fr (qf_callTy (call_listD rfl) sc_listD rfl T.b_list (by decide +kernel) (q_cons (q_vl (pv 1)) q_nil))) q_nil)))) (pg_name (i := 4) sc__law_contents_tell.nd rfl (.inl rfl)) (Dv.g_name 4)
 (s_cons (s_set (i := 5) sc__law_contents_tell.nd rfl (.inl rfl) (q_dget (u1 hr) (q_vl (pv 1)) (q_vl (pv 4)) (fun _ _ => rfl)))
 (s_cons (s_set (i := 6) sc__law_contents_tell.nd rfl (.inl rfl) (q_meth (q_vl (pv 0)) (mt_cons ⟨T.cl_Schema, T.me_Schema_kind_of, _, _, (ok_Schema_kind_of T).mono (show 1 ≤ 1 by decide), T.b_Schema_kind_of⟩ mt_nil) (hr.mono (by decide)) pass0 (g_val (q_fld (fl_kind T) (q_vl (pv 5)) rfl) g_nil)))
 (s_one (s_for PassesOwn.never rfl (i_seq (q_call (ok__law_names T) (hr.mono (by decide)) (by rfl) T.g__law_names T.F__law_names.kp T.b__law_names pass0 (g_val (q_fld (fl_kind T) (q_vl (pv 5)) rfl) g_nil))) (pg_name (i := 7) sc__law_contents_tell.nd rfl (.inl rfl)) (Dv.g_name 7)
 (s_cons (s_set (i := 8) sc__law_contents_tell.nd rfl (.inl rfl) (q_dget (u1 hr) (q_fld (fl_contents T) (q_vl (pv 5)) rfl) (q_vl (pv 7)) (fun _ _ => rfl)))
 (s_cons (s_setY (i := 9) sc__law_contents_tell.nd rfl (.inl rfl) (qy_call (ok_told_content T) (hr.mono (by decide)) (by rfl) T.g_told_content T.F_told_content.kp T.b_told_content pass0 (g_val (q_vl (pv 3)) (g_val (q_meth (q_vl (pv 6)) (mt_cons ⟨T.cl_Kind, T.me_Kind_field_of, _, _, (ok_Kind_field_of T).mono (show 1 ≤ 1 by decide), T.b_Kind_field_of⟩ mt_nil) (hr.mono (by decide)) pass0 (g_val (q_vl (pv 7)) g_nil)) (g_val (q_vl (pv 8)) g_nil)))))
 (s_cons (s_if (q_borT (q_cmpT (opOr op_ne (op_neD (u64 hr))) so_ne (q_callB (call_reprD gd (u80 hr)) sc_repr rfl T.b_repr (by decide +kernel) (q_cons (q_vl (pv 9)) q_nil)) (q_callB (call_reprD gd (u80 hr)) sc_repr rfl T.b_repr (by decide +kernel) (q_cons (q_call (ok__law_told T) (hr.mono (by decide)) (by rfl) T.g__law_told T.F__law_told.kp T.b__law_told pass0 (g_val (q_vl (pv 1)) (g_val (q_vl (pv 2)) (g_val (q_vl (pv 5)) (g_val (q_vl (pv 7)) g_nil))))) q_nil)) (nomark _)))
 (s_one (s_ret (q_c pe_bl fun _ => rfl)))
 s_nil)
 (s_cons (s_if (q_borT (q_val (q_callB call_isi (sc_is (isk T)) rfl T.b_isinstance (by decide +kernel) (q_cons (q_vl (pv 9)) (q_cons (q_c (pe_bltn (v := .ty "list") rfl T.b_list (by decide +kernel) rfl) fun _ => rfl) q_nil)))))
 (s_one (s_expr (q_own PySem.F.plainAttrs_list PySem.F.slot_list_append PySem.F.type_list_append mt_append sm_app (pv 9) (q_cons (q_c pe_int fun _ => rfl) q_nil))))
 s_nil)
 (s_one (s_for PassesOwn.never rfl (i_rng1 rfl T.b_range (q_cons (q_c pe_int fun _ => rfl) q_nil)) (pg_name (i := 10) sc__law_contents_tell.nd rfl (.inl rfl)) (Dv.g_name 10)
 (s_one (s_if (q_pt (q_wand (q_cmpT (opOr op_ne (op_neD (u64 hr))) so_ne (q_vl (pv 7)) (q_c pe_str fun _ => rfl) (nomark _)) (q_wand1 (q_cmpT (opOr op_ne (op_neD (u64 hr))) so_ne (q_call (ok_holds_number T) (hr.mono (by decide)) (by rfl) T.g_holds_number T.F_holds_number.kp T.b_holds_number pass0 (g_val (q_vl (pv 8)) (g_val (q_vl (pv 10)) g_nil))) (q_call (ok__law_holds T) (hr.mono (by decide)) (by rfl) T.g__law_holds T.F__law_holds.kp T.b__law_holds pass0 (g_val (q_vl (pv 8)) (g_val (q_vl (pv 10)) g_nil))) (nomark _)))))
 (s_one (s_ret (q_c pe_bl fun _ => rfl)))
 s_nil)))))))))))))
 (s_one (s_ret (q_c pe_bl fun _ => rfl)))))
end
end
end K39
namespace Dv
open PySem PySem.Spec PyProof.Rows L2
set_option autoImplicit false
noncomputable section
/-! ### the law's own promise -/
def spTrue (K : PySem.W.Frag) : Sp := fun vs H Q _ => ∃ (a : Addr) (ns : List Int), vs = [.ref a] ∧ SqL K H a (ns.map V.int) ∧ ns.length ≤ 63 ∧ ∀ H', Q (.bl true) H'
theorem law_imp {K : PySem.W.Frag} {S : Nat → Addr} {g : Fn} (h : ∀ ns : List Int, ns.length ≤ 63 → ∃ p, g [.val (.scr (ns.map .int))] = .ok (.bl true) p) (vs : List V) (H : Hp) (Q : VK) (E : XK) (q : spTrue K vs H Q E) : spD K S false 1 g vs H Q E := by
  obtain ⟨a, ns, rfl, hS, hl, q⟩ := q
  obtain ⟨p, hp⟩ := h ns hl
  refine ⟨H, [.val (.scr (ns.map .int))], none, fun a u e => .inl e, ⟨.cons ⟨a, _, rfl, hS, ints_rep ns⟩ .nil, Nat.zero_le _, fun a e => by cases e⟩, rfl, ?_⟩
  rw [hp]
  intro G' H' f pk
  show ∀ v, Rep K S G' (.bl true) v → Q v H'
  intro v hv
  cases hv
  exact q H'
end
end Dv
namespace Dv
open PySem PySem.Spec PyProof.Rows L2
set_option autoImplicit false
noncomputable section
/-! ### runs, told by rules -/
def selB {α : Type} (b : Bool) (x y : α) : α := match b with
  | true => x
  | false => y
/-- which of the two, told apart -/
structure Sel {α : Type} (b : Bool) (x y r : α) : Prop where
  of : selB b x y = r
section
variable {env e e' e1 e2 : Dv.Env} {a b c : Ev} {ta tb : EvT} {ra : EvA} {ga : EvG'} {sa sb : EvS} {i n : Nat} {d x y : D} {xs : List D} {f : FO} {fc : FC} {bb : Bool} {g : Fn} {as : List Ag} {ags : List Ar} {p : Option D} {cs : List Nat} {s : Str} {C : Nat} {fs : List (Str × D)} {kvs : List (Key × D)} {r : Res D} {rt : Res Bool} {rs : Sr}
theorem sel_t {α : Type} {b : Bool} {x y r : α} (h : b = true) (k : x = r) : Sel b x y r := by subst h; exact ⟨k⟩
theorem sel_f {α : Type} {b : Bool} {x y r : α} (h : b = false) (k : y = r) : Sel b x y r := by subst h; exact ⟨k⟩
theorem z_set0 {s x : Sl} {r : List Sl} : (s :: r).set 0 x = x :: r := rfl
theorem z_setS {s x : Sl} {r r' : List Sl} {i : Nat} (h : r.set i x = r') : (s :: r).set (i + 1) x = s :: r' := by rw [← h]; rfl
theorem z_at0 {s : Sl} {r : List Sl} : (s :: r)[0]? = some s := rfl
theorem z_atS {s : Sl} {o : Option Sl} {r : List Sl} {i : Nat} (h : r[i]? = o) : (s :: r)[i + 1]? = o := by rw [← h]; rfl
theorem z_putP {x q : D} : putSl (.par x) q = .par q := rfl
theorem z_putB {x q : D} : putSl (.box x) q = .box q := rfl
theorem z_st0 : Dv.start 0 [] = [] := rfl
theorem z_stN {n : Nat} {e : Dv.Env} (h : Dv.start n [] = e) : Dv.start (n + 1) [] = .no :: e := by rw [← h]; rfl
theorem z_stV {n : Nat} {d : D} {as : List Ar} {e : Dv.Env} (h : Dv.start n as = e) : Dv.start (n + 1) (.val d :: as) = .val d :: e := by
  rw [← h]
  unfold Dv.start
  rw [List.map_cons, List.length_cons, Nat.add_sub_add_right]
  rfl
theorem z_stP {n : Nat} {d : D} {as : List Ar} {e : Dv.Env} (h : Dv.start n as = e) : Dv.start (n + 1) (.par d :: as) = .par d :: e := by
  rw [← h]
  unfold Dv.start
  rw [List.map_cons, List.length_cons, Nat.add_sub_add_right]
  rfl
theorem z_bor0 : borE [] = [] := rfl
theorem z_borV {d : D} {e e' : Dv.Env} (h : borE e = e') : borE (.val d :: e) = .val d :: e' := by rw [← h]; rfl
theorem z_borB {d : D} {e e' : Dv.Env} (h : borE e = e') : borE (.box d :: e) = .val d :: e' := by rw [← h]; rfl
theorem z_borP {d : D} {e e' : Dv.Env} (h : borE e = e') : borE (.par d :: e) = .val d :: e' := by rw [← h]; rfl
theorem z_borN {e e' : Dv.Env} (h : borE e = e') : borE (.no :: e) = .no :: e' := by rw [← h]; rfl
theorem z_w0 : wipeE env [] = env := rfl
theorem z_wS {v : Nat} {vs : List Nat} {e1 e2 : Dv.Env} (h : wipeE env vs = e1) (h2 : e1.set v .no = e2) : wipeE env (v :: vs) = e2 := by rw [← h2, ← h]; rfl
theorem z_v0 {d x : D} {r : List Sl} : setE (.val x :: r) 0 d = some (.val d :: r) := rfl
theorem z_n0 {d : D} {r : List Sl} : setE (.no :: r) 0 d = some (.val d :: r) := rfl
theorem z_b0 {d x : D} {r : List Sl} : setE (.box x :: r) 0 d = some (.val d :: r) := rfl
theorem z_sS {d : D} {s : Sl} {r r' : List Sl} {i : Nat} (h : setE r i d = some r') : setE (s :: r) (i + 1) d = some (s :: r') := by
  unfold setE at h ⊢
  show (match r[i]? with | some (.par _) => none | some _ => some (s :: r.set i (.val d)) | none => none) = some (s :: r')
  revert h
  cases r[i]? with
  | none => intro h; cases h
  | some x => cases x <;> first
    | (intro h; cases h; done)
    | (intro h; rw [← Option.some.inj h])
theorem r_val (h : env[i]? = some (.val d)) : xVal i env = .ok d env := by unfold xVal; rw [h]
theorem r_var (h : env[i]? = some (.val d)) : xVar i env = .ok d env := by unfold xVar; rw [h]
theorem r_varB (h : env[i]? = some (.box d)) (he : env.set i (.val d) = e') : xVar i env = .ok d e' := by subst he; unfold xVar; rw [h]
theorem r_c : xC d env = .ok d env := rfl
theorem r_op (h1 : a env = .ok x e1) (h2 : b e1 = .ok y e2) (h3 : f x y = some d) : xOp f a b env = .ok d e2 := by unfold xOp; rw [h1]; show (b e1).bind _ = _; rw [h2]; show Res.of (f x y) e2 = _; rw [h3]; rfl
theorem r_nil : xNil env = .ok [] env := rfl
theorem r_cons (h1 : a env = .ok x e1) (h2 : ra e1 = .ok xs e2) : xCons a ra env = .ok (x :: xs) e2 := by unfold xCons; rw [h1]; show (ra e1).bind _ = _; rw [h2]; rfl
theorem r_cb (h1 : ra env = .ok xs e1) (h2 : fc xs = some d) : xCB fc ra env = .ok d e1 := by unfold xCB; rw [h1]; show Res.of (fc xs) e1 = _; rw [h2]; rfl
theorem r_lst (h1 : ra env = .ok xs e1) (h2 : xs.length ≤ 1000000) : xLst ra env = .ok (.lst xs) e1 := by unfold xLst; rw [h1]; exact if_pos h2
theorem r_tup (h1 : ra env = .ok xs e1) (h2 : xs.length ≤ 1000000) : xTup ra env = .ok (.tup xs) e1 := by unfold xTup; rw [h1]; exact if_pos h2
theorem r_fld (h1 : a env = .ok (.ins C fs) e1) (h2 : C ∈ cs) (h3 : fs.lookup s = some d) : xFld cs s a env = .ok d e1 := by unfold xFld; rw [h1]; show (if C ∈ cs then Res.of (fs.lookup s) e1 else Res.no) = _; rw [if_pos h2, h3]; rfl
theorem r_test (h1 : a env = .ok (.bl bb) e1) : xTest a env = .ok bb e1 := by unfold xTest; rw [h1]; rfl
theorem r_notT (h1 : ta env = .ok bb e1) : xNotT ta env = .ok (!bb) e1 := by unfold xNotT; rw [h1]; rfl
theorem r_andT (h1 : ta env = .ok bb e1) (h2 : Sel bb (tb e1) (.ok false e1) rt) : xAndT ta tb env = rt := by unfold xAndT; rw [h1, ← h2.of]; cases bb <;> rfl
theorem r_orT (h1 : ta env = .ok bb e1) (h2 : Sel bb (.ok true e1) (tb e1) rt) : xOrT ta tb env = rt := by unfold xOrT; rw [h1, ← h2.of]; cases bb <;> rfl
theorem r_andV (h1 : a env = .ok (.bl bb) e1) (h2 : Sel bb (b e1) (.ok (.bl false) e1) r) : xAndV a b env = r := by unfold xAndV; rw [h1, ← h2.of]; cases bb <;> rfl
theorem r_if (h1 : ta env = .ok bb e1) (h2 : Sel bb (a e1) (b e1) r) : xIf ta a b env = r := by unfold xIf; rw [h1, ← h2.of]; cases bb <;> rfl
theorem r_ifS (h1 : ta env = .ok bb e1) (h2 : Sel bb (sa e1) (sb e1) rs) : xIfS ta sa sb env = rs := by unfold xIfS; rw [h1, ← h2.of]; cases bb <;> rfl
structure SeqS (r : Sr) (k : EvS) (q : Sr) : Prop where
  of : r.seq k = q
theorem r_seq (h1 : sa env = rs) {q : Sr} (h2 : SeqS rs sb q) : xSeq sa sb env = q := by unfold xSeq; rw [h1]; exact h2.of
theorem sq_nx {q : Sr} (h : sb e = q) : SeqS (.nx e) sb q := ⟨h⟩
theorem sq_rt : SeqS (.rt d e) sb (.rt d e) := ⟨rfl⟩
theorem sq_rf : SeqS (.rf d e) sb (.rf d e) := ⟨rfl⟩
theorem sq_bk : SeqS (.bk e) sb (.bk e) := ⟨rfl⟩
theorem r_nx : xNx env = .nx env := rfl
theorem r_break : xBreak env = .bk env := rfl
theorem r_set (h1 : a env = .ok d e1) (h2 : setE e1 i d = some e2) : xSet i a env = .nx e2 := by unfold xSet; rw [h1]; show (match setE e1 i d with | some e' => Sr.nx e' | none => Sr.no) = _; rw [h2]
theorem r_ret (h1 : a env = .ok d e1) : xRet a env = .rt d e1 := by unfold xRet; rw [h1]; rfl
theorem r_retV (h1 : env[i]? = some (.box d)) (he : env.set i .no = e') : xRetV i env = .rf d e' := by subst he; unfold xRetV; rw [h1]
theorem r_drop (h1 : a env = .ok d e1) : xDrop a env = .nx e1 := by unfold xDrop; rw [h1]; rfl
def boxable : Option Sl → Bool
  | some (.par _) => false
  | some _ => true
  | none => false
theorem r_box {os : Option Sl} (h1 : a env = .ok d e1) (h0 : e1[i]? = os) (h2 : boxable os = true) (he : e1.set i (.box d) = e') : xBox i a env = .nx e' := by
  subst he
  subst h0
  unfold xBox
  rw [h1]
  show (match e1[i]? with | some (.par _) => Sr.no | some _ => Sr.nx (e1.set i (.box d)) | none => Sr.no) = _
  revert h2
  cases e1[i]? with
  | none => intro h; cases h
  | some s => cases s <;> first | (intro h; cases h; done) | (intro _; rfl)
theorem r_gnil : gNil env = .ok [] env := rfl
theorem r_gval (h1 : a env = .ok x e1) (h2 : ga e1 = .ok as e2) : gVal a ga env = .ok (.v x :: as) e2 := by unfold gVal; rw [h1]; show (ga e1).bind _ = _; rw [h2]; rfl
theorem r_gslot {sl : Sl} (h0 : env[i]? = some sl) (h1 : isOwn sl = true) (h2 : ga env = .ok as e2) : gSlot i ga env = .ok (.s i :: as) e2 := by unfold gSlot; rw [h0]; show (if isOwn sl = true then _ else _) = _; rw [if_pos h1, h2]; rfl
structure CallK (l : List Nat) (g : Fn) (ags : List Ar) (e1 : Dv.Env) (r : Res D) : Prop where
  of : (match l with
    | [] => match g ags with
      | .ok d _ => Res.ok d e1
      | .ex C fs _ => .ex C fs e1
      | .no => .no
    | [i] => match e1[i]? with
      | some s => match g ags with
        | .ok d (some p) => .ok d (e1.set i (putSl s p))
        | _ => .no
      | none => .no
    | _ => .no) = r
theorem ck_v (h : g ags = .ok d p) : CallK [] g ags e1 (.ok d e1) := ⟨by dsimp only; rw [h]⟩
theorem ck_s {sl sl' : Sl} {q : D} (h0 : e1[i]? = some sl) (h : g ags = .ok d (some q)) (hp : putSl sl q = sl') (he : e1.set i sl' = e') : CallK [i] g ags e1 (.ok d e') := ⟨by subst he; subst hp; dsimp only; rw [h0]; dsimp only; rw [h]⟩
theorem r_call {d : D} {e' : Dv.Env} (h1 : ga env = .ok as e1) (h2 : as.length = n) (h4 : resv as e1 = some ags) (h5 : CallK (slotOf as) g ags e1 (.ok d e')) : xCall n g ga env = .ok d e' := by
  unfold xCall
  rw [h1]
  show (if as.length = n then callG g as e1 else Res.no) = _
  rw [if_pos h2]
  unfold callG
  rw [h4]
  have := h5.of
  dsimp only
  revert this
  cases slotOf as with
  | nil => exact id
  | cons i l =>
    cases l with
    | cons _ _ => intro h; cases h
    | nil =>
      dsimp only
      cases e1[i]? with
      | none => intro h; cases h
      | some s =>
        dsimp only
        cases g ags with
        | no => intro h; cases h
        | ex C fs p => intro h; cases h
        | ok d p => cases p with
          | none => intro h; cases h
          | some p => exact id
theorem r_make {ci : Nat} {dcs : List D} {q : D} (h1 : ra env = .ok xs e1) (h2 : xs.length + 1 + dcs.length = n) (h3 : g (.par (.ins ci []) :: (xs ++ dcs).map Ar.val) = .ok .non (some q)) : xMake ci n dcs g ra env = .ok q e1 := by
  unfold xMake
  rw [h1]
  show (if xs.length + 1 + dcs.length = n then _ else _) = _
  rw [if_pos h2, h3]
theorem r_meth {m : Str} {t : MT} {j : Nat} (h1 : a env = .ok (.ins C fs) e1) (h2 : t.at C = some (j, g)) (h3 : fs.lookup m = none) (h4 : ga e1 = .ok as e2) (h5 : (Ag.v (.ins C fs) :: as).length = n) (h6 : slotOf (Ag.v (.ins C fs) :: as) = []) (h7 : resv (.v (.ins C fs) :: as) e2 = some ags) (h8 : g ags = .ok d p) : xMeth m n t a ga env = .ok d e2 := by
  unfold xMeth
  rw [h1]
  show (match t.at C with | some (_, g) => _ | none => _) = _
  rw [h2]
  dsimp only
  rw [if_pos h3, h4]
  show (if (Ag.v (.ins C fs) :: as).length = n then callG g (.v (.ins C fs) :: as) e2 else Res.no) = _
  rw [if_pos h5]
  unfold callG
  rw [h7, h6]
  dsimp only
  rw [h8]
theorem r_dget1 {k : Key} (h1 : a env = .ok (.dct kvs) e1) (h2 : b e1 = .ok y e2) (h3 : keyD y = some k) (h4 : (valD kvs k).getD .non = d) : xDGet1 a b env = .ok d e2 := by
  unfold xDGet1
  rw [h1]
  show (b e1).bind _ = _
  rw [h2]
  show Res.of ((keyD y).map _) e2 = _
  rw [h3, ← h4]
  rfl
theorem r_isq (h1 : a env = .ok d e1) (h2 : seqD d = some xs) : iSq a env = .ok xs e1 := by unfold iSq; rw [h1]; show Res.of (seqD d) e1 = _; rw [h2]; rfl
theorem r_for {ei : EvI} {eg : Eg} (h1 : ei env = .ok xs e1) (h2 : forL eg sa xs e1 = rs) : xFor ei eg sa env = rs := by unfold xFor; rw [h1]; exact h2
theorem r_run (hs : Dv.start n ags = e') (h : sa e' = .rt d e) (hp : parOf e = p) : runF false n sa ags = .ok d p := by subst hp; subst hs; unfold runF; rw [h]; rfl
theorem r_runN (hs : Dv.start n ags = e') (h : sa e' = .nx e) (hp : parOf e = p) : runF false n sa ags = .ok .non p := by subst hp; subst hs; unfold runF; rw [h]; rfl
theorem r_runF (hs : Dv.start n ags = e') (h : sa e' = .rf d e) (hp : parOf e = p) : runF true n sa ags = .ok d p := by subst hp; subst hs; unfold runF; rw [h]; rfl
theorem r_fldS {fs' : List (Str × D)} (h1 : a env = .ok d e1) (h0 : e1[i]? = some (.par (.ins C fs))) (h2 : C ∈ cs) (h3 : fs.length ≤ 900) (hp : putD s d fs = fs') (he : e1.set i (.par (.ins C fs')) = e') : xFldS cs s i a env = .nx e' := by
  subst he
  subst hp
  unfold xFldS
  rw [h1]
  show (match e1[i]? with | some (.par (.ins C fs)) => _ | some (.box (.ins C fs)) => _ | _ => _) = _
  rw [h0]
  exact if_pos ⟨h2, h3⟩
theorem r_bor (hb : borE env = e') (h : a e' = .ok d e1) (hs : scalR d = true) : xBor a env = .ok d env := by subst hb; unfold xBor; rw [h]; exact if_pos hs
theorem r_borT (hb : borE env = e') (h : ta e' = .ok bb e1) : xBorT ta env = .ok bb env := by subst hb; unfold xBorT; rw [h]
theorem r_ownM {fm : FM} {sl sl' : Sl} {l : List D} {c c' : D} (h1 : env[i]? = some sl) (h2 : cont sl = some (.lst l)) (h3 : ra env = .ok xs e1) (h4 : e1[i]? = some sl') (h5 : cont sl' = some c) (h6 : fm c xs = some (d, c')) {sl2 : Sl} (hp : putSl sl' c' = sl2) (he : e1.set i sl2 = e') : xOwnM fm i ra env = .ok d e' := by
  subst he
  subst hp
  unfold xOwnM
  rw [h1]
  dsimp only
  rw [h2]
  dsimp only
  rw [h3]
  show (match e1[i]? with | some t => _ | none => _) = _
  rw [h4]
  dsimp only
  rw [h5]
  dsimp only
  rw [h6]
theorem r_setIx {ek ev : Ev} {t0 t : Sl} {l : List D} {j : Int} {m : Nat} (h1 : ev env = .ok d e1) (h2 : e1[i]? = some t0) (h3 : isOwn t0 = true) (h4 : ek e1 = .ok (.int j) e2) (h5 : e2[i]? = some t) (h6 : cont t = some (.lst l)) (h7 : ixN l.length j = some m) {l' : List D} (hl : l.set m d = l') {sl2 : Sl} (hp : putSl t (.lst l') = sl2) (he : e2.set i sl2 = e') : xSetIx i ek ev env = .nx e' := by
  subst he
  subst hp
  subst hl
  unfold xSetIx
  rw [h1]
  show (match e1[i]? with | some t0 => _ | none => _) = _
  rw [h2]
  dsimp only
  rw [if_pos h3, h4]
  show (match e2[i]?, D.int j with | some t, .int j => _ | _, _ => _) = _
  rw [h5]
  dsimp only
  rw [h6]
  dsimp only
  rw [h7]
theorem r_dput {ek ev : Ev} {t0 t : Sl} {k : Key} (h1 : ev env = .ok d e1) (h2 : e1[i]? = some t0) (h3 : isOwn t0 = true) (h4 : ek e1 = .ok y e2) (h5 : e2[i]? = some t) (h5' : keyD y = some k) (h6 : cont t = some (.dct kvs)) (h7 : kvs.length < 1000000) {kvs' : List (Key × D)} (hl : putKD kvs k d = kvs') {sl2 : Sl} (hp : putSl t (.dct kvs') = sl2) (he : e2.set i sl2 = e') : xDPut i ek ev env = .nx e' := by
  subst he
  subst hp
  subst hl
  unfold xDPut
  rw [h1]
  show (match e1[i]? with | some t0 => _ | none => _) = _
  rw [h2]
  dsimp only
  rw [if_pos h3, h4]
  show (match e2[i]?, keyD y with | some t, some k => _ | _, _ => _) = _
  rw [h5, h5']
  dsimp only
  rw [h6]
  dsimp only
  rw [if_pos h7]
/-! loops and comprehensions -/
theorem wipe_wipeE {vs : List Nat} : wipeE (wipeE env vs) vs = wipeE env vs := by
  refine List.ext_getElem? fun j => ?_
  rw [wipeE_at, wipeE_at, wipeE_len]
  by_cases hj : j ∈ vs
  · rw [if_pos hj, if_pos hj]
  · simp [hj]
theorem cmp_ok {eg : Eg} {vs : List Nat} (W : Dv.Env) (q : D → Bool) (h : D → D) : ∀ (ds acc : List D) (env : Dv.Env), wipeE env vs = W → acc.length + ds.length < 1000000 →
    (∀ x ∈ ds, ∃ e1 e2, eg x W = some e1 ∧ ta e1 = .ok (q x) e2 ∧ wipeE e2 vs = W ∧ (q x = true → ∃ e3, a e2 = .ok (h x) e3 ∧ wipeE e3 vs = W)) → ∃ env', cmpL eg ta a vs ds acc env = .ok (acc ++ (ds.filter q).map h) env' ∧ wipeE env' vs = W
  | [], acc, env, hw, _, _ => ⟨env, by simp [cmpL], hw⟩
  | x :: ds, acc, env, hw, hl, hx => by
    obtain ⟨e1, e2, h1, h2, h3, h4⟩ := hx x (List.mem_cons_self ..)
    have ht := fun acc env hw hl => cmp_ok W q h ds acc env hw hl fun y hy => hx y (List.mem_cons_of_mem _ hy)
    rw [List.length_cons] at hl
    have e0 : cmpL eg ta a vs (x :: ds) acc env = match eg x (wipeE env vs) with
      | none => .no
      | some e1 => match ta e1 with
        | .ok true e2 => match a e2 with
          | .ok y e3 => if acc.length < 1000000 then cmpL eg ta a vs ds (acc ++ [y]) e3 else .no
          | _ => .no
        | .ok false e2 => cmpL eg ta a vs ds acc e2
        | _ => .no := rfl
    rw [e0, hw, h1]
    dsimp only
    rw [h2]
    cases hq : q x with
    | false =>
      dsimp only
      obtain ⟨env', k1, k2⟩ := ht acc e2 h3 (by omega)
      refine ⟨env', ?_, k2⟩
      rw [k1, List.filter_cons_of_neg (by rw [hq]; decide)]
    | true =>
      dsimp only
      obtain ⟨e3, h5, h6⟩ := h4 hq
      rw [h5]
      dsimp only
      rw [if_pos (by omega)]
      obtain ⟨env', k1, k2⟩ := ht (acc ++ [h x]) e3 h6 (by simp; omega)
      refine ⟨env', ?_, k2⟩
      rw [k1, List.filter_cons_of_pos hq]
      simp
theorem r_lc {ei : EvI} {eg : Eg} {vs : List Nat} {ds acc : List D} {e' : Dv.Env} (h1 : ei env = .ok ds e1) (h2 : cmpL eg ta a vs ds [] e1 = .ok acc e') (hw : wipeE e' vs = e) : xLc ei eg ta a vs env = .ok (.lst acc) e := by
  subst hw
  unfold xLc
  rw [h1]
  show (cmpL eg ta a vs ds [] e1).bind _ = _
  rw [h2]
  rfl
theorem r_lcD {pt : Pth} {w : Wk} {eg : Eg} {vs : List Nat} {acc : List D} {e' : Dv.Env} (h1 : pt env = some (.dct kvs, e1)) (h2 : cmpL eg ta a vs (w.ds kvs) [] e1 = .ok acc e') (hw : wipeE e' vs = e) : xLcD pt w eg ta a vs env = .ok (.lst acc) e := by
  subst hw
  unfold xLcD
  rw [h1]
  show noR ((cmpL eg ta a vs (w.ds kvs) [] e1).bind _) = _
  rw [h2]
  rfl
end
section
variable {env e e' e1 e2 e3 : Dv.Env} {a : Ev} {ta : EvT} {ra : EvA} {sb : EvS} {i : Nat} {d x y : D} {xs ds acc acc' : List D} {bb : Bool} {eg : Eg} {vs : List Nat} {r : Res (List D)} {rs q : Sr} {j k : Int}
theorem r_yes : xYes env = .ok true env := rfl
theorem cmp_nil : cmpL eg ta a vs [] acc env = .ok acc env := rfl
theorem cmp_cons (hw : wipeE env vs = e) (h1 : eg x e = some e1) (h2 : ta e1 = .ok bb e2) (h3 : Sel bb (match a e2 with | .ok y e3 => if acc.length < 1000000 then cmpL eg ta a vs xs (acc ++ [y]) e3 else .no | _ => .no) (cmpL eg ta a vs xs acc e2) r) : cmpL eg ta a vs (x :: xs) acc env = r := by
  have e0 : cmpL eg ta a vs (x :: xs) acc env = match eg x (wipeE env vs) with
      | none => .no
      | some e1 => match ta e1 with
        | .ok true e2 => match a e2 with
          | .ok y e3 => if acc.length < 1000000 then cmpL eg ta a vs xs (acc ++ [y]) e3 else .no
          | _ => .no
        | .ok false e2 => cmpL eg ta a vs xs acc e2
        | _ => .no := rfl
  subst hw
  rw [e0, h1]
  dsimp only
  rw [h2, ← h3.of]
  cases bb <;> rfl
theorem z_app0 : [] ++ [y] = [y] := rfl
theorem z_appS (h : acc ++ [y] = acc') : (x :: acc) ++ [y] = x :: acc' := by rw [← h]; rfl
theorem cmp_el (h1 : a e2 = .ok y e3) (h2 : acc.length < 1000000) (ha : acc ++ [y] = acc') (h3 : cmpL eg ta a vs xs acc' e3 = r) : (match a e2 with | .ok y e3 => if acc.length < 1000000 then cmpL eg ta a vs xs (acc ++ [y]) e3 else .no | _ => .no) = r := by
  subst ha
  rw [h1]
  dsimp only
  rw [if_pos h2, h3]
theorem z_pd0 {f : Str} {v : D} : putD f v [] = [(f, v)] := rfl
theorem z_pdS {f k : Str} {v w : D} {r r' : List (Str × D)} (hne : k ≠ f) (h : putD f v r = r') : putD f v ((k, w) :: r) = (k, w) :: r' := by
  rw [← h]
  show (if k = f then (k, v) :: r else (k, w) :: putD f v r) = _
  rw [if_neg hne]
theorem z_pk0 {k : Key} {v : D} : putKD [] k v = [(k, v)] := rfl
theorem z_pkS {k k' : Key} {v v' : D} {l l' : List (Key × D)} (hne : k' ≠ k) (h : putKD l k v = l') : putKD ((k', v') :: l) k v = (k', v') :: l' := by
  rw [← h]
  unfold putKD
  have e1 : decide (k' = k) = false := decide_eq_false hne
  simp only [List.any_cons, e1, Bool.false_or, List.map_cons, if_neg hne, List.cons_append]
  split <;> rfl
theorem dcmp_nil {ek : Ev} {acc : List (Key × D)} : dcmpL eg ta ek a vs [] acc env = .ok acc env := rfl
theorem dcmp_cons {ek : Ev} {acc acc' : List (Key × D)} {r : Res (List (Key × D))} {e4 : Dv.Env} {k : Key} {z : D} (hw : wipeE env vs = e) (h1 : eg x e = some e1) (h2 : ta e1 = .ok true e2) (h3 : ek e2 = .ok y e3) (h4 : a e3 = .ok z e4) (h5 : keyD y = some k) (h6 : acc.length < 1000000) (ha : putKD acc k z = acc') (h7 : dcmpL eg ta ek a vs xs acc' e4 = r) : dcmpL eg ta ek a vs (x :: xs) acc env = r := by
  have e0 : dcmpL eg ta ek a vs (x :: xs) acc env = match eg x (wipeE env vs) with
      | none => .no
      | some e1 => match ta e1 with
        | .ok true e2 => match ek e2 with
          | .ok y e3 => match a e3 with
            | .ok z e4 => match keyD y with
              | some k => if acc.length < 1000000 then dcmpL eg ta ek a vs xs (putKD acc k z) e4 else .no
              | none => .no
            | _ => .no
          | _ => .no
        | .ok false e2 => dcmpL eg ta ek a vs xs acc e2
        | _ => .no := rfl
  subst hw
  subst ha
  rw [e0, h1]
  dsimp only
  rw [h2]
  dsimp only
  rw [h3]
  dsimp only
  rw [h4]
  dsimp only
  rw [h5]
  dsimp only
  rw [if_pos h6, h7]
theorem r_dcD {pt : Pth} {w : Wk} {ek : Ev} {kvs acc : List (Key × D)} (h1 : pt env = some (.dct kvs, e1)) (h2 : dcmpL eg ta ek a vs (w.ds kvs) [] e1 = .ok acc e') (hw : wipeE e' vs = e) : xDcD pt w eg ta ek a vs env = .ok (.dct acc) e := by
  subst hw
  unfold xDcD
  rw [h1]
  show noR ((dcmpL eg ta ek a vs (w.ds kvs) [] e1).bind _) = _
  rw [h2]
  rfl
theorem r_dnew : xDNew env = .ok (.dct []) env := rfl
theorem z_tup2 {b c : Eg} {x y : D} (h1 : b x env = some e1) (h2 : c y e1 = some e2) : yTup 2 (yCons b (yCons c yNil)) (.tup [x, y]) env = some e2 := by
  show (if [x, y].length = 2 then (match b x env with | some e => (match c y e with | some e => some e | none => none) | none => none) else none) = _
  rw [if_pos (show [x, y].length = 2 from rfl), h1]
  dsimp only
  rw [h2]
structure ForK (eg : Eg) (sb : EvS) (xs : List D) (rs q : Sr) : Prop where
  of : (match rs with | .nx e2 => forL eg sb xs e2 | .ct e2 => forL eg sb xs e2 | .bk e2 => .nx e2 | r => r) = q
theorem for_nil : forL eg sb [] env = .nx env := rfl
theorem for_cons (h1 : eg x env = some e1) (h2 : sb e1 = rs) (h3 : ForK eg sb xs rs q) : forL eg sb (x :: xs) env = q := by
  have e0 : forL eg sb (x :: xs) env = match eg x env with
    | none => .no
    | some e1 => match sb e1 with
      | .nx e2 => forL eg sb xs e2
      | .ct e2 => forL eg sb xs e2
      | .bk e2 => .nx e2
      | r => r := rfl
  rw [e0, h1]
  dsimp only
  rw [h2]
  exact h3.of
theorem fk_nx (h : forL eg sb xs e = q) : ForK eg sb xs (.nx e) q := ⟨h⟩
theorem fk_bk : ForK eg sb xs (.bk e) (.nx e) := ⟨rfl⟩
theorem fk_rt : ForK eg sb xs (.rt d e) (.rt d e) := ⟨rfl⟩
theorem r_rg1 (h1 : ra env = .ok [.int j] e1) (h2 : -(2 ^ 62) ≤ j ∧ j < 2 ^ 62) : iRg1 ra env = .ok (rngD 0 j.toNat) e1 := by unfold iRg1; rw [h1]; exact if_pos h2
theorem r_rg2 (h1 : ra env = .ok [.int j, .int k] e1) (h2 : -(2 ^ 62) ≤ j ∧ j < 2 ^ 62 ∧ -(2 ^ 62) ≤ k ∧ k < 2 ^ 62) : iRg2 ra env = .ok (rngD j (k - j).toNat) e1 := by unfold iRg2; rw [h1]; exact if_pos h2
def isPar : Sl → Bool
  | .par _ => true
  | _ => false
theorem z_f0 {d : D} {s : Sl} {r : List Sl} (hf : isPar s = false) : setE (s :: r) 0 d = some (.val d :: r) := by
  cases s <;> first
    | (cases hf; done)
    | rfl
theorem z_name {d : D} (h : setE env i d = some e) : yName i d env = some e := h
theorem setE_at {s : Sl} (h : env[i]? = some s) (hf : isPar s = false) : setE env i d = some (env.set i (.val d)) := by
  unfold setE
  rw [h]
  cases s <;> first
    | (cases hf; done)
    | rfl
end
theorem ix0 {x : D} {r : List D} : oIx (.lst (x :: r)) (.int 0) = some x := by
  show atI (x :: r) 0 = some x
  unfold atI ixN
  rw [if_pos (by decide), if_pos (by rw [List.length_cons]; omega)]
  rfl
theorem ixn0 {x : D} {r : List D} : ixN (x :: r).length 0 = some 0 := by
  unfold ixN
  rw [if_pos (by decide), if_pos (by rw [List.length_cons]; omega)]
  rfl
theorem pop0 {x : D} {r : List D} : mPopAt (.lst (x :: r)) [.int 0] = some (x, .lst r) := rfl
section
variable {env e e' e1 e2 e3 : Dv.Env} {a b c : Ev} {ra : EvA} {i j : Nat} {d x y z : D} {bb b2 : Bool}
theorem r_un {f : FU} (h1 : a env = .ok x e1) (h2 : f x = some d) : xUn f a env = .ok d e1 := by unfold xUn; rw [h1]; show Res.of (f x) e1 = _; rw [h2]; rfl
theorem r_par (h1 : ra env = .ok [x, y] e1) (h2 : setE e1 i x = some e2) (h3 : setE e2 j y = some e) : xPar i j ra env = .nx e := by
  unfold xPar
  rw [h1]
  show (match setE e1 i x with | some e1 => (match setE e1 j y with | some e2 => Sr.nx e2 | none => .no) | none => .no) = _
  rw [h2]
  dsimp only
  rw [h3]
theorem r_asg {g : Eg} (h1 : a env = .ok d e1) (h2 : g d e1 = some e) : xAsg a g env = .nx e := by
  unfold xAsg
  rw [h1]
  show (match g d e1 with | some e' => Sr.nx e' | none => .no) = _
  rw [h2]
theorem r_chain {f g : FO} (h1 : a env = .ok x e1) (h2 : b e1 = .ok y e2) (h3 : f x y = some (.bl bb)) (h4 : c e2 = .ok z e2) (h5 : g y z = some (.bl b2)) : xChain f g a b c env = .ok (.bl (bb && b2)) e2 := by
  unfold xChain
  rw [h1]
  show ((b e1).bind _) = _
  rw [h2]
  show (match f x y with | some (.bl true) => (c e2).bind fun z e3 => Res.of (g y z) e3 | some (.bl false) => .ok (.bl false) e2 | _ => .no) = _
  rw [h3]
  cases bb with
  | false => rfl
  | true =>
    dsimp only
    rw [h4]
    show Res.of (g y z) e2 = _
    rw [h5]
    rfl
theorem z_tup4 {g1 g2 g3 g4 : Eg} {x1 x2 x3 x4 : D} {e4 : Dv.Env} (h1 : g1 x1 env = some e1) (h2 : g2 x2 e1 = some e2) (h3 : g3 x3 e2 = some e3) (h4 : g4 x4 e3 = some e4) : yTup 4 (yCons g1 (yCons g2 (yCons g3 (yCons g4 yNil)))) (.tup [x1, x2, x3, x4]) env = some e4 := by
  show (if [x1, x2, x3, x4].length = 4 then (match g1 x1 env with | some e => (match g2 x2 e with | some e => (match g3 x3 e with | some e => (match g4 x4 e with | some e => some e | none => none) | none => none) | none => none) | none => none) else none) = _
  rw [if_pos (show [x1, x2, x3, x4].length = 4 from rfl), h1]
  dsimp only
  rw [h2]
  dsimp only
  rw [h3]
  dsimp only
  rw [h4]
end
theorem z_setS4 {s0 s1 s2 s3 x : Sl} {r r' : List Sl} {i : Nat} (h : r.set i x = r') : (s0 :: s1 :: s2 :: s3 :: r).set (i + 4) x = s0 :: s1 :: s2 :: s3 :: r' := by rw [← h]; rfl
theorem z_atS4 {s0 s1 s2 s3 : Sl} {o : Option Sl} {r : List Sl} {i : Nat} (h : r[i]? = o) : (s0 :: s1 :: s2 :: s3 :: r)[i + 4]? = o := by rw [← h]; rfl
theorem z_stN4 {n : Nat} {e : Dv.Env} (h : Dv.start n [] = e) : Dv.start (n + 4) [] = .no :: .no :: .no :: .no :: e := by rw [← h]; rfl
theorem z_sS4 {d : D} {s0 s1 s2 s3 : Sl} {r r' : List Sl} {i : Nat} (h : setE r i d = some r') : setE (s0 :: s1 :: s2 :: s3 :: r) (i + 4) d = some (s0 :: s1 :: s2 :: s3 :: r') := z_sS (i := i + 3) (z_sS (i := i + 2) (z_sS (i := i + 1) (z_sS h)))
end
end Dv
section
open Dv
local macro_rules
  | `(tactic| exists $ts,*) => do
    let mut alts : Lean.TSyntaxArray `tactic := #[]
    for t in ts.getElems do alts := alts.push (← `(tactic| exact $t))
    let r ← `(tactic| first
      | with_reducible exact r_c | with_reducible exact r_nil | with_reducible exact r_gnil | with_reducible exact r_nx | with_reducible exact r_break | with_reducible exact sq_rt | with_reducible exact sq_rf | with_reducible exact sq_bk | with_reducible exact r_yes | with_reducible exact cmp_nil | with_reducible exact for_nil | with_reducible exact fk_bk | with_reducible exact fk_rt | with_reducible exact z_putP | with_reducible exact z_putB | with_reducible exact z_st0 | with_reducible exact z_bor0 | with_reducible exact z_w0 | with_reducible exact z_set0 | with_reducible exact z_v0 | with_reducible exact z_n0 | with_reducible exact z_b0 | with_reducible exact z_at0 | with_reducible exact z_app0 | with_reducible exact z_pk0 | with_reducible exact z_pd0 | with_reducible exact dcmp_nil | with_reducible exact r_dnew
      | ((with_reducible apply r_val); rfl) | ((with_reducible apply r_var); rfl) | ((with_reducible apply r_varB); rfl)
      | with_reducible apply r_op | with_reducible apply r_cons | with_reducible apply r_cb | with_reducible apply r_lst | with_reducible apply r_tup | with_reducible apply r_fld | with_reducible apply r_test | with_reducible apply r_notT | with_reducible apply r_andT | with_reducible apply r_orT | with_reducible apply r_andV | with_reducible apply r_if | with_reducible apply r_ifS | with_reducible apply r_seq | with_reducible apply sq_nx | with_reducible apply r_set | with_reducible apply r_ret | with_reducible apply r_retV | with_reducible apply r_drop | with_reducible apply r_box | with_reducible apply r_gval | with_reducible apply r_gslot | with_reducible apply r_call | with_reducible apply r_make | with_reducible apply r_meth | with_reducible apply r_dget1 | with_reducible apply r_isq | with_reducible apply r_for | with_reducible apply r_bor | with_reducible apply r_borT | with_reducible apply r_fldS | with_reducible apply r_ownM | with_reducible apply r_setIx | with_reducible apply r_un | with_reducible apply r_par | with_reducible apply r_asg | with_reducible apply r_chain | with_reducible apply z_tup4 | with_reducible apply r_dput | with_reducible apply r_run | with_reducible apply r_runN | with_reducible apply r_runF | with_reducible apply cmp_el | with_reducible apply fk_nx | with_reducible apply r_lc | with_reducible apply r_lcD | with_reducible apply r_rg1 | with_reducible apply r_rg2 | with_reducible apply z_name | with_reducible apply z_setS4 | with_reducible apply z_setS | with_reducible apply z_atS4 | with_reducible apply z_atS | with_reducible apply z_stN4 | with_reducible apply z_stN | with_reducible apply z_stV | with_reducible apply z_stP | with_reducible apply z_borV | with_reducible apply z_borB | with_reducible apply z_borP | with_reducible apply z_borN | with_reducible apply z_wS | with_reducible apply z_sS4 | with_reducible apply z_sS | with_reducible apply z_pkS | with_reducible apply z_pdS | with_reducible apply r_dcD | with_reducible apply z_tup2 | with_reducible apply z_f0 | with_reducible apply z_appS
      | ((with_reducible apply sel_t); (first | assumption | rfl)) | ((with_reducible apply sel_f); (first | assumption | rfl))
      | apply ck_v | apply ck_s | apply cmp_cons | apply for_cons | apply dcmp_cons | exact sq_rt | exact sq_rf | exact fk_rt)
    let rest ← `(tactic| first | assumption | rfl | decide | exact Nat.le_of_ble_eq_true rfl)
    let alts2 := alts ++ #[r] ++ #[rest]
    `(tactic| repeat' (first $[| $alts2:tactic]*))
namespace K39L
open PySem PySem.Spec PyProof.Rows L2 Dv K39
set_option autoImplicit false
noncomputable section
/-! draws -/
def Dr (l : List Int) : Prop := l ≠ [] ∧ ∀ n ∈ l, 0 ≤ n
theorem modE {x b : Int} (hb : b ≠ 0) : oMod (.int x) (.int b) = some (.int (x.fmod b)) := by
  show (if decide (b ≠ 0) = true then some (D.int (x.fmod b)) else none) = _
  rw [if_pos (decide_eq_true hb)]
theorem fdvE {x b : Int} (hb : b ≠ 0) (hb2 : b.natAbs < 1073741824) : oFdv (.int x) (.int b) = some (.int (x.fdiv b)) := by
  show (if decide (b ≠ 0 ∧ b.natAbs < 1073741824) = true then some (D.int (x.fdiv b)) else none) = _
  rw [if_pos (decide_eq_true ⟨hb, hb2⟩)]
theorem draw1 {x b : Int} {r : List Int} (hx : x ≠ 0 ∨ r = []) (hb : b ≠ 0) (hb2 : b.natAbs < 1073741824) : d__law_draw [.par (.lst ((x :: r).map .int)), .val (.int b)] = .ok (.int (x.fmod b)) (some (.lst ((x.fdiv b :: r).map .int))) := by
  unfold d__law_draw b__law_draw
  by_cases hz : x = 0
  · have h0 : decide (x = 0) = true := decide_eq_true hz
    have hr : r = [] := hx.resolve_left (fun h => h hz)
    subst hr
    (exists ix0, modE hb, fdvE hb hb2, ixn0)
  · have h0 : decide (x = 0) = false := decide_eq_false hz
    (exists ix0, modE hb, fdvE hb hb2, ixn0)
theorem draw2 {b y : Int} {r : List Int} (hb : b ≠ 0) (hb2 : b.natAbs < 1073741824) : d__law_draw [.par (.lst ((0 :: y :: r).map .int)), .val (.int b)] = .ok (.int (y.fmod b)) (some (.lst ((y.fdiv b :: r).map .int))) := by
  have h1 : decide ((1 : Int) < (((0 :: y :: r).map D.int).length : Nat)) = true := decide_eq_true (by simp; omega)
  unfold d__law_draw b__law_draw
  (exists ix0, modE hb, fdvE hb hb2, ixn0)
theorem draw_ok {l : List Int} (h : Dr l) (b : Int) (hb : 1 ≤ b) (hb2 : b < 1000) : ∃ (v : Int) (l' : List Int), d__law_draw [.par (.lst (l.map .int)), .val (.int b)] = .ok (.int v) (some (.lst (l'.map .int))) ∧ 0 ≤ v ∧ v < b ∧ Dr l' := by
  have b0 : b ≠ 0 := by omega
  have b1 : b.natAbs < 1073741824 := by omega
  have key : ∀ (x : Int) (r : List Int), 0 ≤ x → (∀ n ∈ r, 0 ≤ n) → 0 ≤ x.fmod b ∧ x.fmod b < b ∧ Dr (x.fdiv b :: r) := fun x r hx hr => ⟨Int.fmod_nonneg_of_pos x (by omega), Int.fmod_lt_of_pos x (by omega), fun e => (by cases e), fun n hn => by
    rcases List.mem_cons.mp hn with rfl | hn
    · exact Int.fdiv_nonneg hx (by omega)
    · exact hr n hn⟩
  obtain ⟨h0, h1⟩ := h
  match l, h0, h1 with
  | [x], _, h1 => exact ⟨_, _, draw1 (.inr rfl) b0 b1, key x [] (h1 x (List.mem_cons_self ..)) fun n hn => by cases hn⟩
  | x :: y :: r, _, h1 =>
    by_cases hx : x = 0
    · subst hx
      exact ⟨_, _, draw2 b0 b1, key y r (h1 y (by simp)) fun n hn => h1 n (by simp [hn])⟩
    · exact ⟨_, _, draw1 (.inl hx) b0 b1, key x (y :: r) (h1 x (List.mem_cons_self ..)) fun n hn => h1 n (List.mem_cons_of_mem _ hn)⟩
theorem ixE {row : List D} {v : Int} (h0 : 0 ≤ v) (h1 : v < row.length) : ∃ d, d ∈ row ∧ oIx (.lst row) (.int v) = some d := by
  have hv : v.toNat < row.length := by omega
  refine ⟨row[v.toNat], List.getElem_mem hv, ?_⟩
  show atI row v = _
  unfold atI ixN
  rw [if_pos h0, if_pos h1]
  show row[v.toNat]? = _
  simp [hv]
theorem pick_ok {l : List Int} (h : Dr l) (row : List D) (h1 : 1 ≤ row.length) (h2 : row.length < 1000) : ∃ (d : D) (l' : List Int), d__law_pick [.par (.lst (l.map .int)), .val (.lst row)] = .ok d (some (.lst (l'.map .int))) ∧ d ∈ row ∧ Dr l' := by
  obtain ⟨v, l', e, v0, v1, hd⟩ := draw_ok h (row.length : Nat) (by omega) (by omega)
  obtain ⟨d, hm, hx⟩ := ixE v0 v1
  refine ⟨d, l', ?_, hm, hd⟩
  unfold d__law_pick b__law_pick
  (exists e, hx)
def Sm (n : Int) : Prop := 0 ≤ n ∧ n ≤ 9
def SmO (o : Option Int) : Prop := ∀ k, o = some k → Sm k
theorem number_ok {l : List Int} (h : Dr l) : ∃ (z : Option Int) (l' : List Int), d__law_number [.par (.lst (l.map .int))] = .ok (match z with | some k => .int k | none => .non) (some (.lst (l'.map .int))) ∧ Dr l' ∧ SmO z := by
  obtain ⟨v, l', e, v0, v1, hd⟩ := draw_ok h 10 (by omega) (by omega)
  unfold d__law_number b__law_number
  by_cases hv : v = 0
  · have h0 : decide (v = 0) = true := decide_eq_true hv
    exact ⟨none, l', by (exists e), hd, fun k e => nomatch e⟩
  · have h0 : decide (v = 0) = false := decide_eq_false hv
    exact ⟨some v, l', by (exists e), hd, fun k e => by cases e; exact ⟨v0, by omega⟩⟩
theorem rules_ok {l : List Int} (h : Dr l) : ∃ (a b c : Str) (l' : List Int), d__law_rules [.par (.lst (l.map .int))] = .ok (.lst [.str a, .str b, .str c]) (some (.lst (l'.map .int))) ∧ Dr l' ∧ a ≠ "list" ∧ b ≠ "list" ∧ c ≠ "list" := by
  have mem : ∀ d ∈ [D.str "clears", D.str "refuses", D.str "takes"], ∃ s : Str, d = .str s ∧ s ≠ "list" := fun d hd => by
    simp at hd
    rcases hd with rfl | rfl | rfl <;> exact ⟨_, rfl, by decide⟩
  obtain ⟨d1, l1, e1, m1, h1⟩ := pick_ok h [D.str "clears", D.str "refuses", D.str "takes"] (by decide) (by decide)
  obtain ⟨d2, l2, e2, m2, h2⟩ := pick_ok h1 [D.str "clears", D.str "refuses", D.str "takes"] (by decide) (by decide)
  obtain ⟨d3, l3, e3, m3, h3⟩ := pick_ok h2 [D.str "clears", D.str "refuses", D.str "takes"] (by decide) (by decide)
  obtain ⟨a, rfl, n1⟩ := mem _ m1
  obtain ⟨b, rfl, n2⟩ := mem _ m2
  obtain ⟨c, rfl, n3⟩ := mem _ m3
  refine ⟨a, b, c, l3, ?_, h3, n1, n2, n3⟩
  unfold d__law_rules b__law_rules
  (exists e1, e2, e3)
theorem appI {ks : List Int} {v : Int} (h : ks.length < 1000000) : mApp (.lst (ks.map .int)) [.int v] = some (.non, .lst ((ks ++ [v]).map .int)) := by
  show (if (ks.map D.int).length < 1000000 then some (D.non, D.lst (ks.map D.int ++ [D.int v])) else none) = _
  rw [if_pos (by rw [List.length_map]; exact h), List.map_append]
  rfl
theorem eqI {a b : Int} : scalD (.int a) (.int b) = some (decide (a = b)) := rfl
theorem anyI (v : Int) : ∀ ks : List Int, anyEq (.int v) (ks.map .int) = some (decide (v ∈ ks))
  | [] => by simp [anyEq]
  | k :: ks => by
    have := anyI v ks
    rw [List.map_cons]
    unfold anyEq
    rw [this]
    by_cases h : v = k
    · simp [eqI, h, flatD]
    · have h' : ¬ k = v := fun e => h e.symm
      simp [eqI, h, h', flatD]
end
end K39L
namespace K39L
open PySem PySem.Spec PyProof.Rows L2 Dv K39
set_option autoImplicit false
noncomputable section

abbrev Ls (l : List Int) : D := .lst (l.map .int)
theorem notinI (v : Int) (ks : List Int) : oOr (oIn true) (oInD true) (.int v) (Ls ks) = some (.bl (!decide (v ∈ ks))) := by
  unfold oOr oIn
  show (match (match flatD (.int v), anyEq (.int v) (ks.map D.int) with | true, some b => some (D.bl (if true = true then !b else b)) | _, _ => none) with | some d => some d | none => _) = _
  rw [anyI]
  rfl
theorem inI (v : Int) (ks : List Int) : oOr (oIn false) (oInD false) (.int v) (Ls ks) = some (.bl (decide (v ∈ ks))) := by
  unfold oOr oIn
  show (match (match flatD (.int v), anyEq (.int v) (ks.map D.int) with | true, some b => some (D.bl (if false = true then !b else b)) | _, _ => none) with | some d => some d | none => _) = _
  rw [anyI]
  rfl
def bodyL : EvS := (xSeq (xSet 3 (xOp oAdd (xC (.int 1)) (xCall 2 d__law_draw (gSlot 0 (gVal (xC (.int 9)) gNil)))))
 (xIfS (xBorT (xTest (xOp (oOr (oIn true) (oInD true)) (xVal 3) (xVal 1))))
 (xDrop (xOwnM mApp 1 (xCons (xVal 3) xNil)))
 xNx))
theorem addI {a b : Int} : oAdd (.int a) (.int b) = some (.int (a + b)) := rfl
theorem list_loop : ∀ (xs l ks : List Int) (s2 s3 : Sl), isPar s2 = false → isPar s3 = false → Dr l → ks.length + xs.length < 1000 → (∀ k ∈ ks, Sm k) → ∃ (l' ks' : List Int) (e' : Dv.Env), forL (yName 2) bodyL (xs.map .int) [.par (Ls l), .box (Ls ks), s2, s3] = .nx (.par (Ls l') :: .box (Ls ks') :: e') ∧ Dr l' ∧ ks'.length ≤ ks.length + xs.length ∧ (∀ k ∈ ks', Sm k)
  | [], l, ks, s2, s3, _, _, h, hl, hs => ⟨l, ks, _, rfl, h, Nat.le_refl _, hs⟩
  | x :: xs, l, ks, s2, s3, f2, f3, h, hl, hs => by
    obtain ⟨v, l1, e, v0, v1, h1⟩ := draw_ok h 9 (by omega) (by omega)
    rw [List.length_cons] at hl
    by_cases hm : 1 + v ∈ ks
    · obtain ⟨l', ks', e', k1, k2, k3, k4⟩ := list_loop xs l1 ks (.val (.int x)) (.val (.int (1 + v))) rfl rfl h1 (by omega) hs
      refine ⟨l', ks', e', ?_, k2, by rw [List.length_cons]; omega, k4⟩
      have hb : (!decide (1 + v ∈ ks)) = false := by simp [hm]
      have n1 := notinI (1 + v) ks
      show forL (yName 2) bodyL (.int x :: xs.map .int) _ = _
      refine for_cons (e1 := [.par (Ls l), .box (Ls ks), .val (.int x), s3]) (by (exists trivial)) (rs := .nx [.par (Ls l1), .box (Ls ks), .val (.int x), .val (.int (1 + v))]) ?_ (fk_nx k1)
      unfold bodyL
      (exists e, addI, n1)
    · obtain ⟨l', ks', e', k1, k2, k3, k4⟩ := list_loop xs l1 (ks ++ [1 + v]) (.val (.int x)) (.val (.int (1 + v))) rfl rfl h1 (by rw [List.length_append]; simp; omega) (fun k hk => (List.mem_append.mp hk).elim (hs k) fun hk => by rw [List.mem_singleton.mp hk]; exact ⟨by omega, by omega⟩)
      refine ⟨l', ks', e', ?_, k2, by rw [List.length_append] at k3; simp at k3; rw [List.length_cons]; omega, k4⟩
      have hb : (!decide (1 + v ∈ ks)) = true := by simp [hm]
      have n1 := notinI (1 + v) ks
      have a1 := appI (v := 1 + v) (show ks.length < 1000000 by omega)
      show forL (yName 2) bodyL (.int x :: xs.map .int) _ = _
      refine for_cons (e1 := [.par (Ls l), .box (Ls ks), .val (.int x), s3]) (by (exists trivial)) (rs := .nx [.par (Ls l1), .box (Ls (ks ++ [1 + v])), .val (.int x), .val (.int (1 + v))]) ?_ (fk_nx k1)
      unfold bodyL
      (exists e, addI, n1, a1)
theorem rng0 (n : Nat) : ∃ xs : List Int, rngD 0 n = xs.map .int ∧ xs.length = n := ⟨(List.range n).map fun (k : Nat) => (0 : Int) + (k : Int), by simp [rngD], by simp⟩
theorem list_ok {l : List Int} (h : Dr l) : ∃ (ks l' : List Int), d__law_list [.par (Ls l)] = .ok (Ls ks) (some (Ls l')) ∧ Dr l' ∧ ks.length ≤ 4 ∧ (∀ k ∈ ks, Sm k) := by
  obtain ⟨v, l1, e, v0, v1, h1⟩ := draw_ok h 5 (by omega) (by omega)
  obtain ⟨xs, hx, hl⟩ := rng0 v.toNat
  obtain ⟨l', ks', e', k1, k2, k3, k4⟩ := list_loop xs l1 [] .no .no rfl rfl h1 (by simp; omega) (fun k hk => nomatch hk)
  refine ⟨ks', l', ?_, k2, by simp at k3; omega, k4⟩
  have rg : iRg1 (xCons (xCall 2 d__law_draw (gSlot 0 (gVal (xC (.int 5)) gNil))) xNil) [.par (Ls l), .box (.lst []), .no, .no] = .ok (xs.map .int) [.par (Ls l1), .box (.lst []), .no, .no] := by
    rw [← hx]
    exact r_rg1 (by (exists e)) ⟨by omega, by omega⟩
  unfold d__law_list b__law_list
  have k1 : forL (yName 2) bodyL (xs.map .int) [.par (Ls l1), .box (.lst []), .no, .no] = .nx (.par (Ls l') :: .box (Ls ks') :: e') := k1
  unfold bodyL at k1
  (exists rg, k1)
end
end K39L
namespace K39L
open PySem PySem.Spec PyProof.Rows L2 Dv K39
set_option autoImplicit false
noncomputable section


abbrev oi : Option Int → D
  | some k => .int k
  | none => .non
abbrev os : Option Str → D
  | some k => .str k
  | none => .non
def od : Option Int → PyData
  | some k => .int k
  | none => .none
def osd : Option Str → PyData
  | some k => .str k
  | none => .none
def slen : Option Str → Nat
  | some s => s.length
  | none => 0
def okS (y : Option Str) : Prop := (∀ x : Option Int, SeqAt.shaped (.list [od x, osd y]) = true) ∧ slen y ≤ 1000 ∧ (y = none ∨ y = some "" ∨ y = some "b" ∨ y = some "ab")
inductive Th where
  | A (x : Option Int) (y : Option Str) (z : Option Int) (ks : List Int)
  | B (p q : Option Int) (ks : List Int)
def Th.kd : Th → Str
  | .A .. => "A"
  | .B .. => "B"
def Th.ks : Th → List Int
  | .A _ _ _ ks => ks
  | .B _ _ ks => ks
def okT : Th → Prop
  | .A x y z ks => ks.length ≤ 4 ∧ okS y ∧ SmO x ∧ SmO z ∧ ∀ k ∈ ks, Sm k
  | .B p q ks => ks.length ≤ 4 ∧ SmO p ∧ SmO q ∧ ∀ k ∈ ks, Sm k
theorem okS_none : okS none := ⟨fun x => by cases x <;> rfl, by decide, .inl rfl⟩
theorem okS_m1 : okS (some "") := ⟨fun x => by
  cases x with
  | none => decide +kernel
  | some k => exact (show SeqAt.shaped (.list [od (some 0), osd (some "")]) = true by decide +kernel), by decide, .inr (.inl rfl)⟩
theorem okS_m2 : okS (some "b") := ⟨fun x => by
  cases x with
  | none => decide +kernel
  | some k => exact (show SeqAt.shaped (.list [od (some 0), osd (some "b")]) = true by decide +kernel), by decide, .inr (.inr (.inl rfl))⟩
theorem okS_m3 : okS (some "ab") := ⟨fun x => by
  cases x with
  | none => decide +kernel
  | some k => exact (show SeqAt.shaped (.list [od (some 0), osd (some "ab")]) = true by decide +kernel), by decide, .inr (.inr (.inr rfl))⟩
def Th.cont : Th → List (L2.Key × D)
  | .A x y z ks => [(.inr "a", oi x), (.inr "t", os y), (.inr "r", oi z), (.inr "l", Ls ks)]
  | .B p q ks => [(.inr "p", oi p), (.inr "q", oi q), (.inr "m", Ls ks)]
def Th.d (t : Th) : D := .ins 4 [("kind", .str t.kd), ("contents", .dct t.cont)]
theorem numb_ok {l : List Int} (h : Dr l) : ∃ (z : Option Int) (l' : List Int), d__law_number [.par (Ls l)] = .ok (oi z) (some (Ls l')) ∧ Dr l' ∧ SmO z := by
  obtain ⟨z, l', e, h'⟩ := number_ok h
  exact ⟨z, l', by rw [e] <;> (cases z <;> rfl), h'⟩
theorem conA_ok {l : List Int} (h : Dr l) : ∃ (x : Option Int) (y : Option Str) (z : Option Int) (ks l' : List Int), d__law_contents [.par (Ls l), .val (.str "A")] = .ok (.dct (Th.A x y z ks).cont) (some (Ls l')) ∧ Dr l' ∧ okT (.A x y z ks) := by
  obtain ⟨d1, l1, e1, m1, h1⟩ := pick_ok h [.non, .int 0, .int 1, .int 2, .int 9] (by decide) (by decide)
  have hx : ∃ x, d1 = oi x ∧ SmO x := by
    simp at m1
    rcases m1 with rfl | rfl | rfl | rfl | rfl
    · exact ⟨none, rfl, fun k e => by cases e <;> exact ⟨by decide, by decide⟩⟩
    · exact ⟨some 0, rfl, fun k e => by cases e <;> exact ⟨by decide, by decide⟩⟩
    · exact ⟨some 1, rfl, fun k e => by cases e <;> exact ⟨by decide, by decide⟩⟩
    · exact ⟨some 2, rfl, fun k e => by cases e <;> exact ⟨by decide, by decide⟩⟩
    · exact ⟨some 9, rfl, fun k e => by cases e <;> exact ⟨by decide, by decide⟩⟩
  obtain ⟨x, rfl, sx⟩ := hx
  obtain ⟨d2, l2, e2, m2, h2⟩ := pick_ok h1 [.non, .str "", .str "b", .str "ab"] (by decide) (by decide)
  have hy : ∃ x, d2 = os x ∧ okS x := by
    simp at m2
    rcases m2 with rfl | rfl | rfl | rfl
    · exact ⟨none, rfl, okS_none⟩
    · exact ⟨some _, rfl, okS_m1⟩
    · exact ⟨some _, rfl, okS_m2⟩
    · exact ⟨some _, rfl, okS_m3⟩
  obtain ⟨y, rfl, oy⟩ := hy
  obtain ⟨z, l3, e3, h3, sz⟩ := numb_ok h2
  obtain ⟨ks, l4, e4, h4, k4, sk⟩ := list_ok h3
  refine ⟨x, y, z, ks, l4, ?_, h4, k4, oy, sx, sz, sk⟩
  unfold d__law_contents b__law_contents Th.cont
  (exists e1, e2, e3, e4)
theorem conB_ok {l : List Int} (h : Dr l) : ∃ (p q : Option Int) (ks l' : List Int), d__law_contents [.par (Ls l), .val (.str "B")] = .ok (.dct (Th.B p q ks).cont) (some (Ls l')) ∧ Dr l' ∧ okT (.B p q ks) := by
  obtain ⟨p, l1, e1, h1, sp⟩ := numb_ok h
  obtain ⟨q, l3, e3, h3, sq⟩ := numb_ok h1
  obtain ⟨ks, l4, e4, h4, k4, sk⟩ := list_ok h3
  refine ⟨p, q, ks, l4, ?_, h4, k4, sp, sq, sk⟩
  unfold d__law_contents b__law_contents Th.cont
  (exists e1, e3, e4)
theorem cc_oi (x : Option Int) : d_content_copy [.val (oi x)] = .ok (oi x) none := by
  unfold d_content_copy b_content_copy
  cases x <;> (exists trivial)
theorem cc_os (x : Option Str) : d_content_copy [.val (os x)] = .ok (os x) none := by
  unfold d_content_copy b_content_copy
  cases x <;> (exists trivial)
theorem cc_ls (x : List Int) : d_content_copy [.val (Ls x)] = .ok (Ls x) none := by
  unfold d_content_copy b_content_copy
  (exists trivial)
theorem init_ok (t : Th) : d_Thing___init__ [.par (.ins 4 []), .val (.str t.kd), .val (.dct t.cont)] = .ok .non (some t.d) := by
  cases t with
  | A x y z ks =>
    have c1 := cc_oi x
    have c2 := cc_os y
    have c3 := cc_oi z
    have c4 := cc_ls ks
    unfold d_Thing___init__ b_Thing___init__ Th.d Th.cont Th.kd
    apply r_runN
    (exists c1, c2, c3, c4)
  | B p q ks =>
    have c1 := cc_oi p
    have c3 := cc_oi q
    have c4 := cc_ls ks
    unfold d_Thing___init__ b_Thing___init__ Th.d Th.cont Th.kd
    apply r_runN
    (exists c1, c3, c4)

abbrev Pic := List (Int × Th)
def picK (P : Pic) : List (L2.Key × D) := P.map fun p => (.inl p.1, p.2.d)
def putP (P : Pic) (k : Int) (t : Th) : Pic := if (P.any fun p => decide (p.1 = k)) = true then P.map (fun p => if p.1 = k then (p.1, t) else p) else P ++ [(k, t)]
theorem putP_d (P : Pic) (k : Int) (t : Th) : putKD (picK P) (.inl k) t.d = picK (putP P k t) := by
  have hk : ∀ j : Int, ((.inl j : L2.Key) = .inl k) ↔ j = k := fun j => ⟨fun e => by cases e; rfl, fun e => by rw [e]⟩
  unfold putKD putP picK
  have e1 : ((P.map fun p => ((.inl p.1 : L2.Key), p.2.d)).any fun kv => decide (kv.1 = .inl k)) = P.any fun p => decide (p.1 = k) := by
    rw [List.any_map]
    congr 1
    funext p
    simp only [Function.comp]
    exact decide_eq_decide.mpr (hk p.1)
  rw [e1]
  split
  · rw [List.map_map, List.map_map]
    refine List.map_congr_left fun p _ => ?_
    simp only [Function.comp]
    by_cases h : p.1 = k
    · rw [if_pos ((hk p.1).mpr h), if_pos h]
    · rw [if_neg (fun e => h ((hk p.1).mp e)), if_neg h]
  · rw [List.map_append]
    rfl
def Good (P : Pic) : Prop := (P.map (·.1)).Nodup ∧ ∀ p ∈ P, okT p.2
theorem putP_good {P : Pic} {k : Int} {t : Th} (h : Good P) (ht : okT t) : Good (putP P k t) ∧ (putP P k t).length ≤ P.length + 1 := by
  unfold putP
  split
  · refine ⟨⟨?_, fun p hp => ?_⟩, by rw [List.length_map]; omega⟩
    · rw [List.map_map, List.map_congr_left (g := fun p : Int × Th => p.1) fun p _ => by
        simp only [Function.comp]
        split <;> rfl]
      exact h.1
    · obtain ⟨q, hq, rfl⟩ := List.mem_map.mp hp
      split
      · exact ht
      · exact h.2 q hq
  · rename_i hn
    refine ⟨⟨?_, fun p hp => ?_⟩, by rw [List.length_append]; simp⟩
    · rw [List.map_append]
      refine List.nodup_append.mpr ⟨h.1, by simp, fun a ha b hb e => ?_⟩
      simp at hb
      subst hb
      subst e
      obtain ⟨q, hq, e⟩ := List.mem_map.mp ha
      exact hn (List.any_eq_true.mpr ⟨q, hq, decide_eq_true e⟩)
    · rcases List.mem_append.mp hp with hp | hp
      · exact h.2 p hp
      · simp at hp
        subst hp
        exact ht
def bodyP : EvS := (xSeq (xSet 3 (xOp oAdd (xC (.int 1)) (xCall 2 d__law_draw (gSlot 0 (gVal (xC (.int 9)) gNil)))))
 (xSeq (xSet 4 (xCall 2 d__law_pick (gSlot 0 (gVal (xLst (xCons (xC (.str "A")) (xCons (xC (.str "B")) xNil))) gNil))))
 (xDPut 1 (xVal 3) (xMake 4 3 [] d_Thing___init__ (xCons (xVal 4) (xCons (xCall 2 d__law_contents (gSlot 0 (gVal (xVal 4) gNil))) xNil))))))
theorem thing_ok {l : List Int} (h : Dr l) : ∃ (t : Th) (l1 l' : List Int), d__law_pick [.par (Ls l), .val (.lst [.str "A", .str "B"])] = .ok (.str t.kd) (some (Ls l1)) ∧ d__law_contents [.par (Ls l1), .val (.str t.kd)] = .ok (.dct t.cont) (some (Ls l')) ∧ Dr l' ∧ okT t := by
  obtain ⟨d1, l1, e1, m1, h1⟩ := pick_ok h [.str "A", .str "B"] (by decide) (by decide)
  simp at m1
  rcases m1 with rfl | rfl
  · obtain ⟨x, y, z, ks, l', e2, h2, k⟩ := conA_ok h1
    exact ⟨.A x y z ks, l1, l', e1, e2, h2, k⟩
  · obtain ⟨p, q, ks, l', e2, h2, k⟩ := conB_ok h1
    exact ⟨.B p q ks, l1, l', e1, e2, h2, k⟩
theorem pic_loop : ∀ (xs l : List Int) (P : Pic) (s2 s3 s4 : Sl), isPar s2 = false → isPar s3 = false → isPar s4 = false → Dr l → Good P → P.length + xs.length < 1000 → ∃ (l' : List Int) (P' : Pic) (e' : Dv.Env), forL (yName 2) bodyP (xs.map .int) [.par (Ls l), .box (.dct (picK P)), s2, s3, s4] = .nx (.par (Ls l') :: .box (.dct (picK P')) :: e') ∧ Dr l' ∧ Good P' ∧ P'.length ≤ P.length + xs.length
  | [], l, P, s2, s3, s4, _, _, _, h, g, hl => ⟨l, P, _, rfl, h, g, Nat.le_refl _⟩
  | x :: xs, l, P, s2, s3, s4, f2, f3, f4, h, g, hl => by
    obtain ⟨v, l1, e, v0, v1, h1⟩ := draw_ok h 9 (by omega) (by omega)
    obtain ⟨t, l2, l3, e2, e3, h3, kt⟩ := thing_ok h1
    rw [List.length_cons] at hl
    obtain ⟨g2, n2⟩ := putP_good (k := 1 + v) g kt
    obtain ⟨l', P', e', k1, k2, k3, k4⟩ := pic_loop xs l3 (putP P (1 + v) t) (.val (.int x)) (.val (.int (1 + v))) (.val (.str t.kd)) rfl rfl rfl h3 g2 (by omega)
    refine ⟨l', P', e', ?_, k2, k3, by rw [List.length_cons]; omega⟩
    have i1 := init_ok t
    have p1 := putP_d P (1 + v) t
    have p2 : (picK P).length < 1000000 := by unfold picK; rw [List.length_map]; omega
    show forL (yName 2) bodyP (.int x :: xs.map .int) _ = _
    refine for_cons (e1 := [.par (Ls l), .box (.dct (picK P)), .val (.int x), s3, s4]) (by (exists trivial)) (rs := .nx [.par (Ls l3), .box (.dct (picK (putP P (1 + v) t))), .val (.int x), .val (.int (1 + v)), .val (.str t.kd)]) ?_ (fk_nx k1)
    unfold bodyP
    (exists e, addI, e2, e3, i1, p1)
theorem pic_ok {l : List Int} (h : Dr l) : ∃ (P : Pic) (l' : List Int), d__law_picture [.par (Ls l)] = .ok (.dct (picK P)) (some (Ls l')) ∧ Dr l' ∧ Good P ∧ P.length ≤ 7 := by
  obtain ⟨v, l1, e, v0, v1, h1⟩ := draw_ok h 8 (by omega) (by omega)
  obtain ⟨xs, hx, hl⟩ := rng0 v.toNat
  obtain ⟨l', P', e', k1, k2, k3, k4⟩ := pic_loop xs l1 [] .no .no .no rfl rfl rfl h1 ⟨by simp, by simp⟩ (by simp; omega)
  refine ⟨P', l', ?_, k2, k3, by simp at k4; omega⟩
  have rg : iRg1 (xCons (xCall 2 d__law_draw (gSlot 0 (gVal (xC (.int 8)) Dv.gNil))) xNil) [.par (Ls l), .box (.dct []), .no, .no, .no] = .ok (xs.map .int) [.par (Ls l1), .box (.dct []), .no, .no, .no] := by
    rw [← hx]
    exact r_rg1 (by (exists e)) ⟨by omega, by omega⟩
  have k1 : forL (yName 2) bodyP (xs.map .int) [.par (Ls l1), .box (.dct []), .no, .no, .no] = .nx (.par (Ls l') :: .box (.dct (picK P')) :: e') := k1
  unfold bodyP at k1
  unfold d__law_picture b__law_picture
  (exists rg, k1)
end
end K39L
namespace K39L
open PySem PySem.Spec PyProof.Rows L2 Dv K39
set_option autoImplicit false
noncomputable section
/-! ### a picture's copy shares no list -/
def oiV : Option Int → V
  | some k => .int k
  | none => .non
def osV : Option Str → V
  | some k => .str k
  | none => .non
def Th.cv (l : Addr) : Th → List (L2.Key × V)
  | .A x y z _ => [(.inr "a", oiV x), (.inr "t", osV y), (.inr "r", oiV z), (.inr "l", .ref l)]
  | .B p q _ => [(.inr "p", oiV p), (.inr "q", oiV q), (.inr "m", .ref l)]
/-- the same, its list locked -/
def Th.contS : Th → List (L2.Key × D)
  | .A x y z ks => [(.inr "a", oi x), (.inr "t", os y), (.inr "r", oi z), (.inr "l", .scr (ks.map D.int))]
  | .B p q ks => [(.inr "p", oi p), (.inr "q", oi q), (.inr "m", .scr (ks.map D.int))]
def Th.dS (t : Th) : D := .ins 4 [("kind", .str t.kd), ("contents", .dct t.contS)]
def flT (c : Addr) (t : Th) : List (Str × V) := [("kind", .str t.kd), ("contents", .ref c)]
section
variable {K : PySem.W.Frag} {A : Ad}
/-- a thing stands there: its list at l -/
structure ThI (A : Ad) (H : Hp) (a c l : Addr) (t : Th) : Prop where
  ins : ∃ dx, H a = some (.ins (S A 4) dx (flT c t))
  dct : Rd H c (.dK (t.cv l))
  lst : H l = some (.lst (t.ks.map V.int))
theorem rep_oi {G : Hp} {x : Option Int} {v : V} (r : Rep K (S A) G (oi x) v) : v = oiV x := by
  cases x <;> exact r
theorem rep_os {G : Hp} {x : Option Str} {v : V} (r : Rep K (S A) G (os x) v) : v = osV x := by
  cases x <;> exact r
theorem oi_rep {G : Hp} {x : Option Int} : Rep K (S A) G (oi x) (oiV x) := by
  cases x <;> rfl
theorem os_rep {G : Hp} {x : Option Str} : Rep K (S A) G (os x) (osV x) := by
  cases x <;> rfl
theorem repL_ints {G : Hp} : ∀ {ks : List Int} {vs : List V}, RepL K (S A) G (ks.map D.int) vs → vs = ks.map V.int
  | [], _, r => by cases r; rfl
  | k :: ks, _, ⟨v, ws, e, q, r⟩ => by
    subst e
    have q : v = .int k := q
    rw [q, repL_ints r]
    rfl
theorem ints_repL {G : Hp} : ∀ {ks : List Int}, RepL K (S A) G (ks.map D.int) (ks.map V.int)
  | [] => rfl
  | k :: ks => ⟨_, _, rfl, rfl, ints_repL⟩
/-- from a tree to the places -/
theorem thI_of {G : Hp} {t : Th} {v : V} (r : Rep K (S A) G t.d v) : ∃ a c l dx, v = .ref a ∧ G a = some (.ins (S A 4) dx (flT c t)) ∧ G c = some (.dK (t.cv l)) ∧ G l = some (.lst (t.ks.map V.int)) := by
  obtain ⟨a, dx, ws, rfl, ga, v1, w1, e1, q1, v2, w2, e2, ⟨c, kv, rfl, gc, rk⟩, e3⟩ := r
  cases e3
  subst e2
  subst e1
  have q1 : v1 = .str t.kd := q1
  subst q1
  cases t with
  | A x y z ks =>
    obtain ⟨a1, b1, f1, r1, a2, b2, f2, r2, a3, b3, f3, r3, a4, b4, f4, ⟨l, us, rfl, gl, rl⟩, f5⟩ := rk
    cases f5
    subst f4
    subst f3
    subst f2
    subst f1
    rw [rep_oi r1, rep_os r2, rep_oi r3] at gc
    rw [repL_ints rl] at gl
    exact ⟨a, c, l, dx, rfl, ga, gc, gl⟩
  | B p q ks =>
    obtain ⟨a1, b1, f1, r1, a2, b2, f2, r2, a4, b4, f4, ⟨l, us, rfl, gl, rl⟩, f5⟩ := rk
    cases f5
    subst f4
    subst f2
    subst f1
    rw [rep_oi r1, rep_oi r2] at gc
    rw [repL_ints rl] at gl
    exact ⟨a, c, l, dx, rfl, ga, gc, gl⟩
/-- and back -/
theorem thI_to {G : Hp} {t : Th} {a c l dx : Addr} (ga : G a = some (.ins (S A 4) dx (flT c t))) (gc : G c = some (.dK (t.cv l))) (gl : G l = some (.lst (t.ks.map V.int))) : Rep K (S A) G t.d (.ref a) := by
  refine ⟨a, dx, _, rfl, ga, _, _, rfl, rfl, _, _, rfl, ⟨c, _, rfl, gc, ?_⟩, rfl⟩
  cases t with
  | A x y z ks => exact ⟨_, _, rfl, oi_rep, _, _, rfl, os_rep, _, _, rfl, oi_rep, _, _, rfl, ⟨l, _, rfl, gl, ints_repL⟩, rfl⟩
  | B p q ks => exact ⟨_, _, rfl, oi_rep, _, _, rfl, oi_rep, _, _, rfl, ⟨l, _, rfl, gl, ints_repL⟩, rfl⟩
theorem thS_to {G : Hp} {t : Th} {a c l dx : Addr} {od : Obj} (ga : G a = some (.ins (S A 4) dx (flT c t))) (gc : G c = some (.dK (t.cv l))) (gl : G l = some (.frz od (.lst (t.ks.map V.int)))) : Rep K (S A) G t.dS (.ref a) := by
  refine ⟨a, dx, _, rfl, ga, _, _, rfl, rfl, _, _, rfl, ⟨c, _, rfl, gc, ?_⟩, rfl⟩
  cases t with
  | A x y z ks => exact ⟨_, _, rfl, oi_rep, _, _, rfl, os_rep, _, _, rfl, oi_rep, _, _, rfl, ⟨l, _, rfl, .inl (.inr ⟨od, gl⟩), ints_repL⟩, rfl⟩
  | B p q ks => exact ⟨_, _, rfl, oi_rep, _, _, rfl, oi_rep, _, _, rfl, ⟨l, _, rfl, .inl (.inr ⟨od, gl⟩), ints_repL⟩, rfl⟩
end
/-! the copy's run, over a locked list -/
theorem cc_scr (x : List Int) : d_content_copy [.val (.scr (x.map D.int))] = .ok (Ls x) none := by
  unfold d_content_copy b_content_copy
  (exists trivial)
theorem initS_ok (t : Th) : d_Thing___init__ [.par (.ins 4 []), .val (.str t.kd), .val (.dct t.contS)] = .ok .non (some t.d) := by
  cases t with
  | A x y z ks =>
    have c1 := cc_oi x
    have c2 := cc_os y
    have c3 := cc_oi z
    have c4 := cc_scr ks
    unfold d_Thing___init__ b_Thing___init__ Th.d Th.cont Th.contS Th.kd
    apply r_runN
    (exists c1, c2, c3, c4)
  | B p q ks =>
    have c1 := cc_oi p
    have c3 := cc_oi q
    have c4 := cc_scr ks
    unfold d_Thing___init__ b_Thing___init__ Th.d Th.cont Th.contS Th.kd
    apply r_runN
    (exists c1, c3, c4)
theorem copiedS_ok (t : Th) : d_Thing_copied [.val t.dS] = .ok t.d none := by
  have h := initS_ok t
  unfold d_Thing_copied b_Thing_copied Th.dS
  (exists h)
theorem copied_ok (t : Th) : d_Thing_copied [.val t.d] = .ok t.d none := by
  have h := init_ok t
  unfold d_Thing_copied b_Thing_copied Th.d
  (exists h)
end
end K39L
namespace K39L
open PySem PySem.Spec PyProof.Rows L2 Dv K39
set_option autoImplicit false
noncomputable section
/-! ### contents as data -/
def kc : Th → List (L2.Key × PyData)
  | .A x y z ks => [(.inr "a", od x), (.inr "t", osd y), (.inr "r", od z), (.inr "l", .list (ks.map .int))]
  | .B p q ks => [(.inr "p", od p), (.inr "q", od q), (.inr "m", .list (ks.map .int))]
theorem dat_oi (x : Option Int) : dat (oi x) = some (od x) := by cases x <;> rfl
theorem dat_os (x : Option Str) : dat (os x) = some (osd x) := by cases x <;> rfl
theorem datL_ints : ∀ ks : List Int, datL (ks.map D.int) = some (ks.map PyData.int)
  | [] => rfl
  | k :: ks => by
    show (match dat (.int k), datL (ks.map D.int) with
      | some a, some r => some (a :: r)
      | _, _ => none) = _
    rw [datL_ints ks]
    rfl
theorem dat_Ls (ks : List Int) : dat (Ls ks) = some (.list (ks.map PyData.int)) := by
  show (datL (ks.map D.int)).map PyData.list = _
  rw [datL_ints]
  rfl
theorem datK_cont (t : Th) : datK t.cont = some (kc t) := by
  cases t with
  | A x y z ks => simp only [Th.cont, datK, dat_oi, dat_os, dat_Ls, kc]
  | B p q ks => simp only [Th.cont, datK, dat_oi, dat_os, dat_Ls, kc]
theorem lay_ints : ∀ ks : List Int, PyData.canLayAll0 (ks.map PyData.int) = true
  | [] => rfl
  | k :: ks => by
    show (PyData.canLay0 (.int k) && PyData.canLayAll0 (ks.map PyData.int)) = true
    rw [lay_ints ks]
    rfl
theorem dep_ints : ∀ ks : List Int, PyData.depthAll (ks.map PyData.int) = 0
  | [] => rfl
  | k :: ks => by
    show max (PyData.depth (.int k)) (PyData.depthAll (ks.map PyData.int)) = 0
    rw [dep_ints ks]
    rfl
theorem sh_ints (ks : List Int) : SeqAt.shaped (.list (ks.map PyData.int)) = true := by
  show (PyData.canLay0 (.list (ks.map PyData.int)) && decide (PyData.depth (.list (ks.map PyData.int)) ≤ 64)) = true
  have h1 : PyData.canLay0 (.list (ks.map PyData.int)) = true := by simpa [PyData.canLay0] using lay_ints ks
  have h2 : PyData.depth (.list (ks.map PyData.int)) = 1 := by simp only [PyData.depth, dep_ints]
  rw [h1, h2]
  rfl
theorem sh_od (x : Option Int) : SeqAt.shaped (od x) = true := by cases x <;> rfl
theorem sh_osd {y : Option Str} (h : okS y) : SeqAt.shaped (osd y) = true := by
  rcases h.2.2 with rfl | rfl | rfl | rfl <;> decide +kernel
theorem layK_kc {t : Th} (h : okT t) : layK (kc t) = true := by
  cases t with
  | A x y z ks => simp only [kc, layK, List.all_cons, List.all_nil, sh_od, sh_osd h.2.1, sh_ints, Bool.and_self]
  | B p q ks => simp only [kc, layK, List.all_cons, List.all_nil, sh_od, sh_ints, Bool.and_self]
def Th.app : Th → Int → Th
  | .A x y z ks, k => .A x y z (ks ++ [k])
  | .B p q ks, k => .B p q (ks ++ [k])
theorem layK_app {t : Th} (h : okT t) (k : Int) : layK (kc (t.app k)) = true := by
  cases t with
  | A x y z ks => simp only [Th.app, kc, layK, List.all_cons, List.all_nil, sh_od, sh_osd h.2.1, sh_ints, Bool.and_self]
  | B p q ks => simp only [Th.app, kc, layK, List.all_cons, List.all_nil, sh_od, sh_ints, Bool.and_self]
theorem eqv_sh {d : PyData} (h : SeqAt.shaped d = true) : PyData.eqv d d = true := SeqAt.eqv_refl d (SeqAt.canLay_of_shaped h)
theorem eqv_app (k : Int) : ∀ ks : List Int, PyData.eqvAll ((ks ++ [k]).map PyData.int) (ks.map PyData.int) = false
  | [] => rfl
  | x :: ks => by
    show (PyData.eqv (.int x) (.int x) && PyData.eqvAll ((ks ++ [k]).map PyData.int) (ks.map PyData.int)) = false
    rw [eqv_app k ks, Bool.and_false]
theorem fk_no {a b : Str} {d : PyData} {r : List (L2.Key × PyData)} (h : decide (a = b) = false) : findK (.inr b) ((.inr a, d) :: r) = findK (.inr b) r := by
  have : ¬ (.inr a : L2.Key) = .inr b := fun e => by cases e; simp at h
  exact if_neg this
theorem fk_yes {b : Str} {d : PyData} {r : List (L2.Key × PyData)} : findK (.inr b) ((.inr b, d) :: r) = some d := if_pos rfl
theorem eqK_self {t : Th} (h : okT t) : eqK (kc t) (kc t) = true := by
  cases t with
  | A x y z ks =>
    unfold eqK kc
    simp only [eqAllK, fk_yes, fk_no (show decide (("a" : Str) = "t") = false by decide +kernel), fk_no (show decide (("a" : Str) = "r") = false by decide +kernel), fk_no (show decide (("t" : Str) = "r") = false by decide +kernel), fk_no (show decide (("a" : Str) = "l") = false by decide +kernel), fk_no (show decide (("t" : Str) = "l") = false by decide +kernel), fk_no (show decide (("r" : Str) = "l") = false by decide +kernel), eqv_sh (sh_od _), eqv_sh (sh_osd h.2.1), eqv_sh (sh_ints _), Bool.and_self, beq_self_eq_true]
  | B p q ks =>
    unfold eqK kc
    simp only [eqAllK, fk_yes, fk_no (show decide (("p" : Str) = "q") = false by decide +kernel), fk_no (show decide (("p" : Str) = "m") = false by decide +kernel), fk_no (show decide (("q" : Str) = "m") = false by decide +kernel), eqv_sh (sh_od _), eqv_sh (sh_ints _), Bool.and_self, beq_self_eq_true]
theorem eqv_lst (a b : List PyData) : PyData.eqv (.list a) (.list b) = PyData.eqvAll a b := by simp only [PyData.eqv]
theorem eqK_app {t : Th} (h : okT t) (k : Int) : eqK (kc (t.app k)) (kc t) = false := by
  cases t with
  | A x y z ks =>
    unfold Th.app eqK kc
    simp only [eqAllK, fk_yes, fk_no (show decide (("a" : Str) = "t") = false by decide +kernel), fk_no (show decide (("a" : Str) = "r") = false by decide +kernel), fk_no (show decide (("t" : Str) = "r") = false by decide +kernel), fk_no (show decide (("a" : Str) = "l") = false by decide +kernel), fk_no (show decide (("t" : Str) = "l") = false by decide +kernel), fk_no (show decide (("r" : Str) = "l") = false by decide +kernel), eqv_lst, eqv_app, Bool.false_and, Bool.and_false]
  | B p q ks =>
    unfold Th.app eqK kc
    simp only [eqAllK, fk_yes, fk_no (show decide (("p" : Str) = "q") = false by decide +kernel), fk_no (show decide (("p" : Str) = "m") = false by decide +kernel), fk_no (show decide (("q" : Str) = "m") = false by decide +kernel), eqv_lst, eqv_app, Bool.false_and, Bool.and_false]
theorem oeqk {a b : Th} (ha : layK (kc a) = true) (hb : layK (kc b) = true) : oEqK (.dct a.cont) (.dct b.cont) = some (.bl (eqK (kc a) (kc b))) := by
  unfold oEqK
  simp only [datK_cont, ha, hb, and_self, if_true]
theorem kd_eq (t : Th) : oEq (.str t.kd) (.str t.kd) = some (.bl true) := by
  show some (D.bl (decide (t.kd = t.kd))) = _
  rw [decide_eq_true rfl]
theorem app_kd (t : Th) (k : Int) : (t.app k).kd = t.kd := by cases t <;> rfl
theorem is4 (fs : List (Str × D)) : fIs isOO isOB isBT [.ins 4 fs, .st 4] = some (.bl true) := rfl
theorem eq_self {t : Th} (h : okT t) : d_Thing___eq__ [.val t.d, .val t.d] = .ok (.bl true) none := by
  have e1 := oeqk (layK_kc h) (layK_kc h)
  rw [eqK_self h] at e1
  have e2 := kd_eq t
  unfold d_Thing___eq__ b_Thing___eq__ Th.d
  (exists e1, e2, is4)
theorem eq_app {t : Th} (h : okT t) (k : Int) : d_Thing___eq__ [.val (t.app k).d, .val t.d] = .ok (.bl false) none := by
  have e1 := oeqk (layK_app h k) (layK_kc h)
  rw [eqK_app h k] at e1
  have e2 := kd_eq t
  rw [← app_kd t k] at e2
  have e3 : oEq (.str (t.app k).kd) (.str t.kd) = some (.bl true) := by rw [app_kd]; exact kd_eq t
  unfold d_Thing___eq__ b_Thing___eq__ Th.d
  (exists e1, e3, is4)
end
end K39L
namespace K39L
open PySem PySem.Spec PyProof.Rows L2 Dv K39
set_option autoImplicit false
noncomputable section


theorem mulR {i j : Int} (h : -(2 ^ 64) < j ∧ j < 2 ^ 64) : oMul (.int i) (.int j) = some (.int (i * j)) := by
  show (if cMul i j = true then some (D.int (i * j)) else none) = _
  have : cMul i j = true := by unfold cMul; rw [decide_eq_true h, Bool.or_true]
  rw [if_pos this]
theorem mulL {i j : Int} (h : -(2 ^ 64) < i ∧ i < 2 ^ 64) : oMul (.int i) (.int j) = some (.int (i * j)) := by
  show (if cMul i j = true then some (D.int (i * j)) else none) = _
  have : cMul i j = true := by unfold cMul; rw [decide_eq_true h, Bool.true_or]
  rw [if_pos this]
theorem ixS {row : List Int} {v : Int} (h0 : 0 ≤ v) (h1 : v < row.length) : ∃ d, oIx (.scr (row.map .int)) (.int v) = some (.int d) := by
  have hv : v.toNat < row.length := by omega
  refine ⟨row[v.toNat], ?_⟩
  show atI (row.map D.int) v = _
  unfold atI ixN
  rw [if_pos h0, if_pos (by rw [List.length_map]; exact h1)]
  show (row.map D.int)[v.toNat]? = _
  simp [hv]
theorem lenS {row : List Int} : fLen [.scr (row.map .int)] = some (.int (row.length : Nat)) := by
  show some (D.int ((row.map D.int).length : Nat)) = _
  rw [List.length_map]
theorem intE {v : Int} : fInt [.int v] = some (.int v) := rfl
theorem ltE {a b : Int} : oLt (.int a) (.int b) = some (.bl (decide (a < b))) := rfl
theorem subE {a b : Int} : oSub (.int a) (.int b) = some (.int (a - b)) := rfl
def bodyC : EvS := (xSeq (xSet 4 (xOp oAdd (xOp oMul (xC (.int 11)) (xVal 3)) (xC (.int 5))))
 (xSeq (xIfS (xTest (xOp oLt (xVal 3) (xCB fLen (xCons (xVal 0) xNil))))
 (xSeq (xSet 4 (xCB fInt (xCons (xOp oIx (xVal 0) (xVal 3)) xNil)))
 (xIfS (xTest (xOp oLt (xVal 4) (xC (.int 0))))
 (xSet 4 (xOp oSub (xC (.int 1)) (xOp oMul (xC (.int 2)) (xVal 4))))
 xNx))
 xNx)
 (xSeq (xIfS (xTest (xOp oLt (xVal 4) (xC (.int 1000000000))))
 (xSeq (xSet 4 (xOp oMod (xCB fInt (xCons (xOp oAdd (xOp oAdd (xOp oMul (xCB fInt (xCons (xVal 4) xNil)) (xC (.int 48271))) (xOp oMul (xC (.int 17)) (xVal 3))) (xC (.int 3))) xNil)) (xC (.int 2147483647))))
 (xSet 4 (xOp oMod (xCB fInt (xCons (xOp oAdd (xOp oMul (xCB fInt (xCons (xVal 4) xNil)) (xC (.int 2862933555777941757))) (xC (.int 3037000493))) xNil)) (xC (.int 18446744073709551557)))))
 xNx)
 (xDrop (xOwnM mApp 2 (xCons (xVal 4) xNil))))))
theorem cell_ok (ns acc : List Int) (k : Int) (s4 : Sl) (f4 : isPar s4 = false) (hk : 0 ≤ k) (ha : ∀ n ∈ acc, 0 ≤ n) (hl : acc.length < 1000) : ∃ (c : Int) (s : Sl), bodyC [.val (.scr (ns.map .int)), .val (.int 30), .box (Ls acc), .val (.int k), s4] = .nx [.val (.scr (ns.map .int)), .val (.int 30), .box (Ls (acc ++ [c])), .val (.int k), .val (.int c)] ∧ 0 ≤ c := by
  have m1 : ∀ j : Int, oMul (.int 11) (.int j) = some (.int (11 * j)) := fun j => mulL (by decide)
  have m2 : ∀ j : Int, oMul (.int 2) (.int j) = some (.int (2 * j)) := fun j => mulL (by decide)
  have m3 : ∀ j : Int, oMul (.int 17) (.int j) = some (.int (17 * j)) := fun j => mulL (by decide)
  have m4 : ∀ j : Int, oMul (.int j) (.int 48271) = some (.int (j * 48271)) := fun j => mulR (by decide)
  have m5 : ∀ j : Int, oMul (.int j) (.int 2862933555777941757) = some (.int (j * 2862933555777941757)) := fun j => mulR (by decide)
  have q1 : ∀ j : Int, oMod (.int j) (.int 2147483647) = some (.int (j.fmod 2147483647)) := fun j => modE (by decide)
  have q2 : ∀ j : Int, oMod (.int j) (.int 18446744073709551557) = some (.int (j.fmod 18446744073709551557)) := fun j => modE (by decide)
  have fin : ∀ c1 : Int, 0 ≤ c1 → ∀ s : Sl, isPar s = false → ∃ c, (xSeq (xIfS (xTest (xOp oLt (xVal 4) (xC (.int 1000000000))))
 (xSeq (xSet 4 (xOp oMod (xCB fInt (xCons (xOp oAdd (xOp oAdd (xOp oMul (xCB fInt (xCons (xVal 4) xNil)) (xC (.int 48271))) (xOp oMul (xC (.int 17)) (xVal 3))) (xC (.int 3))) xNil)) (xC (.int 2147483647))))
 (xSet 4 (xOp oMod (xCB fInt (xCons (xOp oAdd (xOp oMul (xCB fInt (xCons (xVal 4) xNil)) (xC (.int 2862933555777941757))) (xC (.int 3037000493))) xNil)) (xC (.int 18446744073709551557)))))
 xNx)
 (xDrop (xOwnM mApp 2 (xCons (xVal 4) xNil)))) [.val (.scr (ns.map .int)), .val (.int 30), .box (Ls acc), .val (.int k), .val (.int c1)] = .nx [.val (.scr (ns.map .int)), .val (.int 30), .box (Ls (acc ++ [c])), .val (.int k), .val (.int c)] ∧ 0 ≤ c := by
    intro c1 h1 s _
    by_cases hc : c1 < 1000000000
    · have b : decide (c1 < 1000000000) = true := decide_eq_true hc
      refine ⟨(((c1 * 48271 + 17 * k + 3).fmod 2147483647) * 2862933555777941757 + 3037000493).fmod 18446744073709551557, ?_, Int.fmod_nonneg_of_pos _ (by decide)⟩
      have a1 := appI (v := (((c1 * 48271 + 17 * k + 3).fmod 2147483647) * 2862933555777941757 + 3037000493).fmod 18446744073709551557) (show acc.length < 1000000 by omega)
      (exists ltE, intE, m3 _, m4 _, m5 _, q1 _, q2 _, addI, a1)
    · have b : decide (c1 < 1000000000) = false := decide_eq_false hc
      refine ⟨c1, ?_, h1⟩
      have a1 := appI (v := c1) (show acc.length < 1000000 by omega)
      (exists ltE, a1)
  by_cases h1 : k < ns.length
  · have b1 : decide (k < (ns.length : Nat)) = true := decide_eq_true h1
    obtain ⟨v, hv⟩ := ixS hk h1
    by_cases h2 : v < 0
    · have b2 : decide (v < 0) = true := decide_eq_true h2
      obtain ⟨c, e, hc⟩ := fin (1 - 2 * v) (by omega) s4 f4
      refine ⟨c, s4, ?_, hc⟩
      unfold bodyC
      (exists e, lenS, ltE, intE, m1 _, m2 _, addI, hv, subE)
    · have b2 : decide (v < 0) = false := decide_eq_false h2
      obtain ⟨c, e, hc⟩ := fin v (by omega) s4 f4
      refine ⟨c, s4, ?_, hc⟩
      unfold bodyC
      (exists e, lenS, ltE, intE, m1 _, m2 _, addI, hv, subE)
  · have b1 : decide (k < (ns.length : Nat)) = false := decide_eq_false h1
    obtain ⟨c, e, hc⟩ := fin (11 * k + 5) (by omega) s4 f4
    refine ⟨c, s4, ?_, hc⟩
    unfold bodyC
    (exists e, lenS, ltE, intE, m1 _, m2 _, addI, subE)
theorem cells_loop (ns : List Int) : ∀ (xs acc : List Int) (s3 s4 : Sl), isPar s3 = false → isPar s4 = false → (∀ x ∈ xs, 0 ≤ x) → (∀ n ∈ acc, 0 ≤ n) → acc.length + xs.length < 1000 → ∃ (l : List Int) (e' : Dv.Env), forL (yName 3) bodyC (xs.map .int) [.val (.scr (ns.map .int)), .val (.int 30), .box (Ls acc), s3, s4] = .nx (.val (.scr (ns.map .int)) :: .val (.int 30) :: .box (Ls l) :: e') ∧ (∀ n ∈ l, 0 ≤ n) ∧ l.length = acc.length + xs.length
  | [], acc, s3, s4, _, _, _, ha, _ => ⟨acc, _, rfl, ha, rfl⟩
  | x :: xs, acc, s3, s4, f3, f4, hx, ha, hl => by
    rw [List.length_cons] at hl
    obtain ⟨c, _, e, hc⟩ := cell_ok ns acc x s4 f4 (hx x (List.mem_cons_self ..)) ha (by omega)
    obtain ⟨l, e', k1, k2, k3⟩ := cells_loop ns xs (acc ++ [c]) (.val (.int x)) (.val (.int c)) rfl rfl (fun y hy => hx y (List.mem_cons_of_mem _ hy)) (fun n hn => by
      rcases List.mem_append.mp hn with hn | hn
      · exact ha n hn
      · simp at hn; omega) (by rw [List.length_append]; simp; omega)
    refine ⟨l, e', ?_, k2, by rw [k3, List.length_append]; simp; omega⟩
    show forL (yName 3) bodyC (.int x :: xs.map .int) _ = _
    exact for_cons (e1 := [.val (.scr (ns.map .int)), .val (.int 30), .box (Ls acc), .val (.int x), s4]) (by (exists trivial)) e (fk_nx k1)
theorem rng0' (n : Nat) : ∃ xs : List Int, rngD 0 n = xs.map .int ∧ xs.length = n ∧ ∀ x ∈ xs, 0 ≤ x := ⟨(List.range n).map fun (k : Nat) => (0 : Int) + (k : Int), by simp [rngD], by simp, fun x hx => by
  obtain ⟨k, _, rfl⟩ := List.mem_map.mp hx
  omega⟩
theorem cells_ok (ns : List Int) : ∃ (l : List Int) (p : Option D), d__law_cells [.val (.scr (ns.map .int)), .val (.int 30)] = .ok (Ls l) p ∧ Dr l := by
  obtain ⟨xs, hx, hl, h0⟩ := rng0' 30
  obtain ⟨l, e', k1, k2, k3⟩ := cells_loop ns xs [] .no .no rfl rfl h0 (by simp) (by simp; omega)
  refine ⟨l, parOf (Sl.val (D.scr (List.map D.int ns)) :: Sl.val (D.int 30) :: Sl.no :: e'), ?_, fun e => by rw [e] at k3; simp at k3; omega, k2⟩
  have k1 : forL (yName 3) bodyC (xs.map .int) [.val (.scr (ns.map .int)), .val (.int 30), .box (.lst []), .no, .no] = .nx (.val (.scr (ns.map .int)) :: .val (.int 30) :: .box (Ls l) :: e') := k1
  have rg : iRg1 (xCons (xVal 1) xNil) [.val (.scr (ns.map .int)), .val (.int 30), .box (.lst []), .no, .no] = .ok (xs.map .int) [.val (.scr (ns.map .int)), .val (.int 30), .box (.lst []), .no, .no] := by
    rw [← hx]
    exact r_rg1 (j := 30) (by (exists trivial)) (by decide)
  unfold bodyC at k1
  unfold d__law_cells b__law_cells
  (exists rg, k1)
end
end K39L
namespace K39L
open PySem PySem.Spec PyProof.Rows L2 Dv K39
set_option autoImplicit false
noncomputable section


/-! the schema -/
theorem i_Int (a b : D) : d_IntSort___init__ [.par (.ins 0 []), .val a, .val b] = .ok .non (some (.ins 0 [("low", a), ("high", b)])) := by
  unfold d_IntSort___init__ b_IntSort___init__
  apply r_runN
  (exists trivial)
theorem i_Text (a b : D) : d_TextSort___init__ [.par (.ins 1 []), .val a, .val b] = .ok .non (some (.ins 1 [("longest", a), ("without", b)])) := by
  unfold d_TextSort___init__ b_TextSort___init__
  apply r_runN
  (exists trivial)
theorem i_Ref (a : List D) (b : D) : d_RefSort___init__ [.par (.ins 2 []), .val (.lst a), .val b] = .ok .non (some (.ins 2 [("kinds", .lst a), ("rule", b)])) := by
  unfold d_RefSort___init__ b_RefSort___init__
  apply r_runN
  (exists trivial)
theorem i_List (a : List D) : d_ListSort___init__ [.par (.ins 3 []), .val (.lst a)] = .ok .non (some (.ins 3 [("kinds", .lst a)])) := by
  unfold d_ListSort___init__ b_ListSort___init__
  apply r_runN
  (exists trivial)
theorem i_Field (a b c : D) : d_Field___init__ [.par (.ins 6 []), .val a, .val b, .val c] = .ok .non (some (.ins 6 [("name", a), ("shape", b), ("needed", c)])) := by
  unfold d_Field___init__ b_Field___init__
  apply r_runN
  (exists trivial)
theorem i_Kind (a : D) (b c : List D) : d_Kind___init__ [.par (.ins 7 []), .val a, .val (.lst b), .val (.lst [.lst c])] = .ok .non (some (.ins 7 [("name", a), ("fields", .lst b), ("key_rows", .lst [.lst c])])) := by
  unfold d_Kind___init__ b_Kind___init__
  apply r_runN
  (exists trivial)
theorem i_Schema (b : List D) : d_Schema___init__ [.par (.ins 8 []), .val (.lst b)] = .ok .non (some (.ins 8 [("kinds", .lst b)])) := by
  unfold d_Schema___init__ b_Schema___init__
  apply r_runN
  (exists trivial)
theorem i_Src (b : D) : d_PictureSource___init__ [.par (.ins 5 []), .val b] = .ok .non (some (.ins 5 [("things", b)])) := by
  unfold d_PictureSource___init__ b_PictureSource___init__
  apply r_runN
  (exists trivial)
abbrev fldD (n : Str) (s : D) (nd : Bool) : D := .ins 6 [("name", .str n), ("shape", s), ("needed", .bl nd)]
abbrev shI : D := .ins 0 [("low", .int 0), ("high", .int 9)]
abbrev shT : D := .ins 1 [("longest", .int 4), ("without", .non)]
abbrev shR (ks : List Str) (r : Str) : D := .ins 2 [("kinds", .lst (ks.map .str)), ("rule", .str r)]
abbrev shL (ks : List Str) : D := .ins 3 [("kinds", .lst (ks.map .str))]
abbrev kA (a : Str) (nd : Bool) : D := .ins 7 [("name", .str "A"), ("fields", .lst [fldD "a" shI nd, fldD "t" shT false, fldD "r" (shR ["A", "B"] a) false, fldD "l" (shL ["A"]) false]), ("key_rows", .lst [.lst [.str "a", .str "t"]])]
abbrev kB (b c : Str) (nd : Bool) : D := .ins 7 [("name", .str "B"), ("fields", .lst [fldD "p" (shR ["A"] b) nd, fldD "q" (shR ["B"] c) false, fldD "m" (shL ["A", "B"]) false]), ("key_rows", .lst [.lst [.str "q"]])]
abbrev schD (a b c : Str) (nd : Bool) : D := .ins 8 [("kinds", .lst [kA a nd, kB b c nd])]
abbrev rlsD (a b c : Str) : D := .lst [.str a, .str b, .str c]
theorem ixR0 {a b c : Str} : oIx (rlsD a b c) (.int 0) = some (.str a) := rfl
theorem ixR1 {a b c : Str} : oIx (rlsD a b c) (.int 1) = some (.str b) := rfl
theorem ixR2 {a b c : Str} : oIx (rlsD a b c) (.int 2) = some (.str c) := rfl
theorem schema_ok (a b c : Str) (nd : Bool) : d__law_schema [.val (rlsD a b c), .val (.bl nd)] = .ok (schD a b c nd) none := by
  unfold d__law_schema b__law_schema
  (exists i_Int _ _, i_Text _ _, i_Ref _ _, i_List _, i_Field _ _ _, i_Kind _ _ _, i_Schema _, ixR0, ixR1, ixR2)
end
end K39L
namespace K39L
open PySem PySem.Spec PyProof.Rows L2 Dv K39
set_option autoImplicit false
noncomputable section


def look : Pic → Int → Option Th
  | [], _ => none
  | p :: P, k => if p.1 = k then some p.2 else look P k
theorem look_d : ∀ (P : Pic) (k : Int), valD (picK P) (.inl k) = (look P k).map Th.d
  | [], _ => rfl
  | p :: P, k => by
    have ih := look_d P k
    show (if (.inl p.1 : L2.Key) = .inl k then some p.2.d else valD (picK P) (.inl k)) = (if p.1 = k then some p.2 else look P k).map Th.d
    by_cases h : p.1 = k
    · rw [if_pos (by rw [h]), if_pos h]; rfl
    · rw [if_neg (fun e => h (by cases e; rfl)), if_neg h, ih]
abbrev picD (P : Pic) : D := .dct (picK P)
abbrev srcD (P : Pic) : D := .ins 5 [("things", picD P)]
def there (P : Pic) (ks : List Str) (v : Option Int) : Bool := match v with
  | none => false
  | some k => match look P k with
    | none => false
    | some t => decide (t.kd ∈ ks)
theorem anyS (v : Str) : ∀ ks : List Str, anyEq (.str v) (ks.map .str) = some (decide (v ∈ ks))
  | [] => by simp [anyEq]
  | k :: ks => by
    have := anyS v ks
    have e1 : scalD (.str k) (.str v) = some (decide (k = v)) := rfl
    rw [List.map_cons]
    unfold anyEq
    rw [this, e1]
    by_cases h : v = k
    · simp [h, flatD]
    · have h' : ¬ k = v := fun e => h e.symm
      simp [h, h', flatD]
abbrev Ss (l : List Str) : D := .lst (l.map .str)
theorem inS (v : Str) (ks : List Str) : oOr (oIn false) (oInD false) (.str v) (Ss ks) = some (.bl (decide (v ∈ ks))) := by
  unfold oOr oIn
  show (match (match flatD (.str v), anyEq (.str v) (ks.map D.str) with | true, some b => some (D.bl (if false = true then !b else b)) | _, _ => none) with | some d => some d | none => _) = _
  rw [anyS]
  rfl
theorem dgetP (P : Pic) (k : Int) : oDGet (picD P) (.int k) = (look P k).map Th.d := look_d P k
theorem dinP (P : Pic) (k : Int) : oDIn false (.int k) (picD P) = some (.bl (look P k).isSome) := by
  show some (D.bl ((valD (picK P) (.inl k)).isSome != false)) = _
  rw [look_d]
  cases look P k <;> rfl
theorem thereL (P : Pic) (ks : List Str) (v : Option Int) : d__law_there [.val (picD P), .val (Ss ks), .val (oi v)] = .ok (.bl (there P ks v)) none := by
  cases v with
  | none =>
    unfold d__law_there b__law_there
    (exists trivial)
  | some k =>
    have h1 := dinP P k
    have h2 := dgetP P k
    cases h : look P k with
    | none =>
      have ht : there P ks (some k) = false := by simp [there, h]
      rw [h] at h1 h2
      have h1 : oDIn false (.int k) (picD P) = some (.bl false) := h1
      rw [ht]
      unfold d__law_there b__law_there
      (exists h1)
    | some t =>
      have ht : there P ks (some k) = decide (t.kd ∈ ks) := by simp [there, h]
      rw [h] at h1 h2
      have h1 : oDIn false (.int k) (picD P) = some (.bl true) := h1
      have h2 : oDGet (picD P) (.int k) = some (.ins 4 [("kind", .str t.kd), ("contents", .dct t.cont)]) := h2
      have h3 := inS t.kd ks
      rw [ht]
      unfold d__law_there b__law_there
      (exists h1, h2, h3)
theorem thingP (P : Pic) (k : Int) : d_PictureSource_thing [.val (srcD P), .val (.int k)] = .ok (((look P k).map Th.d).getD .non) none := by
  unfold d_PictureSource_thing b_PictureSource_thing
  have h : (valD (picK P) (.inl k)).getD .non = ((look P k).map Th.d).getD .non := by rw [look_d]
  (exists h)
theorem oneP (P : Pic) (ks : List Str) (k : Int) : d_is_one_of [.val (srcD P), .val (.int k), .val (Ss ks)] = .ok (.bl (there P ks (some k))) none := by
  have h0 := thingP P k
  cases h : look P k with
  | none =>
    have ht : there P ks (some k) = false := by simp [there, h]
    rw [h] at h0
    have h0 : d_PictureSource_thing [.val (srcD P), .val (.int k)] = .ok .non none := h0
    rw [ht]
    unfold d_is_one_of b_is_one_of
    (exists h0)
  | some t =>
    have ht : there P ks (some k) = decide (t.kd ∈ ks) := by simp [there, h]
    rw [h] at h0
    have h0 : d_PictureSource_thing [.val (srcD P), .val (.int k)] = .ok (.ins 4 [("kind", .str t.kd), ("contents", .dct t.cont)]) none := h0
    have h3 := inS t.kd ks
    rw [ht]
    unfold d_is_one_of b_is_one_of
    (exists h0, h3)
/-! what is told -/
def Th.get (P : Pic) : Th → Str → D
  | .A x y z ks, n => if n = "a" then oi x else if n = "t" then os y else if n = "r" then (if there P ["A", "B"] z then oi z else .non) else Ls (ks.filter fun k => there P ["A"] (some k))
  | .B p q ks, n => if n = "p" then (if there P ["A"] p then oi p else .non) else if n = "q" then (if there P ["B"] q then oi q else .non) else Ls (ks.filter fun k => there P ["A", "B"] (some k))
theorem cmp_ints {i : Nat} {ta : EvT} {W env : Dv.Env} (b : Int → Bool) (ks : List Int) (hw : wipeE env [i] = W) (hl : ks.length < 1000000) (hx : ∀ k ∈ ks, ∃ e1 e2, yName i (.int k) W = some e1 ∧ ta e1 = .ok (b k) e2 ∧ wipeE e2 [i] = W ∧ xVal i e2 = .ok (.int k) e2) : ∃ env', cmpL (yName i) ta (xVal i) [i] (ks.map .int) [] env = .ok ((ks.filter b).map .int) env' ∧ wipeE env' [i] = W := by
  obtain ⟨env', h1, h2⟩ := cmp_ok (ta := ta) (a := xVal i) (eg := yName i) W (fun d => match d with | .int k => b k | _ => false) (fun d => d) (ks.map .int) [] env hw (by simpa using hl) (fun x hm => by
    obtain ⟨k, hk, rfl⟩ := List.mem_map.mp hm
    obtain ⟨e1, e2, a1, a2, a3, a4⟩ := hx k hk
    exact ⟨e1, e2, a1, a2, a3, fun _ => ⟨e2, a4, a3⟩⟩)
  refine ⟨env', ?_, h2⟩
  rw [h1, List.nil_append, List.filter_map, List.map_map]
  rfl
abbrev TgL (P : Pic) (a b c : Str) (t : Th) (n : Str) : Prop := d__law_told [.val (picD P), .val (rlsD a b c), .val t.d, .val (.str n)] = .ok (t.get P n) none
theorem linksA (a b c : Str) : d__law_links [.val (.str "A"), .val (rlsD a b c)] = .ok (.lst [.tup [.str "r", Ss ["A", "B"], .str a], .tup [.str "l", Ss ["A"], .str "list"]]) none := by
  unfold d__law_links b__law_links
  (exists ixR0, ixR1, ixR2)
theorem linksB (a b c : Str) : d__law_links [.val (.str "B"), .val (rlsD a b c)] = .ok (.lst [.tup [.str "p", Ss ["A"], .str b], .tup [.str "q", Ss ["B"], .str c], .tup [.str "m", Ss ["A", "B"], .str "list"]]) none := by
  unfold d__law_links b__law_links
  (exists ixR0, ixR1, ixR2)
end
end K39L
namespace K39L
open PySem PySem.Spec PyProof.Rows L2 Dv K39
set_option autoImplicit false
noncomputable section

theorem tl_A_a (P : Pic) (a b c : Str) (na : a ≠ "list") (nb : b ≠ "list") (nc : c ≠ "list") (x : Option Int) (y : Option Str) (z : Option Int) (ks : List Int) : TgL P a b c (Th.A x y z ks) "a" := by
  have lk := linksA a b c
  have hg : Th.get P (Th.A x y z ks) "a" = oi x := rfl
  unfold TgL d__law_told b__law_told
  rw [hg]
  (exists lk)
theorem tl_A_t (P : Pic) (a b c : Str) (na : a ≠ "list") (nb : b ≠ "list") (nc : c ≠ "list") (x : Option Int) (y : Option Str) (z : Option Int) (ks : List Int) : TgL P a b c (Th.A x y z ks) "t" := by
  have lk := linksA a b c
  have hg : Th.get P (Th.A x y z ks) "t" = os y := rfl
  unfold TgL d__law_told b__law_told
  rw [hg]
  (exists lk)
theorem tl_A_r (P : Pic) (a b c : Str) (na : a ≠ "list") (nb : b ≠ "list") (nc : c ≠ "list") (x : Option Int) (y : Option Str) (z : Option Int) (ks : List Int) : TgL P a b c (Th.A x y z ks) "r" := by
  have da : decide (a = "list") = false := decide_eq_false na
  have db : decide (b = "list") = false := decide_eq_false nb
  have dc : decide (c = "list") = false := decide_eq_false nc
  have lk := linksA a b c
  have th := thereL P ["A", "B"] z
  have hg : Th.get P (Th.A x y z ks) "r" = if there P ["A", "B"] z then oi z else .non := rfl
  unfold TgL d__law_told b__law_told
  rw [hg]
  cases hz : there P ["A", "B"] z with
  | true =>
    rw [hz] at th
    rw [if_pos rfl]
    (exists lk, th)
  | false =>
    rw [hz] at th
    rw [if_neg (by decide)]
    (exists lk, th)
theorem tl_A_l (P : Pic) (a b c : Str) (na : a ≠ "list") (nb : b ≠ "list") (nc : c ≠ "list") (x : Option Int) (y : Option Str) (z : Option Int) (ks : List Int) (hl : ks.length ≤ 4) : TgL P a b c (Th.A x y z ks) "l" := by
  have da : decide (a = "list") = false := decide_eq_false na
  have db : decide (b = "list") = false := decide_eq_false nb
  have dc : decide (c = "list") = false := decide_eq_false nc
  have lk := linksA a b c
  obtain ⟨env', k1, k2⟩ := cmp_ints (i := 5) (ta := xTest (xCall 3 d__law_there (gVal (xVal 0) (gVal (xOp oIx (xVal 4) (xC (.int 1))) (gVal (xVal 5) Dv.gNil))))) (env := [.val (picD P), .val (rlsD a b c), .val (Th.d (Th.A x y z ks)), .val (.str "l"), .val (.tup [.str "l", Ss ["A"], .str "list"]), .no]) (fun k => there P ["A"] (some k)) ks rfl (by omega) (fun k _ => ⟨[.val (picD P), .val (rlsD a b c), .val (Th.d (Th.A x y z ks)), .val (.str "l"), .val (.tup [.str "l", Ss ["A"], .str "list"]), .val (.int k)], [.val (picD P), .val (rlsD a b c), .val (Th.d (Th.A x y z ks)), .val (.str "l"), .val (.tup [.str "l", Ss ["A"], .str "list"]), .val (.int k)], by (exists trivial), by (exists thereL P ["A"] (some k)), rfl, by (exists trivial)⟩)
  have hg : Th.get P (Th.A x y z ks) "l" = Ls (ks.filter fun k => there P ["A"] (some k)) := rfl
  unfold TgL d__law_told b__law_told
  rw [hg]
  (exists lk, k1)
theorem tl_B_p (P : Pic) (a b c : Str) (na : a ≠ "list") (nb : b ≠ "list") (nc : c ≠ "list") (p q : Option Int) (ks : List Int) : TgL P a b c (Th.B p q ks) "p" := by
  have da : decide (a = "list") = false := decide_eq_false na
  have db : decide (b = "list") = false := decide_eq_false nb
  have dc : decide (c = "list") = false := decide_eq_false nc
  have lk := linksB a b c
  have th := thereL P ["A"] p
  have hg : Th.get P (Th.B p q ks) "p" = if there P ["A"] p then oi p else .non := rfl
  unfold TgL d__law_told b__law_told
  rw [hg]
  cases hz : there P ["A"] p with
  | true =>
    rw [hz] at th
    rw [if_pos rfl]
    (exists lk, th)
  | false =>
    rw [hz] at th
    rw [if_neg (by decide)]
    (exists lk, th)
theorem tl_B_q (P : Pic) (a b c : Str) (na : a ≠ "list") (nb : b ≠ "list") (nc : c ≠ "list") (p q : Option Int) (ks : List Int) : TgL P a b c (Th.B p q ks) "q" := by
  have da : decide (a = "list") = false := decide_eq_false na
  have db : decide (b = "list") = false := decide_eq_false nb
  have dc : decide (c = "list") = false := decide_eq_false nc
  have lk := linksB a b c
  have th := thereL P ["B"] q
  have hg : Th.get P (Th.B p q ks) "q" = if there P ["B"] q then oi q else .non := rfl
  unfold TgL d__law_told b__law_told
  rw [hg]
  cases hz : there P ["B"] q with
  | true =>
    rw [hz] at th
    rw [if_pos rfl]
    (exists lk, th)
  | false =>
    rw [hz] at th
    rw [if_neg (by decide)]
    (exists lk, th)
theorem tl_B_m (P : Pic) (a b c : Str) (na : a ≠ "list") (nb : b ≠ "list") (nc : c ≠ "list") (p q : Option Int) (ks : List Int) (hl : ks.length ≤ 4) : TgL P a b c (Th.B p q ks) "m" := by
  have da : decide (a = "list") = false := decide_eq_false na
  have db : decide (b = "list") = false := decide_eq_false nb
  have dc : decide (c = "list") = false := decide_eq_false nc
  have lk := linksB a b c
  obtain ⟨env', k1, k2⟩ := cmp_ints (i := 5) (ta := xTest (xCall 3 d__law_there (gVal (xVal 0) (gVal (xOp oIx (xVal 4) (xC (.int 1))) (gVal (xVal 5) Dv.gNil))))) (env := [.val (picD P), .val (rlsD a b c), .val (Th.d (Th.B p q ks)), .val (.str "m"), .val (.tup [.str "m", Ss ["A", "B"], .str "list"]), .no]) (fun k => there P ["A", "B"] (some k)) ks rfl (by omega) (fun k _ => ⟨[.val (picD P), .val (rlsD a b c), .val (Th.d (Th.B p q ks)), .val (.str "m"), .val (.tup [.str "m", Ss ["A", "B"], .str "list"]), .val (.int k)], [.val (picD P), .val (rlsD a b c), .val (Th.d (Th.B p q ks)), .val (.str "m"), .val (.tup [.str "m", Ss ["A", "B"], .str "list"]), .val (.int k)], by (exists trivial), by (exists thereL P ["A", "B"] (some k)), rfl, by (exists trivial)⟩)
  have hg : Th.get P (Th.B p q ks) "m" = Ls (ks.filter fun k => there P ["A", "B"] (some k)) := rfl
  unfold TgL d__law_told b__law_told
  rw [hg]
  (exists lk, k1)
end
end K39L
namespace K39L
open PySem PySem.Spec PyProof.Rows L2 Dv K39
set_option autoImplicit false
noncomputable section
/-! ### what is shown -/
theorem sok_app (a b : Str) : PyData.strOk (a ++ b) = (PyData.strOk a && PyData.strOk b) := by
  show (a.cps ++ b.cps).all _ = (a.cps.all _ && b.cps.all _)
  rw [Array.all_append]
theorem sok_join {s : Str} (hs : PyData.strOk s = true) : ∀ {l : List Str}, (∀ x ∈ l, PyData.strOk x = true) → PyData.strOk (Str.join s l) = true
  | [], _ => by show PyData.strOk Str.empty = true; decide +kernel
  | [x], h => h x (List.mem_cons_self ..)
  | x :: y :: r, h => by
    show PyData.strOk (x ++ s ++ Str.join s (y :: r)) = true
    rw [sok_app, sok_app, h x (List.mem_cons_self ..), hs, sok_join hs fun z hz => h z (List.mem_cons_of_mem _ hz)]
    rfl
theorem sm_ind {p : Int → Prop} (h : p 0 ∧ p 1 ∧ p 2 ∧ p 3 ∧ p 4 ∧ p 5 ∧ p 6 ∧ p 7 ∧ p 8 ∧ p 9) {k : Int} (hk : Sm k) : p k := by
  obtain ⟨h0, h1, h2, h3, h4, h5, h6, h7, h8, h9⟩ := h
  have : k = 0 ∨ k = 1 ∨ k = 2 ∨ k = 3 ∨ k = 4 ∨ k = 5 ∨ k = 6 ∨ k = 7 ∨ k = 8 ∨ k = 9 := by
    obtain ⟨a, b⟩ := hk
    omega
  rcases this with rfl | rfl | rfl | rfl | rfl | rfl | rfl | rfl | rfl | rfl <;> assumption
structure LfOk (d : PyData) : Prop where
  sh : d.showable = true
  lf : d.leavesShort 13 = true
  wt : d.weight ≤ 10
  dp : d.depth = 0
  ok : PyData.strOk d.shown = true
theorem lf_int {k : Int} (h : Sm k) : LfOk (.int k) := sm_ind (p := fun k => LfOk (.int k)) (by
  refine ⟨?_, ?_, ?_, ?_, ?_, ?_, ?_, ?_, ?_, ?_⟩ <;> exact ⟨by decide +kernel, by decide +kernel, by decide +kernel, by decide +kernel, by decide +kernel⟩) h
theorem lf_od {x : Option Int} (h : SmO x) : LfOk (od x) := by
  cases x with
  | none => exact ⟨by decide +kernel, by decide +kernel, by decide +kernel, by decide +kernel, by decide +kernel⟩
  | some k => exact lf_int (h k rfl)
theorem lf_osd {y : Option Str} (h : okS y) : LfOk (osd y) := by
  rcases h.2.2 with rfl | rfl | rfl | rfl <;> exact ⟨by decide +kernel, by decide +kernel, by decide +kernel, by decide +kernel, by decide +kernel⟩
theorem okShow_lf {d : PyData} (h : LfOk d) : okShow d = true := by
  unfold okShow
  have := h.wt
  rw [h.sh, h.lf, h.dp, decide_eq_true (show d.weight ≤ 2 ^ 20 by omega)]
  rfl
structure LsOk (d : PyData) : Prop where
  sh : d.showable = true
  lf : d.leavesShort 13 = true
  wt : d.weight ≤ 100
  dp : d.depth ≤ 1
  ok : PyData.strOk d.shown = true
theorem LfOk.ls {d : PyData} (h : LfOk d) : LsOk d := ⟨h.sh, h.lf, by have := h.wt; omega, by rw [h.dp]; omega, h.ok⟩
theorem ints_all : ∀ {ks : List Int}, (∀ k ∈ ks, Sm k) → PyData.showableAll (ks.map .int) = true ∧ PyData.leavesShortAll 13 (ks.map .int) = true ∧ PyData.weightAll (ks.map .int) ≤ 11 * ks.length ∧ ∀ x ∈ PyData.shownAll (ks.map .int), PyData.strOk x = true
  | [], _ => ⟨rfl, rfl, by decide, fun x h => nomatch h⟩
  | k :: ks, h => by
    obtain ⟨i1, i2, i3, i4⟩ := ints_all fun x hx => h x (List.mem_cons_of_mem _ hx)
    have l := lf_int (h k (List.mem_cons_self ..))
    refine ⟨?_, ?_, ?_, ?_⟩
    · rw [List.map_cons, PyData.showableAll, l.sh, i1]; rfl
    · rw [List.map_cons, PyData.leavesShortAll, l.lf, i2]; rfl
    · rw [List.map_cons, PyData.weightAll, List.length_cons]
      have := l.wt
      omega
    · intro x hx
      rw [List.map_cons, PyData.shownAll_cons] at hx
      rcases List.mem_cons.mp hx with rfl | hx
      · exact l.ok
      · exact i4 x hx
theorem ls_ints {ks : List Int} (h : ∀ k ∈ ks, Sm k) (hl : ks.length ≤ 4) : LsOk (.list (ks.map .int)) := by
  obtain ⟨i1, i2, i3, i4⟩ := ints_all h
  refine ⟨by rw [PyData.showable]; exact i1, by rw [PyData.leavesShort]; exact i2, by rw [PyData.weight]; omega, by rw [PyData.depth, dep_ints]; omega, ?_⟩
  rw [PyData.shown_list, sok_app, sok_app, sok_join (by decide +kernel) i4]
  decide +kernel
theorem okShow_ls {d : PyData} (h : LsOk d) : okShow d = true := by
  unfold okShow
  have := h.wt
  have := h.dp
  rw [h.sh, h.lf, decide_eq_true (show d.weight ≤ 2 ^ 20 by omega), decide_eq_true (show d.depth ≤ 60 by omega)]
  rfl
structure KvOk (k v : PyData) : Prop where
  k : LfOk k
  v : LsOk v
theorem kv_all : ∀ {kvs : List (PyData × PyData)}, (∀ p ∈ kvs, KvOk p.1 p.2) → PyData.showableKv kvs = true ∧ PyData.leavesShortKv 13 kvs = true ∧ PyData.weightKv kvs ≤ 112 * kvs.length ∧ PyData.depthKv kvs ≤ 1 ∧ ∀ x ∈ PyData.shownKv kvs, PyData.strOk x = true
  | [], _ => ⟨rfl, rfl, by decide, by decide, fun x h => nomatch h⟩
  | (k, v) :: r, h => by
    obtain ⟨i1, i2, i3, i4, i5⟩ := kv_all fun x hx => h x (List.mem_cons_of_mem _ hx)
    obtain ⟨lk, lv⟩ := h (k, v) (List.mem_cons_self ..)
    have wk := lk.wt
    have wv := lv.wt
    have dk := lk.dp
    have dv := lv.dp
    refine ⟨?_, ?_, ?_, ?_, ?_⟩
    · rw [PyData.showableKv, lk.sh, lv.sh, i1]; rfl
    · rw [PyData.leavesShortKv, lk.lf, lv.lf, i2]; rfl
    · rw [PyData.weightKv, List.length_cons]
      dsimp only at wk wv
      omega
    · rw [PyData.depthKv]
      dsimp only at dk dv
      omega
    · intro x hx
      rw [PyData.shownKv_cons] at hx
      rcases List.mem_cons.mp hx with rfl | hx
      · rw [sok_app, sok_app, lk.ok, lv.ok]
        decide +kernel
      · exact i5 x hx
def tx (t : Th) : Str := (pyK (kc t)).shown
theorem kc_ok {t : Th} (h : okT t) : ∀ p ∈ (kc t).map (fun q => (keyP q.1, q.2)), KvOk p.1 p.2 := by
  have kk : ∀ s : Str, s = "a" ∨ s = "t" ∨ s = "r" ∨ s = "l" ∨ s = "p" ∨ s = "q" ∨ s = "m" → LfOk (.str s) := fun s hs => by
    rcases hs with rfl | rfl | rfl | rfl | rfl | rfl | rfl <;> exact ⟨by decide +kernel, by decide +kernel, by decide +kernel, by decide +kernel, by decide +kernel⟩
  intro p hp
  cases t with
  | A x y z ks =>
    obtain ⟨h1, h2, h3, h4, h5⟩ := h
    simp only [kc, List.map_cons, List.map_nil, List.mem_cons, List.not_mem_nil, or_false] at hp
    rcases hp with rfl | rfl | rfl | rfl
    · exact ⟨kk _ (by simp), (lf_od h3).ls⟩
    · exact ⟨kk _ (by simp), (lf_osd h2).ls⟩
    · exact ⟨kk _ (by simp), (lf_od h4).ls⟩
    · exact ⟨kk _ (by simp), ls_ints h5 h1⟩
  | B x z ks =>
    obtain ⟨h1, h3, h4, h5⟩ := h
    simp only [kc, List.map_cons, List.map_nil, List.mem_cons, List.not_mem_nil, or_false] at hp
    rcases hp with rfl | rfl | rfl
    · exact ⟨kk _ (by simp), (lf_od h3).ls⟩
    · exact ⟨kk _ (by simp), (lf_od h4).ls⟩
    · exact ⟨kk _ (by simp), ls_ints h5 h1⟩
theorem okShow_kc {t : Th} (h : okT t) : okShow (pyK (kc t)) = true := by
  obtain ⟨i1, i2, i3, i4, i5⟩ := kv_all (kc_ok h)
  have hl : ((kc t).map (fun q => (keyP q.1, q.2))).length ≤ 4 := by cases t <;> (rw [List.length_map]; simp [kc])
  unfold okShow pyK
  have e1 : (PyData.dict ((kc t).map (fun q => (keyP q.1, q.2)))).showable = true := by rw [PyData.showable]; exact i1
  have e2 : (PyData.dict ((kc t).map (fun q => (keyP q.1, q.2)))).leavesShort 13 = true := by rw [PyData.leavesShort]; exact i2
  have e3 : (PyData.dict ((kc t).map (fun q => (keyP q.1, q.2)))).weight ≤ 2 ^ 20 := by
    rw [PyData.weight]
    omega
  have e4 : (PyData.dict ((kc t).map (fun q => (keyP q.1, q.2)))).depth ≤ 60 := by
    rw [PyData.depth]
    omega
  rw [e1, e2, decide_eq_true e3, decide_eq_true e4]
  rfl
theorem tx_ok {t : Th} (h : okT t) : PyData.strOk (tx t) = true := by
  obtain ⟨i1, i2, i3, i4, i5⟩ := kv_all (kc_ok h)
  unfold tx pyK
  rw [PyData.shown_dict, sok_app, sok_app, sok_join (by decide +kernel) i5]
  decide +kernel
theorem repr_cont {t : Th} (h : okT t) : fRepr [.dct t.cont] = some (.str (tx t)) := by
  show (match dat (.dct t.cont) with | some d => if okShow d = true then some (D.str d.shown) else none | none => _) = _
  show (match datK t.cont with | some kds => if okShow (pyK kds) = true then some (D.str (pyK kds).shown) else none | none => none) = _
  rw [datK_cont]
  dsimp only
  rw [if_pos (okShow_kc h)]
  rfl
theorem repr_dat {d : D} {e : PyData} (h1 : dat d = some e) (h2 : okShow e = true) : fRepr [d] = some (.str e.shown) := by
  show (match dat d with | some d => if okShow d = true then some (D.str d.shown) else none | none => _) = _
  rw [h1]
  dsimp only
  rw [if_pos h2]
def rowT (k : Int) (t : Th) : D := .tup [.int k, .str t.kd, .str (tx t)]
def rowK (P : Pic) (d : D) : D := match d with
  | .int k => match look P k with
    | some t => rowT k t
    | none => .non
  | _ => .non
def sK (P : Pic) : List Int := sortI (P.map (·.1))
abbrev kepD (P : Pic) : D := .lst ((sK P).map fun k => rowK P (.int k))
end
end K39L
namespace K39L
open PySem PySem.Spec PyProof.Rows L2 Dv K39
set_option autoImplicit false
noncomputable section
theorem keysL (P : Pic) : fListD [picD P] = some (Ls (P.map (·.1))) := by
  show some (D.lst ((P.map fun p => ((.inl p.1 : L2.Key), p.2.d)).map fun kv => kD kv.1)) = _
  rw [List.map_map]
  show _ = some (D.lst ((P.map (·.1)).map D.int))
  rw [List.map_map]
  rfl
theorem intL_map : ∀ ns : List Int, intL (ns.map .int) = some ns
  | [] => rfl
  | n :: r => by
    show (intL (r.map .int)).map (n :: ·) = _
    rw [intL_map r]
    rfl
def keysOf (P : Pic) (kd : Str) : List Int := (P.filter fun p => decide (p.2.kd = kd)).map (·.1)
theorem sortL (L : List Int) : fSorted [Ls L] = some (Ls (sortI L)) := by
  show (intL (L.map D.int)).map (fun ns => D.lst ((sortI ns).map D.int)) = _
  rw [intL_map]
  rfl
theorem look_of : ∀ {P : Pic} {k : Int} {t : Th}, (P.map (·.1)).Nodup → (k, t) ∈ P → look P k = some t
  | [], k, t, _, h => by cases h
  | p :: P, k, t, nd, h => by
    rw [List.map_cons, List.nodup_cons] at nd
    unfold look
    rcases List.mem_cons.mp h with rfl | h
    · rw [if_pos rfl]
    · rw [if_neg (fun e => nd.1 (by rw [e]; exact List.mem_map.mpr ⟨_, h, rfl⟩))]
      exact look_of nd.2 h
theorem look_mem : ∀ {P : Pic} {k : Int} {t : Th}, look P k = some t → (k, t) ∈ P
  | [], k, t, h => by cases h
  | p :: P, k, t, h => by
    unfold look at h
    split at h
    · rename_i e
      cases h
      rw [← e]
      exact List.mem_cons_self ..
    · exact List.mem_cons_of_mem _ (look_mem h)
theorem keys_look (P : Pic) (g : Good P) : ∀ k ∈ sK P, ∃ t, look P k = some t := fun k hk => by
  obtain ⟨p, hp, rfl⟩ := List.mem_map.mp ((sortI_perm _).mem_iff.mp hk)
  exact ⟨p.2, look_of g.1 hp⟩
theorem sK_len (P : Pic) : (sK P).length = P.length := by
  have := (sortI_perm (P.map (·.1))).length_eq
  rw [List.length_map] at this
  exact this
theorem look_ok {P : Pic} (g : Good P) {k : Int} {t : Th} (h : look P k = some t) : okT t := g.2 _ (look_mem h)
theorem shown_ok (P : Pic) (g : Good P) (hP : P.length ≤ 7) : d__law_shown [.val (picD P)] = .ok (kepD P) none := by
  have k1 := keysL P
  have k2 := sortL (P.map (·.1))
  obtain ⟨env', c1, c2⟩ := cmp_ok (ta := xYes) (a := xTup (xCons (xVal 1) (xCons (xFld fc_kind "kind" (xOp oDGet (xVal 0) (xVal 1))) (xCons (xCB fRepr (xCons (xFld fc_contents "contents" (xOp oDGet (xVal 0) (xVal 1))) xNil)) xNil)))) (eg := yName 1) (vs := [1]) [.val (picD P), .no] (fun _ => true) (rowK P) ((sK P).map .int) [] [.val (picD P), .no] rfl (by have := sK_len P; simp; omega) (fun x hx => by
    obtain ⟨k, hk, rfl⟩ := List.mem_map.mp hx
    obtain ⟨t, ht⟩ := keys_look P g k hk
    have h2 := dgetP P k
    rw [ht] at h2
    have h2 : oDGet (picD P) (.int k) = some (.ins 4 [("kind", .str t.kd), ("contents", .dct t.cont)]) := h2
    have h3 := repr_cont (look_ok g ht)
    refine ⟨[.val (picD P), .val (.int k)], [.val (picD P), .val (.int k)], by (exists trivial), by (exists trivial), rfl, fun _ => ⟨[.val (picD P), .val (.int k)], ?_, rfl⟩⟩
    have hr : rowK P (.int k) = .tup [.int k, .str t.kd, .str (tx t)] := by
      show (match look P k with | some t => rowT k t | none => D.non) = _
      rw [ht]
      rfl
    rw [hr]
    (exists h2, h3))
  rw [List.nil_append, List.filter_eq_self.mpr (fun _ _ => rfl), List.map_map] at c1
  have c1 : cmpL (yName 1) xYes (xTup (xCons (xVal 1) (xCons (xFld fc_kind "kind" (xOp oDGet (xVal 0) (xVal 1))) (xCons (xCB fRepr (xCons (xFld fc_contents "contents" (xOp oDGet (xVal 0) (xVal 1))) xNil)) xNil)))) [1] ((sortI (P.map (·.1))).map .int) [] [.val (picD P), .no] = .ok ((sK P).map fun k => rowK P (.int k)) env' := c1
  unfold d__law_shown b__law_shown
  (exists k1, k2, c1)
/-! kept is what it is -/
def rowP (P : Pic) (k : Int) : PyData := match look P k with
  | some t => .tuple [.int k, .str t.kd, .str (tx t)]
  | none => .none
theorem dat_row (P : Pic) (k : Int) : dat (rowK P (.int k)) = some (rowP P k) := by
  unfold rowK rowP
  dsimp only
  cases look P k <;> rfl
theorem dat_rows (P : Pic) : ∀ ks : List Int, datL (ks.map fun k => rowK P (.int k)) = some (ks.map (rowP P))
  | [] => rfl
  | k :: ks => by
    show (match dat (rowK P (.int k)), datL (ks.map fun k => rowK P (.int k)) with
      | some a, some r => some (a :: r)
      | _, _ => none) = _
    rw [dat_rows P ks, dat_row]
    rfl
theorem kd_ok (t : Th) : PyData.strOk t.kd = true := by
  have a : PyData.strOk "A" = true := by decide +kernel
  have b : PyData.strOk "B" = true := by decide +kernel
  cases t
  · exact a
  · exact b
theorem lay_rows (P : Pic) (g : Good P) : ∀ ks : List Int, PyData.canLayAll0 (ks.map (rowP P)) = true ∧ PyData.depthAll (ks.map (rowP P)) ≤ 1
  | [] => ⟨rfl, Nat.zero_le 1⟩
  | k :: ks => by
    obtain ⟨i1, i2⟩ := lay_rows P g ks
    have h : PyData.canLay0 (rowP P k) = true ∧ PyData.depth (rowP P k) ≤ 1 := by
      unfold rowP
      cases ht : look P k with
      | none => exact ⟨by simp [PyData.canLay0], by simp [PyData.depth]⟩
      | some t =>
        dsimp only
        refine ⟨?_, ?_⟩
        · simp [PyData.canLay0, PyData.canLayAll0, kd_ok, tx_ok (look_ok g ht)]
        · simp [PyData.depth, PyData.depthAll]
    rw [List.map_cons]
    refine ⟨by rw [PyData.canLayAll0, h.1, i1]; rfl, by rw [PyData.depthAll]; omega⟩
theorem sh_rows (P : Pic) (g : Good P) (ks : List Int) : SeqAt.shaped (.list (ks.map (rowP P))) = true := by
  obtain ⟨i1, i2⟩ := lay_rows P g ks
  show (PyData.canLay0 (.list (ks.map (rowP P))) && decide (PyData.depth (.list (ks.map (rowP P))) ≤ 64)) = true
  have h2 : PyData.depth (.list (ks.map (rowP P))) ≤ 64 := by simp only [PyData.depth]; omega
  have h1 : PyData.canLay0 (.list (ks.map (rowP P))) = true := by rw [PyData.canLay0]; exact i1
  rw [h1, decide_eq_true h2]
  rfl
theorem eqd_of {x : D} {a : PyData} (h1 : scalD x x = none) (h2 : dat x = some a) (h3 : SeqAt.shaped a = true) : eqD x x = some true := by
  unfold eqD
  rw [h1]
  dsimp only
  rw [h2]
  dsimp only
  rw [if_pos ⟨h3, h3⟩, eqv_sh h3]
theorem kep_eqd (P : Pic) (g : Good P) : eqD (kepD P) (kepD P) = some true := eqd_of rfl (a := .list ((sK P).map (rowP P))) (by
  show (datL _).map PyData.list = _
  rw [dat_rows]
  rfl) (sh_rows P g _)
theorem kep_ne (P : Pic) (g : Good P) : oNe (kepD P) (kepD P) = some (.bl false) := by
  unfold oNe
  rw [kep_eqd P g]
  rfl
theorem kep_eq (P : Pic) (g : Good P) : oEq (kepD P) (kepD P) = some (.bl true) := by
  unfold oEq
  rw [kep_eqd P g]
  rfl
theorem ls_ne (ks : List Int) : oNe (Ls ks) (Ls ks) = some (.bl false) := by
  unfold oNe
  rw [eqd_of (x := Ls ks) rfl (dat_Ls ks) (sh_ints ks)]
  rfl
end
end K39L
namespace Dv
open PySem PySem.Spec PyProof.Rows L2
set_option autoImplicit false
noncomputable section
section
variable {env e e' e1 e2 : Dv.Env} {a : Ev} {sa : EvS} {i n : Nat} {d : D} {ags : List Ar} {p : Option D}
theorem r_runY1 (hs : Dv.start n ags = e') (h : sa e' = .rf d e) (ho : isObj d = true) (hp : parOf e = p) : runY n sa ags = .ok d p := by subst hp; subst hs; unfold runY; rw [h]; exact if_pos ho
theorem r_runY0 (hs : Dv.start n ags = e') (h : sa e' = .rt d e) (ho : isObj d = false) (hp : parOf e = p) : runY n sa ags = .ok d p := by subst hp; subst hs; unfold runY; rw [h]; dsimp only; rw [ho]; rfl
theorem r_retF (h1 : a env = .ok d e1) : xRetF a env = .rf d e1 := by unfold xRetF; rw [h1]; rfl
theorem r_setY1 {os : Option Sl} (h1 : a env = .ok d e1) (ho : isObj d = true) (h0 : e1[i]? = os) (h2 : boxable os = true) (he : e1.set i (.box d) = e') : xSetY i a env = .nx e' := by
  subst he
  subst h0
  unfold xSetY
  rw [h1]
  show (if isObj d = true then _ else _) = _
  rw [if_pos ho]
  cases h : e1[i]? with
  | none => rw [h] at h2; cases h2
  | some s => rw [h] at h2; cases s <;> first | (cases h2; done) | rfl
theorem r_setY0 (h1 : a env = .ok d e1) (ho : isObj d = false) (h2 : setE e1 i d = some e') : xSetY i a env = .nx e' := by
  unfold xSetY
  rw [h1]
  show (if isObj d = true then _ else (match setE e1 i d with | some e' => Sr.nx e' | none => .no)) = _
  rw [ho, h2]
  rfl
end
end
end Dv
namespace K39L
open PySem PySem.Spec PyProof.Rows L2 Dv K39
set_option autoImplicit false
noncomputable section
theorem isl_I : d_is_list [.val shI] = .ok (.bl false) none := by unfold d_is_list b_is_list; (exists trivial)
theorem isl_T : d_is_list [.val shT] = .ok (.bl false) none := by unfold d_is_list b_is_list; (exists trivial)
theorem isl_R (ks : List Str) (r : Str) : d_is_list [.val (shR ks r)] = .ok (.bl false) none := by unfold d_is_list b_is_list; (exists trivial)
theorem isl_L (ks : List Str) : d_is_list [.val (shL ks)] = .ok (.bl true) none := by unfold d_is_list b_is_list; (exists trivial)
theorem isr_I : d_is_reference [.val shI] = .ok (.bl false) none := by unfold d_is_reference b_is_reference; (exists trivial)
theorem isr_T : d_is_reference [.val shT] = .ok (.bl false) none := by unfold d_is_reference b_is_reference; (exists trivial)
theorem isr_R (ks : List Str) (r : Str) : d_is_reference [.val (shR ks r)] = .ok (.bl true) none := by unfold d_is_reference b_is_reference; (exists trivial)

theorem ob_oi (x : Option Int) : isObj (oi x) = false := by cases x <;> rfl
theorem ob_os (x : Option Str) : isObj (os x) = false := by cases x <;> rfl
theorem tc_I (P : Pic) (n : Str) (nd : Bool) {d : D} (h : isObj d = false) : d_told_content [.val (srcD P), .val (fldD n shI nd), .val d] = .ok d none := by
  unfold d_told_content b_told_content
  apply r_runY0 <;> (exists isl_I, isr_I)
theorem tc_T (P : Pic) (n : Str) (nd : Bool) {d : D} (h : isObj d = false) : d_told_content [.val (srcD P), .val (fldD n shT nd), .val d] = .ok d none := by
  unfold d_told_content b_told_content
  apply r_runY0 <;> (exists isl_T, isr_T)
theorem tc_R (P : Pic) (n : Str) (nd : Bool) (ks : List Str) (r : Str) (z : Option Int) : d_told_content [.val (srcD P), .val (fldD n (shR ks r) nd), .val (oi z)] = .ok (if there P ks z then oi z else .non) none := by
  have h1 := isl_R ks r
  have h2 := isr_R ks r
  unfold d_told_content b_told_content
  cases z with
  | none =>
    have : there P ks none = false := rfl
    rw [this, if_neg (by decide)]
    apply r_runY0 <;> (exists h1, h2)
  | some k =>
    have h3 := oneP P ks k
    cases hz : there P ks (some k) with
    | true =>
      rw [hz] at h3
      rw [if_pos rfl]
      apply r_runY0 <;> (exists h1, h2, h3)
    | false =>
      rw [hz] at h3
      rw [if_neg (by decide)]
      apply r_runY0 <;> (exists h1, h2, h3)
theorem tc_L (P : Pic) (n : Str) (nd : Bool) (ks : List Str) (l : List Int) (hl : l.length ≤ 4) : d_told_content [.val (srcD P), .val (fldD n (shL ks) nd), .val (Ls l)] = .ok (Ls (l.filter fun k => there P ks (some k))) none := by
  have h1 := isl_L ks
  obtain ⟨env', k1, k2⟩ := cmp_ints (i := 3) (ta := xTest (xCall 3 d_is_one_of (gVal (xVal 0) (gVal (xVal 3) (gVal (xFld fc_kinds "kinds" (xFld fc_shape "shape" (xVal 1))) Dv.gNil))))) (env := [.val (srcD P), .val (fldD n (shL ks) nd), .val (Ls l), .no]) (fun k => there P ks (some k)) l rfl (by omega) (fun k _ => ⟨[.val (srcD P), .val (fldD n (shL ks) nd), .val (Ls l), .val (.int k)], [.val (srcD P), .val (fldD n (shL ks) nd), .val (Ls l), .val (.int k)], by (exists trivial), by (exists oneP P ks k), rfl, by (exists trivial)⟩)
  have h5 : xRetF (xLc (iSq (xVal 2)) (yName 3) (xTest (xCall 3 d_is_one_of (gVal (xVal 0) (gVal (xVal 3) (gVal (xFld fc_kinds "kinds" (xFld fc_shape "shape" (xVal 1))) Dv.gNil))))) (xVal 3) [3]) [.val (srcD P), .val (fldD n (shL ks) nd), .val (Ls l), .no] = .rf (Ls (l.filter fun k => there P ks (some k))) [.val (srcD P), .val (fldD n (shL ks) nd), .val (Ls l), .no] := r_retF (by (exists k1, k2))
  unfold d_told_content b_told_content
  apply r_runY1 <;> (exists h5, h1, k1)
theorem fo_A_a (a b c : Str) (nd : Bool) : d_Kind_field_of [.val (kA a nd), .val (.str "a")] = .ok (fldD "a" shI nd) none := by
  unfold d_Kind_field_of b_Kind_field_of
  (exists trivial)
theorem fo_A_t (a b c : Str) (nd : Bool) : d_Kind_field_of [.val (kA a nd), .val (.str "t")] = .ok (fldD "t" shT false) none := by
  unfold d_Kind_field_of b_Kind_field_of
  (exists trivial)
theorem fo_A_r (a b c : Str) (nd : Bool) : d_Kind_field_of [.val (kA a nd), .val (.str "r")] = .ok (fldD "r" (shR ["A", "B"] a) false) none := by
  unfold d_Kind_field_of b_Kind_field_of
  (exists trivial)
theorem fo_A_l (a b c : Str) (nd : Bool) : d_Kind_field_of [.val (kA a nd), .val (.str "l")] = .ok (fldD "l" (shL ["A"]) false) none := by
  unfold d_Kind_field_of b_Kind_field_of
  (exists trivial)
theorem fo_B_p (a b c : Str) (nd : Bool) : d_Kind_field_of [.val (kB b c nd), .val (.str "p")] = .ok (fldD "p" (shR ["A"] b) nd) none := by
  unfold d_Kind_field_of b_Kind_field_of
  (exists trivial)
theorem fo_B_q (a b c : Str) (nd : Bool) : d_Kind_field_of [.val (kB b c nd), .val (.str "q")] = .ok (fldD "q" (shR ["B"] c) false) none := by
  unfold d_Kind_field_of b_Kind_field_of
  (exists trivial)
theorem fo_B_m (a b c : Str) (nd : Bool) : d_Kind_field_of [.val (kB b c nd), .val (.str "m")] = .ok (fldD "m" (shL ["A", "B"]) false) none := by
  unfold d_Kind_field_of b_Kind_field_of
  (exists trivial)
end
end K39L
namespace K39L
open PySem PySem.Spec PyProof.Rows L2 Dv K39
set_option autoImplicit false
noncomputable section
def bodyH : EvS := (xIfS (xAndT (xTest (xOp oNe (xVal 7) (xC (.str "t")))) (xTest (xOp oNe (xCall 2 d_holds_number (gVal (xVal 8) (gVal (xVal 10) Dv.gNil))) (xCall 2 d__law_holds (gVal (xVal 8) (gVal (xVal 10) Dv.gNil))))))
 (xRet (xC (.bl false)))
 xNx)
def bodyF : EvS := (xSeq (xSet 8 (xOp oDGet (xFld fc_contents "contents" (xVal 5)) (xVal 7)))
 (xSeq (xSetY 9 (xCall 3 d_told_content (gVal (xVal 3) (gVal (xMeth "field_of" 2 [(7, 29, d_Kind_field_of)] (xVal 6) (gVal (xVal 7) Dv.gNil)) (gVal (xVal 8) Dv.gNil)))))
 (xSeq (xIfS (xBorT (xTest (xOp oNe (xCB fRepr (xCons (xVal 9) xNil)) (xCB fRepr (xCons (xCall 4 d__law_told (gVal (xVal 1) (gVal (xVal 2) (gVal (xVal 5) (gVal (xVal 7) Dv.gNil))))) xNil)))))
 (xRet (xC (.bl false)))
 xNx)
 (xSeq (xIfS (xBorT (xTest (xCB (fIs isOO isOB isBT) (xCons (xVal 9) (xCons (xC (.ty "list")) xNil)))))
 (xDrop (xOwnM mApp 9 (xCons (xC (.int 77)) xNil)))
 xNx)
 (xFor (iRg1 (xCons (xC (.int 11)) xNil)) (yName 10) bodyH)))))
structure NV (s : Sl) : Prop where
  h : s = .no ∨ ∃ d, s = .val d
theorem nv_par {s : Sl} (h : NV s) : isPar s = false := by rcases h.h with rfl | ⟨d, rfl⟩ <;> rfl
theorem nv_box {s : Sl} (h : NV s) : boxable (some s) = true := by rcases h.h with rfl | ⟨d, rfl⟩ <;> rfl
theorem nv_bor {s : Sl} (h : NV s) : borE [s] = [s] := by rcases h.h with rfl | ⟨d, rfl⟩ <;> rfl
structure NB (s : Sl) : Prop where
  h : s = .no ∨ (∃ d, s = .val d) ∨ ∃ d, s = .box d
theorem nb_par {s : Sl} (h : NB s) : isPar s = false := by rcases h.h with rfl | ⟨d, rfl⟩ | ⟨d, rfl⟩ <;> rfl
theorem nb_box {s : Sl} (h : NB s) : boxable (some s) = true := by rcases h.h with rfl | ⟨d, rfl⟩ | ⟨d, rfl⟩ <;> rfl
abbrev enC (sc : D) (P : Pic) (R : D) (k : Int) (t : Th) (kd : D) (s7 s8 s9 s10 : Sl) : Dv.Env := [.val sc, .val (picD P), .val R, .val (srcD P), .val (.int k), .val t.d, .val kd, s7, s8, s9, s10]
theorem strNe {a b : Str} : oNe (.str a) (.str b) = some (.bl (!decide (a = b))) := rfl
theorem blNe (a : Bool) : oNe (.bl a) (.bl a) = some (.bl false) := by cases a <;> rfl
theorem rng0s (n : Nat) : ∃ xs : List Int, rngD 0 n = xs.map .int := ⟨(List.range n).map fun (k : Nat) => (0 : Int) + (k : Int), by simp [rngD]⟩
/-- both tell the same of a number -/
def HoldOk (n : Str) (c : D) : Prop := n = "t" ∨ ∀ o : Int, ∃ b : Bool, d_holds_number [.val c, .val (.int o)] = .ok (.bl b) none ∧ d__law_holds [.val c, .val (.int o)] = .ok (.bl b) none
theorem hold_loop {n : Str} {c : D} (h : HoldOk n c) (sc : D) (P : Pic) (R : D) (k : Int) (t : Th) (kd : D) (s9 : Sl) : ∀ (xs : List Int) (s10 : Sl), NV s10 → ∃ s10', NV s10' ∧ forL (yName 10) bodyH (xs.map .int) (enC sc P R k t kd (.val (.str n)) (.val c) s9 s10) = .nx (enC sc P R k t kd (.val (.str n)) (.val c) s9 s10')
  | [], s10, h10 => ⟨s10, h10, rfl⟩
  | x :: xs, s10, h10 => by
    obtain ⟨r, hr, ih⟩ := hold_loop h sc P R k t kd s9 xs (.val (.int x)) ⟨.inr ⟨_, rfl⟩⟩
    have y : yName 10 (.int x) (enC sc P R k t kd (.val (.str n)) (.val c) s9 s10) = some (enC sc P R k t kd (.val (.str n)) (.val c) s9 (.val (.int x))) := by
      refine z_name ?_
      rw [setE_at (s := s10) rfl (nv_par h10)]
      rfl
    have e : bodyH (enC sc P R k t kd (.val (.str n)) (.val c) s9 (.val (.int x))) = .nx (enC sc P R k t kd (.val (.str n)) (.val c) s9 (.val (.int x))) := by
      have q : oNe (.str n) (.str "t") = some (.bl (!decide (n = "t"))) := rfl
      rcases h with h | h
      · rw [decide_eq_true h] at q
        unfold bodyH
        (exists q)
      · obtain ⟨b, h1, h2⟩ := h x
        have h3 := blNe b
        unfold bodyH
        cases hn : decide (n = "t") with
        | true =>
          rw [hn] at q
          (exists q)
        | false =>
          rw [hn] at q
          (exists q, h1, h2, h3)
    refine ⟨r, hr, ?_⟩
    rw [List.map_cons]
    exact for_cons y e (fk_nx ih)
theorem appD {l : List D} {x : D} (h : l.length < 1000000) : mApp (.lst l) [x] = some (.non, .lst (l ++ [x])) := by
  show (if l.length < 1000000 then some (D.non, D.lst (l ++ [x])) else none) = _
  rw [if_pos h]
/-- one field -/
theorem tell_step {t : Th} {n : Str} {c f fld kd R sc : D} {P : Pic} {k : Int} {s : Str} {fs : List (Str × D)}
    (hk : kd = .ins 7 fs) (hm : fs.lookup ("field_of" : Str) = none)
    (h1 : oDGet (.dct t.cont) (.str n) = some c) (h2 : d_Kind_field_of [.val kd, .val (.str n)] = .ok fld none) (h3 : d_told_content [.val (srcD P), .val fld, .val c] = .ok f none)
    (h4 : d__law_told [.val (picD P), .val R, .val t.d, .val (.str n)] = .ok f none) (h5 : fRepr [f] = some (.str s)) (h6 : HoldOk n c)
    (h7 : (isObj f = false ∧ fIs isOO isOB isBT [f, .ty "list"] = some (.bl false)) ∨ ∃ l : List Int, l.length ≤ 4 ∧ f = Ls l)
    {s8 s9 s10 : Sl} (i8 : NV s8) (i9 : NB s9) (i10 : NV s10) : ∃ s9' s10', NB s9' ∧ NV s10' ∧ bodyF (enC sc P R k t kd (.val (.str n)) s8 s9 s10) = .nx (enC sc P R k t kd (.val (.str n)) (.val c) s9' s10') := by
  have e8 : xSet 8 (xOp oDGet (xFld fc_contents "contents" (xVal 5)) (xVal 7)) (enC sc P R k t kd (.val (.str n)) s8 s9 s10) = .nx (enC sc P R k t kd (.val (.str n)) (.val c) s9 s10) := by
    refine r_set (d := c) (e1 := enC sc P R k t kd (.val (.str n)) s8 s9 s10) ?_ ?_
    · have q : xFld fc_contents "contents" (xVal 5) (enC sc P R k t kd (.val (.str n)) s8 s9 s10) = .ok (.dct t.cont) (enC sc P R k t kd (.val (.str n)) s8 s9 s10) := r_fld (C := 4) (fs := [("kind", .str t.kd), ("contents", .dct t.cont)]) (r_val rfl) (by decide) rfl
      exact r_op q (r_val rfl) h1
    · rw [setE_at (s := s8) rfl (nv_par i8)]
      rfl
  obtain ⟨xs, hx⟩ := rng0s 11
  have sn : oNe (.str s) (.str s) = some (.bl false) := by
    rw [strNe, decide_eq_true rfl]
    rfl
  have cl : xCall 3 d_told_content (gVal (xVal 3) (gVal (xMeth "field_of" 2 [(7, 29, d_Kind_field_of)] (xVal 6) (gVal (xVal 7) Dv.gNil)) (gVal (xVal 8) Dv.gNil))) (enC sc P R k t kd (.val (.str n)) (.val c) s9 s10) = .ok f (enC sc P R k t kd (.val (.str n)) (.val c) s9 s10) := by
    subst hk
    (exists hm, h2, h3)
  have bn := nv_bor i10
  have rest : ∀ (s9 : Sl), (s9 = .val f ∨ s9 = .box f) → xIfS (xBorT (xTest (xOp oNe (xCB fRepr (xCons (xVal 9) xNil)) (xCB fRepr (xCons (xCall 4 d__law_told (gVal (xVal 1) (gVal (xVal 2) (gVal (xVal 5) (gVal (xVal 7) Dv.gNil))))) xNil))))) (xRet (xC (.bl false))) xNx (enC sc P R k t kd (.val (.str n)) (.val c) s9 s10) = .nx (enC sc P R k t kd (.val (.str n)) (.val c) s9 s10) := fun s9 hs => by
    rcases hs with rfl | rfl
    · (exists bn, h4, h5, sn)
    · (exists bn, h4, h5, sn)
  rcases h7 with ⟨ho, hi⟩ | ⟨l, hl, rfl⟩
  · have e9 : xSetY 9 (xCall 3 d_told_content (gVal (xVal 3) (gVal (xMeth "field_of" 2 [(7, 29, d_Kind_field_of)] (xVal 6) (gVal (xVal 7) Dv.gNil)) (gVal (xVal 8) Dv.gNil)))) (enC sc P R k t kd (.val (.str n)) (.val c) s9 s10) = .nx (enC sc P R k t kd (.val (.str n)) (.val c) (.val f) s10) := r_setY0 cl ho (by
      rw [setE_at (s := s9) rfl (nb_par i9)]
      rfl)
    obtain ⟨r, hr, lp⟩ := hold_loop h6 sc P R k t kd (.val f) xs s10 i10
    have r1 := rest _ (.inl rfl)
    have rg : iRg1 (xCons (xC (.int 11)) xNil) (enC sc P R k t kd (.val (.str n)) (.val c) (.val f) s10) = .ok (xs.map .int) (enC sc P R k t kd (.val (.str n)) (.val c) (.val f) s10) := by
      rw [← hx]
      exact r_rg1 (j := 11) (by (exists trivial)) (by decide)
    refine ⟨.val f, r, ⟨.inr (.inl ⟨_, rfl⟩)⟩, hr, ?_⟩
    unfold bodyF
    (exists e8, e9, r1, bn, hi, rg, lp)
  · have ho : isObj (Ls l) = true := rfl
    have hi : fIs isOO isOB isBT [Ls l, .ty "list"] = some (.bl true) := rfl
    have ap : mApp (Ls l) [.int 77] = some (.non, Ls (l ++ [77])) := by
      rw [appD (by rw [List.length_map]; omega)]
      show _ = some (D.non, D.lst ((l ++ [77]).map D.int))
      rw [List.map_append]
      rfl
    have e9 : xSetY 9 (xCall 3 d_told_content (gVal (xVal 3) (gVal (xMeth "field_of" 2 [(7, 29, d_Kind_field_of)] (xVal 6) (gVal (xVal 7) Dv.gNil)) (gVal (xVal 8) Dv.gNil)))) (enC sc P R k t kd (.val (.str n)) (.val c) s9 s10) = .nx (enC sc P R k t kd (.val (.str n)) (.val c) (.box (Ls l)) s10) := r_setY1 cl ho rfl (nb_box i9) rfl
    obtain ⟨r, hr, lp⟩ := hold_loop h6 sc P R k t kd (.box (Ls (l ++ [77]))) xs s10 i10
    have r1 := rest _ (.inr rfl)
    have rg : iRg1 (xCons (xC (.int 11)) xNil) (enC sc P R k t kd (.val (.str n)) (.val c) (.box (Ls (l ++ [77]))) s10) = .ok (xs.map .int) (enC sc P R k t kd (.val (.str n)) (.val c) (.box (Ls (l ++ [77]))) s10) := by
      rw [← hx]
      exact r_rg1 (j := 11) (by (exists trivial)) (by decide)
    have dr : xDrop (xOwnM mApp 9 (xCons (xC (.int 77)) xNil)) (enC sc P R k t kd (.val (.str n)) (.val c) (.box (Ls l)) s10) = .nx (enC sc P R k t kd (.val (.str n)) (.val c) (.box (Ls (l ++ [77]))) s10) := by
      (exists ap)
    refine ⟨.box (Ls (l ++ [77])), r, ⟨.inr (.inr ⟨_, rfl⟩)⟩, hr, ?_⟩
    unfold bodyF
    (exists e8, e9, r1, bn, hi, dr, rg, lp)
end
end K39L
namespace K39L
open PySem PySem.Spec PyProof.Rows L2 Dv K39
set_option autoImplicit false
noncomputable section
theorem hold_oi (n : Str) (x : Option Int) : HoldOk n (oi x) := .inr fun o => by
  cases x with
  | none =>
    refine ⟨false, ?_, ?_⟩
    · unfold d_holds_number b_holds_number
      (exists trivial)
    · unfold d__law_holds b__law_holds
      (exists trivial)
  | some k =>
    have q : oEq (.int k) (.int o) = some (.bl (decide (k = o))) := rfl
    refine ⟨decide (k = o), ?_, ?_⟩
    · unfold d_holds_number b_holds_number
      (exists q)
    · unfold d__law_holds b__law_holds
      (exists q)
theorem hold_ls (n : Str) (ks : List Int) : HoldOk n (Ls ks) := .inr fun o => by
  have q := inI o ks
  refine ⟨decide (o ∈ ks), ?_, ?_⟩
  · unfold d_holds_number b_holds_number
    (exists q)
  · unfold d__law_holds b__law_holds
    (exists q)
theorem isl_oi (x : Option Int) : fIs isOO isOB isBT [oi x, .ty "list"] = some (.bl false) := by cases x <;> rfl
theorem isl_os (x : Option Str) : fIs isOO isOB isBT [os x, .ty "list"] = some (.bl false) := by cases x <;> rfl
theorem sm_filter {ks : List Int} {p : Int → Bool} (h : ∀ k ∈ ks, Sm k) : ∀ k ∈ ks.filter p, Sm k := fun k hk => h k ((List.mem_filter.mp hk).1)
theorem rp_oi {x : Option Int} (h : SmO x) : ∃ s, fRepr [oi x] = some (.str s) := ⟨_, repr_dat (dat_oi x) (okShow_lf (lf_od h))⟩
theorem rp_os {x : Option Str} (h : okS x) : ∃ s, fRepr [os x] = some (.str s) := ⟨_, repr_dat (dat_os x) (okShow_lf (lf_osd h))⟩
theorem rp_ls {ks : List Int} (h : ∀ k ∈ ks, Sm k) (hl : ks.length ≤ 4) : ∃ s, fRepr [Ls ks] = some (.str s) := ⟨_, repr_dat (dat_Ls ks) (okShow_ls (ls_ints h hl))⟩
/-- told: the number or nothing -/
def toO (b : Bool) (x : Option Int) : Option Int := if b then x else none
theorem toO_d (b : Bool) (x : Option Int) : (if b = true then oi x else D.non) = oi (toO b x) := by cases b <;> rfl
theorem toO_sm {b : Bool} {x : Option Int} (h : SmO x) : SmO (toO b x) := by
  cases b with
  | true => exact h
  | false => exact fun k e => by cases e
theorem cont_A_a {x y z ks} : oDGet (.dct (Th.A x y z ks).cont) (.str "a") = some (oi x) := by rfl
theorem cont_A_t {x y z ks} : oDGet (.dct (Th.A x y z ks).cont) (.str "t") = some (os y) := by rfl
theorem cont_A_r {x y z ks} : oDGet (.dct (Th.A x y z ks).cont) (.str "r") = some (oi z) := by rfl
theorem cont_A_l {x y z ks} : oDGet (.dct (Th.A x y z ks).cont) (.str "l") = some (Ls ks) := by rfl
theorem cont_B_p {x y ks} : oDGet (.dct (Th.B x y ks).cont) (.str "p") = some (oi x) := by rfl
theorem cont_B_q {x y ks} : oDGet (.dct (Th.B x y ks).cont) (.str "q") = some (oi y) := by rfl
theorem cont_B_m {x y ks} : oDGet (.dct (Th.B x y ks).cont) (.str "m") = some (Ls ks) := by rfl
section
variable {P : Pic} {a b c : Str} (na : a ≠ "list") (nb : b ≠ "list") (nc : c ≠ "list") (nd : Bool) (sc : D) (k : Int)
abbrev StepOk (P : Pic) (a b c : Str) (sc : D) (k : Int) (t : Th) (kd : D) (n : Str) : Prop := ∀ s8 s9 s10, NV s8 → NB s9 → NV s10 → ∃ s8' s9' s10', NV s8' ∧ NB s9' ∧ NV s10' ∧ bodyF (enC sc P (rlsD a b c) k t kd (.val (.str n)) s8 s9 s10) = .nx (enC sc P (rlsD a b c) k t kd (.val (.str n)) s8' s9' s10')
include na nb nc
theorem st_A_a {x y z ks} (h : okT (.A x y z ks)) : StepOk P a b c sc k (.A x y z ks) (kA a nd) "a" := fun s8 s9 s10 i8 i9 i10 => by
  obtain ⟨s, hs⟩ := rp_oi h.2.2.1
  obtain ⟨q9, q10, j9, j10, e⟩ := tell_step (sc := sc) (k := k) (t := .A x y z ks) rfl rfl cont_A_a (fo_A_a a b c nd) (tc_I P "a" nd (ob_oi x)) (tl_A_a P a b c na nb nc x y z ks) hs (hold_oi _ _) (.inl ⟨ob_oi x, isl_oi x⟩) i8 i9 i10
  exact ⟨_, q9, q10, ⟨.inr ⟨_, rfl⟩⟩, j9, j10, e⟩
theorem st_A_t {x y z ks} (h : okT (.A x y z ks)) : StepOk P a b c sc k (.A x y z ks) (kA a nd) "t" := fun s8 s9 s10 i8 i9 i10 => by
  obtain ⟨s, hs⟩ := rp_os h.2.1
  obtain ⟨q9, q10, j9, j10, e⟩ := tell_step (sc := sc) (k := k) (t := .A x y z ks) rfl rfl cont_A_t (fo_A_t a b c nd) (tc_T P "t" false (ob_os y)) (tl_A_t P a b c na nb nc x y z ks) hs (.inl rfl) (.inl ⟨ob_os y, isl_os y⟩) i8 i9 i10
  exact ⟨_, q9, q10, ⟨.inr ⟨_, rfl⟩⟩, j9, j10, e⟩
theorem st_A_r {x y z ks} (h : okT (.A x y z ks)) : StepOk P a b c sc k (.A x y z ks) (kA a nd) "r" := fun s8 s9 s10 i8 i9 i10 => by
  have t1 := tc_R P "r" false ["A", "B"] a z
  have t2 : TgL P a b c (.A x y z ks) "r" := tl_A_r P a b c na nb nc x y z ks
  rw [toO_d] at t1
  have t2 : d__law_told [.val (picD P), .val (rlsD a b c), .val (Th.A x y z ks).d, .val (.str "r")] = .ok (oi (toO (there P ["A", "B"] z) z)) none := by
    rw [← toO_d]
    exact t2
  obtain ⟨s, hs⟩ := rp_oi (toO_sm (b := there P ["A", "B"] z) h.2.2.2.1)
  obtain ⟨q9, q10, j9, j10, e⟩ := tell_step (sc := sc) (k := k) (t := .A x y z ks) rfl rfl cont_A_r (fo_A_r a b c nd) t1 t2 hs (hold_oi _ _) (.inl ⟨ob_oi _, isl_oi _⟩) i8 i9 i10
  exact ⟨_, q9, q10, ⟨.inr ⟨_, rfl⟩⟩, j9, j10, e⟩
theorem st_A_l {x y z ks} (h : okT (.A x y z ks)) : StepOk P a b c sc k (.A x y z ks) (kA a nd) "l" := fun s8 s9 s10 i8 i9 i10 => by
  have hl : (ks.filter fun k => there P ["A"] (some k)).length ≤ 4 := Nat.le_trans (List.length_filter_le ..) h.1
  obtain ⟨s, hs⟩ := rp_ls (sm_filter (p := fun k => there P ["A"] (some k)) h.2.2.2.2) hl
  obtain ⟨q9, q10, j9, j10, e⟩ := tell_step (sc := sc) (k := k) (t := .A x y z ks) rfl rfl cont_A_l (fo_A_l a b c nd) (tc_L P "l" false ["A"] ks h.1) (tl_A_l P a b c na nb nc x y z ks h.1) hs (hold_ls _ _) (.inr ⟨_, hl, rfl⟩) i8 i9 i10
  exact ⟨_, q9, q10, ⟨.inr ⟨_, rfl⟩⟩, j9, j10, e⟩
theorem st_B_p {p q ks} (h : okT (.B p q ks)) : StepOk P a b c sc k (.B p q ks) (kB b c nd) "p" := fun s8 s9 s10 i8 i9 i10 => by
  have t1 := tc_R P "p" nd ["A"] b p
  have t2 : TgL P a b c (.B p q ks) "p" := tl_B_p P a b c na nb nc p q ks
  rw [toO_d] at t1
  have t2 : d__law_told [.val (picD P), .val (rlsD a b c), .val (Th.B p q ks).d, .val (.str "p")] = .ok (oi (toO (there P ["A"] p) p)) none := by
    rw [← toO_d]
    exact t2
  obtain ⟨s, hs⟩ := rp_oi (toO_sm (b := there P ["A"] p) h.2.1)
  obtain ⟨q9, q10, j9, j10, e⟩ := tell_step (sc := sc) (k := k) (t := .B p q ks) rfl rfl cont_B_p (fo_B_p a b c nd) t1 t2 hs (hold_oi _ _) (.inl ⟨ob_oi _, isl_oi _⟩) i8 i9 i10
  exact ⟨_, q9, q10, ⟨.inr ⟨_, rfl⟩⟩, j9, j10, e⟩
theorem st_B_q {p q ks} (h : okT (.B p q ks)) : StepOk P a b c sc k (.B p q ks) (kB b c nd) "q" := fun s8 s9 s10 i8 i9 i10 => by
  have t1 := tc_R P "q" false ["B"] c q
  have t2 : TgL P a b c (.B p q ks) "q" := tl_B_q P a b c na nb nc p q ks
  rw [toO_d] at t1
  have t2 : d__law_told [.val (picD P), .val (rlsD a b c), .val (Th.B p q ks).d, .val (.str "q")] = .ok (oi (toO (there P ["B"] q) q)) none := by
    rw [← toO_d]
    exact t2
  obtain ⟨s, hs⟩ := rp_oi (toO_sm (b := there P ["B"] q) h.2.2.1)
  obtain ⟨q9, q10, j9, j10, e⟩ := tell_step (sc := sc) (k := k) (t := .B p q ks) rfl rfl cont_B_q (fo_B_q a b c nd) t1 t2 hs (hold_oi _ _) (.inl ⟨ob_oi _, isl_oi _⟩) i8 i9 i10
  exact ⟨_, q9, q10, ⟨.inr ⟨_, rfl⟩⟩, j9, j10, e⟩
theorem st_B_m {p q ks} (h : okT (.B p q ks)) : StepOk P a b c sc k (.B p q ks) (kB b c nd) "m" := fun s8 s9 s10 i8 i9 i10 => by
  have hl : (ks.filter fun k => there P ["A", "B"] (some k)).length ≤ 4 := Nat.le_trans (List.length_filter_le ..) h.1
  obtain ⟨s, hs⟩ := rp_ls (sm_filter (p := fun k => there P ["A", "B"] (some k)) h.2.2.2) hl
  obtain ⟨q9, q10, j9, j10, e⟩ := tell_step (sc := sc) (k := k) (t := .B p q ks) rfl rfl cont_B_m (fo_B_m a b c nd) (tc_L P "m" false ["A", "B"] ks h.1) (tl_B_m P a b c na nb nc p q ks h.1) hs (hold_ls _ _) (.inr ⟨_, hl, rfl⟩) i8 i9 i10
  exact ⟨_, q9, q10, ⟨.inr ⟨_, rfl⟩⟩, j9, j10, e⟩
omit na nb nc
/-- the fields of a thing -/
theorem fld_loop {t : Th} {kd : D} : ∀ (ns : List Str), (∀ n ∈ ns, StepOk P a b c sc k t kd n) → ∀ s7 s8 s9 s10, NV s7 → NV s8 → NB s9 → NV s10 → ∃ s7' s8' s9' s10', NV s7' ∧ NV s8' ∧ NB s9' ∧ NV s10' ∧ forL (yName 7) bodyF (ns.map .str) (enC sc P (rlsD a b c) k t kd s7 s8 s9 s10) = .nx (enC sc P (rlsD a b c) k t kd s7' s8' s9' s10')
  | [], _, s7, s8, s9, s10, i7, i8, i9, i10 => ⟨s7, s8, s9, s10, i7, i8, i9, i10, rfl⟩
  | n :: ns, h, s7, s8, s9, s10, i7, i8, i9, i10 => by
    obtain ⟨r8, r9, r10, j8, j9, j10, e⟩ := h n (List.mem_cons_self ..) s8 s9 s10 i8 i9 i10
    obtain ⟨q7, q8, q9, q10, l7, l8, l9, l10, ih⟩ := fld_loop ns (fun n hn => h n (List.mem_cons_of_mem _ hn)) (.val (.str n)) r8 r9 r10 ⟨.inr ⟨_, rfl⟩⟩ j8 j9 j10
    have y : yName 7 (.str n) (enC sc P (rlsD a b c) k t kd s7 s8 s9 s10) = some (enC sc P (rlsD a b c) k t kd (.val (.str n)) s8 s9 s10) := by
      refine z_name ?_
      rw [setE_at (s := s7) rfl (nv_par i7)]
      rfl
    refine ⟨q7, q8, q9, q10, l7, l8, l9, l10, ?_⟩
    rw [List.map_cons]
    exact for_cons y e (fk_nx ih)
end
end
end K39L
namespace K39L
open PySem PySem.Spec PyProof.Rows L2 Dv K39
set_option autoImplicit false
noncomputable section
theorem koA (a b c : Str) (nd : Bool) : d_Schema_kind_of [.val (schD a b c nd), .val (.str "A")] = .ok (kA a nd) none := by
  unfold d_Schema_kind_of b_Schema_kind_of
  (exists trivial)
theorem koB (a b c : Str) (nd : Bool) : d_Schema_kind_of [.val (schD a b c nd), .val (.str "B")] = .ok (kB b c nd) none := by
  unfold d_Schema_kind_of b_Schema_kind_of
  (exists trivial)
theorem nmA : d__law_names [.val (.str "A")] = .ok (Ss ["a", "t", "r", "l"]) none := by
  unfold d__law_names b__law_names
  (exists trivial)
theorem nmB : d__law_names [.val (.str "B")] = .ok (Ss ["p", "q", "m"]) none := by
  unfold d__law_names b__law_names
  (exists trivial)
def bodyN : EvS := (xSeq (xSet 5 (xOp oDGet (xVal 1) (xVal 4)))
 (xSeq (xSet 6 (xMeth "kind_of" 2 [(8, 31, d_Schema_kind_of)] (xVal 0) (gVal (xFld fc_kind "kind" (xVal 5)) Dv.gNil)))
 (xFor (iSq (xCall 1 d__law_names (gVal (xFld fc_kind "kind" (xVal 5)) Dv.gNil))) (yName 7) bodyF)))
abbrev enO (sc : D) (P : Pic) (R : D) (s4 s5 s6 s7 s8 s9 s10 : Sl) : Dv.Env := [.val sc, .val (picD P), .val R, .val (srcD P), s4, s5, s6, s7, s8, s9, s10]
section
variable {P : Pic} {a b c : Str} (na : a ≠ "list") (nb : b ≠ "list") (nc : c ≠ "list") (nd : Bool) (g : Good P)
include na nb nc g
theorem num_step {k : Int} {t : Th} (ht : look P k = some t) (s5 s6 s7 s8 s9 s10 : Sl) (i5 : NV s5) (i6 : NV s6) (i7 : NV s7) (i8 : NV s8) (i9 : NB s9) (i10 : NV s10) : ∃ q5 q6 q7 q8 q9 q10, NV q5 ∧ NV q6 ∧ NV q7 ∧ NV q8 ∧ NB q9 ∧ NV q10 ∧ bodyN (enO (schD a b c nd) P (rlsD a b c) (.val (.int k)) s5 s6 s7 s8 s9 s10) = .nx (enO (schD a b c nd) P (rlsD a b c) (.val (.int k)) q5 q6 q7 q8 q9 q10) := by
  have h2 := dgetP P k
  rw [ht] at h2
  have h2 : oDGet (picD P) (.int k) = some t.d := h2
  have ot := look_ok g ht
  have e5 : xSet 5 (xOp oDGet (xVal 1) (xVal 4)) (enO (schD a b c nd) P (rlsD a b c) (.val (.int k)) s5 s6 s7 s8 s9 s10) = .nx (enO (schD a b c nd) P (rlsD a b c) (.val (.int k)) (.val t.d) s6 s7 s8 s9 s10) := by
    refine r_set (d := t.d) (e1 := enO (schD a b c nd) P (rlsD a b c) (.val (.int k)) s5 s6 s7 s8 s9 s10) (r_op (r_val rfl) (r_val rfl) h2) ?_
    rw [setE_at (s := s5) rfl (nv_par i5)]
    rfl
  have kf : ∀ s6 : Sl, xFld fc_kind "kind" (xVal 5) (enO (schD a b c nd) P (rlsD a b c) (.val (.int k)) (.val t.d) s6 s7 s8 s9 s10) = .ok (.str t.kd) (enO (schD a b c nd) P (rlsD a b c) (.val (.int k)) (.val t.d) s6 s7 s8 s9 s10) := fun s6 => r_fld (C := 4) (fs := [("kind", .str t.kd), ("contents", .dct t.cont)]) (r_val rfl) (by decide) rfl
  have kl : ("kind_of" : Str) ≠ "kinds" := by decide
  have kz : ([("kinds", .lst [kA a nd, kB b c nd])] : List (Str × D)).lookup ("kind_of" : Str) = none := rfl
  cases t with
  | A x y z ks =>
    have kf : ∀ s6 : Sl, xFld fc_kind "kind" (xVal 5) (enO (schD a b c nd) P (rlsD a b c) (.val (.int k)) (.val (Th.A x y z ks).d) s6 s7 s8 s9 s10) = .ok (.str "A") (enO (schD a b c nd) P (rlsD a b c) (.val (.int k)) (.val (Th.A x y z ks).d) s6 s7 s8 s9 s10) := kf
    have f1 := kf s6
    have f2 := kf (.val (kA a nd))
    have ko := koA a b c nd
    have nm := nmA
    have e6 : xSet 6 (xMeth "kind_of" 2 [(8, 31, d_Schema_kind_of)] (xVal 0) (gVal (xFld fc_kind "kind" (xVal 5)) Dv.gNil)) (enO (schD a b c nd) P (rlsD a b c) (.val (.int k)) (.val (Th.A x y z ks).d) s6 s7 s8 s9 s10) = .nx (enO (schD a b c nd) P (rlsD a b c) (.val (.int k)) (.val (Th.A x y z ks).d) (.val (kA a nd)) s7 s8 s9 s10) := by
      refine r_set (d := kA a nd) (e1 := enO (schD a b c nd) P (rlsD a b c) (.val (.int k)) (.val (Th.A x y z ks).d) s6 s7 s8 s9 s10) ?_ ?_
      · (exists f1, ko, kz)
      · rw [setE_at (s := s6) rfl (nv_par i6)]
        rfl
    obtain ⟨q7, q8, q9, q10, l7, l8, l9, l10, lp⟩ := fld_loop (P := P) (a := a) (b := b) (c := c) (schD a b c nd) k (t := .A x y z ks) (kd := kA a nd) ["a", "t", "r", "l"] (fun n hn => by
      simp only [List.mem_cons, List.not_mem_nil, or_false] at hn
      rcases hn with rfl | rfl | rfl | rfl
      · exact st_A_a na nb nc nd _ k ot
      · exact st_A_t na nb nc nd _ k ot
      · exact st_A_r na nb nc nd _ k ot
      · exact st_A_l na nb nc nd _ k ot) s7 s8 s9 s10 i7 i8 i9 i10
    have lp : forL (yName 7) bodyF ((["a", "t", "r", "l"] : List Str).map D.str) (enO (schD a b c nd) P (rlsD a b c) (.val (.int k)) (.val (Th.A x y z ks).d) (.val (kA a nd)) s7 s8 s9 s10) = .nx (enO (schD a b c nd) P (rlsD a b c) (.val (.int k)) (.val (Th.A x y z ks).d) (.val (kA a nd)) q7 q8 q9 q10) := lp
    refine ⟨.val (Th.A x y z ks).d, .val (kA a nd), q7, q8, q9, q10, ⟨.inr ⟨_, rfl⟩⟩, ⟨.inr ⟨_, rfl⟩⟩, l7, l8, l9, l10, ?_⟩
    unfold bodyN
    (exists e5, e6, f2, nm, lp)
  | B x y ks =>
    have kf : ∀ s6 : Sl, xFld fc_kind "kind" (xVal 5) (enO (schD a b c nd) P (rlsD a b c) (.val (.int k)) (.val (Th.B x y ks).d) s6 s7 s8 s9 s10) = .ok (.str "B") (enO (schD a b c nd) P (rlsD a b c) (.val (.int k)) (.val (Th.B x y ks).d) s6 s7 s8 s9 s10) := kf
    have f1 := kf s6
    have f2 := kf (.val (kB b c nd))
    have ko := koB a b c nd
    have nm := nmB
    have e6 : xSet 6 (xMeth "kind_of" 2 [(8, 31, d_Schema_kind_of)] (xVal 0) (gVal (xFld fc_kind "kind" (xVal 5)) Dv.gNil)) (enO (schD a b c nd) P (rlsD a b c) (.val (.int k)) (.val (Th.B x y ks).d) s6 s7 s8 s9 s10) = .nx (enO (schD a b c nd) P (rlsD a b c) (.val (.int k)) (.val (Th.B x y ks).d) (.val (kB b c nd)) s7 s8 s9 s10) := by
      refine r_set (d := kB b c nd) (e1 := enO (schD a b c nd) P (rlsD a b c) (.val (.int k)) (.val (Th.B x y ks).d) s6 s7 s8 s9 s10) ?_ ?_
      · (exists f1, ko, kz)
      · rw [setE_at (s := s6) rfl (nv_par i6)]
        rfl
    obtain ⟨q7, q8, q9, q10, l7, l8, l9, l10, lp⟩ := fld_loop (P := P) (a := a) (b := b) (c := c) (schD a b c nd) k (t := .B x y ks) (kd := kB b c nd) ["p", "q", "m"] (fun n hn => by
      simp only [List.mem_cons, List.not_mem_nil, or_false] at hn
      rcases hn with rfl | rfl | rfl
      · exact st_B_p na nb nc nd _ k ot
      · exact st_B_q na nb nc nd _ k ot
      · exact st_B_m na nb nc nd _ k ot) s7 s8 s9 s10 i7 i8 i9 i10
    have lp : forL (yName 7) bodyF ((["p", "q", "m"] : List Str).map D.str) (enO (schD a b c nd) P (rlsD a b c) (.val (.int k)) (.val (Th.B x y ks).d) (.val (kB b c nd)) s7 s8 s9 s10) = .nx (enO (schD a b c nd) P (rlsD a b c) (.val (.int k)) (.val (Th.B x y ks).d) (.val (kB b c nd)) q7 q8 q9 q10) := lp
    refine ⟨.val (Th.B x y ks).d, .val (kB b c nd), q7, q8, q9, q10, ⟨.inr ⟨_, rfl⟩⟩, ⟨.inr ⟨_, rfl⟩⟩, l7, l8, l9, l10, ?_⟩
    unfold bodyN
    (exists e5, e6, f2, nm, lp)
theorem num_loop : ∀ (ks : List Int), (∀ k ∈ ks, ∃ t, look P k = some t) → ∀ s4 s5 s6 s7 s8 s9 s10, NV s4 → NV s5 → NV s6 → NV s7 → NV s8 → NB s9 → NV s10 → ∃ q4 q5 q6 q7 q8 q9 q10, NB q9 ∧ forL (yName 4) bodyN (ks.map .int) (enO (schD a b c nd) P (rlsD a b c) s4 s5 s6 s7 s8 s9 s10) = .nx (enO (schD a b c nd) P (rlsD a b c) q4 q5 q6 q7 q8 q9 q10)
  | [], _, s4, s5, s6, s7, s8, s9, s10, i4, i5, i6, i7, i8, i9, i10 => ⟨_, _, _, _, _, _, _, i9, rfl⟩
  | k :: ks, h, s4, s5, s6, s7, s8, s9, s10, i4, i5, i6, i7, i8, i9, i10 => by
    obtain ⟨t, ht⟩ := h k (List.mem_cons_self ..)
    obtain ⟨r5, r6, r7, r8, r9, r10, j5, j6, j7, j8, j9, j10, e⟩ := num_step na nb nc nd g ht s5 s6 s7 s8 s9 s10 i5 i6 i7 i8 i9 i10
    obtain ⟨q4, q5, q6, q7, q8, q9, q10, l9, ih⟩ := num_loop ks (fun k hk => h k (List.mem_cons_of_mem _ hk)) (.val (.int k)) r5 r6 r7 r8 r9 r10 ⟨.inr ⟨_, rfl⟩⟩ j5 j6 j7 j8 j9 j10
    have y : yName 4 (.int k) (enO (schD a b c nd) P (rlsD a b c) s4 s5 s6 s7 s8 s9 s10) = some (enO (schD a b c nd) P (rlsD a b c) (.val (.int k)) s5 s6 s7 s8 s9 s10) := by
      refine z_name ?_
      rw [setE_at (s := s4) rfl (nv_par i4)]
      rfl
    refine ⟨q4, q5, q6, q7, q8, q9, q10, l9, ?_⟩
    rw [List.map_cons]
    exact for_cons y e (fk_nx ih)
theorem tell_ok : ∃ p, d__law_contents_tell [.val (schD a b c nd), .val (picD P), .val (rlsD a b c)] = .ok (.bl true) p := by
  have k1 := keysL P
  have k2 := sortL (P.map (·.1))
  have nn : NV .no := ⟨.inl rfl⟩
  obtain ⟨q4, q5, q6, q7, q8, q9, q10, l9, lp⟩ := num_loop na nb nc nd g (sK P) (keys_look P g) .no .no .no .no .no .no .no nn nn nn nn nn ⟨.inl rfl⟩ nn
  have lp : forL (yName 4) bodyN ((sortI (P.map (·.1))).map .int) [.val (schD a b c nd), .val (picD P), .val (rlsD a b c), .val (srcD P), .no, .no, .no, .no, .no, .no, .no] = .nx (enO (schD a b c nd) P (rlsD a b c) q4 q5 q6 q7 q8 q9 q10) := lp
  have is := i_Src (picD P)
  refine ⟨parOf (enO (schD a b c nd) P (rlsD a b c) q4 q5 q6 q7 q8 q9 q10), ?_⟩
  unfold bodyN bodyF bodyH at lp
  unfold d__law_contents_tell b__law_contents_tell
  (exists k1, k2, is, lp)
end
end
end K39L
namespace K39L
open PySem PySem.Spec PyProof.Rows L2 Dv K39
set_option autoImplicit false
noncomputable section
theorem bl_I : d_blank [.val shI] = .ok .non none := by unfold d_blank b_blank; (exists isl_I)
theorem bl_T : d_blank [.val shT] = .ok .non none := by unfold d_blank b_blank; (exists isl_T)
theorem bl_R (ks : List Str) (r : Str) : d_blank [.val (shR ks r)] = .ok .non none := by
  have h := isl_R ks r
  unfold d_blank b_blank
  (exists h)
theorem bl_L (ks : List Str) : d_blank [.val (shL ks)] = .ok (.lst []) none := by
  have h := isl_L ks
  unfold d_blank b_blank
  (exists h)
theorem r_dc {ei : EvI} {eg : Eg} {ek a : Ev} {ta : EvT} {vs : List Nat} {env e1 e' e : Dv.Env} {ds : List D} {acc : List (L2.Key × D)} (h1 : ei env = .ok ds e1) (h2 : dcmpL eg ta ek a vs ds [] e1 = .ok acc e') (hw : wipeE e' vs = e) : xDc ei eg ta ek a vs env = .ok (.dct acc) e := by
  subst hw
  unfold xDc
  rw [h1]
  show (dcmpL eg ta ek a vs ds [] e1).bind _ = _
  rw [h2]
  rfl
def blT : Th := .A none none none []
theorem blank_ok (a : Str) (nd : Bool) : d_blank_thing [.val (kA a nd)] = .ok blT.d none := by
  have b1 := bl_I
  have b2 := bl_T
  have b3 := bl_R ["A", "B"] a
  have b4 := bl_L ["A"]
  have i : d_Thing___init__ [.par (.ins 4 []), .val (.str "A"), .val (.dct [(.inr "a", .non), (.inr "t", .non), (.inr "r", .non), (.inr "l", .lst [])])] = .ok .non (some blT.d) := init_ok blT
  have dc : xDc (iSq (xFld fc_fields "fields" (xVal 0))) (yName 1) xYes (xFld fc_name "name" (xVal 1)) (xCall 1 d_blank (gVal (xFld fc_shape "shape" (xVal 1)) Dv.gNil)) [1] [.val (kA a nd), .no] = .ok (.dct [(.inr "a", .non), (.inr "t", .non), (.inr "r", .non), (.inr "l", .lst [])]) [.val (kA a nd), .no] := by
    apply r_dc
    · (exists trivial)
    · (exists b1, b2, b3, b4)
    · (exists trivial)
  unfold d_blank_thing b_blank_thing
  (exists dc, i)
theorem okT_bl : okT blT := ⟨by decide, okS_none, (fun k e => by cases e), (fun k e => by cases e), (fun k e => by cases e)⟩
theorem tx_bl : tx blT = "{'a': None, 't': None, 'r': None, 'l': []}" := by decide +kernel
theorem bl_ne5 : d_Thing___eq__ [.val blT.d, .val (.int 5)] = .ok (.bl false) none := by
  have e : fIs isOO isOB isBT [.int 5, .st 4] = some (.bl false) := by rfl
  unfold d_Thing___eq__ b_Thing___eq__
  (exists e)
theorem bl_yok : yOk isBT 4 (.int 5) = true := by rfl
theorem bl_kd : oNe (.str "A") (.str "A") = some (.bl false) := by rfl
end
end K39L
namespace K39L
open PySem PySem.Spec PyProof.Rows L2 Dv K39
set_option autoImplicit false
noncomputable section
abbrev A3 := Addr × Addr × Addr
def kvsOf : Pic → List A3 → List (L2.Key × V)
  | p :: P, x :: xs => (.inl p.1, .ref x.1) :: kvsOf P xs
  | _, _ => []
def isI (kv : List (L2.Key × V)) : Prop := ∀ q ∈ kv, ∃ n : Int, q.1 = .inl n
theorem kvs_isI : ∀ (P : Pic) (xs : List A3), isI (kvsOf P xs)
  | [], _ => fun q h => by cases h
  | _ :: _, [] => fun q h => by cases h
  | p :: P, x :: xs => fun q h => by
    rcases List.mem_cons.mp h with rfl | h
    · exact ⟨p.1, rfl⟩
    · exact kvs_isI P xs q h
theorem kvs_at : ∀ (P : Pic) (xs : List A3) (i : Nat) (p : Int × Th) (x : A3), P[i]? = some p → xs[i]? = some x → (kvsOf P xs)[i]? = some (.inl p.1, .ref x.1)
  | [], _, _, _, _, e, _ => by simp at e
  | _ :: _, [], _, _, _, _, e => by simp at e
  | q :: P, y :: xs, 0, p, x, e1, e2 => by
    simp at e1 e2
    subst e1
    subst e2
    rfl
  | q :: P, y :: xs, i + 1, p, x, e1, e2 => by
    simp at e1 e2
    exact kvs_at P xs i p x e1 e2
theorem kvs_len : ∀ (P : Pic) (xs : List A3), xs.length = P.length → (kvsOf P xs).length = P.length
  | [], _, _ => rfl
  | _ :: _, [], e => by cases e
  | q :: P, y :: xs, e => by
    show (kvsOf P xs).length + 1 = P.length + 1
    rw [kvs_len P xs (by simpa using e)]
theorem kvs_snoc : ∀ (P : Pic) (xs : List A3) (p : Int × Th) (x : A3), xs.length = P.length → kvsOf (P ++ [p]) (xs ++ [x]) = kvsOf P xs ++ [(.inl p.1, .ref x.1)]
  | [], [], _, _, _ => rfl
  | [], _ :: _, _, _, e => by cases e
  | _ :: _, [], _, _, e => by cases e
  | q :: P, y :: xs, p, x, e => by
    show _ :: kvsOf (P ++ [p]) (xs ++ [x]) = _
    rw [kvs_snoc P xs p x (by simpa using e)]
    rfl
theorem kvs_keys : ∀ (P : Pic) (xs : List A3), xs.length = P.length → (kvsOf P xs).map (·.1) = P.map fun p => (.inl p.1 : L2.Key)
  | [], _, _ => rfl
  | _ :: _, [], e => by cases e
  | q :: P, y :: xs, e => by
    show _ :: (kvsOf P xs).map (·.1) = _
    rw [kvs_keys P xs (by simpa using e)]
    rfl
section
variable {K : PySem.W.Frag} {A : Ad}
theorem cv_no {t : Th} {l : Addr} {kv : List (L2.Key × V)} (h : isI kv) : t.cv l ≠ kv := fun e => by
  cases t with
  | A x y z ks =>
    obtain ⟨n, e2⟩ := h _ (by rw [← e]; exact List.mem_cons_self ..)
    cases e2
  | B x y ks =>
    obtain ⟨n, e2⟩ := h _ (by rw [← e]; exact List.mem_cons_self ..)
    cases e2
theorem rd_dct {H : Hp} {c D : Addr} {kw kv : List (L2.Key × V)} (h : Rd H c (.dK kw)) (hD : Rd H D (.dK kv)) (n : kw ≠ kv) : c ≠ D := fun e => by
  subst e
  rcases h with h | ⟨o, h⟩ <;> rcases hD with hD | ⟨o', hD⟩ <;> rw [h] at hD <;> cases hD <;> exact n rfl
/-- a thing stays where a dict of numbers changes -/
theorem ThI.to {H H' : Hp} {a c l D : Addr} {t : Th} {kv : List (L2.Key × V)} (h : ThI A H a c l t) (hD : Rd H D (.dK kv)) (hk : isI kv) (x : ∀ b o, b ≠ D → H b = some o → H' b = some o) : ThI A H' a c l t := by
  obtain ⟨⟨dx, h1⟩, h2, h3⟩ := h
  have ne : ∀ {b : Addr} {o : HO}, H b = some o → (∀ z, o ≠ .dK z) → (∀ w z, o ≠ .frz w z) → b ≠ D := fun {b o} e n1 n2 q => by
    subst q
    rcases hD with hD | ⟨w, hD⟩ <;> rw [hD] at e <;> cases e
    · exact n1 _ rfl
    · exact n2 _ _ rfl
  have nc : c ≠ D := rd_dct h2 hD (cv_no hk)
  refine ⟨⟨dx, x _ _ (ne h1 (fun _ z => nomatch z) (fun _ _ z => nomatch z)) h1⟩, ?_, x _ _ (ne h3 (fun _ z => nomatch z) (fun _ _ z => nomatch z)) h3⟩
  rcases h2 with h2 | ⟨w, h2⟩
  · exact .inl (x _ _ nc h2)
  · exact .inr ⟨w, x _ _ nc h2⟩
def Src (A : Ad) (H : Hp) (P : Pic) (xs : List A3) : Prop := xs.length = P.length ∧ ∀ (i : Nat) (x : A3) (p : Int × Th), xs[i]? = some x → P[i]? = some p → ThI A H x.1 x.2.1 x.2.2 p.2
/-- new, or the old one -/
def Od (H : Hp) (y x : Addr) : Prop := H y = none ∨ y = x
def Cp (A : Ad) (H H' : Hp) (P : Pic) (xs ys : List A3) : Prop := Src A H' P ys ∧ (∀ x ∈ ys, H x.2.2 = none) ∧ (ys.map fun x => x.2.2).Nodup ∧ ∀ (i : Nat) (y x : A3), ys[i]? = some y → xs[i]? = some x → Od H y.1 x.1 ∧ Od H y.2.1 x.2.1
/-- the promise of picture_copy -/
def spPC (A : Ad) : Sp := fun vs H Q _ => ∃ (p : Addr) (P : Pic) (xs : List A3), vs = [.ref p] ∧ Rd H p (.dK (kvsOf P xs)) ∧ Src A H P xs ∧ (P.map (·.1)).Nodup ∧ P.length ≤ 1000 ∧
  ∀ (q : Addr) (H' : Hp) (ys : List A3), Same H H' → H q = none → H' q = some (.dK (kvsOf P ys)) → Cp A H H' P xs ys → Q (.ref q) H'
theorem put_new {kvs : List (L2.Key × V)} {k : L2.Key} {v : V} (h : k ∉ kvs.map (·.1)) : putK kvs k v = kvs ++ [(k, v)] := by
  unfold putK
  rw [if_neg]
  intro e
  obtain ⟨q, hq, e⟩ := List.any_eq_true.mp e
  exact h (List.mem_map.mpr ⟨q, hq, of_decide_eq_true e⟩)
theorem src_snoc {H : Hp} {P : Pic} {xs : List A3} {i : Nat} {p : Int × Th} {x : A3} (hp : P[i]? = some p) (h : Src A H (P.take i) xs) (hx : ThI A H x.1 x.2.1 x.2.2 p.2) : Src A H (P.take (i + 1)) (xs ++ [x]) := by
  have e : P.take (i + 1) = P.take i ++ [p] := by rw [List.take_add_one, hp]; rfl
  rw [e]
  refine ⟨by rw [List.length_append, List.length_append, h.1]; rfl, fun j y q hy hq => ?_⟩
  by_cases hj : j < xs.length
  · rw [List.getElem?_append_left hj] at hy
    rw [List.getElem?_append_left (by rw [← h.1]; exact hj)] at hq
    exact h.2 j y q hy hq
  · rw [List.getElem?_append_right (by omega)] at hy
    rw [List.getElem?_append_right (by rw [← h.1]; omega)] at hq
    have : j - xs.length = 0 := by
      have := (List.getElem?_eq_some_iff.mp hy).1
      simp at this
      omega
    rw [this] at hy
    rw [show j - (P.take i).length = 0 by rw [← h.1]; exact this] at hq
    cases hy
    cases hq
    exact hx
/-- one thing is copied, its list locked -/
theorem copied_turn {HL : Hp} {a c l : Addr} {t : Th} {od : Obj} {Q : VK} (E : XK) (hI : ∃ dx, HL a = some (.ins (S A 4) dx (flT c t))) (hc : Rd HL c (.dK (t.cv l))) (hl : HL l = some (.frz od (.lst (t.ks.map V.int))))
    (k : ∀ (a' c' l' : Addr) (H' : Hp), Same HL H' → HL l' = none → Od HL a' a → Od HL c' c → ThI A H' a' c' l' t → Q (.ref a') H') : spD K (S A) false 1 d_Thing_copied [.ref a] HL Q E := by
  obtain ⟨dx, ha⟩ := hI
  let G : Hp := fun b => if b = a then some (.ins (S A 4) dx (flT c t)) else if b = c then some (.dK (t.cv l)) else if b = l then some (.frz od (.lst (t.ks.map V.int))) else none
  have ac : c ≠ a := fun e => by
    subst e
    rcases hc with hc | ⟨o, hc⟩ <;> rw [ha] at hc <;> cases hc
  have al : l ≠ a := fun e => by
    subst e
    rw [ha] at hl
    cases hl
  have cl : l ≠ c := fun e => by
    subst e
    rcases hc with hc | ⟨o, hc⟩ <;> rw [hl] at hc <;> cases hc
  have ga : G a = some (.ins (S A 4) dx (flT c t)) := if_pos rfl
  have gc : G c = some (.dK (t.cv l)) := (if_neg ac).trans (if_pos rfl)
  have gl : G l = some (.frz od (.lst (t.ks.map V.int))) := ((if_neg al).trans (if_neg cl)).trans (if_pos rfl)
  have gi : ∀ b u, G b = some u → (b = a ∧ u = .ins (S A 4) dx (flT c t)) ∨ (b = c ∧ u = .dK (t.cv l)) ∨ (b = l ∧ u = .frz od (.lst (t.ks.map V.int))) := fun b u e => by
    have e : (if b = a then some (HO.ins (S A 4) dx (flT c t)) else if b = c then some (.dK (t.cv l)) else if b = l then some (.frz od (.lst (t.ks.map V.int))) else none) = some u := e
    by_cases h1 : b = a
    · rw [if_pos h1] at e; cases e; exact .inl ⟨h1, rfl⟩
    · rw [if_neg h1] at e
      by_cases h2 : b = c
      · rw [if_pos h2] at e; cases e; exact .inr (.inl ⟨h2, rfl⟩)
      · rw [if_neg h2] at e
        by_cases h3 : b = l
        · rw [if_pos h3] at e; cases e; exact .inr (.inr ⟨h3, rfl⟩)
        · rw [if_neg h3] at e; cases e
  have inn : Inn G HL := fun b u e => by
    rcases gi b u e with ⟨rfl, rfl⟩ | ⟨rfl, rfl⟩ | ⟨rfl, rfl⟩
    · exact .inl ha
    · rcases hc with hc | ⟨o, hc⟩
      · exact .inl hc
      · exact .inr ⟨o, _, rfl, hc⟩
    · exact .inl hl
  refine ⟨G, [.val t.dS], none, inn, ⟨.cons (thS_to ga gc gl) .nil, (show (0 : Nat) ≤ 1 from Nat.zero_le 1), fun _ e => nomatch e⟩, rfl, ?_⟩
  rw [copiedS_ok]
  intro G' H' f _
  rw [if_neg (by decide)]
  intro v rv
  obtain ⟨a', c', l', dx', rfl, g1, g2, g3⟩ := thI_of rv
  have hn : G l' = none := by
    cases e : G l' with
    | none => rfl
    | some u =>
      have := f.g _ _ e
      rw [g3] at this
      cases this
      rcases gi _ _ e with ⟨_, q⟩ | ⟨_, q⟩ | ⟨_, q⟩ <;> cases q
  have oa : Od HL a' a := by
    cases e : G a' with
    | none => exact .inl (f.new a' (by rw [g1]; exact Option.some_ne_none _) e)
    | some u =>
      have := f.g _ _ e
      rw [g1] at this
      cases this
      rcases gi _ _ e with ⟨q, _⟩ | ⟨_, q⟩ | ⟨_, q⟩
      · exact .inr q
      · cases q
      · cases q
  have oc : Od HL c' c := by
    cases e : G c' with
    | none => exact .inl (f.new c' (by rw [g2]; exact Option.some_ne_none _) e)
    | some u =>
      have := f.g _ _ e
      rw [g2] at this
      cases this
      rcases gi _ _ e with ⟨_, q⟩ | ⟨q, _⟩ | ⟨_, q⟩
      · cases q
      · exact .inr q
      · cases q
  exact k a' c' l' H' (fun b o e => f.keep b o e (by intro q; cases q)) (f.new l' (by rw [g3]; exact Option.some_ne_none _) hn) oa oc ⟨⟨dx', f.inn.ins g1⟩, f.inn.dct (.inl g2), f.inn.lst g3⟩
end
end
end K39L
namespace K39L
open PySem PySem.Spec PyProof.Rows L2 Dv K39
set_option autoImplicit false
noncomputable section
variable {P : Program} {w : World} {K : PySem.W.Frag} {mg : Str → Option Value} {base : Heap} {A : Ad}
theorem sc_picture_copy : FnScope ["picture", "number", "thing"] ["picture"] (defScope (topS 16)) := ⟨rfl, rfl, rfl, by decide +kernel, rfl, by decide +kernel, by decide +kernel⟩
theorem fl_no {c : Addr} {t : Th} : (flT c t).lookup ("copied" : Str) = none := by
  have h1 : (("copied" : Str) == ("kind" : Str)) = false := by decide +kernel
  have h2 : (("copied" : Str) == ("contents" : Str)) = false := by decide +kernel
  unfold flT
  simp only [List.lookup, h1, h2]
theorem ifTr {a b : Prop} (h : a) : if true = true then a else b := by rw [if_pos rfl]; exact h
theorem some_ne {α : Type} {o : Option α} {x : α} (h : o = some x) : o ≠ none := by rw [h]; exact Option.some_ne_none _
/-- what is known ahead of the turn i -/
def PCI (A : Ad) (H1 : Hp) (D : Addr) (Pi : Pic) (xs : List A3) (i : Nat) (H' : Hp) : Prop := Same H1 H' ∧ ∃ ys : List A3, H' D = some (.dK (kvsOf (Pi.take i) ys)) ∧ Cp A H1 H' (Pi.take i) xs ys
/-- a copy joins -/
theorem pci_next {H1 Hi H' : Hp} {D T a c l a' c' l' : Addr} {xs : List A3} {Pi : Pic} {i : Nat} {n : Int} {t : Th} {ks : List V} {od : Obj} {o : HO} {ys : List A3} (hp : Pi[i]? = some (n, t)) (hx0 : xs[i]? = some (a, c, l)) (nd : (Pi.map (·.1)).Nodup) (hD : H1 D = none) (hl : Hi l = some (.lst ks)) (sm : Same H1 Hi)
    (hiD : Hi D = some (.dK (kvsOf (Pi.take i) ys))) (cp : Cp A H1 Hi (Pi.take i) xs ys) (hT : Hi T = none) (s1 : Same (upd (upd Hi T o) l (.frz od (.lst ks))) H') (nl : (upd (upd Hi T o) l (.frz od (.lst ks))) l' = none) (oa : Od (upd (upd Hi T o) l (.frz od (.lst ks))) a' a) (oc : Od (upd (upd Hi T o) l (.frz od (.lst ks))) c' c) (th : ThI A H' a' c' l' t) :
    H' l = some (.frz od (.lst ks)) ∧ (upd H' l (.lst ks)) D = some (.dK (kvsOf (Pi.take i) ys)) ∧ PCI A H1 D Pi xs (i + 1) (upd (upd H' l (.lst ks)) D (.dK (putK (kvsOf (Pi.take i) ys) (.inl n) (.ref a')))) := by
  have hlD : l ≠ D := fun e => by rw [e, hiD] at hl; cases hl
  have e1 : H' l = some (.frz od (.lst ks)) := s1 _ _ upd_same
  -- what stood, stands
  have keep : ∀ b u, b ≠ D → Hi b = some u → (upd (upd H' l (.lst ks)) D (.dK (putK (kvsOf (Pi.take i) ys) (.inl n) (.ref a')))) b = some u := fun b u h e => by
    rw [upd_ne h]
    by_cases hb : b = l
    · subst hb
      rw [hl] at e
      rw [upd_same]
      exact e
    · rw [upd_ne hb]
      refine s1 _ _ ?_
      rw [upd_ne hb, upd_ne (fun q => by rw [q, hT] at e; cases e)]
      exact e
  have hD' : H' D = some (.dK (kvsOf (Pi.take i) ys)) := by
    refine s1 _ _ ?_
    rw [upd_ne (fun q => hlD q.symm), upd_ne (fun q => by rw [q, hT] at hiD; cases hiD)]
    exact hiD
  have e2 : (upd H' l (.lst ks)) D = some (.dK (kvsOf (Pi.take i) ys)) := by
    rw [upd_ne (fun q => hlD q.symm)]
    exact hD'
  have hkI := kvs_isI (Pi.take i) ys
  have down : ∀ {b z : Addr}, Od (upd (upd Hi T o) l (.frz od (.lst ks))) b z → Od H1 b z := fun {b z} h => by
    rcases h with h | h
    · refine .inl ?_
      have h1 : b ≠ l := fun q => by rw [q, upd_same] at h; cases h
      rw [upd_ne h1] at h
      have h2 : b ≠ T := fun q => by rw [q, upd_same] at h; cases h
      rw [upd_ne h2] at h
      exact sm.free h
    · exact .inr h
  refine ⟨e1, e2, fun b u e => keep b u (fun q => by rw [q, hD] at e; cases e) (sm _ _ e), ys ++ [(a', c', l')], ?_, ?_, fun x hx => ?_, ?_, fun j y x hy hx => ?_⟩
  · rw [upd_same]
    have et : Pi.take (i + 1) = Pi.take i ++ [(n, t)] := by rw [List.take_add_one, hp]; rfl
    have hn : (.inl n : L2.Key) ∉ (kvsOf (Pi.take i) ys).map (·.1) := by
      rw [kvs_keys _ _ cp.1.1]
      intro hm
      obtain ⟨q, hq, e⟩ := List.mem_map.mp hm
      cases e
      have hi : i < Pi.length := (List.getElem?_eq_some_iff.mp hp).1
      have nd2 : ((Pi.take (i + 1)).map (·.1)).Nodup := nd.sublist ((List.take_sublist _ _).map _)
      rw [et, List.map_append, List.nodup_append] at nd2
      exact nd2.2.2 q.1 (List.mem_map.mpr ⟨q, hq, rfl⟩) q.1 (by simp) rfl
    rw [put_new hn, et, kvs_snoc _ _ _ _ cp.1.1]
  · refine src_snoc hp ⟨cp.1.1, fun j x q hx hq => (cp.1.2 j x q hx hq).to (.inl hiD) hkI keep⟩ ?_
    -- the new one
    have ne : ∀ {b : Addr} {u : HO}, H' b = some u → u ≠ .frz od (.lst ks) → b ≠ l := fun {b u} e z q => by
      rw [q, e1] at e
      exact z (Option.some.inj e).symm
    have th2 : ThI A (upd H' l (.lst ks)) a' c' l' t := by
      obtain ⟨⟨dx, h1⟩, h2, h3⟩ := th
      refine ⟨⟨dx, by rw [upd_ne (ne h1 (fun z => nomatch z))]; exact h1⟩, ?_, by rw [upd_ne (ne h3 (fun z => nomatch z))]; exact h3⟩
      rcases h2 with h2 | ⟨w, h2⟩
      · exact .inl (by rw [upd_ne (ne h2 (fun z => nomatch z))]; exact h2)
      · exact .inr ⟨w, by rw [upd_ne (ne h2 (fun z => by cases z))]; exact h2⟩
    exact th2.to (.inl e2) hkI fun b u h e => by rw [upd_ne h]; exact e
  · rcases List.mem_append.mp hx with hx | hx
    · exact cp.2.1 x hx
    · rw [List.mem_singleton.mp hx]
      have h1 : l' ≠ l := fun q => by rw [q, upd_same] at nl; cases nl
      rw [upd_ne h1] at nl
      have h2 : l' ≠ T := fun q => by rw [q, upd_same] at nl; cases nl
      rw [upd_ne h2] at nl
      exact sm.free nl
  · rw [List.map_append, List.nodup_append]
    refine ⟨cp.2.2.1, by simp, fun x hx y hy => ?_⟩
    obtain ⟨z, hz, rfl⟩ := List.mem_map.mp hx
    rw [show y = l' by simpa using hy]
    intro q
    obtain ⟨j, hj⟩ := List.getElem?_of_mem hz
    have hjl : j < (Pi.take i).length := by
      rw [← cp.1.1]
      exact (List.getElem?_eq_some_iff.mp hj).1
    have h3 := (cp.1.2 j z _ hj (List.getElem?_eq_getElem hjl)).lst
    rw [q] at h3
    by_cases hq : l' = l
    · rw [hq, upd_same] at nl; cases nl
    · rw [upd_ne hq, upd_ne (fun q => by rw [q, hT] at h3; cases h3), h3] at nl
      cases nl
  · by_cases hj : j < ys.length
    · rw [List.getElem?_append_left hj] at hy
      exact cp.2.2.2 j y x hy hx
    · rw [List.getElem?_append_right (by omega)] at hy
      have h0 : j - ys.length = 0 := by
        have := (List.getElem?_eq_some_iff.mp hy).1
        simp at this
        omega
      rw [h0] at hy
      cases hy
      have hi : i < Pi.length := (List.getElem?_eq_some_iff.mp hp).1
      have hl3 : ys.length = i := by rw [cp.1.1, List.length_take]; omega
      rw [show j = i by omega, hx0] at hx
      cases hx
      exact ⟨down oa, down oc⟩
def gCp (A : Ad) (K : PySem.W.Frag) : Addr → Addr → Sp → Prop := fun C f sp => C = A.C_Thing ∧ f = A.f_Thing_copied ∧ sp = spD K (S A) false 1 d_Thing_copied
/-- the walk over the locked picture -/
theorem pc_loop (T : Txt K mg A) {H1 : Hp} {p : Addr} {Pi : Pic} {xs : List A3} {od : Obj} {σ : L2.St} {Q : VK} (hσ : σ = [some (.ref p), none, none]) (hp : H1 p = some (.frz od (.dK (kvsOf Pi xs)))) (src1 : Src A H1 Pi xs) (nd : (Pi.map (·.1)).Nodup) (hlen : Pi.length ≤ 1000)
    (q : ∀ (D : Addr) (H' : Hp) (ys : List A3), Same H1 H' → H1 D = none → H' D = some (.dK (kvsOf Pi ys)) → Cp A H1 H' Pi xs ys → Q (.ref D) H') :
    tDc (iItems (tVar 0)) (gTup K 2 (L2.gCons (L2.gName 1) (L2.gCons (L2.gName 2) L2.gNil))) tYes (tVar 1) (tLockE (tMD (gCp A K) "copied" E0 (tVar 2) tNil)) [1, 2] σ H1 Q := by
  subst hσ
  refine ⟨_, rfl, p, od, _, rfl, hp, fun D hD => ?_⟩
  have hlv : (kvsOf Pi xs).length = Pi.length := kvs_len Pi xs src1.1
  refine ⟨fun i m H' => m = Pi.length - i ∧ i ≤ Pi.length ∧ PCI A H1 D Pi xs i H', ⟨Pi.length, rfl, Nat.zero_le _, Dv.same_upd hD, [], upd_same, ⟨⟨rfl, fun j x y hx => (by simp at hx)⟩, (fun x hx => nomatch hx), List.nodup_nil, fun i y x hy => (by simp at hy)⟩⟩, ?_⟩
  rintro i m Hi ⟨rfl, hi, sm, ys, hiD, cp⟩
  have hpi : Hi p = some (.frz od (.dK (kvsOf Pi xs))) := sm _ _ hp
  by_cases hlt : i < Pi.length
  · refine .inr ⟨⟨hpi, by rw [hlv]; exact hlt⟩, fun H' => PCI A H1 D Pi xs (i + 1) H', fun H' h => ⟨_, by omega, rfl, hlt, h⟩, ?_⟩
    rintro x HT ⟨T0, k, v, ek, rfl, hT, rfl⟩
    obtain ⟨⟨n, t⟩, hn⟩ : ∃ y, Pi[i]? = some y := ⟨_, List.getElem?_eq_getElem hlt⟩
    obtain ⟨⟨a, c, l⟩, hx⟩ : ∃ y, xs[i]? = some y := ⟨_, List.getElem?_eq_getElem (by rw [src1.1]; exact hlt)⟩
    have ek2 := kvs_at Pi xs i _ _ hn hx
    rw [ek] at ek2
    cases ek2
    have ht1 := src1.2 i _ _ hx hn
    have ht : ThI A Hi a c l t := by
      obtain ⟨⟨dx, h1⟩, h2, h3⟩ := ht1
      refine ⟨⟨dx, sm _ _ h1⟩, ?_, sm _ _ h3⟩
      rcases h2 with h2 | ⟨z, h2⟩
      · exact .inl (sm _ _ h2)
      · exact .inr ⟨z, sm _ _ h2⟩
    refine ⟨T0, _, rfl, SqT.of upd_same, rfl, _, _, rfl, _, _, rfl, rfl, rfl, ?_⟩
    unfold tYes
    dsimp only
    rw [if_pos rfl]
    refine ⟨_, rfl, ?_⟩
    have ne : ∀ {b : Addr} {u : HO}, Hi b = some u → b ≠ T0 := fun {b u} e q => by rw [q, hT] at e; cases e
    have hl2 : (upd Hi T0 (.tup [kV (.inl n), .ref a])) l = some (.lst (t.ks.map V.int)) := by rw [upd_ne (ne ht.lst)]; exact ht.lst
    refine ⟨l, _, hl2, trivial, fun od2 => ?_⟩
    have nl : ∀ {b : Addr} {u : HO}, Hi b = some u → (∀ z, u ≠ .lst z) → b ≠ l := fun {b u} e z q => by
      rw [q, ht.lst] at e
      exact z _ (Option.some.inj e).symm
    obtain ⟨⟨dx, h1⟩, h2, h3⟩ := id ht
    have h1' : (upd (upd Hi T0 (.tup [kV (.inl n), .ref a])) l (.frz od2 (.lst (t.ks.map V.int)))) a = some (.ins (S A 4) dx (flT c t)) := by
      rw [upd_ne (nl h1 (fun z e => nomatch e)), upd_ne (ne h1)]
      exact h1
    have h2' : Rd (upd (upd Hi T0 (.tup [kV (.inl n), .ref a])) l (.frz od2 (.lst (t.ks.map V.int)))) c (.dK (t.cv l)) := by
      rcases h2 with h2 | ⟨z, h2⟩
      · refine .inl ?_
        rw [upd_ne (nl h2 (fun z e => nomatch e)), upd_ne (ne h2)]
        exact h2
      · refine .inr ⟨z, ?_⟩
        rw [upd_ne (nl h2 (fun z e => nomatch e)), upd_ne (ne h2)]
        exact h2
    refine ⟨_, rfl, a, _, dx, _, _, _, rfl, h1', fl_no, ⟨rfl, rfl, rfl⟩, ?_⟩
    refine copied_turn E0 ⟨dx, h1'⟩ h2' upd_same fun a' c' l' H' s1 nl' oa oc th => ?_
    obtain ⟨z1, z2, z3⟩ := pci_next hn hx nd hD ht.lst sm hiD cp hT s1 nl' oa oc th
    refine ⟨z1, _, .inl n, rfl, z2, ?_, z3⟩
    rw [kvs_len _ _ cp.1.1, List.length_take]
    have := line10 (n := 1000) (by decide)
    have hs : sizeLine = 16777216 := sizeLine_eq
    omega
  · have e : i = Pi.length := by omega
    subst e
    rw [List.take_length] at hiD cp
    exact .inl ⟨⟨hpi, by rw [hlv]; exact Nat.le_refl _⟩, q D Hi ys sm hD hiD cp⟩
theorem okp_picture_copy (T : Txt K mg A) : FnOk P w K mg base CX0 5 A.f_picture_copy A.fd_picture_copy ["picture"] (spPC A) := by
  refine T.F_picture_copy.ok sc_picture_copy (fun vs H Q E h => ?_) (fun cdv Ar outer s H vs Q E hr h => ?_)
  · obtain ⟨p, P, xs, rfl, _⟩ := h
    rfl
  obtain ⟨p, Pi, xs, rfl, hp, src, nd, hlen, q⟩ := h
  refine ⟨_, pss_one (s_lk (ps_ret (pe_dc (g := gTup K 2 (L2.gCons (L2.gName 1) (L2.gCons (L2.gName 2) L2.gNil))) (tk := tVar 1) (tv := tLockE (tMD (gCp A K) "copied" E0 (tVar 2) tNil)) rfl sc_picture_copy.nd (pi_items (pv 0)) (blkOk_by (own := [("number", 1), ("thing", 2)]) (N := ["picture", "number", "thing"]) (sc := defScope (topS 16)) (by decide +kernel)) ?pg (fun _ _ _ _ _ => pts_nil) ?pk ?pv))), ?rd⟩
  case pg => exact fun _ _ _ _ _ => (pg_tup rfl (pgs_cons (pg_name (i := 1) sc_picture_copy.nd rfl (Or.inl rfl)) (pgs_cons (pg_name (i := 2) sc_picture_copy.nd rfl (Or.inl rfl)) pgs_nil)))
  case pk => exact fun _ _ _ _ _ => pv 1
  case pv => exact fun _ _ _ _ _ => pe_lock (pe_methD0 (G := gCp A K) (k := 4) (E' := E0) (pv 2) (fun C f sp hg => by
      obtain ⟨rfl, rfl, rfl⟩ := hg
      exact ⟨T.cl_Thing, T.me_Thing_copied, _, _, ok_Thing_copied T, T.b_Thing_copied⟩) (hr.mono (by decide)) pass0)
  case rd =>
  rcases hp with hp | ⟨od, hp⟩
  · refine .inr ⟨p, _, hp, trivial, fun od => ?_⟩
    have src1 : Src A (upd H p (.frz od (.dK (kvsOf Pi xs)))) Pi xs := ⟨src.1, fun j x y hx hy => (src.2 j x y hx hy).to (.inl hp) (kvs_isI Pi xs) fun b o hb e => by rw [upd_ne hb]; exact e⟩
    refine pc_loop T rfl upd_same src1 nd hlen fun D Hi ys sm hD hiD cp => ?_
    have hpi : Hi p = some (.frz od (.dK (kvsOf Pi xs))) := sm _ _ upd_same
    have hpD : p ≠ D := fun e => by rw [← e, upd_same] at hD; cases hD
    have nD : H D = none := by
      rw [upd_ne (fun z => hpD z.symm)] at hD
      exact hD
    have back : ∀ b u, b ≠ p → Hi b = some u → (upd Hi p (.dK (kvsOf Pi xs))) b = some u := fun b u hb e => by rw [upd_ne hb]; exact e
    have free : ∀ {b : Addr}, (upd H p (.frz od (.dK (kvsOf Pi xs)))) b = none → H b = none := fun {b} h => by
      by_cases hb : b = p
      · rw [hb, upd_same] at h; cases h
      · rw [upd_ne hb] at h; exact h
    refine ⟨hpi, q D _ ys (fun b u e => ?_) nD ((back _ _ (fun z => hpD z.symm) hiD)) ⟨⟨cp.1.1, fun j x y hx hy => (cp.1.2 j x y hx hy).to (.inr ⟨od, hpi⟩) (kvs_isI Pi xs) back⟩, fun x hx => free (cp.2.1 x hx), cp.2.2.1, fun j y x hy hx => ?_⟩⟩
    · by_cases hb : b = p
      · subst hb
        rw [hp] at e
        rw [upd_same]
        exact e
      · exact back b u hb (sm _ _ (by rw [upd_ne hb]; exact e))
    · obtain ⟨o1, o2⟩ := cp.2.2.2 j y x hy hx
      exact ⟨o1.imp free id, o2.imp free id⟩
  · exact .inl (pc_loop T rfl hp src nd hlen fun D Hi ys sm hD hiD cp => q D Hi ys sm hD hiD cp)
end
end K39L
namespace K39L
open PySem PySem.Spec PyProof.Rows L2 Dv K39
set_option autoImplicit false
noncomputable section
variable {P : Program} {w : World} {K : PySem.W.Frag} {mg : Str → Option Value} {base : Heap} {A : Ad}
/-! ### a picture's places -/
/-- the same, no dict locked -/
structure ThG (A : Ad) (G : Hp) (a c l : Addr) (t : Th) : Prop where
  ins : ∃ dx, G a = some (.ins (S A 4) dx (flT c t))
  dct : G c = some (.dK (t.cv l))
  lst : G l = some (.lst (t.ks.map V.int))
def SrcG (A : Ad) (G : Hp) (P : Pic) (xs : List A3) : Prop := xs.length = P.length ∧ ∀ (i : Nat) (x : A3) (p : Int × Th), xs[i]? = some x → P[i]? = some p → ThG A G x.1 x.2.1 x.2.2 p.2
theorem repK_src {G : Hp} : ∀ {Pi : Pic} {ws : List (L2.Key × V)}, RepK K (S A) G (picK Pi) ws → ∃ xs, ws = kvsOf Pi xs ∧ SrcG A G Pi xs
  | [], _, r => by
    cases r
    exact ⟨[], rfl, rfl, fun i x p hx => by simp at hx⟩
  | q :: Pi, _, ⟨v, ws, e, r1, r2⟩ => by
    subst e
    obtain ⟨xs, rfl, hl, h⟩ := repK_src r2
    obtain ⟨a, c, l, dx, rfl, g1, g2, g3⟩ := thI_of r1
    refine ⟨(a, c, l) :: xs, rfl, by rw [List.length_cons, List.length_cons, hl], fun i x p hx hp => ?_⟩
    cases i with
    | zero =>
      simp at hx hp
      subst hx
      subst hp
      exact ⟨⟨dx, g1⟩, g2, g3⟩
    | succ i => exact h i x p (by simpa using hx) (by simpa using hp)
theorem src_repK {G : Hp} : ∀ {Pi : Pic} {xs : List A3}, SrcG A G Pi xs → RepK K (S A) G (picK Pi) (kvsOf Pi xs)
  | [], xs, _ => by
    show kvsOf [] xs = []
    cases xs <;> rfl
  | q :: Pi, [], h => by cases h.1
  | q :: Pi, x :: xs, h => by
    obtain ⟨⟨dx, g1⟩, g2, g3⟩ := h.2 0 x q rfl rfl
    exact ⟨_, _, rfl, thI_to g1 g2 g3, src_repK ⟨by simpa using h.1, fun i y p hy hp => h.2 (i + 1) y p (by simpa using hy) (by simpa using hp)⟩⟩
theorem pic_src {G : Hp} {Pi : Pic} {v : V} (r : Rep K (S A) G (.dct (picK Pi)) v) : ∃ p xs, v = .ref p ∧ G p = some (.dK (kvsOf Pi xs)) ∧ SrcG A G Pi xs := by
  obtain ⟨p, ws, rfl, g, rk⟩ := r
  obtain ⟨xs, rfl, h⟩ := repK_src rk
  exact ⟨p, xs, rfl, g, h⟩
theorem src_inn {G H : Hp} {Pi : Pic} {xs : List A3} (i : Inn G H) (h : SrcG A G Pi xs) : Src A H Pi xs := ⟨h.1, fun j x p hx hp => by
  obtain ⟨⟨dx, g1⟩, g2, g3⟩ := h.2 j x p hx hp
  exact ⟨⟨dx, i.ins g1⟩, i.dct (.inl g2), i.lst g3⟩⟩
/-- a dict, its lock taken away -/
def unl : Option HO → Option HO
  | some (.frz _ (.dK k)) => some (.dK k)
  | x => x
theorem unl_in {x : Option HO} {u : HO} (e : unl x = some u) : x = some u ∨ ∃ o kvs, u = .dK kvs ∧ x = some (.frz o u) := by
  unfold unl at e
  split at e
  · cases e
    exact .inr ⟨_, _, rfl, rfl⟩
  · exact .inl e
theorem unl_rd {x : Option HO} {k : List (L2.Key × V)} (e : x = some (.dK k) ∨ ∃ o, x = some (.frz o (.dK k))) : unl x = some (.dK k) := by
  rcases e with rfl | ⟨o, rfl⟩ <;> rfl
/-- what is held, and what is new -/
def extN (G H H' : Hp) : Hp := fun a => match G a with
  | some u => some u
  | none => match H a with
    | none => unl (H' a)
    | some _ => none
theorem extN_g {G H H' : Hp} {a : Addr} {u : HO} (e : G a = some u) : extN G H H' a = some u := by unfold extN; rw [e]
theorem extN_n {G H H' : Hp} {a : Addr} (e : G a = none) (h : H a = none) : extN G H H' a = unl (H' a) := by unfold extN; rw [e]; dsimp only; rw [h]
theorem extN_o {G H H' : Hp} {a : Addr} {u : HO} (e : G a = none) (h : H a = some u) : extN G H H' a = none := by unfold extN; rw [e]; dsimp only; rw [h]
theorem extN_ex {G H H' : Hp} (i : Inn G H) (s : Same H H') : Ex G H (extN G H H') H' := by
  refine ⟨fun a u e => extN_g e, s, fun a u e => ?_, fun a h e => ?_⟩
  · cases g : G a with
    | some z =>
      rw [extN_g g] at e
      cases e
      exact i.up s a _ g
    | none =>
      cases hh : H a with
      | none => rw [extN_n g hh] at e; exact unl_in e
      | some z => rw [extN_o g hh] at e; cases e
  · cases hh : H a with
    | none => rfl
    | some z => exact (h (extN_o e hh)).elim
theorem held_rd {G H H' : Hp} {a : Addr} {k k' : List (L2.Key × V)} (i : Inn G H) (s : Same H H') (g : G a = some (.dK k)) (r : Rd H' a (.dK k')) : k' = k := by
  rcases i.dct (.inl g) with q | ⟨z, q⟩ <;> rcases r with r | ⟨z', r⟩ <;> have := s _ _ q <;> rw [r] at this <;> cases this <;> rfl
/-- a copied picture is held there -/
theorem cp_rep {G H H' : Hp} {Pi : Pic} {xs ys : List A3} (i : Inn G H) (s : Same H H') (hx : SrcG A G Pi xs) (h : Cp A H H' Pi xs ys) : SrcG A (extN G H H') Pi ys := by
  refine ⟨h.1.1, fun j y p hy hp => ?_⟩
  have hj : j < xs.length := by
    rw [hx.1]
    exact (List.getElem?_eq_some_iff.mp hp).1
  have ex : xs[j]? = some xs[j] := List.getElem?_eq_getElem hj
  obtain ⟨o1, o2⟩ := h.2.2.2 j y _ hy ex
  obtain ⟨⟨dx, h1⟩, h2, h3⟩ := h.1.2 j y p hy hp
  obtain ⟨⟨dx0, g1⟩, g2, g3⟩ := hx.2 j _ p ex hp
  refine ⟨⟨dx, ?_⟩, ?_, ?_⟩
  · rcases o1 with o1 | o1
    · rw [extN_n (i.some o1) o1, h1]
      rfl
    · rw [o1] at h1 ⊢
      have := s _ _ (i.ins g1)
      rw [h1] at this
      rw [extN_g g1]
      exact this.symm
  · rcases o2 with o2 | o2
    · rw [extN_n (i.some o2) o2]
      exact unl_rd h2
    · rw [o2] at h2 ⊢
      rw [extN_g g2, held_rd i s g2 h2]
  · have z := h.2.1 y (List.mem_of_getElem? hy)
    rw [extN_n (i.some z) z, h3]
    rfl
end
end K39L
namespace K39L
open PySem PySem.Spec PyProof.Rows L2 Dv K39
set_option autoImplicit false
noncomputable section
variable {P : Program} {w : World} {K : PySem.W.Frag} {mg : Str → Option Value} {base : Heap} {A : Ad}
/-! ### states -/
theorem ste_down {B : Base} {G0 G H : Hp} (st : Ste B [] G H) (h0 : Same B.G G0) (h1 : Same G0 G) : Ste B [] G0 H :=
  ⟨h0, fun a u e => st.inn a u (h1 a u e), fun a h e => st.new a (fun q => by
    cases g : G0 a with
    | none => exact h g
    | some u => rw [h1 a u g] at q; cases q) e, st.keep, st.lock, (fun a e => by
    obtain ⟨p1, p2⟩ := st.par a e
    refine ⟨?_, p2⟩
    cases g : G0 a with
    | none => rfl
    | some u => rw [h1 a u g] at p1; cases p1), fun p hp => (nomatch hp)⟩
/-- all that is new is held -/
theorem ste_all {B : Base} {G H : Hp} (st : Ste B [] G H) (hr : B.r = none) : Ste B [] (extN G B.H H) H := by
  refine ⟨st.g0.trans fun a u e => extN_g e, fun a u e => ?_, fun a h e => ?_, st.keep, st.lock, (fun a e => by rw [hr] at e; cases e), fun p hp => (nomatch hp)⟩
  · cases g : G a with
    | some z => rw [extN_g g] at e; cases e; exact st.inn a _ g
    | none =>
      cases hh : B.H a with
      | none => rw [extN_n g hh] at e; exact unl_in e
      | some z => rw [extN_o g hh] at e; cases e
  · cases hh : B.H a with
    | none => rfl
    | some z =>
      cases g : G a with
      | none => exact (h (extN_o g hh)).elim
      | some u =>
        have := st.new a (by rw [g]; exact Option.some_ne_none _) e
        rw [hh] at this
        cases this
theorem ste_upd {B : Base} {G H : Hp} {l : Addr} {o : HO} (st : Ste B [] G H) (hr : B.r = none) (g : G l = none) (b : B.H l = none) : Ste B [] G (upd H l o) := by
  refine ⟨st.g0, fun a u e => ?_, st.new, fun a u e h1 h2 => ?_, (fun p hp => nomatch hp), (fun a e => by rw [hr] at e; cases e), fun p hp => (nomatch hp)⟩
  · have : a ≠ l := fun q => by rw [q, g] at e; cases e
    rw [upd_ne this]
    exact st.inn a u e
  · have : a ≠ l := fun q => by rw [q, b] at e; cases e
    rw [upd_ne this]
    exact st.keep a u e h1 h2
/-- slots without objects of one's own -/
def isV : Sl → Bool
  | .no => true
  | .val _ => true
  | _ => false
theorem rel_vals {B B' : Base} {L L' : Lk} {G G' H H' : Hp} {env : Dv.Env} {σ : L2.St} (hv : env.all isV = true) (r : Rel K (S A) B L G H env σ) (s : Same G G') : Rel K (S A) B' L' G' H' env σ := by
  have own : ∀ (i : Nat) (z : Sl), env[i]? = some z → isOwn z = true → False := fun i z e o => by
    have := List.all_eq_true.mp hv z (List.mem_of_getElem? e)
    cases z <;> first | (cases o; done) | (cases this; done)
  refine ⟨paired_of (paired_len r.at_) fun i z x h1 h2 => ?_, fun i j z t a _ h1 _ o1 => (own i z h1 o1).elim, fun i z a h1 o1 => (own i z h1 o1).elim⟩
  obtain ⟨y, hy, q⟩ := rel_at r h1
  rw [h2] at hy
  cases hy
  cases z with
  | no => trivial
  | val d =>
    obtain ⟨v, e, q⟩ := q
    exact ⟨v, e, q.mono s⟩
  | box d => exact (own i _ h1 rfl).elim
  | par d => exact (own i _ h1 rfl).elim
/-- a slot is stored that holds no object of one's own -/
theorem rel_put {B : Base} {L : Lk} {G H : Hp} {env : Dv.Env} {σ : L2.St} {i : Nat} {d : D} {v : V} (hv : env.all isV = true) (r : Rel K (S A) B L G H env σ) (q : Rep K (S A) G d v) : Rel K (S A) B L G H (env.set i (.val d)) (σ.set i (some v)) := by
  have own : ∀ (j : Nat) (z : Sl), (env.set i (.val d))[j]? = some z → isOwn z = true → False := fun j z e o => by
    rcases set_at e with ⟨_, rfl⟩ | ⟨_, e⟩
    · cases o
    · have := List.all_eq_true.mp hv z (List.mem_of_getElem? e)
      cases z <;> first | (cases o; done) | (cases this; done)
  exact ⟨paired_set ⟨v, rfl, q⟩ i r.at_, fun a b z t c _ h1 _ o1 => (own a z h1 o1).elim, fun a z c h1 o1 => (own a z h1 o1).elim⟩
theorem rel_drop {B : Base} {L : Lk} {G H : Hp} {env : Dv.Env} {σ : L2.St} {i : Nat} {x : Option V} (hv : env.all isV = true) (r : Rel K (S A) B L G H env σ) : Rel K (S A) B L G H (env.set i .no) (σ.set i x) := by
  have own : ∀ (j : Nat) (z : Sl), (env.set i .no)[j]? = some z → isOwn z = true → False := fun j z e o => by
    rcases set_at e with ⟨_, rfl⟩ | ⟨_, e⟩
    · cases o
    · have := List.all_eq_true.mp hv z (List.mem_of_getElem? e)
      cases z <;> first | (cases o; done) | (cases this; done)
  exact ⟨paired_set trivial i r.at_, fun a b z t c _ h1 _ o1 => (own a z h1 o1).elim, fun a z c h1 o1 => (own a z h1 o1).elim⟩
theorem all_set {env : Dv.Env} {i : Nat} {s : Sl} (hv : env.all isV = true) (hs : isV s = true) : (env.set i s).all isV = true := by
  refine List.all_eq_true.mpr fun z hz => ?_
  obtain ⟨j, hj⟩ := List.getElem?_of_mem hz
  rcases set_at hj with ⟨_, rfl⟩ | ⟨_, e⟩
  · exact hs
  · exact List.all_eq_true.mp hv z (List.mem_of_getElem? e)
/-! ### the loop's things -/
/-- the thing at the number n now -/
def nowT (done : List Int) (p : Int × Th) : Th := if p.1 ∈ done then p.2.app 88 else p.2
theorem cv_app (t : Th) (k : Int) (l : Addr) : (t.app k).cv l = t.cv l := by cases t <;> rfl
theorem fl_app (t : Th) (k : Int) (c : Addr) : flT c (t.app k) = flT c t := by unfold flT; rw [app_kd]
theorem ks_app (t : Th) (k : Int) : (t.app k).ks = t.ks ++ [k] := by cases t <;> rfl
theorem valV_kvs : ∀ {Pi : Pic} {ys : List A3} {j : Nat} {p : Int × Th} {y : A3}, (Pi.map (·.1)).Nodup → Pi[j]? = some p → ys[j]? = some y → ys.length = Pi.length → valV (kvsOf Pi ys) (.inl p.1) = some (.ref y.1)
  | [], _, _, _, _, _, e, _, _ => by simp at e
  | _ :: _, [], _, _, _, _, _, e, _ => by simp at e
  | q :: Pi, z :: ys, j, p, y, nd, e1, e2, hl => by
    have nd' : q.1 ∉ Pi.map (·.1) ∧ (Pi.map (·.1)).Nodup := List.nodup_cons.mp nd
    cases j with
    | zero =>
      simp at e1 e2
      subst e1
      subst e2
      show valV ((.inl q.1, .ref z.1) :: kvsOf Pi ys) (.inl q.1) = _
      unfold valV
      rw [List.find?_cons_of_pos (by simp)]
      rfl
    | succ j =>
      simp at e1 e2
      have h := valV_kvs nd'.2 e1 e2 (by simpa using hl)
      have hne : ¬ ((.inl q.1 : L2.Key) = .inl p.1) := fun e => by
        have e : q.1 = p.1 := Sum.inl.inj e
        exact nd'.1 (List.mem_map.mpr ⟨p, List.mem_of_getElem? e1, e.symm⟩)
      show valV ((.inl q.1, .ref z.1) :: kvsOf Pi ys) (.inl p.1) = _
      unfold valV at h ⊢
      rw [List.find?_cons_of_neg (by simpa using hne)]
      exact h
end
end K39L
namespace K39L
open PySem PySem.Spec PyProof.Rows L2 Dv K39
set_option autoImplicit false
noncomputable section
variable {K : PySem.W.Frag} {A : Ad} {B : Base} {G H G' H' : Hp} {E : XK} {σ : L2.St}
/-! ### statements computed -/
theorem ts_nx {f : EvS} {env env' : Dv.Env} {Z : Ends} (st : Ste B [] G H) (rl : Rel K (S A) B [] G H env σ) (e : f env = .nx env') (k : ∀ σ' G' H', Same G G' → Ste B [] G' H' → Rel K (S A) B [] G' H' env' σ' → Z.nx σ' H') : TS' K (S A) E f Z σ H := ⟨B, [], G, env, st, rl, by rw [e]; exact k⟩
theorem ts_rt {f : EvS} {env env' : Dv.Env} {Z : Ends} {d : D} (st : Ste B [] G H) (rl : Rel K (S A) B [] G H env σ) (e : f env = .rt d env') (k : ∀ H' v, (∃ G', Rep K (S A) G' d v) → Z.rt v H') : TS' K (S A) E f Z σ H := ⟨B, [], G, env, st, rl, by
  rw [e]
  exact fun σ' G' H' s st' rl' v rv => k H' v ⟨G', rv⟩⟩
theorem tb_ok {f : EvT} {env env' : Dv.Env} {b : Bool} {Q : Bool → Hp → Prop} (st : Ste B [] G H) (rl : Rel K (S A) B [] G H env σ) (e : f env = .ok b env') (k : ∀ G' H', Same G G' → Ste B [] G' H' → Q b H') : TB K (S A) E f σ H Q := ⟨B, [], G, env, st, rl, by
  rw [e]
  intro G' H' s st' rl' v hv
  cases hv
  exact k G' H' s st'⟩
theorem td_ok {f : Ev} {env env' : Dv.Env} {d : D} {Q : VK} (st : Ste B [] G H) (rl : Rel K (S A) B [] G H env σ) (e : f env = .ok d env') (k : ∀ G' H' v, Same G G' → Ste B [] G' H' → Rep K (S A) G' d v → Q v H') : TD K (S A) E f σ H Q := ⟨B, [], G, env, st, rl, by
  rw [e]
  exact fun G' H' s st' rl' v hv => k G' H' v s st' hv⟩
theorem if_no {c : TT} {t u : TS} {Z : Ends} (h : c σ H fun b H1 => b = false ∧ u Z σ H1) (m : ∀ {Q Q' : Bool → Hp → Prop}, (∀ b H1, Q b H1 → Q' b H1) → c σ H Q → c σ H Q') : tIfS c t u Z σ H := m (fun b H1 ⟨e, h⟩ => by
  rw [e, if_neg (by decide)]
  exact h) h
theorem if_nx {f : EvT} {env env' : Dv.Env} {t : TS} {Z : Ends} (st : Ste B [] G H) (rl : Rel K (S A) B [] G H env σ) (e : f env = .ok false env') (k : ∀ G' H', Same G G' → Ste B [] G' H' → Z.nx σ H') : tIfS (TB K (S A) E f) t tNext Z σ H := tb_ok st rl e fun G' H' s st' => by
  rw [if_neg (by decide)]
  exact k G' H' s st'
theorem r_oeq {a b : Ev} {env e1 e2 : Dv.Env} {x y : D} {ci : Nat} {fs : List (Str × D)} {neg c : Bool} {g : Fn} {p : Option D} {bt : String → Nat → Option Bool} (h1 : a env = .ok x e1) (hx : x = .ins ci fs) (h2 : b e1 = .ok y e2) (h3 : yOk bt ci y = true) (h4 : g [.val x, .val y] = .ok (.bl c) p) : xOeq neg bt ci g a b env = .ok (.bl (if neg then !c else c)) e2 := by
  subst hx
  unfold xOeq
  rw [h1]
  show ((b e1).bind _) = _
  rw [h2]
  show (if ci = ci ∧ yOk bt ci y = true then (match g [.val (.ins ci fs), .val y] with
    | .ok (.bl c) _ => Res.ok (D.bl (if neg then !c else c)) e2
    | _ => .no) else .no) = _
  rw [if_pos ⟨rfl, h3⟩, h4]
/-! ### what the loop keeps -/
/-- all that stood ahead is held -/
structure Fx (A : Ad) (B : Base) (G : Hp) (P : Pic) (ys : List A3) (q sl : Addr) : Prop where
  hr : B.r = none
  hB : ∀ a, B.H a ≠ none → G a ≠ none
  ln : ys.length = P.length
  nd : (P.map (·.1)).Nodup
  ll : ∀ y ∈ ys, G y.2.2 = none ∧ y.2.2 ≠ sl
  lc : ∀ y ∈ ys, G y.2.1 = none ∨ ∃ k, G y.2.1 = some (.dK k)
  ndl : (ys.map fun y => y.2.2).Nodup
  gq : G q = none
  gs : G sl = none
theorem Fx.bn {P : Pic} {ys : List A3} {q sl : Addr} (f : Fx A B G P ys q sl) {a : Addr} (h : G a = none) : B.H a = none := by
  cases e : B.H a with
  | none => rfl
  | some u => exact (f.hB a (by rw [e]; exact Option.some_ne_none _) h).elim
structure Iv (A : Ad) (B : Base) (G : Hp) (P : Pic) (ys : List A3) (q sl : Addr) (ns : List Int) (i : Nat) (H' : Hp) : Prop where
  st : Ste B [] G H'
  sl : H' sl = some (.lst (ns.map V.int))
  dc : Rd H' q (.dK (kvsOf P ys))
  th : ∀ (j : Nat) (y : A3) (p : Int × Th), ys[j]? = some y → P[j]? = some p → ThI A H' y.1 y.2.1 y.2.2 (nowT (ns.take i) p)
section
variable {P : Pic} {ys : List A3} {q sl : Addr} {ns : List Int} {i : Nat}
theorem thI_ext (f : Fx A B G P ys q sl) (i : Inn G H') {y : A3} (hy : y ∈ ys) {t : Th} (h : ThI A H' y.1 y.2.1 y.2.2 t) : ThG A (extN G B.H H') y.1 y.2.1 y.2.2 t := by
  obtain ⟨⟨dx, h1⟩, h2, h3⟩ := h
  refine ⟨⟨dx, ?_⟩, ?_, ?_⟩
  · cases e : G y.1 with
    | none => rw [extN_n e (f.bn e), h1]; rfl
    | some u =>
      rw [extN_g e]
      rcases i _ _ e with q | ⟨o, kvs, rfl, q⟩ <;> rw [h1] at q
      · exact q.symm
      · cases q
  · rcases f.lc y hy with e | ⟨k, e⟩
    · rw [extN_n e (f.bn e)]
      exact unl_rd h2
    · rw [extN_g e, held_rd i (Same.refl H') e h2]
  · have e := (f.ll y hy).1
    rw [extN_n e (f.bn e), h3]
    rfl
theorem iv_src (f : Fx A B G P ys q sl) (v : Iv A B G P ys q sl ns i H') {j : Nat} {y : A3} {p : Int × Th} (hy : ys[j]? = some y) (hp : P[j]? = some p) : ThG A (extN G B.H H') y.1 y.2.1 y.2.2 (nowT (ns.take i) p) := thI_ext f v.st.inn (List.mem_of_getElem? hy) (v.th j y p hy hp)
/-- a computed step changes nothing of it -/
theorem iv_pass (f : Fx A B G P ys q sl) (v : Iv A B G P ys q sl ns i H') {G2 H2 : Hp} (s : Same (extN G B.H H') G2) (st : Ste B [] G2 H2) : Iv A B G P ys q sl ns i H2 := by
  have up : ∀ {a u}, extN G B.H H' a = some u → G2 a = some u := fun {a u} e => s a u e
  refine ⟨ste_down st v.st.g0 (fun a u e => up (extN_g e)), st.inn.lst (up ?_), st.inn.dct (.inl (up ?_)), fun j y p hy hp => ?_⟩
  · rw [extN_n f.gs (f.bn f.gs), v.sl]
    rfl
  · rw [extN_n f.gq (f.bn f.gq)]
    exact unl_rd v.dc
  · obtain ⟨⟨dx, g1⟩, g2, g3⟩ := iv_src f v hy hp
    exact ⟨⟨dx, st.inn.ins (up g1)⟩, st.inn.dct (.inl (up g2)), st.inn.lst (up g3)⟩
theorem iv_all (f : Fx A B G P ys q sl) (v : Iv A B G P ys q sl ns i H') : Ste B [] (extN G B.H H') H' := ste_all v.st f.hr
theorem iv_same (G H' : Hp) (B : Base) : Same G (extN G B.H H') := fun a u e => extN_g e
theorem nowT_no {done : List Int} {p : Int × Th} (h : p.1 ∉ done) : nowT done p = p.2 := if_neg h
theorem nowT_yes {done : List Int} {p : Int × Th} (h : p.1 ∈ done) : nowT done p = p.2.app 88 := if_pos h
theorem take_no {ns : List Int} {i : Nat} {n : Int} (nd : ns.Nodup) (hn : ns[i]? = some n) : n ∉ ns.take i := fun h => by
  obtain ⟨j, hj⟩ := List.getElem?_of_mem h
  have hji : j < i := by
    have := (List.getElem?_eq_some_iff.mp hj).1
    rw [List.length_take] at this
    omega
  rw [List.getElem?_take_of_lt hji] at hj
  have : j = i := (List.getElem?_inj (List.getElem?_eq_some_iff.mp hj).1 nd).mp (hj.trans hn.symm)
  omega
theorem take_yes {ns : List Int} {i : Nat} {n : Int} (hn : ns[i]? = some n) : n ∈ ns.take (i + 1) := by
  rw [List.take_add_one, hn]
  simp
theorem take_ne {ns : List Int} {i : Nat} {n m : Int} (hn : ns[i]? = some n) (h : m ≠ n) : m ∈ ns.take (i + 1) ↔ m ∈ ns.take i := by
  rw [List.take_add_one, hn]
  simp [h]
/-- the list grows -/
theorem iv_app (f : Fx A B G P ys q sl) (v : Iv A B G P ys q sl ns i H') (ndn : ns.Nodup) {j : Nat} {y : A3} {n : Int} {t : Th} (hn : ns[i]? = some n) (hy : ys[j]? = some y) (hp : P[j]? = some (n, t)) : H' y.2.2 = some (.lst (t.ks.map V.int)) ∧ Iv A B G P ys q sl ns (i + 1) (upd H' y.2.2 (.lst (t.ks.map V.int ++ [V.int 88]))) := by
  have hm := List.mem_of_getElem? hy
  have e0 := v.th j y (n, t) hy hp
  rw [nowT_no (take_no ndn hn)] at e0
  have hl := e0.lst
  have ne : ∀ {b : Addr} {u : HO}, H' b = some u → (∀ z, u ≠ .lst z) → b ≠ y.2.2 := fun {b u} e z q => by
    rw [q, hl] at e
    exact z _ (Option.some.inj e).symm
  have kp : ∀ {b : Addr} {k : List (L2.Key × V)}, Rd H' b (.dK k) → Rd (upd H' y.2.2 (.lst (t.ks.map V.int ++ [V.int 88]))) b (.dK k) := fun {b k} h => by
    rcases h with h | ⟨o, h⟩
    · exact .inl (by rw [upd_ne (ne h (fun z e => nomatch e))]; exact h)
    · exact .inr ⟨o, by rw [upd_ne (ne h (fun z e => nomatch e))]; exact h⟩
  refine ⟨hl, ste_upd v.st f.hr (f.ll y hm).1 (f.bn (f.ll y hm).1), ?_, kp v.dc, fun j' y' p hy' hp' => ?_⟩
  · rw [upd_ne (fun e => (f.ll y hm).2 e.symm)]
    exact v.sl
  · obtain ⟨⟨dx, h1⟩, h2, h3⟩ := v.th j' y' p hy' hp'
    have i1 := (List.getElem?_eq_some_iff.mp hp').1
    have i2 := (List.getElem?_eq_some_iff.mp hy').1
    by_cases hj : j' = j
    · subst hj
      rw [hp] at hp'
      rw [hy] at hy'
      cases hp'
      cases hy'
      rw [nowT_yes (take_yes hn)]
      rw [nowT_no (take_no ndn hn)] at h1 h2
      refine ⟨⟨dx, ?_⟩, ?_, ?_⟩
      · rw [upd_ne (ne h1 (fun z e => nomatch e)), fl_app]
        exact h1
      · rw [cv_app]
        exact kp h2
      · rw [upd_same, ks_app, List.map_append]
        rfl
    · have hne : p.1 ≠ n := fun e => hj (by
        have a1 : (P.map (·.1))[j']? = some p.1 := by rw [List.getElem?_map, hp']; rfl
        have a2 : (P.map (·.1))[j]? = some n := by rw [List.getElem?_map, hp]; rfl
        exact (List.getElem?_inj (by rw [List.length_map]; exact i1) f.nd).mp (by rw [a1, a2, e]))
      have e1 : nowT (ns.take (i + 1)) p = nowT (ns.take i) p := by
        unfold nowT
        simp only [take_ne hn hne]
      have hl2 : y'.2.2 ≠ y.2.2 := fun e => hj (by
        have a1 : (ys.map fun y => y.2.2)[j']? = some y'.2.2 := by rw [List.getElem?_map, hy']; rfl
        have a2 : (ys.map fun y => y.2.2)[j]? = some y.2.2 := by rw [List.getElem?_map, hy]; rfl
        exact (List.getElem?_inj (by rw [List.length_map]; exact i2) f.ndl).mp (by rw [a1, a2, e]))
      rw [e1]
      exact ⟨⟨dx, by rw [upd_ne (ne h1 (fun z e => nomatch e))]; exact h1⟩, kp h2, by rw [upd_ne hl2]; exact h3⟩
end
end
end K39L
namespace K39L
open PySem PySem.Spec PyProof.Rows L2 Dv K39
set_option autoImplicit false
noncomputable section
variable {mg : Str → Option Value} {K : PySem.W.Frag} {A : Ad} {B : Base} {G H G' H' : Hp} {E : XK} {σ : L2.St}
def xT2 : EvT := (xOrT (xTest (xOeq true isBT 4 d_Thing___eq__ (xVal 8) (xOp oDGet (xVal 4) (xVal 7)))) (xTest (xOeq true isBT 4 d_Thing___eq__ (xMeth "copied" 1 [(4, 17, d_Thing_copied)] (xVal 8) Dv.gNil) (xVal 8))))
def xKy : Ev := (xIf (xTest (xOp oEq (xFld fc_kind "kind" (xVal 8)) (xC (.str "A")))) (xC (.str "l")) (xC (.str "m")))
def xT5 : EvT := (xTest (xOeq false isBT 4 d_Thing___eq__ (xVal 8) (xOp oDGet (xVal 4) (xVal 7))))
/-- the loop's body -/
def tB9 (K : PySem.W.Frag) (A : Ad) : TS := tSeq (tAsg (tDGet (tVar 6) (tVar 7)) (L2.gName 8)) (tSeq (tIfS (TB K (S A) E0 xT2) (tRet (tC (V.bl false))) tNext) (tSeq (tAsg (tDGet (tFld K (tVar 8) "contents") (TD K (S A) E0 xKy)) (L2.gName 9)) (tSeq (tDrop (tBM K "list" rAppend (tVar 9) (tCons (tC (V.int 88)) tNil))) (tIfS (TB K (S A) E0 xT5) (tRet (tC (V.bl false))) tNext))))
abbrev envL (x0 x2 x3 x5 : D) (P : Pic) : Dv.Env := [.val x0, .no, .val x2, .val x3, .val (picD P), .val x5, .no, .no, .no, .no, .no]
abbrev envM (x0 x2 x3 x5 : D) (P : Pic) (n : Int) (d : D) : Dv.Env := [.val x0, .no, .val x2, .val x3, .val (picD P), .val x5, .no, .val (.int n), .val d, .no, .no]
section
variable {P : Pic} {ys : List A3} {q sl : Addr} {ns : List Int} {i : Nat} {x0 x2 x3 x5 : D}
theorem yok_ins {fs : List (Str × D)} : yOk isBT 4 (.ins 4 fs) = true := by rfl
theorem e_T2 {n : Int} {t : Th} (ok : okT t) (hl : look P n = some t) : xT2 (envM x0 x2 x3 x5 P n t.d) = .ok false (envM x0 x2 x3 x5 P n t.d) := by
  have g := dgetP P n
  rw [hl] at g
  have g : oDGet (picD P) (.int n) = some t.d := g
  have c1 : xOp oDGet (xVal 4) (xVal 7) (envM x0 x2 x3 x5 P n t.d) = .ok t.d (envM x0 x2 x3 x5 P n t.d) := r_op (r_val rfl) (r_val rfl) g
  have c2 : xOeq true isBT 4 d_Thing___eq__ (xVal 8) (xOp oDGet (xVal 4) (xVal 7)) (envM x0 x2 x3 x5 P n t.d) = .ok (.bl false) (envM x0 x2 x3 x5 P n t.d) := r_oeq (r_val rfl) (fs := [("kind", .str t.kd), ("contents", .dct t.cont)]) rfl c1 (by exact yok_ins) (eq_self ok)
  have c3 : xMeth "copied" 1 [(4, 17, d_Thing_copied)] (xVal 8) Dv.gNil (envM x0 x2 x3 x5 P n t.d) = .ok t.d (envM x0 x2 x3 x5 P n t.d) := r_meth (C := 4) (fs := [("kind", .str t.kd), ("contents", .dct t.cont)]) (j := 17) (g := d_Thing_copied) (r_val rfl) rfl rfl r_gnil rfl rfl rfl (copied_ok t)
  have c4 : xOeq true isBT 4 d_Thing___eq__ (xMeth "copied" 1 [(4, 17, d_Thing_copied)] (xVal 8) Dv.gNil) (xVal 8) (envM x0 x2 x3 x5 P n t.d) = .ok (.bl false) (envM x0 x2 x3 x5 P n t.d) := r_oeq c3 (fs := [("kind", .str t.kd), ("contents", .dct t.cont)]) rfl (r_val rfl) (by exact yok_ins) (eq_self ok)
  unfold xT2
  exact r_orT (r_test c2) (sel_f rfl (r_test c4))
theorem e_T5 {n : Int} {t : Th} (ok : okT t) (hl : look P n = some t) : xT5 (envM x0 x2 x3 x5 P n (t.app 88).d) = .ok false (envM x0 x2 x3 x5 P n (t.app 88).d) := by
  have g := dgetP P n
  rw [hl] at g
  have g : oDGet (picD P) (.int n) = some t.d := g
  have c1 : xOp oDGet (xVal 4) (xVal 7) (envM x0 x2 x3 x5 P n (t.app 88).d) = .ok t.d (envM x0 x2 x3 x5 P n (t.app 88).d) := r_op (r_val rfl) (r_val rfl) g
  have c2 : xOeq false isBT 4 d_Thing___eq__ (xVal 8) (xOp oDGet (xVal 4) (xVal 7)) (envM x0 x2 x3 x5 P n (t.app 88).d) = .ok (.bl false) (envM x0 x2 x3 x5 P n (t.app 88).d) := r_oeq (r_val rfl) (fs := [("kind", .str (t.app 88).kd), ("contents", .dct (t.app 88).cont)]) rfl c1 (by exact yok_ins) (eq_app ok 88)
  unfold xT5
  exact r_test c2
def kyOf : Th → Str
  | .A _ _ _ _ => "l"
  | .B _ _ _ => "m"
theorem e_Ky {n : Int} {t : Th} : xKy (envM x0 x2 x3 x5 P n t.d) = .ok (.str (kyOf t)) (envM x0 x2 x3 x5 P n t.d) := by
  have c1 : xFld fc_kind "kind" (xVal 8) (envM x0 x2 x3 x5 P n t.d) = .ok (.str t.kd) (envM x0 x2 x3 x5 P n t.d) := r_fld (C := 4) (fs := [("kind", .str t.kd), ("contents", .dct t.cont)]) (r_val rfl) (by decide) rfl
  cases t with
  | A x y z ks =>
    have q : oEq (.str (Th.A x y z ks).kd) (.str "A") = some (.bl true) := by rfl
    unfold xKy
    exact r_if (r_test (r_op c1 r_c q)) (sel_t rfl r_c)
  | B x y ks =>
    have q : oEq (.str (Th.B x y ks).kd) (.str "A") = some (.bl false) := by rfl
    unfold xKy
    exact r_if (r_test (r_op c1 r_c q)) (sel_f rfl r_c)
theorem cv_ky (t : Th) (l : Addr) : valV (t.cv l) (.inr (kyOf t)) = some (.ref l) := by
  cases t <;> rfl
theorem envL_v : (envL x0 x2 x3 x5 P).all isV = true := rfl
theorem thG_rep {a c l : Addr} {t : Th} (h : ThG A G a c l t) : Rep K (S A) G t.d (.ref a) := by
  obtain ⟨⟨dx, g1⟩, g2, g3⟩ := h
  exact thI_to g1 g2 g3
/-- one turn -/
theorem turn9 (T : Txt K mg A) (f : Fx A B G P ys q sl) (g : Good P) (ndn : ns.Nodup) (v : Iv A B G P ys q sl ns i H) (rl : Rel K (S A) B [] G H (envL x0 x2 x3 x5 P) σ) (h6 : σ[6]? = some (some (.ref q))) {n : Int} (hn : ns[i]? = some n) {t : Th} (ht : look P n = some t) {Z : Ends}
    (k : ∀ σ' H', Iv A B G P ys q sl ns (i + 1) H' → Rel K (S A) B [] G H' (envL x0 x2 x3 x5 P) σ' → σ'[6]? = some (some (.ref q)) → Z.nx σ' H') : tB9 K A Z (σ.set 7 (some (.int n))) H := by
  have hm := look_mem ht
  obtain ⟨j, hp⟩ := List.getElem?_of_mem hm
  have hj := (List.getElem?_eq_some_iff.mp hp).1
  obtain ⟨y, hy⟩ : ∃ y, ys[j]? = some y := ⟨_, List.getElem?_eq_getElem (by rw [f.ln]; exact hj)⟩
  have ot := look_ok g ht
  have ls : σ.length = 11 := by rw [← paired_len rl.at_]; rfl
  have nn : nowT (ns.take i) (n, t) = t := nowT_no (take_no ndn hn)
  -- the thing
  refine ⟨_, by rw [List.getElem?_set_ne (by decide)]; exact h6, .int n, by rw [List.getElem?_set_self (by omega)], q, .ref y.1, rfl, .inl ⟨_, .inl n, v.dc, rfl, (valV_kvs f.nd hp hy f.ln).symm⟩, ?_⟩
  show tSeq _ _ Z ((σ.set 7 (some (.int n))).set 8 (some (.ref y.1))) H
  have rM : ∀ {H1 : Hp} {t' : Th}, Iv A B G P ys q sl ns i H1 → nowT (ns.take i) (n, t) = t' → Rel K (S A) B [] (extN G B.H H1) H1 (envM x0 x2 x3 x5 P n t'.d) ((σ.set 7 (some (.int n))).set 8 (some (.ref y.1))) := fun {H1 t'} w e => by
    have r1 : Rel K (S A) B [] (extN G B.H H1) H1 (envL x0 x2 x3 x5 P) σ := rel_vals envL_v rl (iv_same G H1 B)
    have r2 := rel_put (i := 7) (d := .int n) (v := .int n) envL_v r1 rfl
    have th := iv_src f w hy hp
    rw [e] at th
    exact rel_put (i := 8) (d := t'.d) (v := .ref y.1) rfl r2 (thG_rep th)
  -- it is the picture's, and its copy is
  refine if_nx (iv_all f v) (rM v nn) (e_T2 ot ht) fun G2 H2 s2 st2 => ?_
  have v2 := iv_pass f v s2 st2
  -- its list
  have th2 := v2.th j y (n, t) hy hp
  rw [nn] at th2
  obtain ⟨⟨dx, hi⟩, hc, _⟩ := id th2
  refine ⟨_, by rw [List.getElem?_set_self (by rw [List.length_set]; omega)], y.1, _, dx, _, .ref y.2.1, rfl, hi, T.cl_Thing, T.na_Thing_contents, rfl, ?_⟩
  refine td_ok (iv_all f v2) (rM v2 nn) e_Ky fun G3 H3 u s3 st3 ru => ?_
  have ru : u = .str (kyOf t) := ru
  subst ru
  have v3 := iv_pass f v2 s3 st3
  have th3 := v3.th j y (n, t) hy hp
  rw [nn] at th3
  refine ⟨_, .ref y.2.2, rfl, .inl ⟨_, .inr (kyOf t), th3.dct, rfl, (cv_ky t _).symm⟩, ?_⟩
  -- 88 joins
  obtain ⟨hl, v4⟩ := iv_app f v3 ndn hn hy hp
  refine ⟨_, by rw [List.getElem?_set_self (by simp only [List.length_set]; omega)], show tyV K "list" (.ref y.2.2) H3 from Or.inl ⟨rfl, _, .inl (.inl hl)⟩, ?_⟩
  refine ⟨_, _, _, rfl, rfl, hl, ?_, ?_⟩
  · rw [List.length_map]
    have l1 : t.ks.length ≤ 4 := by cases t <;> exact ot.1
    have := line10 (n := 1000) (by decide)
    omega
  -- and it is no more
  have n5 : nowT (ns.take (i + 1)) (n, t) = t.app 88 := nowT_yes (take_yes hn)
  have r5 : Rel K (S A) B [] (extN G B.H (upd H3 y.2.2 (.lst (t.ks.map V.int ++ [V.int 88])))) (upd H3 y.2.2 (.lst (t.ks.map V.int ++ [V.int 88]))) (envM x0 x2 x3 x5 P n (t.app 88).d) (((σ.set 7 (some (.int n))).set 8 (some (.ref y.1))).set 9 (some (.ref y.2.2))) := by
    have r1 : Rel K (S A) B [] (extN G B.H (upd H3 y.2.2 (.lst (t.ks.map V.int ++ [V.int 88])))) (upd H3 y.2.2 (.lst (t.ks.map V.int ++ [V.int 88]))) (envL x0 x2 x3 x5 P) σ := rel_vals envL_v rl (iv_same G _ B)
    have r2 := rel_put (i := 7) (d := .int n) (v := .int n) envL_v r1 rfl
    have th := iv_src f v4 hy hp
    rw [n5] at th
    exact rel_drop (i := 9) (x := some (.ref y.2.2)) rfl (rel_put (i := 8) (d := (t.app 88).d) (v := .ref y.1) rfl r2 (thG_rep th))
  refine if_nx (iv_all f v4) r5 (e_T5 ot ht) fun G5 H5 s5 st5 => ?_
  refine k _ _ (iv_pass f v4 s5 st5) ?_ ?_
  · have r1 : Rel K (S A) B [] G H5 (envL x0 x2 x3 x5 P) σ := rel_vals envL_v rl (.refl _)
    exact rel_drop (i := 9) rfl (rel_drop (i := 8) rfl (rel_drop (i := 7) rfl r1))
  · rw [List.getElem?_set_ne (by decide), List.getElem?_set_ne (by decide), List.getElem?_set_ne (by decide)]
    exact h6
/-- the loop -/
theorem loop9 (T : Txt K mg A) (f : Fx A B G P ys q sl) (g : Good P) (ndn : ns.Nodup) (hk : ∀ n ∈ ns, ∃ t, look P n = some t) (v : Iv A B G P ys q sl ns 0 H) (rl : Rel K (S A) B [] G H (envL x0 x2 x3 x5 P) σ) (h6 : σ[6]? = some (some (.ref q))) {wi : TI} {Z : Ends}
    (hw : ∀ R : It → Hp → Prop, R (Itl K sl) H → wi σ H R) (k : ∀ σ' H', Ste B [] G H' → Rel K (S A) B [] G H' (envL x0 x2 x3 x5 P) σ' → Z.nx σ' H') : tFor wi (L2.gName 7) (tB9 K A) Z σ H := by
  refine hw _ ⟨fun i m σ H => m = ns.length - i ∧ i ≤ ns.length ∧ Iv A B G P ys q sl ns i H ∧ Rel K (S A) B [] G H (envL x0 x2 x3 x5 P) σ ∧ σ[6]? = some (some (.ref q)), ⟨_, rfl, Nat.zero_le _, v, rl, h6⟩, ?_⟩
  rintro i m σi Hi ⟨rfl, hi, vi, ri, hi6⟩
  have sq : SqL K Hi sl (ns.map V.int) := .inl (.inl vi.sl)
  by_cases hlt : i < ns.length
  · obtain ⟨n, hn⟩ : ∃ n, ns[i]? = some n := ⟨_, List.getElem?_eq_getElem hlt⟩
    have hx : (ns.map V.int)[i]? = some (.int n) := by rw [List.getElem?_map, hn]; rfl
    refine .inr ⟨⟨_, _, sq, hx⟩, fun σ' H' => Iv A B G P ys q sl ns (i + 1) H' ∧ Rel K (S A) B [] G H' (envL x0 x2 x3 x5 P) σ' ∧ σ'[6]? = some (some (.ref q)), fun σ' H' ⟨a, b, c⟩ => ⟨_, by omega, rfl, hlt, a, b, c⟩, ?_⟩
    rintro x Hx ⟨rfl, hall⟩
    have := hall _ sq
    rw [hx] at this
    cases this
    obtain ⟨t, ht⟩ := hk n (List.mem_of_getElem? hn)
    exact turn9 T f g ndn vi ri hi6 hn ht fun σ' H' a b c => ⟨a, b, c⟩
  · exact .inl ⟨⟨_, sq, by rw [List.length_map]; omega⟩, k σi Hi vi.st ri⟩
end
end
end K39L
namespace K39L
open PySem PySem.Spec PyProof.Rows L2 Dv K39
set_option autoImplicit false
noncomputable section
variable {mg : Str → Option Value} {K : PySem.W.Frag} {A : Ad} {H : Hp}
def xS1 : EvS := (xBox 1 (xCall 2 d__law_cells (gVal (xVal 0) (gVal (xC (.int 30)) Dv.gNil))))
def xS2 : EvS := (xSet 2 (xCall 1 d__law_rules (gSlot 1 Dv.gNil)))
def xS3 : EvS := (xSet 3 (xCall 2 d__law_schema (gVal (xVal 2) (gVal (xOp oEq (xCall 2 d__law_draw (gSlot 1 (gVal (xC (.int 2)) Dv.gNil))) (xC (.int 0))) Dv.gNil))))
def xS4 : EvS := (xSet 4 (xCall 1 d__law_picture (gSlot 1 Dv.gNil)))
def xS5 : EvS := (xSet 5 (xCall 1 d__law_shown (gVal (xVal 4) Dv.gNil)))
def xS6 : EvS := (xIfS (xOrT (xNotT (xTest (xCall 3 d__law_contents_tell (gVal (xVal 3) (gVal (xVal 4) (gVal (xVal 2) Dv.gNil)))))) (xTest (xOp oNe (xCall 1 d__law_shown (gVal (xVal 4) Dv.gNil)) (xVal 5))))
 (xRet (xC (.bl false)))
 xNx)
def xS10 : EvS := (xSet 10 (xCall 1 d_blank_thing (gVal (xMeth "kind_of" 2 [(8, 31, d_Schema_kind_of)] (xVal 3) (gVal (xC (.str "A")) Dv.gNil)) Dv.gNil)))
def xS11 : EvS := (xIfS (xOrT (xTest (xOp oNe (xFld fc_kind "kind" (xVal 10)) (xC (.str "A")))) (xTest (xOp oNe (xCB fRepr (xCons (xFld fc_contents "contents" (xVal 10)) xNil)) (xC (.str "{'a': None, 't': None, 'r': None, 'l': []}")))))
 (xRet (xC (.bl false)))
 xNx)
def xS12 : EvS := (xRet (xAndV (xOp oEq (xCall 1 d__law_shown (gVal (xVal 4) Dv.gNil)) (xVal 5)) (xOeq true isBT 4 d_Thing___eq__ (xVal 10) (xC (.int 5)))))
def xT8 : EvT := (xOrT (xTest (xOp oNe (xCall 1 d__law_shown (gVal (xVal 6) Dv.gNil)) (xVal 5))) (xTest (xOp oNe (xCB fSorted (xCons (xCB fListD (xCons (xVal 6) xNil)) xNil)) (xCB fSorted (xCons (xCB fListD (xCons (xVal 4) xNil)) xNil)))))
def xSrt : Ev := (xCB fSorted (xCons (xCB fListD (xCons (xVal 6) xNil)) xNil))
def tLaw (K : PySem.W.Frag) (A : Ad) : TS := (tSeq (TS' K (S A) E0 xS1) (tSeq (TS' K (S A) E0 xS2) (tSeq (TS' K (S A) E0 xS3) (tSeq (TS' K (S A) E0 xS4) (tSeq (TS' K (S A) E0 xS5) (tSeq (TS' K (S A) E0 xS6) (tSeq (tAsg (tCall (spPC A) [] E0 (tCons (tVar 4) tNil)) (L2.gName 6)) (tSeq (tIfS (TB K (S A) E0 xT8) (tRet (tC (V.bl false))) tNext) (tSeq (tFor (iSeq K (TF K (S A) E0 xSrt)) (L2.gName 7) (tB9 K A)) (tSeq (TS' K (S A) E0 xS10) (tSeq (TS' K (S A) E0 xS11) (TS' K (S A) E0 xS12))))))))))))
abbrev nmL : List Str := ["script", "draws", "rules", "schema", "picture", "kept", "other", "number", "thing", "row", "blank_v"]
abbrev envB (x0 : D) (l : List Int) (x2 x3 x4 x5 : Sl) : Dv.Env := [.val x0, .box (Ls l), x2, x3, x4, x5, .no, .no, .no, .no, .no]
theorem eqZ {v w : Int} : oEq (.int v) (.int w) = some (.bl (decide (v = w))) := rfl
theorem e_S6 {x0 : D} {l : List Int} {P : Pic} {a b c : Str} {nd : Bool} (na : a ≠ "list") (nb : b ≠ "list") (nc : c ≠ "list") (g : Good P) (hP : P.length ≤ 7) : xS6 (envB x0 l (.val (rlsD a b c)) (.val (schD a b c nd)) (.val (picD P)) (.val (kepD P))) = .nx (envB x0 l (.val (rlsD a b c)) (.val (schD a b c nd)) (.val (picD P)) (.val (kepD P))) := by
  obtain ⟨p, tk⟩ := tell_ok na nb nc nd g
  have sh := shown_ok P g hP
  have ne := kep_ne P g
  unfold xS6
  (exists tk, sh, ne)
theorem e_T8 {x0 x2 x3 : D} {P : Pic} (g : Good P) (hP : P.length ≤ 7) : xT8 ((envL x0 x2 x3 (kepD P) P).set 6 (.val (picD P))) = .ok false ((envL x0 x2 x3 (kepD P) P).set 6 (.val (picD P))) := by
  have sh := shown_ok P g hP
  have ne := kep_ne P g
  have k1 := keysL P
  have k2 := sortL (P.map (·.1))
  have k3 := ls_ne (sortI (P.map (·.1)))
  show xT8 [.val x0, .no, .val x2, .val x3, .val (picD P), .val (kepD P), .val (picD P), .no, .no, .no, .no] = .ok false [.val x0, .no, .val x2, .val x3, .val (picD P), .val (kepD P), .val (picD P), .no, .no, .no, .no]
  unfold xT8
  (exists sh, ne, k1, k2, k3)
theorem e_Srt {x0 x2 x3 x5 : D} {P : Pic} : xSrt ((envL x0 x2 x3 x5 P).set 6 (.val (picD P))) = .ok (Ls (sK P)) ((envL x0 x2 x3 x5 P).set 6 (.val (picD P))) := by
  have k1 := keysL P
  have k2 := sortL (P.map (·.1))
  show xSrt [.val x0, .no, .val x2, .val x3, .val (picD P), .val x5, .val (picD P), .no, .no, .no, .no] = .ok (Ls (sortI (P.map (·.1)))) [.val x0, .no, .val x2, .val x3, .val (picD P), .val x5, .val (picD P), .no, .no, .no, .no]
  unfold xSrt
  (exists k1, k2)
theorem e_S10 {x0 x2 x5 : D} {P : Pic} {a b c : Str} {nd : Bool} : xS10 (envL x0 x2 (schD a b c nd) x5 P) = .nx ((envL x0 x2 (schD a b c nd) x5 P).set 10 (.val blT.d)) := by
  have ko := koA a b c nd
  have bo := blank_ok a nd
  have kz : ([("kinds", .lst [kA a nd, kB b c nd])] : List (Str × D)).lookup ("kind_of" : Str) = none := rfl
  show xS10 [.val x0, .no, .val x2, .val (schD a b c nd), .val (picD P), .val x5, .no, .no, .no, .no, .no] = .nx [.val x0, .no, .val x2, .val (schD a b c nd), .val (picD P), .val x5, .no, .no, .no, .no, .val blT.d]
  unfold xS10
  (exists ko, bo, kz)
theorem e_S11 {x0 x2 x3 x5 : D} {P : Pic} : xS11 ((envL x0 x2 x3 x5 P).set 10 (.val blT.d)) = .nx ((envL x0 x2 x3 x5 P).set 10 (.val blT.d)) := by
  have rc := repr_cont okT_bl
  rw [tx_bl] at rc
  have kn := bl_kd
  have s2 : oNe (.str "{'a': None, 't': None, 'r': None, 'l': []}") (.str "{'a': None, 't': None, 'r': None, 'l': []}") = some (.bl false) := by
    rw [strNe, decide_eq_true rfl]
    rfl
  have f1 : xFld fc_kind "kind" (xVal 10) ((envL x0 x2 x3 x5 P).set 10 (.val blT.d)) = .ok (.str "A") ((envL x0 x2 x3 x5 P).set 10 (.val blT.d)) := r_fld (C := 4) (fs := [("kind", .str "A"), ("contents", .dct blT.cont)]) (r_val rfl) (by decide) rfl
  have f2 : xFld fc_contents "contents" (xVal 10) ((envL x0 x2 x3 x5 P).set 10 (.val blT.d)) = .ok (.dct blT.cont) ((envL x0 x2 x3 x5 P).set 10 (.val blT.d)) := r_fld (C := 4) (fs := [("kind", .str "A"), ("contents", .dct blT.cont)]) (r_val rfl) (by decide) rfl
  generalize (envL x0 x2 x3 x5 P).set 10 (.val blT.d) = en at *
  unfold xS11
  (exists f1, f2, rc, kn, s2)
theorem e_S12 {x0 x2 x3 : D} {P : Pic} (g : Good P) (hP : P.length ≤ 7) : xS12 ((envL x0 x2 x3 (kepD P) P).set 10 (.val blT.d)) = .rt (.bl true) ((envL x0 x2 x3 (kepD P) P).set 10 (.val blT.d)) := by
  have sh := shown_ok P g hP
  have eq := kep_eq P g
  show xS12 [.val x0, .no, .val x2, .val x3, .val (picD P), .val (kepD P), .no, .no, .no, .no, .val blT.d] = .rt (.bl true) [.val x0, .no, .val x2, .val x3, .val (picD P), .val (kepD P), .no, .no, .no, .no, .val blT.d]
  have c2 : xOeq true isBT 4 d_Thing___eq__ (xVal 10) (xC (.int 5)) [.val x0, .no, .val x2, .val x3, .val (picD P), .val (kepD P), .no, .no, .no, .no, .val blT.d] = .ok (.bl true) [.val x0, .no, .val x2, .val x3, .val (picD P), .val (kepD P), .no, .no, .no, .no, .val blT.d] := r_oeq (r_val rfl) (fs := [("kind", .str "A"), ("contents", .dct blT.cont)]) rfl r_c bl_yok bl_ne5
  unfold xS12
  (exists sh, eq, c2)
theorem law_read (T : Txt K mg A) {a : Addr} {ns : List Int} {Q : VK} {Z : Ends} (hS : SqL K H a (ns.map V.int)) (q : ∀ H', Q (.bl true) H') (hZ : Z.rt = Q) : tLaw K A Z (L2.start nmL [.ref a]) H := by
  have ok : ArgsOk K (S A) H H none [.val (.scr (ns.map .int))] [.ref a] := ⟨.cons ⟨a, _, rfl, hS, ints_rep ns⟩ .nil, Nat.zero_le _, fun a e => by cases e⟩
  have st0 : Ste ⟨H, H, none⟩ [] H H := ste_start (fun a u e => .inl e) ok
  have rl0 : Rel K (S A) ⟨H, H, none⟩ [] H H [.val (.scr (ns.map .int)), .no, .no, .no, .no, .no, .no, .no, .no, .no, .no] (L2.start nmL [.ref a]) := start_rel (N := nmL) ok (show 1 ≤ 11 by decide)
  obtain ⟨l0, p0, e0, h0⟩ := cells_ok ns
  obtain ⟨ra, rb, rc, l1, e1, h1, na, nb, nc⟩ := rules_ok h0
  obtain ⟨v, l2, e2, v0, v1, h2⟩ := draw_ok h1 2 (by omega) (by omega)
  have q2 : oEq (.int v) (.int 0) = some (.bl (decide (v = 0))) := eqZ
  generalize decide (v = 0) = nd at q2
  have e3 := schema_ok ra rb rc nd
  obtain ⟨P, l3, e4, h3, g, hP⟩ := pic_ok h2
  have e5 := shown_ok P g hP
  refine ts_nx (env' := envB (.scr (ns.map .int)) l0 .no .no .no .no) st0 rl0 (by unfold xS1; (exists e0)) fun σ1 G1 H1 s1 st1 rl1 => ?_
  refine ts_nx (env' := envB (.scr (ns.map .int)) l1 (.val (rlsD ra rb rc)) .no .no .no) st1 rl1 (by unfold xS2; (exists e1)) fun σ2 G2 H2 s2 st2 rl2 => ?_
  refine ts_nx (env' := envB (.scr (ns.map .int)) l2 (.val (rlsD ra rb rc)) (.val (schD ra rb rc nd)) .no .no) st2 rl2 (by unfold xS3; (exists e2, q2, e3)) fun σ3 G3 H3 s3 st3 rl3 => ?_
  refine ts_nx (env' := envB (.scr (ns.map .int)) l3 (.val (rlsD ra rb rc)) (.val (schD ra rb rc nd)) (.val (picD P)) .no) st3 rl3 (by unfold xS4; (exists e4)) fun σ4 G4 H4 s4 st4 rl4 => ?_
  refine ts_nx (env' := envB (.scr (ns.map .int)) l3 (.val (rlsD ra rb rc)) (.val (schD ra rb rc nd)) (.val (picD P)) (.val (kepD P))) st4 rl4 (by unfold xS5; (exists e5)) fun σ5 G5 H5 s5 st5 rl5 => ?_
  refine ts_nx st5 rl5 (e_S6 na nb nc g hP) fun σ G6 H6 s6 st6 rl6 => ?_
  clear rl5 rl4 rl3 rl2 rl1 rl0
  -- the picture is copied
  obtain ⟨x4, hx4, v4, rfl, r4⟩ := rel_at (i := 4) rl6 rfl
  obtain ⟨p, xs, rfl, gp, src⟩ := pic_src r4
  have rl6 : Rel K (S A) ⟨H, H, none⟩ [] G6 H6 (envL (.scr (ns.map .int)) (rlsD ra rb rc) (schD ra rb rc nd) (kepD P) P) σ := rel_no (i := 1) rl6
  refine ⟨_, hx4, p, P, xs, rfl, st6.inn.dct (.inl gp), src_inn st6.inn src, g.1, by omega, fun q7 H7 ys s7 nq hq cp => ?_⟩
  show tSeq _ _ Z (σ.set 6 (some (.ref q7))) H7
  have ex := extN_ex st6.inn s7
  have st8 := st6.ex ex
  have gs := cp_rep st6.inn s7 src cp
  have g6q := st6.inn.some nq
  have gq : extN G6 H6 H7 q7 = some (.dK (kvsOf P ys)) := by
    rw [extN_n g6q nq, hq]
    rfl
  have rl8 : Rel K (S A) ⟨H, H, none⟩ [] (extN G6 H6 H7) H7 ((envL (.scr (ns.map .int)) (rlsD ra rb rc) (schD ra rb rc nd) (kepD P) P).set 6 (.val (picD P))) (σ.set 6 (some (.ref q7))) := rel_put (i := 6) (d := picD P) (v := .ref q7) envL_v (rel_vals envL_v rl6 ex.g) ⟨q7, _, rfl, gq, src_repK gs⟩
  refine if_nx st8 rl8 (e_T8 g hP) fun G9 H9 s9 st9 => ?_
  -- the loop
  have rl9 : Rel K (S A) ⟨H, H, none⟩ [] G9 H9 ((envL (.scr (ns.map .int)) (rlsD ra rb rc) (schD ra rb rc nd) (kepD P) P).set 6 (.val (picD P))) (σ.set 6 (some (.ref q7))) := rel_vals rfl rl8 s9
  have ls : σ.length = 11 := by rw [← paired_len rl6.at_]; rfl
  have rlL : ∀ G' H', Same G6 G' → Rel K (S A) ⟨H, H, none⟩ [] G' H' (envL (.scr (ns.map .int)) (rlsD ra rb rc) (schD ra rb rc nd) (kepD P) P) (σ.set 6 (some (.ref q7))) := fun G' H' s => rel_drop (i := 6) envL_v (rel_vals envL_v rl6 s)
  refine ⟨_, [], G9, _, st9, rl9, ?_⟩
  rw [e_Srt]
  intro G10 H10 s10 st10 rl10 sl o n1 n2 n3 _ _ ro
  obtain ⟨vs, rfl, rv⟩ := ro
  have rv := repL_ints rv
  subst rv
  refine ⟨sl, rfl, .inl ⟨⟨_, .inl (.inl n3)⟩, ?_⟩⟩
  have s610 : Same G6 G10 := (ex.g.trans s9).trans s10
  have s810 : Same (extN G6 H6 H7) G10 := s9.trans s10
  have gs6 : G6 sl = none := by
    cases e : G6 sl with
    | none => rfl
    | some u =>
      have := s610 _ _ e
      rw [n1] at this
      cases this
  have fx : Fx A ⟨H, H, none⟩ G6 P ys q7 sl := {
    hr := rfl
    hB := fun a h => by
      cases e : H a with
      | none => exact (h e).elim
      | some u =>
        rw [st6.g0 _ _ e]
        exact Option.some_ne_none _
    ln := cp.1.1
    nd := g.1
    ll := fun y hy => ⟨st6.inn.some (cp.2.1 y hy), fun e => by
      obtain ⟨j, hj⟩ := List.getElem?_of_mem hy
      have hjl := (List.getElem?_eq_some_iff.mp hj).1
      rw [cp.1.1] at hjl
      have := s810 _ _ (gs.2 j y _ hj (List.getElem?_eq_getElem hjl)).lst
      rw [e, n1] at this
      cases this⟩
    lc := fun y hy => by
      obtain ⟨j, hj⟩ := List.getElem?_of_mem hy
      have hjl := (List.getElem?_eq_some_iff.mp hj).1
      rw [cp.1.1] at hjl
      have ex := List.getElem?_eq_getElem (l := xs) (i := j) (by rw [src.1]; exact hjl)
      rcases (cp.2.2.2 j y _ hj ex).2 with e | e
      · exact .inl (st6.inn.some e)
      · exact .inr ⟨_, by rw [e]; exact (src.2 j _ _ ex (List.getElem?_eq_getElem hjl)).dct⟩
    ndl := cp.2.2.1
    gq := g6q
    gs := gs6 }
  have iv : Iv A ⟨H, H, none⟩ G6 P ys q7 sl (sK P) 0 H10 := {
    st := ste_down st10 st6.g0 s610
    sl := n3
    dc := st10.inn.dct (.inl (s810 _ _ gq))
    th := fun j y p hy hp => by
      obtain ⟨⟨dx, t1⟩, t2, t3⟩ := gs.2 j y p hy hp
      exact ⟨⟨dx, st10.inn.ins (s810 _ _ t1)⟩, st10.inn.dct (.inl (s810 _ _ t2)), st10.inn.lst (s810 _ _ t3)⟩ }
  have ndk : (sK P).Nodup := (sortI_perm _).nodup_iff.mpr g.1
  refine loop9 (wi := fun _ _ R => R (Itl K sl) H10) T fx g ndk (keys_look P g) iv (rlL G6 H10 (.refl _)) (by rw [List.getElem?_set_self (by omega)]) (fun R h => h) fun σ11 H11 st11 rl11 => ?_
  -- a blank thing
  refine ts_nx st11 rl11 e_S10 fun σ12 G12 H12 s12 st12 rl12 => ?_
  refine ts_nx st12 rl12 e_S11 fun σ13 G13 H13 s13 st13 rl13 => ?_
  refine ts_rt st13 rl13 (e_S12 g hP) fun H14 v ⟨G', hv⟩ => ?_
  have hv : v = .bl true := hv
  subst hv
  rw [hZ]
  exact q H14
end
end K39L
end
namespace K39L
open PySem PySem.Spec PyProof.Rows L2 Dv K39
set_option autoImplicit false
noncomputable section
variable {P : Program} {w : World} {K : PySem.W.Frag} {mg : Str → Option Value} {base : Heap} {A : Ad}
theorem sc_law : FnScope ["script", "draws", "rules", "schema", "picture", "kept", "other", "number", "thing", "row", "blank_v"] ["script"] (defScope (topS 40)) := ⟨rfl, rfl, rfl, by decide +kernel, rfl, by decide +kernel, by decide +kernel⟩
abbrev spLaw := Dv.spTrue
theorem ok_law (T : Txt K mg A) : FnG P w K mg base CX0 7 A.f_law A.fd_law ["script"] (spLaw K) := by
  refine okG T.F_law sc_law (fun vs H Q E h => ?_) (fun cdv Ar gd outer s H vs Q E hr h => ?_)
  · obtain ⟨a, ns, rfl, _⟩ := h
    rfl
  obtain ⟨a, ns, rfl, hS, hl, q⟩ := h
  refine ⟨_, (pss_cons (show QS (S A) _ E0 _ (xBox 1 (xCall 2 d__law_cells (gVal (xVal 0) (gVal (xC (.int 30)) gNil)))) from (s_box (i := 1) sc_law.nd rfl (.inl rfl) (qf_call (ok__law_cells T) (hr.mono (by decide)) (by rfl) T.g__law_cells T.F__law_cells.kp T.b__law_cells pass0 (g_val (q_vl (pv 0)) (g_val (q_c pe_int fun _ => rfl) g_nil)))))
 (pss_cons (show QS (S A) _ E0 _ (xSet 2 (xCall 1 d__law_rules (gSlot 1 gNil))) from (s_set (i := 2) sc_law.nd rfl (.inl rfl) (q_call (ok__law_rules T) (hr.mono (by decide)) (by rfl) T.g__law_rules T.F__law_rules.kp T.b__law_rules pass0 (g_slot (pv 1) g_nil))))
 (pss_cons (show QS (S A) _ E0 _ (xSet 3 (xCall 2 d__law_schema (gVal (xVal 2) (gVal (xOp oEq (xCall 2 d__law_draw (gSlot 1 (gVal (xC (.int 2)) gNil))) (xC (.int 0))) gNil)))) from (s_set (i := 3) sc_law.nd rfl (.inl rfl) (q_call (ok__law_schema T) (hr.mono (by decide)) (by rfl) T.g__law_schema T.F__law_schema.kp T.b__law_schema pass0 (g_val (q_vl (pv 2)) (g_val (q_cmp (opOr op_eq (op_eqD (u64 hr))) so_eq (q_call (ok__law_draw T) (hr.mono (by decide)) (by rfl) T.g__law_draw T.F__law_draw.kp T.b__law_draw pass0 (g_slot (pv 1) (g_val (q_c pe_int fun _ => rfl) g_nil))) (q_c pe_int fun _ => rfl) (nomark _)) g_nil)))))
 (pss_cons (show QS (S A) _ E0 _ (xSet 4 (xCall 1 d__law_picture (gSlot 1 gNil))) from (s_set (i := 4) sc_law.nd rfl (.inl rfl) (q_call (ok__law_picture T) (hr.mono (by decide)) (by rfl) T.g__law_picture T.F__law_picture.kp T.b__law_picture pass0 (g_slot (pv 1) g_nil))))
 (pss_cons (show QS (S A) _ E0 _ (xSet 5 (xCall 1 d__law_shown (gVal (xVal 4) gNil))) from (s_set (i := 5) sc_law.nd rfl (.inl rfl) (q_callG (ok__law_shown T) gd (hr.mono (by decide)) (by rfl) T.g__law_shown T.F__law_shown.kp T.b__law_shown pass0 (g_val (q_vl (pv 4)) g_nil))))
 (pss_cons (show QS (S A) _ E0 _ (xIfS (xOrT (xNotT (xTest (xCall 3 d__law_contents_tell (gVal (xVal 3) (gVal (xVal 4) (gVal (xVal 2) gNil)))))) (xTest (xOp oNe (xCall 1 d__law_shown (gVal (xVal 4) gNil)) (xVal 5))))
 (xRet (xC (.bl false)))
 xNx) from (s_if (q_pt (q_wor (q_notT (q_val (q_callG (ok__law_contents_tell T) gd (hr.mono (by decide)) (by rfl) T.g__law_contents_tell T.F__law_contents_tell.kp T.b__law_contents_tell pass0 (g_val (q_vl (pv 3)) (g_val (q_vl (pv 4)) (g_val (q_vl (pv 2)) g_nil)))))) (q_wor1 (q_cmpT (opOr op_ne (op_neD (u64 hr))) so_ne (q_callG (ok__law_shown T) gd (hr.mono (by decide)) (by rfl) T.g__law_shown T.F__law_shown.kp T.b__law_shown pass0 (g_val (q_vl (pv 4)) g_nil)) (q_vl (pv 5)) (nomark _)))))
 (s_one (s_ret (q_c pe_bl fun _ => rfl)))
 s_nil))
 (pss_cons (ps_set (i := 6) sc_law.nd rfl (.inl rfl) (pe_call (okp_picture_copy T) (hr.mono (by decide)) (by rfl) T.g_picture_copy T.F_picture_copy.kp T.b_picture_copy .nil pass0 (pa_cons (pv 4) pa_nil)))
 (pss_cons (ps_if (show QT (S A) _ E0 _ (xOrT (xTest (xOp oNe (xCall 1 d__law_shown (gVal (xVal 6) gNil)) (xVal 5))) (xTest (xOp oNe (xCB fSorted (xCons (xCB fListD (xCons (xVal 6) xNil)) xNil)) (xCB fSorted (xCons (xCB fListD (xCons (xVal 4) xNil)) xNil))))) from (q_pt (q_wor (q_cmpT (opOr op_ne (op_neD (u64 hr))) so_ne (q_callG (ok__law_shown T) gd (hr.mono (by decide)) (by rfl) T.g__law_shown T.F__law_shown.kp T.b__law_shown pass0 (g_val (q_vl (pv 6)) g_nil)) (q_vl (pv 5)) (nomark _)) (q_wor1 (q_cmpT (opOr op_ne (op_neD (u64 hr))) so_ne (q_fr (qf_callB (cr_sortedI) sc_sorted rfl T.b_sorted (by decide +kernel) (q_cons (q_fr (qf_callTy (call_listD rfl) sc_listD rfl T.b_list (by decide +kernel) (q_cons (q_vl (pv 6)) q_nil))) q_nil))) (q_fr (qf_callB (cr_sortedI) sc_sorted rfl T.b_sorted (by decide +kernel) (q_cons (q_fr (qf_callTy (call_listD rfl) sc_listD rfl T.b_list (by decide +kernel) (q_cons (q_vl (pv 4)) q_nil))) q_nil))) (nomark _)))))) (pss_one (ps_ret pe_bl)) pss_nil)
 (pss_cons (ps_for PassesOwn.never rfl (pi_seq (show QF (S A) _ E0 _ (xCB fSorted (xCons (xCB fListD (xCons (xVal 6) xNil)) xNil)) from (qf_callB (cr_sortedI) sc_sorted rfl T.b_sorted (by decide +kernel) (q_cons (q_fr (qf_callTy (call_listD rfl) sc_listD rfl T.b_list (by decide +kernel) (q_cons (q_vl (pv 6)) q_nil))) q_nil)))) (pg_name (i := 7) sc_law.nd rfl (.inl rfl))
  (pss_cons (ps_set (i := 8) sc_law.nd rfl (.inl rfl) (pe_dget (u1 hr) (pv 6) (pv 7) (fun _ _ => rfl)))
  (pss_cons (ps_if (show QT (S A) _ E0 _ (xOrT (xTest (xOeq true isBT 4 d_Thing___eq__ (xVal 8) (xOp oDGet (xVal 4) (xVal 7)))) (xTest (xOeq true isBT 4 d_Thing___eq__ (xMeth "copied" 1 [(4, 17, d_Thing_copied)] (xVal 8) gNil) (xVal 8)))) from (q_pt (q_wor (q_ownNeT (ci := 4) (fi := 18) T.eqo_Thing (ok_Thing___eq__ T) T.b_Thing___eq__ pass0 (hr.mono (by decide)) (fun _ => T.sbi_Thing) (q_vl (pv 8)) (q_dget (u1 hr) (q_vl (pv 4)) (q_vl (pv 7)) (fun _ _ => rfl)) (nomark _)) (q_wor1 (q_ownNeT (ci := 4) (fi := 18) T.eqo_Thing (ok_Thing___eq__ T) T.b_Thing___eq__ pass0 (hr.mono (by decide)) (fun _ => T.sbi_Thing) (q_meth0 (q_vl (pv 8)) (mt_cons ⟨T.cl_Thing, T.me_Thing_copied, _, _, (ok_Thing_copied T).mono (show 4 ≤ 4 by decide), T.b_Thing_copied⟩ mt_nil) (hr.mono (by decide)) pass0) (q_vl (pv 8)) (nomark _)))))) (pss_one (ps_ret pe_bl)) pss_nil)
  (pss_cons (ps_set (i := 9) sc_law.nd rfl (.inl rfl) (pe_dget (u1 hr) (pe_fld (pv 8) rfl) (show QE (S A) _ E0 _ (xIf (xTest (xOp oEq (xFld fc_kind "kind" (xVal 8)) (xC (.str "A")))) (xC (.str "l")) (xC (.str "m"))) from (q_if (q_cmpT (opOr op_eq (op_eqD (u64 hr))) so_eq (q_fld (fl_kind T) (q_vl (pv 8)) rfl) (q_c pe_str fun _ => rfl) (nomark _)) (q_c pe_str fun _ => rfl) (q_c pe_str fun _ => rfl))) (fun _ _ => rfl)))
  (pss_cons (ps_expr (pe_bm PySem.F.plainAttrs_list PySem.F.slot_list_append PySem.F.type_list_append mt_append (pv 9) (pa_cons pe_int pa_nil)))
  (pss_one (ps_if (show QT (S A) _ E0 _ (xTest (xOeq false isBT 4 d_Thing___eq__ (xVal 8) (xOp oDGet (xVal 4) (xVal 7)))) from (q_ownEqT (ci := 4) (fi := 18) T.eqo_Thing (ok_Thing___eq__ T) T.b_Thing___eq__ pass0 (hr.mono (by decide)) (fun _ => T.sbi_Thing) (q_vl (pv 8)) (q_dget (u1 hr) (q_vl (pv 4)) (q_vl (pv 7)) (fun _ _ => rfl)) (nomark _))) (pss_one (ps_ret pe_bl)) pss_nil)))))))
 (pss_cons (show QS (S A) _ E0 _ (xSet 10 (xCall 1 d_blank_thing (gVal (xMeth "kind_of" 2 [(8, 31, d_Schema_kind_of)] (xVal 3) (gVal (xC (.str "A")) gNil)) gNil))) from (s_set (i := 10) sc_law.nd rfl (.inl rfl) (q_call (ok_blank_thing T) (hr.mono (by decide)) (by rfl) T.g_blank_thing T.F_blank_thing.kp T.b_blank_thing pass0 (g_val (q_meth (q_vl (pv 3)) (mt_cons ⟨T.cl_Schema, T.me_Schema_kind_of, _, _, (ok_Schema_kind_of T).mono (show 1 ≤ 1 by decide), T.b_Schema_kind_of⟩ mt_nil) (hr.mono (by decide)) pass0 (g_val (q_c pe_str fun _ => rfl) g_nil)) g_nil))))
 (pss_cons (show QS (S A) _ E0 _ (xIfS (xOrT (xTest (xOp oNe (xFld fc_kind "kind" (xVal 10)) (xC (.str "A")))) (xTest (xOp oNe (xCB fRepr (xCons (xFld fc_contents "contents" (xVal 10)) xNil)) (xC (.str "{'a': None, 't': None, 'r': None, 'l': []}")))))
 (xRet (xC (.bl false)))
 xNx) from (s_if (q_pt (q_wor (q_cmpT (opOr op_ne (op_neD (u64 hr))) so_ne (q_fld (fl_kind T) (q_vl (pv 10)) rfl) (q_c pe_str fun _ => rfl) (nomark _)) (q_wor1 (q_cmpT (opOr op_ne (op_neD (u64 hr))) so_ne (q_callB (call_reprD gd (u80 hr)) sc_repr rfl T.b_repr (by decide +kernel) (q_cons (q_fld (fl_contents T) (q_vl (pv 10)) rfl) q_nil)) (q_c pe_str fun _ => rfl) (nomark _)))))
 (s_one (s_ret (q_c pe_bl fun _ => rfl)))
 s_nil))
 (pss_one (show QS (S A) _ E0 _ (xRet (xAndV (xOp oEq (xCall 1 d__law_shown (gVal (xVal 4) gNil)) (xVal 5)) (xOeq true isBT 4 d_Thing___eq__ (xVal 10) (xC (.int 5))))) from (s_ret (q_and (q_cmp (opOr op_eq (op_eqD (u64 hr))) so_eq (q_callG (ok__law_shown T) gd (hr.mono (by decide)) (by rfl) T.g__law_shown T.F__law_shown.kp T.b__law_shown pass0 (g_val (q_vl (pv 4)) g_nil)) (q_vl (pv 5)) (nomark _)) (q_one (q_ownNe (ci := 4) (fi := 18) T.eqo_Thing (ok_Thing___eq__ T) T.b_Thing___eq__ pass0 (hr.mono (by decide)) (fun _ => T.sbi_Thing) (q_vl (pv 10)) (q_c pe_int fun _ => rfl) (nomark _)))))))))))))))))), law_read T hS q rfl⟩
end
end K39L
open PySem PySem.W PySem.Calls PyProof.Rows in
set_option maxRecDepth 100000 in
set_option maxHeartbeats 0 in
theorem PySem.Challenge.cw_oneheap_k39_what_contents_tell_holds : PySem.Challenge.rw_oneheap_k39_what_contents_tell.Holds := by
  refine K39.endPre ?_
  refine Dv.walk_G (l := PySem.Challenge.rw_oneheap_k39_what_contents_tell) (n := 63) (k := 7) (x := "script") rfl (by decide) (by kernel_rfl) ⟨rfl, by decide, by decide⟩ ?F
  intro w mg fa h Y G hmg0
  obtain ⟨K, KX, c⟩ := Y
  have hmg : mg ("law" : PySem.Str) = some (.ref fa) := by
    have e : (HandSHeadRun.topDef (PySem.W.OpenLaw.row PySem.Challenge.rw_oneheap_k39_what_contents_tell).prog 40).name = ("law" : PySem.Str) := by kernel_rfl
    rw [← e]
    exact hmg0
  have T := K39.mk_txt (w := w) KX G c
  have e := hmg.symm.trans (K39.law_at KX G c)
  cases e
  refine ⟨K, (K39.adr K).fd_law, K39L.spLaw K, KX, fun s u => ?_, fun H a ns hl _ hS => ⟨a, ns, rfl, hS, hl, fun _ => rfl⟩, fun base _ _ => K39L.ok_law T⟩
  obtain ⟨_, _, _, _, _, _, _, _, _, e, _⟩ := T.F_law.ex
  rw [e]
  exact .of_eq rfl
