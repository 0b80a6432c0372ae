import PyProof.Rows.All
import Wide.All
import OpenK.AllK
import Wide.FinOn
import HandS.ForMost
import HandS.TupAny
import HandS.IsInst
import HandS.Wide
import HandS.Steps
import HandS.RaiseMore
import HandS.Codes
import PySem.Challenge.RW_carryclaim_k01_tokens
set_option Elab.async false
set_option linter.all false
set_option maxRecDepth 100000
set_option maxHeartbeats 1000000
/-! Plain data over the hand layer: what a piece of the program does, as a function of plain values. -/
namespace Pd
open PySem L2

/-! ### plain values -/
inductive D where
  | non | bl (b : Bool) | int (i : Int) | str (x : Str) | tup (xs : List D) | lst (xs : List D) | rol (xs : List D) | adr (i : Nat) | raw (v : V)
/-- an object that changes -/
inductive MO where
  | lst (xs : List D)
  | ins (C : Addr) (fs : List (Str × D))
abbrev Rho := List (Option D)
abbrev PM := List MO
/-- what comes of a piece: a value and the objects; an exception; nothing that is told -/
inductive Out (A : Type) where
  | ok (a : A) (M : PM)
  | exn (c : Value) (fs : Option (List (Str × D))) (M : PM)
  | bad
def Out.bind {A B : Type} : Out A → (A → PM → Out B) → Out B
  | .ok a M, g => g a M
  | .exn c fs M, _ => .exn c fs M
  | .bad, _ => .bad
@[simp] theorem Out.bind_ok {A B : Type} (a : A) (M : PM) (g : A → PM → Out B) : (Out.ok a M).bind g = g a M := rfl
@[simp] theorem Out.bind_exn {A B : Type} (c : Value) (fs : Option (List (Str × D))) (M : PM) (g : A → PM → Out B) : (Out.exn c fs M : Out A).bind g = .exn c fs M := rfl
@[simp] theorem Out.bind_bad {A B : Type} (g : A → PM → Out B) : (Out.bad : Out A).bind g = .bad := rfl

/-! ### how they lie -/
def K0 : Hp := fun _ => none
def TupAt (K : PySem.W.Frag) (α : List Addr) (H : Hp) (p : Addr) (xs : List V) : Prop := (Rd H p (.tup xs) ∧ p ∉ α) ∨ SqT K K0 p xs
def LstAt (α : List Addr) (H : Hp) (p : Addr) (xs : List V) : Prop := H p = some (.lst xs) ∧ p ∉ α
/-- a list that is only read: the script, a constant -/
def RolAt (K : PySem.W.Frag) (α : List Addr) (H : Hp) (p : Addr) (xs : List V) : Prop := (Rd H p (.lst xs) ∧ p ∉ α) ∨ SqL K K0 p xs
section
variable {K : PySem.W.Frag} {α α' α'' : List Addr} {H H' H'' : Hp} {p a : Addr} {xs : List V}
theorem rd0 {u : HO} (h : Rd K0 p u) : False := by
  rcases h with h | ⟨o, h⟩
  · cases h
  · cases h
theorem TupAt.sq (h : TupAt K α H p xs) : SqT K H p xs := by
  rcases h with h | h
  · exact .inl h.1
  · rcases h with h | h
    · exact (rd0 h).elim
    · exact .inr h
theorem LstAt.sq (h : LstAt α H p xs) : SqL K H p xs := .of h.1
theorem RolAt.sq (h : RolAt K α H p xs) : SqL K H p xs := by
  rcases h with h | h
  · exact .inl h.1
  · rcases h with h | h
    · exact (rd0 h).elim
    · exact .inr h
/-- from one moment to a later one: new objects that change come behind; all else that was tracked stands -/
structure Step (α : List Addr) (H : Hp) (α' : List Addr) (H' : Hp) : Prop where
  ext : ∃ β, α' = α ++ β ∧ ∀ b, b ∈ β → H b = none
  pr : ∀ a o, H a = some o → a ∉ α → H' a = some o
theorem Step.refl (α : List Addr) (H : Hp) : Step α H α H := ⟨⟨[], by simp, fun _ h => by cases h⟩, fun _ _ h _ => h⟩
theorem Step.out (s : Step α H α' H') {o : HO} (h : H a = some o) (n : a ∉ α) : a ∉ α' := by
  obtain ⟨β, rfl, hb⟩ := s.ext
  intro q
  rcases List.mem_append.mp q with q | q
  · exact n q
  · rw [hb a q] at h
    cases h
theorem Step.trans (s : Step α H α' H') (t : Step α' H' α'' H'') (k : ∀ b, b ∈ α → H b ≠ none → H' b ≠ none) : Step α H α'' H'' := by
  refine ⟨?_, fun a o h n => t.pr a o (s.pr a o h n) (s.out h n)⟩
  obtain ⟨β, e, hb⟩ := s.ext
  obtain ⟨γ, e', hc⟩ := t.ext
  refine ⟨β ++ γ, by rw [e', e, List.append_assoc], fun b hb' => ?_⟩
  rcases List.mem_append.mp hb' with q | q
  · exact hb b q
  · cases h : H b with
    | none => rfl
    | some o =>
      have z := hc b q
      by_cases n : b ∈ α
      · exact absurd z (k b n (by rw [h]; exact fun q => nomatch q))
      · rw [s.pr b o h n] at z
        cases z
theorem TupAt.step (s : Step α H α' H') (h : TupAt K α H p xs) : TupAt K α' H' p xs := by
  rcases h with ⟨h | ⟨o, h⟩, n⟩ | h
  · exact .inl ⟨.inl (s.pr _ _ h n), s.out h n⟩
  · exact .inl ⟨.inr ⟨o, s.pr _ _ h n⟩, s.out h n⟩
  · exact .inr h
theorem LstAt.step (s : Step α H α' H') (h : LstAt α H p xs) : LstAt α' H' p xs := ⟨s.pr _ _ h.1 h.2, s.out h.1 h.2⟩
theorem RolAt.step (s : Step α H α' H') (h : RolAt K α H p xs) : RolAt K α' H' p xs := by
  rcases h with ⟨h | ⟨o, h⟩, n⟩ | h
  · exact .inl ⟨.inl (s.pr _ _ h n), s.out h n⟩
  · exact .inl ⟨.inr ⟨o, s.pr _ _ h n⟩, s.out h n⟩
  · exact .inr h
end
mutual
inductive Rep (K : PySem.W.Frag) (α : List Addr) (H : Hp) : D → V → Prop
  | non : Rep K α H .non .non
  | bl (b : Bool) : Rep K α H (.bl b) (.bl b)
  | int (i : Int) : Rep K α H (.int i) (.int i)
  | str (x : Str) : Rep K α H (.str x) (.str x)
  | raw (v : V) : Rep K α H (.raw v) v
  | adr {i : Nat} {a : Addr} : α[i]? = some a → Rep K α H (.adr i) (.ref a)
  | tup {p : Addr} {xs : List V} {ds : List D} : TupAt K α H p xs → RepL K α H ds xs → Rep K α H (.tup ds) (.ref p)
  | lst {p : Addr} {xs : List V} {ds : List D} : LstAt α H p xs → RepL K α H ds xs → Rep K α H (.lst ds) (.ref p)
  | rol {p : Addr} {xs : List V} {ds : List D} : RolAt K α H p xs → RepL K α H ds xs → Rep K α H (.rol ds) (.ref p)
inductive RepL (K : PySem.W.Frag) (α : List Addr) (H : Hp) : List D → List V → Prop
  | nil : RepL K α H [] []
  | cons {d : D} {ds : List D} {v : V} {vs : List V} : Rep K α H d v → RepL K α H ds vs → RepL K α H (d :: ds) (v :: vs)
end
section
variable {K : PySem.W.Frag} {α α' α'' : List Addr} {H H' H'' : Hp} {p a : Addr}
mutual
theorem Rep.step (s : Step α H α' H') : ∀ (d : D) (v : V), Rep K α H d v → Rep K α' H' d v
  | .non, _, h => by cases h; exact .non
  | .bl b, _, h => by cases h; exact .bl b
  | .int i, _, h => by cases h; exact .int i
  | .str x, _, h => by cases h; exact .str x
  | .raw v, _, h => by cases h; exact .raw v
  | .adr i, _, h => by
    cases h with
    | adr e =>
      obtain ⟨β, q, _⟩ := s.ext
      refine .adr ?_
      rw [q, List.getElem?_append_left (List.getElem?_eq_some_iff.mp e).1]
      exact e
  | .tup ds, _, h => by
    cases h with
    | tup t r => exact .tup (t.step s) (RepL.step s ds _ r)
  | .lst ds, _, h => by
    cases h with
    | lst t r => exact .lst (t.step s) (RepL.step s ds _ r)
  | .rol ds, _, h => by
    cases h with
    | rol t r => exact .rol (t.step s) (RepL.step s ds _ r)
theorem RepL.step (s : Step α H α' H') : ∀ (ds : List D) (vs : List V), RepL K α H ds vs → RepL K α' H' ds vs
  | [], _, h => by cases h; exact .nil
  | d :: ds, _, h => by
    cases h with
    | cons r t => exact .cons (Rep.step s d _ r) (RepL.step s ds _ t)
end
theorem RepL.length : ∀ {ds : List D} {vs : List V}, RepL K α H ds vs → ds.length = vs.length
  | _, _, .nil => rfl
  | _, _, .cons _ t => by rw [List.length_cons, List.length_cons, RepL.length t]
theorem RepL.get : ∀ {ds : List D} {vs : List V} {i : Nat} {d : D}, RepL K α H ds vs → ds[i]? = some d → ∃ v, vs[i]? = some v ∧ Rep K α H d v
  | _, _, _, _, .nil, e => by simp at e
  | _, _, 0, _, .cons r _, e => by simp at e; subst e; exact ⟨_, rfl, r⟩
  | _, _, i + 1, d, .cons _ t, e => by
    obtain ⟨v, h1, h2⟩ := RepL.get (i := i) (d := d) t (by simpa using e)
    exact ⟨v, by simpa using h1, h2⟩
theorem RepL.get' : ∀ {ds : List D} {vs : List V} {i : Nat} {v : V}, RepL K α H ds vs → vs[i]? = some v → ∃ d, ds[i]? = some d ∧ Rep K α H d v
  | _, _, _, _, .nil, e => by simp at e
  | _, _, 0, _, .cons r _, e => by simp at e; subst e; exact ⟨_, rfl, r⟩
  | _, _, i + 1, v, .cons _ t, e => by
    obtain ⟨d, h1, h2⟩ := RepL.get' (i := i) (v := v) t (by simpa using e)
    exact ⟨d, by simpa using h1, h2⟩
theorem RepL.append : ∀ {ds es : List D} {vs ws : List V}, RepL K α H ds vs → RepL K α H es ws → RepL K α H (ds ++ es) (vs ++ ws)
  | _, _, _, _, .nil, s => s
  | _, _, _, _, .cons r t, s => .cons r (RepL.append t s)
theorem RepL.take : ∀ {ds : List D} {vs : List V} (n : Nat), RepL K α H ds vs → RepL K α H (ds.take n) (vs.take n)
  | _, _, 0, _ => .nil
  | _, _, _ + 1, .nil => .nil
  | _, _, n + 1, .cons r t => .cons r (RepL.take n t)
theorem RepL.drop : ∀ {ds : List D} {vs : List V} (n : Nat), RepL K α H ds vs → RepL K α H (ds.drop n) (vs.drop n)
  | _, _, 0, r => r
  | _, _, _ + 1, .nil => .nil
  | _, _, n + 1, .cons _ t => RepL.drop n t
theorem RepL.set {d : D} {v : V} (r : Rep K α H d v) : ∀ {ds : List D} {vs : List V} (i : Nat), RepL K α H ds vs → RepL K α H (ds.set i d) (vs.set i v)
  | _, _, _, .nil => .nil
  | _, _, 0, .cons _ t => .cons r t
  | _, _, i + 1, .cons q t => .cons q (RepL.set r i t)
/-- an object that changes, at its place -/
def ObR (K : PySem.W.Frag) (α : List Addr) (H : Hp) (a : Addr) : MO → Prop
  | .lst ds => ∃ vs, H a = some (.lst vs) ∧ RepL K α H ds vs
  | .ins C fs => ∃ dx vs, H a = some (.ins C dx ((fs.map (·.1)).zip vs)) ∧ RepL K α H (fs.map (·.2)) vs
theorem ObR.there {m : MO} (h : ObR K α H a m) : ∃ o, H a = some o := by
  cases m with
  | lst ds => obtain ⟨vs, e, _⟩ := h; exact ⟨_, e⟩
  | ins C fs => obtain ⟨dx, vs, e, _⟩ := h; exact ⟨_, e⟩
structure Wd (K : PySem.W.Frag) (α : List Addr) (M : PM) (H : Hp) : Prop where
  nd : α.Nodup
  len : α.length = M.length
  ob : ∀ (i : Nat) (m : MO), M[i]? = some m → ∃ a, α[i]? = some a ∧ ObR K α H a m
theorem Wd.there {M : PM} (w : Wd K α M H) {b : Addr} (h : b ∈ α) : ∃ o, H b = some o := by
  obtain ⟨i, hi, e⟩ := List.mem_iff_getElem.mp h
  have hm : i < M.length := by rw [← w.len]; exact hi
  obtain ⟨a, e1, o1⟩ := w.ob i M[i] (List.getElem?_eq_getElem hm)
  have : α[i]? = some b := by rw [List.getElem?_eq_getElem hi, e]
  rw [this] at e1
  cases e1
  exact o1.there
theorem Step.tr {M' : PM} (s : Step α H α' H') (w : Wd K α' M' H') (t : Step α' H' α'' H'') : Step α H α'' H'' := s.trans t fun b hb _ => by
  obtain ⟨β, e, _⟩ := s.ext
  obtain ⟨o, ho⟩ := w.there (b := b) (by rw [e]; exact List.mem_append_left _ hb)
  rw [ho]
  exact fun q => nomatch q
/-- nothing but new objects -/
theorem Step.ex {α : List Addr} (h : ∀ a o, H a = some o → H' a = some o) : Step α H α H' := ⟨⟨[], by simp, fun _ h => by cases h⟩, fun a o e _ => h a o e⟩
theorem Wd.ex {M : PM} (w : Wd K α M H) (h : ∀ a o, H a = some o → H' a = some o) : Wd K α M H' := by
  refine ⟨w.nd, w.len, fun i m e => ?_⟩
  obtain ⟨a, e1, o1⟩ := w.ob i m e
  refine ⟨a, e1, ?_⟩
  cases m with
  | lst ds => obtain ⟨vs, q, r⟩ := o1; exact ⟨vs, h _ _ q, RepL.step (Step.ex h) _ _ r⟩
  | ins C fs => obtain ⟨dx, vs, q, r⟩ := o1; exact ⟨dx, vs, h _ _ q, RepL.step (Step.ex h) _ _ r⟩
theorem ex_new {o : HO} (h : H p = none) : ∀ a u, H a = some u → upd H p o a = some u := fun a u e => by
  rw [upd_ne (ne_of_none e h)]
  exact e
/-- the object i is stored anew -/
theorem Wd.put {M : PM} {i : Nat} {m : MO} {o : HO} (w : Wd K α M H) (ha : α[i]? = some a) (hi : i < M.length) (hr : ∀ H', Step α H α H' → H' a = some o → ObR K α H' a m) :
    Wd K α (M.set i m) (upd H a o) ∧ Step α H α (upd H a o) := by
  have hm : a ∈ α := List.mem_of_getElem? ha
  have st : Step α H α (upd H a o) := ⟨⟨[], by simp, fun _ h => by cases h⟩, fun b u e n => by rw [upd_ne (fun z => n (by rw [z]; exact hm))]; exact e⟩
  refine ⟨⟨w.nd, by rw [List.length_set]; exact w.len, fun j n e => ?_⟩, st⟩
  by_cases hij : i = j
  · subst hij
    rw [List.getElem?_set_self hi] at e
    cases e
    exact ⟨a, ha, hr _ st upd_same⟩
  · rw [List.getElem?_set_ne hij] at e
    obtain ⟨b, e1, o1⟩ := w.ob j n e
    have hb : b ≠ a := fun z => by
      subst z
      have h1 := (List.getElem?_eq_some_iff.mp ha)
      have h2 := (List.getElem?_eq_some_iff.mp e1)
      exact hij ((List.getElem_inj w.nd).mp (h1.2.trans h2.2.symm))
    refine ⟨b, e1, ?_⟩
    cases n with
    | lst ds => obtain ⟨vs, q, r⟩ := o1; exact ⟨vs, by rw [upd_ne hb]; exact q, RepL.step st _ _ r⟩
    | ins C fs => obtain ⟨dx, vs, q, r⟩ := o1; exact ⟨dx, vs, by rw [upd_ne hb]; exact q, RepL.step st _ _ r⟩
/-- a new object that changes -/
theorem Wd.new {M : PM} {m : MO} {o : HO} (w : Wd K α M H) (hn : H a = none) (hr : ∀ H', Step α H (α ++ [a]) H' → H' a = some o → ObR K (α ++ [a]) H' a m) :
    Wd K (α ++ [a]) (M ++ [m]) (upd H a o) ∧ Step α H (α ++ [a]) (upd H a o) := by
  have st : Step α H (α ++ [a]) (upd H a o) := ⟨⟨[a], rfl, fun b h => by rw [List.mem_singleton.mp h]; exact hn⟩, fun b u e _ => ex_new hn b u e⟩
  have na : a ∉ α := fun h => by
    obtain ⟨o, e⟩ := w.there h
    rw [hn] at e
    cases e
  refine ⟨⟨List.nodup_append.mpr ⟨w.nd, by simp, fun x hx y hy z => na (by rw [List.mem_singleton.mp hy] at z; rw [← z]; exact hx)⟩, by simp [w.len], fun j n e => ?_⟩, st⟩
  by_cases hj : j < M.length
  · rw [List.getElem?_append_left hj] at e
    obtain ⟨b, e1, o1⟩ := w.ob j n e
    have hb : b ≠ a := fun z => na (by rw [← z]; exact List.mem_of_getElem? e1)
    refine ⟨b, by rw [List.getElem?_append_left (List.getElem?_eq_some_iff.mp e1).1]; exact e1, ?_⟩
    cases n with
    | lst ds => obtain ⟨vs, q, r⟩ := o1; exact ⟨vs, by rw [upd_ne hb]; exact q, RepL.step st _ _ r⟩
    | ins C fs => obtain ⟨dx, vs, q, r⟩ := o1; exact ⟨dx, vs, by rw [upd_ne hb]; exact q, RepL.step st _ _ r⟩
  · have ej : j = M.length := by
      have := (List.getElem?_eq_some_iff.mp e).1
      rw [List.length_append] at this
      simp at this
      omega
    subst ej
    rw [List.getElem?_append_right (Nat.le_refl _), Nat.sub_self] at e
    have e2 : m = n := Option.some.inj e
    subst e2
    exact ⟨a, by rw [← w.len, List.getElem?_append_right (Nat.le_refl _), Nat.sub_self]; rfl, hr _ st upd_same⟩
/-- the names' values -/
def EnvR (K : PySem.W.Frag) (α : List Addr) (H : Hp) (ρ : Rho) (σ : St) : Prop := ρ.length = σ.length ∧ ∀ (i : Nat) (d : D), ρ[i]? = some (some d) → ∃ v, σ[i]? = some (some v) ∧ Rep K α H d v
theorem EnvR.step {ρ : Rho} {σ : St} (e : EnvR K α H ρ σ) (s : Step α H α' H') : EnvR K α' H' ρ σ := ⟨e.1, fun i d h => by
  obtain ⟨v, h1, h2⟩ := e.2 i d h
  exact ⟨v, h1, Rep.step s _ _ h2⟩⟩
theorem EnvR.set {ρ : Rho} {σ : St} {i : Nat} {d : D} {v : V} (e : EnvR K α H ρ σ) (r : Rep K α H d v) : EnvR K α H (ρ.set i (some d)) (σ.set i (some v)) := by
  refine ⟨by rw [List.length_set, List.length_set]; exact e.1, fun j d' h => ?_⟩
  by_cases hij : i = j
  · subst hij
    by_cases hl : i < ρ.length
    · rw [List.getElem?_set_self hl] at h
      have : d = d' := Option.some.inj (Option.some.inj h)
      subst this
      exact ⟨v, by rw [List.getElem?_set_self (by rw [← e.1]; exact hl)], r⟩
    · rw [List.set_eq_of_length_le (by omega)] at h
      exact absurd (List.getElem?_eq_some_iff.mp h).1 hl
  · rw [List.getElem?_set_ne hij] at h
    obtain ⟨v', h1, h2⟩ := e.2 j d' h
    exact ⟨v', by rw [List.getElem?_set_ne hij]; exact h1, h2⟩
/-- an exception's own dict -/
def XRep (K : PySem.W.Frag) (α : List Addr) (H : Hp) : Option (List (Str × D)) → Option Addr → Prop
  | none, od => od = none
  | some fs, od => ∃ (dd : Addr) (vs : List V), od = some dd ∧ H dd = some (.xd ((fs.map (·.1)).zip vs)) ∧ RepL K α H (fs.map (·.2)) vs
/-- what is wanted behind a piece -/
def Post {A B : Type} (R : List Addr → Hp → A → B → Prop) (K : PySem.W.Frag) (α : List Addr) (H : Hp) (Q : B → Hp → Prop) (E : XK) : Out A → Prop
  | .ok a M' => ∀ b α' H', Step α H α' H' → Wd K α' M' H' → R α' H' a b → Q b H'
  | .exn c fs M' => ∀ od α' H', Step α H α' H' → Wd K α' M' H' → XRep K α' H' fs od → E c od H'
  | .bad => False
theorem Post.step {A B : Type} {R : List Addr → Hp → A → B → Prop} {Q : B → Hp → Prop} {E : XK} {M : PM} {o : Out A} (h : Post R K α H Q E o) (s : Step α H α' H') (w : Wd K α' M H') : Post R K α' H' Q E o := by
  cases o with
  | ok a M' => exact fun b β G t x r => h b β G (s.tr w t) x r
  | exn c fs M' => exact fun od β G t x r => h od β G (s.tr w t) x r
  | bad => exact h
def RX {A B : Type} (R : List Addr → Hp → A → B → Prop) (K : PySem.W.Frag) (E : XK) (t : St → Hp → (B → Hp → Prop) → Prop) (f : Rho → PM → Out A) : Prop :=
  ∀ ρ σ H α M Q, EnvR K α H ρ σ → Wd K α M H → Post R K α H Q E (f ρ M) → t σ H Q
abbrev RE (K : PySem.W.Frag) (E : XK) (t : TE) (f : Rho → PM → Out D) : Prop := RX (Rep K) K E t f
abbrev RT (K : PySem.W.Frag) (E : XK) (t : TT) (f : Rho → PM → Out Bool) : Prop := RX (fun _ _ a b => a = b) K E t f
abbrev RA (K : PySem.W.Frag) (E : XK) (t : TA) (f : Rho → PM → Out (List D)) : Prop := RX (RepL K) K E t f
/-- THE CHAIN: a piece, then what follows with its value -/
theorem bnd {A B A' B' : Type} {R : List Addr → Hp → A → B → Prop} {R' : List Addr → Hp → A' → B' → Prop} {Q : B' → Hp → Prop} {E : XK} {o : Out A} {g : A → PM → Out A'} {C : B → Hp → Prop}
    (hp : Post R' K α H Q E (o.bind g)) (k : ∀ a M' b α' H', o = .ok a M' → Step α H α' H' → Wd K α' M' H' → R α' H' a b → Post R' K α' H' Q E (g a M') → C b H') : Post R K α H C E o := by
  cases o with
  | ok a M' => exact fun b α' H' s w r => k a M' b α' H' rfl s w r (Post.step hp s w)
  | exn c fs M' => exact hp
  | bad => exact hp
end
end Pd

set_option Elab.async false
set_option linter.all false
set_option maxRecDepth 100000
set_option maxHeartbeats 1000000
namespace Pd
open PySem L2

/-! ### pieces as functions of plain values -/
abbrev FE := Rho → PM → Out D
abbrev FT := Rho → PM → Out Bool
abbrev FA := Rho → PM → Out (List D)
abbrev FO := Rho → PM → Out (Option Int)
inductive Fl where
  | nx (ρ : Rho) | rt (d : D) | bk (ρ : Rho) | ct (ρ : Rho)
abbrev FS := Rho → PM → Out Fl
abbrev FG := D → Rho → PM → Out Rho
abbrev FGs := List D → Rho → PM → Out Rho
def pVar (i : Nat) : FE := fun ρ M => match ρ[i]? with | some (some d) => .ok d M | _ => .bad
def pC (d : D) : FE := fun _ M => .ok d M
def pOp (g : PM → D → D → Out D) (fa fb : FE) : FE := fun ρ M => (fa ρ M).bind fun a M1 => (fb ρ M1).bind fun b M2 => g M2 a b
def pUn (g : PM → D → Out D) (fa : FE) : FE := fun ρ M => (fa ρ M).bind fun a M1 => g M1 a
def asB : D → PM → Out Bool
  | .bl b, M => .ok b M
  | _, _ => .bad
def pTest (fa : FE) : FT := fun ρ M => (fa ρ M).bind asB
def pAnd (f g : FT) : FT := fun ρ M => (f ρ M).bind fun b M1 => if b = true then g ρ M1 else .ok false M1
def pOr (f g : FT) : FT := fun ρ M => (f ρ M).bind fun b M1 => if b = true then .ok true M1 else g ρ M1
def pNot (f : FT) : FT := fun ρ M => (f ρ M).bind fun b M1 => .ok (!b) M1
def pIf (c : FT) (f g : FE) : FE := fun ρ M => (c ρ M).bind fun b M1 => if b = true then f ρ M1 else g ρ M1
def pAndV (f g : FE) : FE := fun ρ M => (f ρ M).bind fun a M1 => (asB a M1).bind fun b M1 => if b = true then g ρ M1 else .ok (.bl false) M1
def pOrV (f g : FE) : FE := fun ρ M => (f ρ M).bind fun a M1 => (asB a M1).bind fun b M1 => if b = true then .ok (.bl true) M1 else g ρ M1
def pNotV (f : FE) : FE := fun ρ M => (f ρ M).bind fun a M1 => (asB a M1).bind fun b M1 => .ok (.bl (!b)) M1
def aNil : FA := fun _ M => .ok [] M
def aCons (f : FE) (g : FA) : FA := fun ρ M => (f ρ M).bind fun a M1 => (g ρ M1).bind fun as M2 => .ok (a :: as) M2
/-- 16,777,216: the longest list, tuple or text -/
abbrev line : Nat := 16777216
def pTup (f : FA) : FE := fun ρ M => (f ρ M).bind fun as M1 => if as.length ≤ line then .ok (.tup as) M1 else .bad
def pLst (f : FA) : FE := fun ρ M => (f ρ M).bind fun as M1 => if as.length ≤ line then .ok (.lst as) M1 else .bad
/-- a list that is to change -/
def pNew (f : FA) : FE := fun ρ M => (f ρ M).bind fun as M1 => if as.length ≤ line then .ok (.adr M1.length) (M1 ++ [.lst as]) else .bad
def pCall (Φ : List D → PM → Out D) (f : FA) : FE := fun ρ M => (f ρ M).bind Φ
def pCB (g : PM → List D → Out D) (f : FA) : FE := fun ρ M => (f ρ M).bind fun as M1 => g M1 as
def oNone : FO := fun _ M => .ok none M
def oSome (f : FE) : FO := fun ρ M => (f ρ M).bind fun a M1 => match a with | .int i => .ok (some i) M1 | _ => .bad
def pSl (g : PM → D → Option Int → Option Int → Out D) (f : FE) (fl fh : FO) : FE := fun ρ M => (f ρ M).bind fun a M1 => (fl ρ M1).bind fun l M2 => (fh ρ M2).bind fun h M3 => g M3 a l h
def gor (g g' : PM → D → D → Out D) : PM → D → D → Out D := fun M a b => match g M a b with | .bad => g' M a b | o => o
/-! statements -/
def sNext : FS := fun ρ M => .ok (.nx ρ) M
def sSeq (f g : FS) : FS := fun ρ M => (f ρ M).bind fun fl M1 => match fl with | .nx ρ' => g ρ' M1 | fl => .ok fl M1
def sAsg (f : FE) (g : FG) : FS := fun ρ M => (f ρ M).bind fun d M1 => (g d ρ M1).bind fun ρ' M2 => .ok (.nx ρ') M2
def sDrop (f : FE) : FS := fun ρ M => (f ρ M).bind fun _ M1 => .ok (.nx ρ) M1
def sRet (f : FE) : FS := fun ρ M => (f ρ M).bind fun d M1 => .ok (.rt d) M1
def sRetN : FS := fun _ M => .ok (.rt .non) M
def sIf (c : FT) (f g : FS) : FS := fun ρ M => (c ρ M).bind fun b M1 => if b = true then f ρ M1 else g ρ M1
def sBreak : FS := fun ρ M => .ok (.bk ρ) M
def sCont : FS := fun ρ M => .ok (.ct ρ) M
def fName (i : Nat) : FG := fun d ρ M => .ok (ρ.set i (some d)) M
def fNil : FGs := fun ds ρ M => match ds with | [] => .ok ρ M | _ => .bad
def fCons (f : FG) (g : FGs) : FGs := fun ds ρ M => match ds with | d :: r => (f d ρ M).bind fun ρ1 M1 => g r ρ1 M1 | [] => .bad
def fTup (n : Nat) (g : FGs) : FG := fun d ρ M => match d with | .tup ds => if ds.length = n then g ds ρ M else .bad | _ => .bad
/-- what is stored at o[i] -/
def putL (M : PM) (o i v : D) : Out Unit := match o, i with
  | .adr k, .int j => match M[k]? with
    | some (.lst ds) => match ixN ds.length j with
      | some n => .ok () (M.set k (.lst (ds.set n v)))
      | none => .bad
    | _ => .bad
  | _, _ => .bad
def fSub (fo fi : FE) : FG := fun d ρ M => (fo ρ M).bind fun o M1 => (fi ρ M1).bind fun i M2 => (putL M2 o i d).bind fun _ M3 => .ok ρ M3
def sWhile (c : FT) (b : FS) : Nat → FS
  | 0, _, _ => .bad
  | n + 1, ρ, M => (c ρ M).bind fun k M1 => if k = true then (b ρ M1).bind fun fl M2 => match fl with
      | .nx ρ' => sWhile c b n ρ' M2
      | .ct ρ' => sWhile c b n ρ' M2
      | .bk ρ' => .ok (.nx ρ') M2
      | .rt d => .ok (.rt d) M2
    else .ok (.nx ρ) M1
def sEach (g : FG) (b : FS) : List D → FS
  | [], ρ, M => .ok (.nx ρ) M
  | d :: ds, ρ, M => (g d ρ M).bind fun ρ1 M1 => (b ρ1 M1).bind fun fl M2 => match fl with
      | .nx ρ' => sEach g b ds ρ' M2
      | .ct ρ' => sEach g b ds ρ' M2
      | .bk ρ' => .ok (.nx ρ') M2
      | .rt d => .ok (.rt d) M2
def sFor (w : FA) (g : FG) (b : FS) : FS := fun ρ M => (w ρ M).bind fun ds M1 => sEach g b ds ρ M1
def sAug (i : Nat) (f : FE) (g : PM → D → D → Out D) : FS := fun ρ M => match ρ[i]? with
  | some (some x) => (f ρ M).bind fun y M1 => (g M1 x y).bind fun z M2 => .ok (.nx (ρ.set i (some z))) M2
  | _ => .bad

/-! ### they are read so -/
inductive FlV where
  | nx (σ : St) | rt (v : V) | bk (σ : St) | ct (σ : St)
def FlR (K : PySem.W.Frag) (α : List Addr) (H : Hp) : Fl → FlV → Prop
  | .nx ρ, .nx σ => EnvR K α H ρ σ
  | .rt d, .rt v => Rep K α H d v
  | .bk ρ, .bk σ => EnvR K α H ρ σ
  | .ct ρ, .ct σ => EnvR K α H ρ σ
  | _, _ => False
def endQ (D : Ends) : FlV → Hp → Prop
  | .nx σ, H => D.nx σ H
  | .rt v, H => D.rt v H
  | .bk σ, H => D.bk σ H
  | .ct σ, H => D.ct σ H
def RS (K : PySem.W.Frag) (E : XK) (t : TS) (f : FS) : Prop :=
  ∀ ρ σ H α M D, EnvR K α H ρ σ → Wd K α M H → Post (FlR K) K α H (endQ D) E (f ρ M) → t D σ H
def RG (K : PySem.W.Frag) (E : XK) (g : TG) (f : FG) : Prop :=
  ∀ ρ σ H α M d v Q, EnvR K α H ρ σ → Wd K α M H → Rep K α H d v → Post (EnvR K) K α H Q E (f d ρ M) → g v σ H Q
def RGs (K : PySem.W.Frag) (E : XK) (g : TGs) (f : FGs) : Prop :=
  ∀ ρ σ H α M ds vs Q, EnvR K α H ρ σ → Wd K α M H → RepL K α H ds vs → Post (EnvR K) K α H Q E (f ds ρ M) → g vs σ H Q
abbrev RO (K : PySem.W.Frag) (E : XK) (t : TO) (f : FO) : Prop := RX (fun _ _ a b => a = b) K E t f
/-- what a for walks: the items as they come -/
def ItR (K : PySem.W.Frag) (α : List Addr) (H : Hp) (ds : List D) (J : It) : Prop :=
  ∀ α' H', Step α H α' H' → ∀ i : Nat, (∀ d, ds[i]? = some d → J.go i H' ∧ ∀ x H'', J.yld i H' x H'' → (∀ a o, H' a = some o → H'' a = some o) ∧ Rep K α' H'' d x) ∧ (ds.length ≤ i → J.stop i H')
abbrev RI (K : PySem.W.Frag) (E : XK) (t : TI) (f : FA) : Prop := RX (ItR K) K E t f
/-- a two-place operation by values; a built-in's call by values -/
def OpD (K : PySem.W.Frag) (E : XK) (r : R2) (g : PM → D → D → Out D) : Prop :=
  ∀ α H M a b x y Q, Wd K α M H → Rep K α H a x → Rep K α H b y → Post (Rep K) K α H Q E (g M a b) → r x y H Q
def UnD (K : PySem.W.Frag) (E : XK) (r : V → Hp → VK → Prop) (g : PM → D → Out D) : Prop :=
  ∀ α H M a x Q, Wd K α M H → Rep K α H a x → Post (Rep K) K α H Q E (g M a) → r x H Q
def CbD (K : PySem.W.Frag) (E : XK) (r : List V → Hp → VK → Prop) (g : PM → List D → Out D) : Prop :=
  ∀ α H M as xs Q, Wd K α M H → RepL K α H as xs → Post (Rep K) K α H Q E (g M as) → r xs H Q
def SlD (K : PySem.W.Frag) (E : XK) (r : V → Option Int → Option Int → Hp → VK → Prop) (g : PM → D → Option Int → Option Int → Out D) : Prop :=
  ∀ α H M a x lo hi Q, Wd K α M H → Rep K α H a x → Post (Rep K) K α H Q E (g M a lo hi) → r x lo hi H Q
section
variable {K : PySem.W.Frag} {E : XK} {ta tb te : TE} {fa fb fe : FE} {t u : TT} {f g : FT}
theorem line_eq : line = sizeLine := by rw [sizeLine_eq]
/-- the value itself, the heap as it was -/
theorem Post.now {A B : Type} {R : List Addr → Hp → A → B → Prop} {α : List Addr} {H : Hp} {Q : B → Hp → Prop} {a : A} {b : B} {M : PM} (h : Post R K α H Q E (.ok a M)) (w : Wd K α M H) (r : R α H a b) : Q b H := h b α H (Step.refl _ _) w r
/-- .. nothing but new objects -/
theorem Post.nowX {A B : Type} {R : List Addr → Hp → A → B → Prop} {α : List Addr} {H H' : Hp} {Q : B → Hp → Prop} {a : A} {b : B} {M : PM} (h : Post R K α H Q E (.ok a M)) (w : Wd K α M H) (x : ∀ a o, H a = some o → H' a = some o) (r : R α H' a b) : Q b H' := h b α H' (Step.ex x) (w.ex x) r
theorem r_var {i : Nat} : RE K E (tVar i) (pVar i) := by
  intro ρ σ H α M Q e w h
  unfold pVar at h
  split at h
  · rename_i d hd
    obtain ⟨v, h1, h2⟩ := e.2 i d hd
    exact ⟨v, h1, h.now w h2⟩
  · exact h.elim
theorem r_c {d : D} {v : V} (r : ∀ α H, Rep K α H d v) : RE K E (tC v) (pC d) := fun ρ σ H α M Q e w h => h.now w (r α H)
theorem r_op {r : R2} {g : PM → D → D → Out D} (ha : RE K E ta fa) (hb : RE K E tb fb) (ho : OpD K E r g) : RE K E (tOp r ta tb) (pOp g fa fb) := fun ρ σ H α M Q e w h =>
  ha ρ σ H α M _ e w (bnd h fun a M1 x α1 H1 _ s1 w1 r1 h1 => hb ρ σ H1 α1 M1 _ (e.step s1) w1 (bnd h1 fun b M2 y α2 H2 _ s2 w2 r2 h2 => ho α2 H2 M2 a b x y Q w2 (Rep.step s2 _ _ r1) r2 h2))
theorem r_un {r : V → Hp → VK → Prop} {g : PM → D → Out D} (ha : RE K E ta fa) (ho : UnD K E r g) : RE K E (tUn r ta) (pUn g fa) := fun ρ σ H α M Q e w h =>
  ha ρ σ H α M _ e w (bnd h fun a M1 x α1 H1 _ s1 w1 r1 h1 => ho α1 H1 M1 a x Q w1 r1 h1)
theorem asB_ok {α : List Addr} {H : Hp} {a : D} {x : V} {M : PM} {A B : Type} {R : List Addr → Hp → A → B → Prop} {Q : B → Hp → Prop} {g : Bool → PM → Out A} (r : Rep K α H a x) (h : Post R K α H Q E ((asB a M).bind g)) : ∃ b, a = .bl b ∧ x = .bl b ∧ Post R K α H Q E (g b M) := by
  cases a with
  | bl b => cases r; exact ⟨b, rfl, rfl, h⟩
  | _ => exact h.elim
theorem r_test (ha : RE K E te fe) : RT K E (tTest te) (pTest fe) := fun ρ σ H α M Q e w h =>
  ha ρ σ H α M _ e w (bnd h fun a M1 x α1 H1 _ s1 w1 r1 h1 => by
    cases a with
    | bl b => cases r1; exact ⟨b, rfl, h1.now w1 rfl⟩
    | _ => exact h1.elim)
theorem r_tB (ha : RE K E te fe) : RT K E (tB te) (pTest fe) := r_test ha
theorem r_and (h1 : RT K E t f) (h2 : RT K E u g) : RT K E (tAnd t u) (pAnd f g) := fun ρ σ H α M Q e w h =>
  h1 ρ σ H α M _ e w (bnd h fun b M1 x α1 H1 _ s1 w1 r1 q => by
    subst r1
    cases b with
    | true => rw [if_pos rfl] at q ⊢; exact h2 ρ σ H1 α1 M1 Q (e.step s1) w1 q
    | false => rw [if_neg Bool.false_ne_true] at q ⊢; exact q.now w1 rfl)
theorem r_or (h1 : RT K E t f) (h2 : RT K E u g) : RT K E (tOr t u) (pOr f g) := fun ρ σ H α M Q e w h =>
  h1 ρ σ H α M _ e w (bnd h fun b M1 x α1 H1 _ s1 w1 r1 q => by
    subst r1
    cases b with
    | true => rw [if_pos rfl] at q ⊢; exact q.now w1 rfl
    | false => rw [if_neg Bool.false_ne_true] at q ⊢; exact h2 ρ σ H1 α1 M1 Q (e.step s1) w1 q)
theorem r_not (h1 : RT K E t f) : RT K E (tNot t) (pNot f) := fun ρ σ H α M Q e w h =>
  h1 ρ σ H α M _ e w (bnd h fun b M1 x α1 H1 _ s1 w1 r1 q => by
    subst r1
    exact q.now w1 rfl)
theorem r_if (hc : RT K E t f) (h1 : RE K E ta fa) (h2 : RE K E tb fb) : RE K E (tIf t ta tb) (pIf f fa fb) := fun ρ σ H α M Q e w h =>
  hc ρ σ H α M _ e w (bnd h fun b M1 x α1 H1 _ s1 w1 r1 q => by
    subst r1
    cases b with
    | true => rw [if_pos rfl] at q ⊢; exact h1 ρ σ H1 α1 M1 Q (e.step s1) w1 q
    | false => rw [if_neg Bool.false_ne_true] at q ⊢; exact h2 ρ σ H1 α1 M1 Q (e.step s1) w1 q)
theorem r_andV (h1 : RE K E ta fa) (h2 : RE K E tb fb) : RE K E (tAndV ta tb) (pAndV fa fb) := fun ρ σ H α M Q e w h =>
  h1 ρ σ H α M _ e w (bnd h fun a M1 x α1 H1 _ s1 w1 r1 q => by
    obtain ⟨b, rfl, rfl, q⟩ := asB_ok r1 q
    refine ⟨b, rfl, ?_⟩
    cases b with
    | true => rw [if_pos rfl] at q ⊢; exact h2 ρ σ H1 α1 M1 Q (e.step s1) w1 q
    | false => rw [if_neg Bool.false_ne_true] at q ⊢; exact q.now w1 (.bl false))
theorem r_orV (h1 : RE K E ta fa) (h2 : RE K E tb fb) : RE K E (tOrV ta tb) (pOrV fa fb) := fun ρ σ H α M Q e w h =>
  h1 ρ σ H α M _ e w (bnd h fun a M1 x α1 H1 _ s1 w1 r1 q => by
    obtain ⟨b, rfl, rfl, q⟩ := asB_ok r1 q
    refine ⟨b, rfl, ?_⟩
    cases b with
    | true => rw [if_pos rfl] at q ⊢; exact q.now w1 (.bl true)
    | false => rw [if_neg Bool.false_ne_true] at q ⊢; exact h2 ρ σ H1 α1 M1 Q (e.step s1) w1 q)
theorem r_notV (h1 : RE K E ta fa) : RE K E (tNotV ta) (pNotV fa) := fun ρ σ H α M Q e w h =>
  h1 ρ σ H α M _ e w (bnd h fun a M1 x α1 H1 _ s1 w1 r1 q => by
    obtain ⟨b, rfl, rfl, q⟩ := asB_ok r1 q
    exact ⟨b, rfl, q.now w1 (.bl _)⟩)
theorem r_nil : RA K E tNil aNil := fun ρ σ H α M Q e w h => h.now w .nil
theorem r_cons {tr : TA} {fr : FA} (ha : RE K E ta fa) (hr : RA K E tr fr) : RA K E (tCons ta tr) (aCons fa fr) := fun ρ σ H α M Q e w h =>
  ha ρ σ H α M _ e w (bnd h fun a M1 x α1 H1 _ s1 w1 r1 h1 => hr ρ σ H1 α1 M1 _ (e.step s1) w1 (bnd h1 fun b M2 y α2 H2 _ s2 w2 r2 h2 => h2.now w2 (.cons (Rep.step s2 _ _ r1) r2)))
theorem new_tup {α : List Addr} {H : Hp} {p : Addr} {ds : List D} {xs : List V} {M : PM} (w : Wd K α M H) (hp : H p = none) (r : RepL K α H ds xs) : Rep K α (upd H p (.tup xs)) (.tup ds) (.ref p) :=
  .tup (.inl ⟨.inl upd_same, fun h => by
    obtain ⟨o, e⟩ := w.there h
    rw [hp] at e
    cases e⟩) (RepL.step (Step.ex (ex_new hp)) _ _ r)
theorem new_lst {α : List Addr} {H : Hp} {p : Addr} {ds : List D} {xs : List V} {M : PM} (w : Wd K α M H) (hp : H p = none) (r : RepL K α H ds xs) : Rep K α (upd H p (.lst xs)) (.lst ds) (.ref p) :=
  .lst ⟨upd_same, fun h => by
    obtain ⟨o, e⟩ := w.there h
    rw [hp] at e
    cases e⟩ (RepL.step (Step.ex (ex_new hp)) _ _ r)
theorem ifb {A B : Type} {R : List Addr → Hp → A → B → Prop} {α : List Addr} {H : Hp} {Q : B → Hp → Prop} {c : Prop} [Decidable c] {o : Out A} (h : Post R K α H Q E (if c then o else .bad)) : c ∧ Post R K α H Q E o := by
  by_cases hc : c
  · rw [if_pos hc] at h; exact ⟨hc, h⟩
  · rw [if_neg hc] at h; exact h.elim
theorem r_tup {ta : TA} {fa : FA} (ha : RA K E ta fa) : RE K E (tTup ta) (pTup fa) := fun ρ σ H α M Q e w h =>
  ha ρ σ H α M _ e w (bnd h fun as M1 xs α1 H1 _ s1 w1 r1 q => by
    obtain ⟨hl, q⟩ := ifb q
    rw [r1.length, line_eq] at hl
    exact ⟨hl, fun p hp => q.nowX w1 (ex_new hp) (new_tup w1 hp r1)⟩)
theorem r_lst {ta : TA} {fa : FA} (ha : RA K E ta fa) : RE K E (tLst ta) (pLst fa) := fun ρ σ H α M Q e w h =>
  ha ρ σ H α M _ e w (bnd h fun as M1 xs α1 H1 _ s1 w1 r1 q => by
    obtain ⟨hl, q⟩ := ifb q
    rw [r1.length, line_eq] at hl
    exact ⟨hl, fun p hp => q.nowX w1 (ex_new hp) (new_lst w1 hp r1)⟩)
theorem r_new {ta : TA} {fa : FA} (ha : RA K E ta fa) : RE K E (tLst ta) (pNew fa) := fun ρ σ H α M Q e w h =>
  ha ρ σ H α M _ e w (bnd h fun as M1 xs α1 H1 _ s1 w1 r1 q => by
    obtain ⟨hl, q⟩ := ifb q
    rw [r1.length, line_eq] at hl
    refine ⟨hl, fun p hp => ?_⟩
    obtain ⟨w2, s2⟩ := w1.new (m := .lst as) (o := .lst xs) hp fun H' st e => ⟨xs, e, RepL.step st _ _ r1⟩
    exact q _ _ _ s2 w2 (.adr (by rw [← w1.len, List.getElem?_append_right (Nat.le_refl _), Nat.sub_self]; rfl)))
/-- a def's promise -/
def spP (K : PySem.W.Frag) (Φ : List D → PM → Out D) : Sp := fun vs H Q E => ∃ ds α M, Wd K α M H ∧ RepL K α H ds vs ∧ Post (Rep K) K α H Q E (Φ ds M)
theorem r_call {ta : TA} {fa : FA} {Φ : List D → PM → Out D} (ha : RA K E ta fa) : RE K E (tCall (spP K Φ) [] E ta) (pCall Φ fa) := fun ρ σ H α M Q e w h =>
  ha ρ σ H α M _ e w (bnd h fun as M1 xs α1 H1 _ s1 w1 r1 q => by
    show spP K Φ (xs ++ []) H1 Q E
    rw [List.append_nil]
    exact ⟨as, α1, M1, w1, r1, q⟩)
theorem r_cb {ta : TA} {fa : FA} {r : List V → Hp → VK → Prop} {g : PM → List D → Out D} (ha : RA K E ta fa) (hc : CbD K E r g) : RE K E (tCB r ta) (pCB g fa) := fun ρ σ H α M Q e w h =>
  ha ρ σ H α M _ e w (bnd h fun as M1 xs α1 H1 _ s1 w1 r1 q => hc α1 H1 M1 as xs Q w1 r1 q)
theorem r_oNone : RO K E tNoPart oNone := fun ρ σ H α M Q e w h => h.now w rfl
theorem r_oSome (ha : RE K E te fe) : RO K E (tPart te) (oSome fe) := fun ρ σ H α M Q e w h =>
  ha ρ σ H α M _ e w (bnd h fun a M1 x α1 H1 _ s1 w1 r1 q => by
    cases a with
    | int i => cases r1; exact ⟨i, rfl, q.now w1 rfl⟩
    | _ => exact q.elim)
theorem r_sl {tl th : TO} {fl fh : FO} {r : V → Option Int → Option Int → Hp → VK → Prop} {g : PM → D → Option Int → Option Int → Out D} (he : RE K E te fe) (hl : RO K E tl fl) (hh : RO K E th fh) (hs : SlD K E r g) : RE K E (tSl r te tl th) (pSl g fe fl fh) := fun ρ σ H α M Q e w h =>
  he ρ σ H α M _ e w (bnd h fun a M1 x α1 H1 _ s1 w1 r1 h1 => hl ρ σ H1 α1 M1 _ (e.step s1) w1 (bnd h1 fun l M2 l' α2 H2 _ s2 w2 r2 h2 => by
    subst r2
    exact hh ρ σ H2 α2 M2 _ ((e.step s1).step s2) w2 (bnd h2 fun u M3 u' α3 H3 _ s3 w3 r3 h3 => by
      subst r3
      exact hs α3 H3 M3 a x l u Q w3 (Rep.step s3 _ _ (Rep.step s2 _ _ r1)) h3)))
theorem OpD.or {r r' : R2} {g g' : PM → D → D → Out D} (h : OpD K E r g) (h' : OpD K E r' g') : OpD K E (fun x y H Q => r x y H Q ∨ r' x y H Q) (gor g g') := fun α H M a b x y Q w ra rb q => by
  unfold gor at q
  split at q
  · exact .inr (h' α H M a b x y Q w ra rb q)
  · exact .inl (h α H M a b x y Q w ra rb q)
/-! statements -/
theorem s_next : RS K E tNext sNext := fun ρ σ H α M D e w h => h.now (b := FlV.nx σ) w e
theorem s_seq {t u : TS} {f g : FS} (h1 : RS K E t f) (h2 : RS K E u g) : RS K E (tSeq t u) (sSeq f g) := fun ρ σ H α M D e w h =>
  h1 ρ σ H α M { D with nx := u D } e w (bnd h fun fl M1 b α1 H1 _ s1 w1 r1 q => by
    cases fl with
    | nx ρ' =>
      cases b with
      | nx σ' => exact h2 ρ' σ' H1 α1 M1 D r1 w1 q
      | _ => exact r1.elim
    | rt d =>
      cases b with
      | rt v => exact q.now (b := FlV.rt v) w1 r1
      | _ => exact r1.elim
    | bk ρ' =>
      cases b with
      | bk σ' => exact q.now (b := FlV.bk σ') w1 r1
      | _ => exact r1.elim
    | ct ρ' =>
      cases b with
      | ct σ' => exact q.now (b := FlV.ct σ') w1 r1
      | _ => exact r1.elim)
theorem s_asg {g : TG} {fg : FG} (ha : RE K E te fe) (hg : RG K E g fg) : RS K E (tAsg te g) (sAsg fe fg) := fun ρ σ H α M D e w h =>
  ha ρ σ H α M _ e w (bnd h fun d M1 v α1 H1 _ s1 w1 r1 q => hg ρ σ H1 α1 M1 d v D.nx (e.step s1) w1 r1 (bnd q fun ρ' M2 σ' α2 H2 _ s2 w2 r2 q2 => q2.now (b := FlV.nx σ') w2 r2))
theorem s_drop (ha : RE K E te fe) : RS K E (tDrop te) (sDrop fe) := fun ρ σ H α M D e w h =>
  ha ρ σ H α M _ e w (bnd h fun d M1 v α1 H1 _ s1 w1 r1 q => q.now (b := FlV.nx σ) w1 (e.step s1))
theorem s_ret (ha : RE K E te fe) : RS K E (tRet te) (sRet fe) := fun ρ σ H α M D e w h =>
  ha ρ σ H α M _ e w (bnd h fun d M1 v α1 H1 _ s1 w1 r1 q => q.now (b := FlV.rt v) w1 r1)
theorem s_retN : RS K E tRetN sRetN := fun ρ σ H α M D e w h => h.now (b := FlV.rt V.non) w Rep.non
theorem s_break : RS K E tBreak sBreak := fun ρ σ H α M D e w h => h.now (b := FlV.bk σ) w e
theorem s_cont : RS K E tCont sCont := fun ρ σ H α M D e w h => h.now (b := FlV.ct σ) w e
theorem s_if {t u : TS} {c : TT} {fc : FT} {f g : FS} (hc : RT K E c fc) (h1 : RS K E t f) (h2 : RS K E u g) : RS K E (tIfS c t u) (sIf fc f g) := fun ρ σ H α M D e w h =>
  hc ρ σ H α M _ e w (bnd h fun b M1 x α1 H1 _ s1 w1 r1 q => by
    subst r1
    cases b with
    | true => rw [if_pos rfl] at q ⊢; exact h1 ρ σ H1 α1 M1 D (e.step s1) w1 q
    | false => rw [if_neg Bool.false_ne_true] at q ⊢; exact h2 ρ σ H1 α1 M1 D (e.step s1) w1 q)
theorem g_name {i : Nat} : RG K E (gName i) (fName i) := fun ρ σ H α M d v Q e w r h => h.now w (e.set r)
theorem g_nil : RGs K E gNil fNil := fun ρ σ H α M ds vs Q e w r h => by
  cases ds with
  | nil => cases r; exact ⟨rfl, h.now w e⟩
  | cons d ds => exact h.elim
theorem g_cons {g : TG} {gs : TGs} {f : FG} {fs : FGs} (h1 : RG K E g f) (h2 : RGs K E gs fs) : RGs K E (gCons g gs) (fCons f fs) := fun ρ σ H α M ds vs Q e w r h => by
  cases ds with
  | nil => exact h.elim
  | cons d ds =>
    cases r with
    | @cons _ _ v vs rd rs =>
      exact ⟨v, vs, rfl, h1 ρ σ H α M d v _ e w rd (bnd h fun ρ1 M1 σ1 α1 H1 _ s1 w1 r1 q => h2 ρ1 σ1 H1 α1 M1 ds vs Q r1 w1 (RepL.step s1 _ _ rs) q)⟩
theorem g_tup {n : Nat} {gs : TGs} {fs : FGs} (h : RGs K E gs fs) : RG K E (gTup K n gs) (fTup n fs) := fun ρ σ H α M d v Q e w r q => by
  cases d with
  | tup ds =>
    cases r with
    | tup t rs =>
      obtain ⟨hl, q⟩ := ifb q
      exact ⟨_, _, rfl, t.sq, by rw [← rs.length]; exact hl, h ρ σ H α M ds _ Q e w rs q⟩
  | _ => exact q.elim
theorem put_ok {α : List Addr} {H : Hp} {M : PM} {o i d : D} {x y v : V} {Q : Hp → Prop} (w : Wd K α M H) (ro : Rep K α H o x) (ri : Rep K α H i y) (rv : Rep K α H d v) {A B : Type} {R : List Addr → Hp → A → B → Prop} {C : B → Hp → Prop} {g : Unit → PM → Out A}
    (h : Post R K α H C E ((putL M o i d).bind g)) (k : ∀ M' H', Step α H α H' → Wd K α M' H' → Post R K α H' C E (g () M') → Q H') : rSetL x y v H Q := by
  unfold putL at h
  split at h
  · rename_i n j
    cases ro with
    | adr ha =>
      cases ri
      split at h
      · rename_i ds hm
        split at h
        · rename_i q hq
          obtain ⟨a', e1, vs, e2, e3⟩ := w.ob _ _ hm
          rw [ha] at e1
          cases e1
          refine ⟨_, vs, j, q, rfl, rfl, e2, by rw [← e3.length]; exact hq, ?_⟩
          obtain ⟨w2, s2⟩ := w.put (m := .lst (ds.set q d)) (o := .lst (vs.set q v)) ha (List.getElem?_eq_some_iff.mp hm).1 fun H' st e => ⟨_, e, RepL.step st _ _ (e3.set rv q)⟩
          exact k _ _ s2 w2 (Post.step h s2 w2)
        · exact h.elim
      · exact h.elim
  · exact h.elim
theorem g_sub {to ti : TE} {fo fi : FE} (ho : RE K E to fo) (hi : RE K E ti fi) : RG K E (gSub to ti rSetL) (fSub fo fi) := fun ρ σ H α M d v Q e w r h =>
  ho ρ σ H α M _ e w (bnd h fun o M1 x α1 H1 _ s1 w1 r1 h1 => hi ρ σ H1 α1 M1 _ (e.step s1) w1 (bnd h1 fun i M2 y α2 H2 _ s2 w2 r2 h2 =>
    put_ok w2 (Rep.step s2 _ _ r1) r2 (Rep.step s2 _ _ (Rep.step s1 _ _ r)) h2 fun M' H' s3 w3 q => q.now w3 (((e.step s1).step s2).step s3)))
theorem s_while {c : TT} {tb : TS} {fc : FT} {fb : FS} (n : Nat) (hc : RT K E c fc) (hb : RS K E tb fb) : RS K E (tWhile c tb) (sWhile fc fb n) := fun ρ σ H α M D e w h => by
  refine ⟨fun m σ H => ∃ ρ α M, EnvR K α H ρ σ ∧ Wd K α M H ∧ Post (FlR K) K α H (endQ D) E (sWhile fc fb m ρ M), ⟨n, ρ, α, M, e, w, h⟩, ?_⟩
  rintro m σ1 H1 ⟨ρ1, α1, M1, e1, w1, h1⟩
  cases m with
  | zero => exact h1.elim
  | succ m =>
    refine hc ρ1 σ1 H1 α1 M1 _ e1 w1 (bnd h1 fun b M2 b' α2 H2 _ s2 w2 r2 h2 => ?_)
    subst r2
    cases b with
    | false => rw [if_neg Bool.false_ne_true] at h2 ⊢; exact h2.now (b := FlV.nx σ1) w2 (e1.step s2)
    | true =>
      rw [if_pos rfl] at h2 ⊢
      refine ⟨_, fun σ' H' z => ⟨m, Nat.lt_succ_self m, z⟩, hb ρ1 σ1 H2 α2 M2 _ (e1.step s2) w2 (bnd h2 fun fl M3 b α3 H3 _ s3 w3 r3 h3 => ?_)⟩
      cases fl with
      | nx ρ' =>
        cases b with
        | nx σ' => exact ⟨ρ', α3, M3, r3, w3, h3⟩
        | _ => exact r3.elim
      | ct ρ' =>
        cases b with
        | ct σ' => exact ⟨ρ', α3, M3, r3, w3, h3⟩
        | _ => exact r3.elim
      | bk ρ' =>
        cases b with
        | bk σ' => exact h3.now (b := FlV.nx σ') w3 r3
        | _ => exact r3.elim
      | rt d =>
        cases b with
        | rt v => exact h3.now (b := FlV.rt v) w3 r3
        | _ => exact r3.elim
theorem s_for {wi : TI} {g : TG} {tb : TS} {fw : FA} {fg : FG} {fb : FS} (hi : RI K E wi fw) (hg : RG K E g fg) (hb : RS K E tb fb) : RS K E (tFor wi g tb) (sFor fw fg fb) := fun ρ σ H α M D e w h =>
  hi ρ σ H α M _ e w (bnd h fun ds M1 J α1 H1 _ s1 w1 r1 h1 => by
    refine ⟨fun i m σ H => m = ds.length - i ∧ ∃ ρ α M, EnvR K α H ρ σ ∧ Wd K α M H ∧ Step α1 H1 α H ∧ Post (FlR K) K α H (endQ D) E (sEach fg fb (ds.drop i) ρ M), ⟨ds.length, by simp, ρ, α1, M1, e.step s1, w1, Step.refl _ _, h1⟩, ?_⟩
    rintro i m σ2 H2 ⟨rfl, ρ2, α2, M2, e2, w2, s2, h2⟩
    obtain ⟨go, stop⟩ := r1 α2 H2 s2 i
    by_cases hi : i < ds.length
    · refine .inr ?_
      rw [List.drop_eq_getElem_cons hi] at h2
      obtain ⟨g1, y1⟩ := go ds[i] (List.getElem?_eq_getElem hi)
      refine ⟨g1, fun σ H => ∃ ρ α M, EnvR K α H ρ σ ∧ Wd K α M H ∧ Step α1 H1 α H ∧ Post (FlR K) K α H (endQ D) E (sEach fg fb (ds.drop (i + 1)) ρ M), fun σ' H' z => ⟨ds.length - (i + 1), by omega, rfl, z⟩, fun x H3 y => ?_⟩
      obtain ⟨x3, r3⟩ := y1 x H3 y
      have s3 : Step α2 H2 α2 H3 := Step.ex x3
      have w3 := w2.ex x3
      have st3 := s2.tr w2 s3
      refine hg ρ2 σ2 H3 α2 M2 _ x _ (e2.step s3) w3 r3 (bnd (Post.step h2 s3 w3) fun ρ4 M4 σ4 α4 H4 _ s4 w4 r4 h4 => ?_)
      refine hb ρ4 σ4 H4 α4 M4 _ r4 w4 (bnd h4 fun fl M5 b α5 H5 _ s5 w5 r5 h5 => ?_)
      have st5 := (st3.tr w3 s4).tr w4 s5
      cases fl with
      | nx ρ' =>
        cases b with
        | nx σ' => exact ⟨ρ', α5, M5, r5, w5, st5, h5⟩
        | _ => exact r5.elim
      | ct ρ' =>
        cases b with
        | ct σ' => exact ⟨ρ', α5, M5, r5, w5, st5, h5⟩
        | _ => exact r5.elim
      | bk ρ' =>
        cases b with
        | bk σ' => exact h5.now (b := FlV.nx σ') w5 r5
        | _ => exact r5.elim
      | rt d =>
        cases b with
        | rt v => exact h5.now (b := FlV.rt v) w5 r5
        | _ => exact r5.elim
    · rw [List.drop_eq_nil_of_le (by omega)] at h2
      exact .inl ⟨stop (by omega), h2.now (b := FlV.nx σ2) w2 e2⟩)
end
end Pd

set_option Elab.async false
set_option linter.all false
set_option maxRecDepth 100000
set_option maxHeartbeats 1000000
namespace Pd
open PySem L2

/-! ### operators on plain values -/
def gII (C : Int → Int → Bool) (h : Int → Int → D) : PM → D → D → Out D := fun M a b => match a, b with
  | .int i, .int j => if C i j = true then .ok (h i j) M else .bad
  | _, _ => .bad
def cTrue (_ _ : Int) : Bool := true
def cMul (i j : Int) : Bool := (decide (-18446744073709551616 < i) && decide (i < 18446744073709551616)) || (decide (-18446744073709551616 < j) && decide (j < 18446744073709551616))
def cDiv (_ j : Int) : Bool := decide (0 < j) && decide (j < 1073741824)
def cDivN (_ j : Int) : Bool := decide (j ≠ 0) && decide (j.natAbs < 1073741824)
def cPos (_ j : Int) : Bool := decide (0 < j)
def cNe (_ j : Int) : Bool := decide (j ≠ 0)
def cPow (i j : Int) : Bool := decide (0 ≤ j) && decide (j ≤ 1000000) && decide (i.natAbs < 18446744073709551616)
/-- what a list holds; what a list or a tuple holds -/
def lstOf (M : PM) : D → Option (List D)
  | .lst ds => some ds
  | .adr i => match M[i]? with | some (.lst ds) => some ds | _ => none
  | _ => none
def seqOf (M : PM) : D → Option (List D)
  | .lst ds => some ds
  | .rol ds => some ds
  | .tup ds => some ds
  | .adr i => match M[i]? with | some (.lst ds) => some ds | _ => none
  | _ => none
def gAddS : PM → D → D → Out D := fun M a b => match a, b with
  | .str x, .str y => if x.length + y.length ≤ line then .ok (.str (x ++ y)) M else .bad
  | _, _ => .bad
def gAddT : PM → D → D → Out D := fun M a b => match a, b with
  | .tup x, .tup y => if x.length + y.length ≤ line then .ok (.tup (x ++ y)) M else .bad
  | _, _ => .bad
def gAddL : PM → D → D → Out D := fun M a b => match lstOf M a, lstOf M b with
  | some x, some y => if x.length + y.length ≤ line then .ok (.lst (x ++ y)) M else .bad
  | _, _ => .bad
def gAdd : PM → D → D → Out D := gor (gII cTrue fun i j => .int (i + j)) (gor gAddS (gor gAddT gAddL))
def gSub : PM → D → D → Out D := gII cTrue fun i j => .int (i - j)
def gMul : PM → D → D → Out D := gII cMul fun i j => .int (i * j)
def gFdiv : PM → D → D → Out D := gor (gII cDiv fun i j => .int (i / j)) (gII cDivN fun i j => .int (i.fdiv j))
def gMod : PM → D → D → Out D := gor (gII cPos fun i j => .int (i % j)) (gII cNe fun i j => .int (i.fmod j))
def gPow : PM → D → D → Out D := gII cPow fun i j => .int (i ^ j.toNat)
def gLt : PM → D → D → Out D := gII cTrue fun i j => .bl (decide (i < j))
def gLe : PM → D → D → Out D := gII cTrue fun i j => .bl (decide (i ≤ j))
def gGt : PM → D → D → Out D := gII cTrue fun i j => .bl (decide (j < i))
def gGe : PM → D → D → Out D := gII cTrue fun i j => .bl (decide (j ≤ i))
/-- == of two plain scalars -/
def eqS : D → D → Option Bool
  | .int i, .int j => some (decide (i = j))
  | .str x, .str y => some (decide (x = y))
  | .bl b, .bl c => some (decide (b = c))
  | .non, .non => some true
  | .non, .int _ => some false | .int _, .non => some false
  | .non, .str _ => some false | .str _, .non => some false
  | .non, .bl _ => some false | .bl _, .non => some false
  | .int _, .str _ => some false | .str _, .int _ => some false
  | .bl _, .str _ => some false | .str _, .bl _ => some false
  | _, _ => none
def gEq : PM → D → D → Out D := fun M a b => match eqS a b with | some r => .ok (.bl r) M | none => .bad
def gNe : PM → D → D → Out D := fun M a b => match eqS a b with | some r => .ok (.bl (!r)) M | none => .bad
def isNonD : D → Bool
  | .non => true
  | _ => false
def gIs : PM → D → D → Out D := fun M a b => match b with | .non => .ok (.bl (isNonD a)) M | _ => .bad
def gIsNot : PM → D → D → Out D := fun M a b => match b with | .non => .ok (.bl (!isNonD a)) M | _ => .bad
def flatD : D → Bool
  | .non => true | .bl _ => true | .int _ => true | .str _ => true | _ => false
def eqF : D → D → Bool
  | .non, .non => true
  | .bl a, .bl b => a == b
  | .bl a, .int b => (if a then 1 else 0) == b
  | .int a, .bl b => a == (if b then 1 else 0)
  | .int a, .int b => a == b
  | .str a, .str b => a == b
  | _, _ => false
def inF (x : D) (xs : List D) : Bool := xs.any fun y => eqF y x
def gInS : PM → D → D → Out D := fun M a b => match a, b with
  | .str ⟨⟨[c]⟩⟩, .str z => .ok (.bl (decide (c ∈ z.cps.toList))) M
  | _, _ => .bad
def gInL : PM → D → D → Out D := fun M a b => match seqOf M b with
  | some ds => if (flatD a && ds.all flatD) = true then .ok (.bl (inF a ds)) M else .bad
  | none => .bad
def gIn : PM → D → D → Out D := gor gInS gInL
def gNotInS : PM → D → D → Out D := fun M a b => match a, b with
  | .str ⟨⟨[c]⟩⟩, .str z => .ok (.bl (!decide (c ∈ z.cps.toList))) M
  | _, _ => .bad
def gNotInL : PM → D → D → Out D := fun M a b => match seqOf M b with
  | some ds => if (flatD a && ds.all flatD) = true then .ok (.bl (!inF a ds)) M else .bad
  | none => .bad
def gNotIn : PM → D → D → Out D := gor gNotInS gNotInL
def gIx : PM → D → D → Out D := fun M a b => match b with
  | .int i => match a with
    | .str z => if z.length ≤ line then match atI z.cps.toList i with | some c => .ok (.str ⟨#[c]⟩) M | none => .bad else .bad
    | a => match seqOf M a with
      | some ds => match atI ds i with | some d => .ok d M | none => .bad
      | none => .bad
  | _ => .bad
def gNeg : PM → D → Out D := fun M a => match a with | .int i => .ok (.int (-i)) M | _ => .bad
def cutD (xs : List D) (lo hi : Option Int) : List D := (xs.drop (HT.sIx xs.length 0 lo)).take (HT.sIx xs.length xs.length hi - HT.sIx xs.length 0 lo)
def gSl : PM → D → Option Int → Option Int → Out D := fun M a lo hi => match a with
  | .str z => if z.length ≤ line then .ok (.str (cutS z lo hi)) M else .bad
  | .tup ds => .ok (.tup (cutD ds lo hi)) M
  | a => match seqOf M a with | some ds => .ok (.lst (cutD ds lo hi)) M | none => .bad
section
variable {K : PySem.W.Frag} {E : XK}
theorem od_II {C : Int → Int → Prop} {c : Int → Int → Bool} {h : Int → Int → V} {hD : Int → Int → D} (hc : ∀ i j, c i j = true → C i j) (hr : ∀ α H i j, Rep K α H (hD i j) (h i j)) : OpD K E (rI C h) (gII c hD) := fun α H M a b x y Q w ra rb q => by
  unfold gII at q
  split at q
  · cases ra
    cases rb
    obtain ⟨h1, q⟩ := ifb q
    exact ⟨_, _, rfl, rfl, hc _ _ h1, q.now w (hr α H _ _)⟩
  · exact q.elim
theorem od_II0 {h : Int → Int → V} {hD : Int → Int → D} (hr : ∀ α H i j, Rep K α H (hD i j) (h i j)) : OpD K E (rI0 h) (gII cTrue hD) := fun α H M a b x y Q w ra rb q => by
  unfold gII at q
  split at q
  · cases ra
    cases rb
    obtain ⟨h1, q⟩ := ifb q
    exact ⟨_, _, rfl, rfl, q.now w (hr α H _ _)⟩
  · exact q.elim
theorem lst_ok {α : List Addr} {H : Hp} {M : PM} {a : D} {x : V} {ds : List D} (w : Wd K α M H) (r : Rep K α H a x) (e : lstOf M a = some ds) : ∃ p xs, x = .ref p ∧ H p = some (.lst xs) ∧ RepL K α H ds xs := by
  cases a with
  | lst es =>
    cases e
    cases r with
    | lst t rs => exact ⟨_, _, rfl, t.1, rs⟩
  | adr i =>
    cases r with
    | adr ha =>
      have e' : (match M[i]? with | some (.lst ds) => some ds | _ => none) = some ds := e
      split at e'
      · rename_i ds' hm
        cases e'
        obtain ⟨a', e1, vs, e2, e3⟩ := w.ob _ _ hm
        rw [ha] at e1
        cases e1
        exact ⟨_, _, rfl, e2, e3⟩
      · cases e'
  | _ => cases e
theorem seq_ok {α : List Addr} {H : Hp} {M : PM} {a : D} {x : V} {ds : List D} (w : Wd K α M H) (r : Rep K α H a x) (e : seqOf M a = some ds) : ∃ p xs, x = .ref p ∧ (SqL K H p xs ∨ SqT K H p xs) ∧ RepL K α H ds xs := by
  cases a with
  | lst es =>
    cases e
    cases r with
    | lst t rs => exact ⟨_, _, rfl, .inl t.sq, rs⟩
  | rol es =>
    cases e
    cases r with
    | rol t rs => exact ⟨_, _, rfl, .inl t.sq, rs⟩
  | tup es =>
    cases e
    cases r with
    | tup t rs => exact ⟨_, _, rfl, .inr t.sq, rs⟩
  | adr i =>
    obtain ⟨p, xs, h1, h2, h3⟩ := lst_ok (K := K) (ds := ds) w r (by unfold seqOf at e; unfold lstOf; exact e)
    exact ⟨p, xs, h1, .inl (.of h2), h3⟩
  | _ => cases e
theorem od_addS : OpD K E (fun x y H Q => ∃ i j, x = .str i ∧ y = .str j ∧ i.length + j.length ≤ sizeLine ∧ Q (.str (i ++ j)) H) gAddS := fun α H M a b x y Q w ra rb q => by
  unfold gAddS at q
  split at q
  · cases ra
    cases rb
    obtain ⟨h1, q⟩ := ifb q
    rw [line_eq] at h1
    exact ⟨_, _, rfl, rfl, h1, q.now w (.str _)⟩
  · exact q.elim
theorem od_addT : OpD K E (rCatA K) gAddT := fun α H M a b x y Q w ra rb q => by
  unfold gAddT at q
  split at q
  · cases ra with
    | tup ta rsa =>
      cases rb with
      | tup tb rsb =>
        obtain ⟨h1, q⟩ := ifb q
        rw [line_eq, rsa.length, rsb.length] at h1
        refine ⟨_, _, _, _, rfl, rfl, ta.sq, tb.sq, h1, fun e => ?_, fun e1 e2 => ?_, fun e1 e2 p hp => ?_⟩
        · subst e
          cases rsa
          exact q.now w (.tup tb rsb)
        · subst e2
          cases rsb
          rw [List.append_nil] at q
          exact q.now w (.tup ta rsa)
        · exact q.nowX w (ex_new hp) (new_tup w hp (rsa.append rsb))
  · exact q.elim
theorem od_addL : OpD K E rCat gAddL := fun α H M a b x y Q w ra rb q => by
  unfold gAddL at q
  split at q
  · rename_i xs ys h1 h2
    obtain ⟨l, vs, rfl, e1, r1⟩ := lst_ok w ra h1
    obtain ⟨m, ws, rfl, e2, r2⟩ := lst_ok w rb h2
    obtain ⟨h1, q⟩ := ifb q
    rw [line_eq, r1.length, r2.length] at h1
    exact ⟨_, _, _, _, rfl, rfl, e1, e2, h1, fun p hp => q.nowX w (ex_new hp) (new_lst w hp (r1.append r2))⟩
  · exact q.elim
theorem od_eq : OpD K E rEq gEq := fun α H M a b x y Q w ra rb q => by
  have key : ∀ r : Bool, Post (Rep K) K α H Q E (.ok (.bl r) M) → scal x y = true → decide (x = y) = r → rEq x y H Q := fun r q h1 h2 => ⟨h1, by rw [h2]; exact q.now w (.bl r)⟩
  cases a <;> cases b <;> first
    | exact q.elim
    | (cases ra; cases rb; refine key _ q rfl ?_; simp)
theorem od_ne : OpD K E rNe gNe := fun α H M a b x y Q w ra rb q => by
  have key : ∀ r : Bool, Post (Rep K) K α H Q E (.ok (.bl (!r)) M) → scal x y = true → decide (x = y) = r → rNe x y H Q := fun r q h1 h2 => ⟨h1, by rw [h2]; exact q.now w (.bl _)⟩
  cases a <;> cases b <;> first
    | exact q.elim
    | (cases ra; cases rb; refine key _ q rfl ?_; simp)
theorem isNon_ok {α : List Addr} {H : Hp} {a : D} {x : V} (hx : ∀ v, a ≠ .raw v) (r : Rep K α H a x) : decide (x = .non) = isNonD a := by
  cases a with
  | raw v => exact absurd rfl (hx v)
  | _ => cases r <;> simp [isNonD]
def gIs' : PM → D → D → Out D := fun M a b => match a with | .raw _ => .bad | a => gIs M a b
def gIsNot' : PM → D → D → Out D := fun M a b => match a with | .raw _ => .bad | a => gIsNot M a b
theorem od_is : OpD K E rIsN gIs' := fun α H M a b x y Q w ra rb q => by
  unfold gIs' at q
  split at q
  · exact q.elim
  · rename_i hx
    unfold gIs at q
    split at q
    · cases rb
      exact ⟨rfl, by rw [isNon_ok (fun v => hx v) ra]; exact q.now w (.bl _)⟩
    · exact q.elim
theorem od_isNot : OpD K E rNotN gIsNot' := fun α H M a b x y Q w ra rb q => by
  unfold gIsNot' at q
  split at q
  · exact q.elim
  · rename_i hx
    unfold gIsNot at q
    split at q
    · cases rb
      exact ⟨rfl, by rw [isNon_ok (fun v => hx v) ra]; exact q.now w (.bl _)⟩
    · exact q.elim
theorem flat_ok {α : List Addr} {H : Hp} {a : D} {x : V} (r : Rep K α H a x) (f : flatD a = true) : flatV x = true := by
  cases a <;> first
    | exact absurd (show false = true from f) Bool.false_ne_true
    | (cases r; rfl)
theorem flats_ok {α : List Addr} {H : Hp} : ∀ {as : List D} {xs : List V}, RepL K α H as xs → as.all flatD = true → xs.all flatV = true
  | _, _, .nil, _ => rfl
  | _, _, .cons r t, f => by
    rw [List.all_cons, Bool.and_eq_true] at f
    rw [List.all_cons, flat_ok r f.1, flats_ok t f.2]
    rfl
theorem eqF_ok {α : List Addr} {H : Hp} {a b : D} {x y : V} (ra : Rep K α H a x) (rb : Rep K α H b y) (fa : flatD a = true) (fb : flatD b = true) : eqV x y = eqF a b := by
  cases a <;> first
    | exact absurd (show false = true from fa) Bool.false_ne_true
    | (cases ra; cases b <;> first
        | exact absurd (show false = true from fb) Bool.false_ne_true
        | (cases rb; rfl))
theorem inF_ok {α : List Addr} {H : Hp} {a : D} {x : V} (ra : Rep K α H a x) (fa : flatD a = true) : ∀ {as : List D} {xs : List V}, RepL K α H as xs → as.all flatD = true → inV x xs = inF a as
  | _, _, .nil, _ => rfl
  | _, _, .cons r t, f => by
    rw [List.all_cons, Bool.and_eq_true] at f
    unfold inV inF
    rw [List.any_cons, List.any_cons, eqF_ok r ra f.1 fa]
    have := inF_ok ra fa t f.2
    unfold inV inF at this
    rw [this]
theorem od_inS : OpD K E rInS gInS := fun α H M a b x y Q w ra rb q => by
  unfold gInS at q
  split at q
  · cases ra
    cases rb
    exact ⟨_, _, rfl, rfl, q.now w (.bl _)⟩
  · exact q.elim
theorem od_notInS : OpD K E rNotInS gNotInS := fun α H M a b x y Q w ra rb q => by
  unfold gNotInS at q
  split at q
  · cases ra
    cases rb
    exact ⟨_, _, rfl, rfl, q.now w (.bl _)⟩
  · exact q.elim
theorem od_inL : OpD K E (rIn K false) gInL := fun α H M a b x y Q w ra rb q => by
  unfold gInL at q
  split at q
  · rename_i ds hd
    obtain ⟨p, xs, rfl, hs, rs⟩ := seq_ok w rb hd
    obtain ⟨h1, q⟩ := ifb q
    rw [Bool.and_eq_true] at h1
    refine ⟨p, xs, rfl, hs, flat_ok ra h1.1, flats_ok rs h1.2, ?_⟩
    rw [if_neg Bool.false_ne_true, inF_ok ra h1.1 rs h1.2]
    exact q.now w (.bl _)
  · exact q.elim
theorem od_notInL : OpD K E (rIn K true) gNotInL := fun α H M a b x y Q w ra rb q => by
  unfold gNotInL at q
  split at q
  · rename_i ds hd
    obtain ⟨p, xs, rfl, hs, rs⟩ := seq_ok w rb hd
    obtain ⟨h1, q⟩ := ifb q
    rw [Bool.and_eq_true] at h1
    refine ⟨p, xs, rfl, hs, flat_ok ra h1.1, flats_ok rs h1.2, ?_⟩
    rw [if_pos rfl, inF_ok ra h1.1 rs h1.2]
    exact q.now w (.bl _)
  · exact q.elim
theorem atI_rep {α : List Addr} {H : Hp} {ds : List D} {xs : List V} {i : Int} {d : D} (r : RepL K α H ds xs) (e : atI ds i = some d) : ∃ v, atI xs i = some v ∧ Rep K α H d v := by
  unfold atI at e ⊢
  rw [r.length] at e
  cases hn : ixN xs.length i with
  | none => rw [hn] at e; cases e
  | some j =>
    rw [hn] at e
    exact r.get e
theorem od_ix : OpD K E (rIx K) gIx := fun α H M a b x y Q w ra rb q => by
  unfold gIx at q
  split at q
  · rename_i i
    cases rb
    split at q
    · rename_i z
      cases ra
      obtain ⟨hl, q⟩ := ifb q
      rw [line_eq] at hl
      split at q
      · rename_i c hc
        exact .inr (.inr ⟨z, i, c, rfl, rfl, hl, hc, q.now w (.str _)⟩)
      · exact q.elim
    · split at q
      · rename_i ds hd
        obtain ⟨p, xs, rfl, hs, rs⟩ := seq_ok w ra hd
        split at q
        · rename_i d hd
          obtain ⟨v, e1, e2⟩ := atI_rep rs hd
          rcases hs with hs | hs
          · exact .inl ⟨p, xs, i, v, rfl, rfl, hs, e1, q.now w e2⟩
          · exact .inr (.inl ⟨p, xs, i, v, rfl, rfl, hs, e1, q.now w e2⟩)
        · exact q.elim
      · exact q.elim
  · exact q.elim
theorem ud_neg : UnD K E (rU fun i => .int (-i)) gNeg := fun α H M a x Q w ra q => by
  unfold gNeg at q
  split at q
  · cases ra
    exact ⟨_, rfl, q.now w (.int _)⟩
  · exact q.elim
theorem cut_rep {α : List Addr} {H : Hp} {ds : List D} {xs : List V} {lo hi : Option Int} (r : RepL K α H ds xs) : RepL K α H (cutD ds lo hi) (cutV xs lo hi) := by
  unfold cutD cutV
  rw [r.length]
  exact (r.drop _).take _
def rSlD (K : PySem.W.Frag) : V → Option Int → Option Int → Hp → VK → Prop := fun x lo hi H Q => rSlS x lo hi H Q ∨ (rSlL K x lo hi H Q ∨ rSlA K x lo hi H Q)
theorem sl_D {X : Cx} : SlR X (rSlD X.K) := sl_str.or (sl_list.or sl_tupA)
theorem sd_sl : SlD K E (rSlD K) gSl := fun α H M a x lo hi Q w ra q => by
  unfold gSl at q
  split at q
  · cases ra
    obtain ⟨hl, q⟩ := ifb q
    rw [line_eq] at hl
    exact .inl ⟨_, rfl, hl, q.now w (.str _)⟩
  · cases ra with
    | tup t rs =>
      refine .inr (.inr ⟨_, _, rfl, t.sq, fun ⟨e1, e2⟩ => ?_, fun _ p hp => q.nowX w (ex_new hp) (new_tup w hp (cut_rep rs))⟩)
      refine q.now w ?_
      have : ∀ {ds : List D}, HT.sIx ds.length 0 lo = 0 → HT.sIx ds.length ds.length hi = ds.length → cutD ds lo hi = ds := fun {ds} e1 e2 => by
        unfold cutD
        rw [e1, e2, List.drop_zero, Nat.sub_zero, List.take_length]
      rw [this (by rw [rs.length]; exact e1) (by rw [rs.length]; exact e2)]
      exact .tup t rs
  · split at q
    · rename_i ds hd
      rename_i hs ht _
      obtain ⟨p, xs, rfl, hs', rs⟩ := seq_ok w ra hd
      rcases hs' with hs' | hs'
      · exact .inr (.inl ⟨p, xs, rfl, hs', fun l hl => q.nowX w (ex_new hl) (new_lst w hl (cut_rep rs))⟩)
      · cases a with
        | tup es => exact absurd rfl (ht es)
        | lst es =>
          cases hd
          cases ra with
          | lst t rs => exact .inr (.inl ⟨_, _, rfl, t.sq, fun l hl => q.nowX w (ex_new hl) (new_lst w hl (cut_rep rs))⟩)
        | rol es =>
          cases hd
          cases ra with
          | rol t rs => exact .inr (.inl ⟨_, _, rfl, t.sq, fun l hl => q.nowX w (ex_new hl) (new_lst w hl (cut_rep rs))⟩)
        | adr i =>
          obtain ⟨p', xs', e1, e2, e3⟩ := lst_ok (K := K) (ds := ds) w ra (by unfold seqOf at hd; unfold lstOf; exact hd)
          cases e1
          exact .inr (.inl ⟨_, _, rfl, .of e2, fun l hl => q.nowX w (ex_new hl) (new_lst w hl (cut_rep e3))⟩)
        | _ => cases hd
    · exact q.elim

/-! ### built-in calls on plain values -/
def bLen : PM → List D → Out D := fun M as => match as with
  | [.str z] => if z.length ≤ line then .ok (.int z.length) M else .bad
  | [a] => match seqOf M a with | some ds => .ok (.int ds.length) M | none => .bad
  | _ => .bad
def bAbs : PM → List D → Out D := fun M as => match as with
  | [.int i] => .ok (.int (if i < 0 then -i else i)) M
  | _ => .bad
def bInt : PM → List D → Out D := fun M as => match as with
  | [.int i] => .ok (.int i) M
  | [.bl k] => .ok (.int (if k then 1 else 0)) M
  | [.str z] => match PySem.intText? z with
    | some n => if z.length ≤ 640 then .ok (.int n) M else .bad
    | none => .bad
  | _ => .bad
def bStr : PM → List D → Out D := fun M as => match as with
  | [.int i] => if i.natAbs < 18446744073709551616 then .ok (.str (toString i)) M else .bad
  | [.str z] => .ok (.str z) M
  | _ => .bad
def bTuple : PM → List D → Out D := fun M as => match as with
  | [.tup ds] => .ok (.tup ds) M
  | [a] => match seqOf M a with | some ds => .ok (.tup ds) M | none => .bad
  | _ => .bad
def bList : PM → List D → Out D := fun M as => match as with
  | [a] => match seqOf M a with | some ds => .ok (.lst ds) M | none => .bad
  | _ => .bad
def bMax2 : PM → List D → Out D := fun M as => match as with
  | [.int i, .int j] => .ok (.int (if j > i then j else i)) M
  | _ => .bad
def bMin2 : PM → List D → Out D := fun M as => match as with
  | [.int i, .int j] => .ok (.int (if j < i then j else i)) M
  | _ => .bad
/-- the type's name -/
def tyD : D → Option String
  | .non => some "NoneType" | .bl _ => some "bool" | .int _ => some "int" | .str _ => some "str" | .tup _ => some "tuple" | .lst _ => some "list" | .rol _ => some "list" | _ => none
def isiB : String → String → Option Bool
  | "bool", "int" => some true
  | a, b => if a ∈ ["NoneType", "bool", "int", "str", "tuple", "list"] ∧ b ∈ ["bool", "int", "str", "tuple", "list", "dict"] then some (decide (a = b)) else none
def bIsi : PM → List D → Out D := fun M as => match as with
  | [a, .raw (.ty n)] => match tyD a with
    | some t => match isiB t n with | some r => .ok (.bl r) M | none => .bad
    | none => .bad
  | _ => .bad
theorem rep1 {α : List Addr} {H : Hp} {a : D} {xs : List V} (r : RepL K α H [a] xs) : ∃ x, xs = [x] ∧ Rep K α H a x := by
  cases r with
  | cons r1 r2 => cases r2; exact ⟨_, rfl, r1⟩
theorem rep2 {α : List Addr} {H : Hp} {a b : D} {xs : List V} (r : RepL K α H [a, b] xs) : ∃ x y, xs = [x, y] ∧ Rep K α H a x ∧ Rep K α H b y := by
  cases r with
  | cons r1 r2 =>
    obtain ⟨y, rfl, r3⟩ := rep1 r2
    exact ⟨_, y, rfl, r1, r3⟩
theorem cd_len : CbD K E (fun xs H Q => ∃ x n, xs = [x] ∧ LenV K x H n ∧ Q (.int n) H) bLen := fun α H M as xs Q w ra q => by
  unfold bLen at q
  split at q
  · obtain ⟨x, rfl, r⟩ := rep1 ra
    cases r
    obtain ⟨hl, q⟩ := ifb q
    rw [line_eq] at hl
    exact ⟨_, _, rfl, ⟨hl, rfl⟩, q.now w (.int _)⟩
  · obtain ⟨x, rfl, r⟩ := rep1 ra
    split at q
    · rename_i ds hd
      obtain ⟨p, xs, rfl, hs, rs⟩ := seq_ok w r hd
      refine ⟨_, ds.length, rfl, ?_, q.now w (.int _)⟩
      rcases hs with hs | hs
      · exact .inl ⟨xs, hs, rs.length⟩
      · exact .inr ⟨xs, hs, rs.length⟩
    · exact q.elim
  · exact q.elim
theorem cd_abs : CbD K E (fun xs H Q => ∃ i, xs = [.int i] ∧ Q (.int (if i < 0 then -i else i)) H) bAbs := fun α H M as xs Q w ra q => by
  unfold bAbs at q
  split at q
  · obtain ⟨x, rfl, r⟩ := rep1 ra
    cases r
    exact ⟨_, rfl, q.now w (.int _)⟩
  · exact q.elim
theorem cd_max2 : CbD K E (fun xs H Q => ∃ i j, xs = [.int i, .int j] ∧ Q (.int (if j > i then j else i)) H) bMax2 := fun α H M as xs Q w ra q => by
  unfold bMax2 at q
  split at q
  · obtain ⟨x, y, rfl, r, r'⟩ := rep2 ra
    cases r
    cases r'
    exact ⟨_, _, rfl, q.now w (.int _)⟩
  · exact q.elim
theorem cd_min2 : CbD K E (fun xs H Q => ∃ i j, xs = [.int i, .int j] ∧ Q (.int (if j < i then j else i)) H) bMin2 := fun α H M as xs Q w ra q => by
  unfold bMin2 at q
  split at q
  · obtain ⟨x, y, rfl, r, r'⟩ := rep2 ra
    cases r
    cases r'
    exact ⟨_, _, rfl, q.now w (.int _)⟩
  · exact q.elim
def rIntD : List V → Hp → VK → Prop := fun xs H Q => ((∃ i, xs = [.int i] ∧ Q (.int i) H) ∨ ∃ k, xs = [.bl k] ∧ Q (.int (if k then 1 else 0)) H) ∨ (∃ a n, xs = [.str a] ∧ PySem.intText? a = some n ∧ a.length ≤ 640 ∧ Q (.int n) H)
theorem cd_int : CbD K E rIntD bInt := fun α H M as xs Q w ra q => by
  unfold bInt at q
  split at q
  · obtain ⟨x, rfl, r⟩ := rep1 ra
    cases r
    exact .inl (.inl ⟨_, rfl, q.now w (.int _)⟩)
  · obtain ⟨x, rfl, r⟩ := rep1 ra
    cases r
    exact .inl (.inr ⟨_, rfl, q.now w (.int _)⟩)
  · obtain ⟨x, rfl, r⟩ := rep1 ra
    cases r
    split at q
    · rename_i n hn
      obtain ⟨hl, q⟩ := ifb q
      exact .inr ⟨_, n, rfl, hn, hl, q.now w (.int _)⟩
    · exact q.elim
  · exact q.elim
def rStrD : List V → Hp → VK → Prop := fun xs H Q => (∃ i, xs = [.int i] ∧ i.natAbs.log2 < 1920 ∧ Q (.str (toString i)) H) ∨ (∃ a, xs = [.str a] ∧ Q (.str a) H)
theorem cd_str : CbD K E rStrD bStr := fun α H M as xs Q w ra q => by
  unfold bStr at q
  split at q
  · obtain ⟨x, rfl, r⟩ := rep1 ra
    cases r
    obtain ⟨hl, q⟩ := ifb q
    exact .inl ⟨_, rfl, Nat.lt_of_lt_of_le (PySem.Flt.log2_lt_of (k := 64) (by decide) hl) (by decide), q.now w (.str _)⟩
  · obtain ⟨x, rfl, r⟩ := rep1 ra
    cases r
    exact .inr ⟨_, rfl, q.now w (.str _)⟩
  · exact q.elim
theorem cd_tuple : CbD K E (fun xs H Q => ∃ p ys, xs = [.ref p] ∧ ((SqL K H p ys ∧ ∀ l, H l = none → Q (.ref l) (upd H l (.tup ys))) ∨ (SqT K H p ys ∧ Q (.ref p) H))) bTuple := fun α H M as xs Q w ra q => by
  unfold bTuple at q
  split at q
  · obtain ⟨x, rfl, r⟩ := rep1 ra
    cases r with
    | tup t rs => exact ⟨_, _, rfl, .inr ⟨t.sq, q.now w (.tup t rs)⟩⟩
  · rename_i a ht
    obtain ⟨x, rfl, r⟩ := rep1 ra
    split at q
    · rename_i ds hd
      have key : ∀ {p : Addr} {xs : List V}, SqL K H p xs → RepL K α H ds xs → ∃ p' ys, ([V.ref p] : List V) = [.ref p'] ∧ ((SqL K H p' ys ∧ ∀ l, H l = none → Q (.ref l) (upd H l (.tup ys))) ∨ (SqT K H p' ys ∧ Q (.ref p') H)) :=
        fun h rs => ⟨_, _, rfl, .inl ⟨h, fun l hl => q.nowX w (ex_new hl) (new_tup w hl rs)⟩⟩
      cases a with
      | tup es => exact absurd rfl (ht es)
      | lst es => cases hd; cases r with | lst t rs => exact key t.sq rs
      | rol es => cases hd; cases r with | rol t rs => exact key t.sq rs
      | adr i =>
        obtain ⟨p', xs', e1, e2, e3⟩ := lst_ok (K := K) (ds := ds) w r (by unfold seqOf at hd; unfold lstOf; exact hd)
        cases e1
        exact key (.of e2) e3
      | _ => cases hd
    · exact q.elim
  · exact q.elim
theorem cd_list : CbD K E (fun xs H Q => ∃ p ys, xs = [.ref p] ∧ (SqL K H p ys ∨ SqT K H p ys) ∧ ∀ l, H l = none → Q (.ref l) (upd H l (.lst ys))) bList := fun α H M as xs Q w ra q => by
  unfold bList at q
  split at q
  · obtain ⟨x, rfl, r⟩ := rep1 ra
    split at q
    · rename_i ds hd
      obtain ⟨p, xs, rfl, hs, rs⟩ := seq_ok w r hd
      exact ⟨p, xs, rfl, hs, fun l hl => q.nowX w (ex_new hl) (new_lst w hl rs)⟩
    · exact q.elim
  · exact q.elim
theorem ty_ok {α : List Addr} {H : Hp} {a : D} {x : V} {t : String} (r : Rep K α H a x) (e : tyD a = some t) : TyX K H x (.type t) := by
  cases a with
  | non => cases e; cases r; exact .base .non
  | bl b => cases e; cases r; exact .base (.bl b)
  | int b => cases e; cases r; exact .base (.int b)
  | str b => cases e; cases r; exact .base (.str b)
  | tup ds =>
    cases e
    cases r with
    | tup t rs =>
      rcases t with ⟨h | ⟨o, h⟩, _⟩ | h
      · exact .base (.tup h)
      · exact .fTuple h
      · rcases h with h | ⟨o, its, n, h1, h2, _⟩
        · exact (rd0 h).elim
        · exact .kTuple h1 h2
  | lst ds =>
    cases e
    cases r with
    | lst t rs => exact .base (.lst t.1)
  | rol ds =>
    cases e
    cases r with
    | rol t rs =>
      rcases t with ⟨h | ⟨o, h⟩, _⟩ | h
      · exact .base (.lst h)
      · exact .base (.frz h)
      · rcases h with h | ⟨o, its, n, h1, h2, _⟩
        · exact (rd0 h).elim
        · exact .kList h1 h2
  | adr i => cases e
  | raw v => cases e
theorem isi_tab : (["NoneType", "bool", "int", "str", "tuple", "list"].all fun a => ["bool", "int", "str", "tuple", "list", "dict"].all fun b => decide (kitB a b = isiB a b)) = true := by decide +kernel
theorem isi_ok {a b : String} {r : Bool} (h : isiB a b = some r) : kitB a b = some r := by
  have hab : a ∈ ["NoneType", "bool", "int", "str", "tuple", "list"] ∧ b ∈ ["bool", "int", "str", "tuple", "list", "dict"] := by
    unfold isiB at h
    split at h
    · decide
    · split at h
      · assumption
      · cases h
  have e := of_decide_eq_true (List.all_eq_true.mp (List.all_eq_true.mp isi_tab a hab.1) b hab.2)
  rw [e]
  exact h
theorem cd_isi : CbD K E (rIsi K) bIsi := fun α H M as xs Q w ra q => by
  unfold bIsi at q
  split at q
  · obtain ⟨x, y, rfl, r, r'⟩ := rep2 ra
    cases r'
    split at q
    · rename_i t ht
      split at q
      · rename_i b hb
        exact ⟨x, _, _, _, b, rfl, .ty _, ty_ok r ht, kit_ty (isi_ok hb), q.now w (.bl _)⟩
      · exact q.elim
    · exact q.elim
  · exact q.elim
end
end Pd

set_option Elab.async false
set_option linter.all false
set_option maxRecDepth 100000
set_option maxHeartbeats 1000000
namespace Pd
open PySem L2 PyProof.Rows

/-! ### a piece of the text and its function -/
structure PD (X : Cx) (E : XK) (e : Expr) (f : FE) : Prop where
  ex : ∃ t, PE X e t ∧ RE X.K E t f
structure PDT (X : Cx) (E : XK) (e : Expr) (f : FT) : Prop where
  ex : ∃ t, PT X e t ∧ RT X.K E t f
structure PDW (X : Cx) (E : XK) (e : Expr) (f : FT) : Prop where
  ex : ∃ t, PW X e t ∧ RT X.K E t f
structure PDA (X : Cx) (E : XK) (es : List Expr) (f : FA) : Prop where
  ex : ∃ t, PA X es t ∧ RA X.K E t f
structure PDO (X : Cx) (E : XK) (e : Option Expr) (f : FO) : Prop where
  ex : ∃ t, PO X e t ∧ RO X.K E t f
structure PDS (X : Cx) (E : XK) (st : Stmt) (f : FS) : Prop where
  ex : ∃ t, PS X st t ∧ RS X.K E t f
structure PDB (X : Cx) (E : XK) (st : List Stmt) (f : FS) : Prop where
  ex : ∃ t, PSs X st t ∧ RS X.K E t f
structure PDG (X : Cx) (E : XK) (e : Expr) (f : FG) : Prop where
  ex : ∃ t, PG X e t ∧ RG X.K E t f
structure PDGs (X : Cx) (E : XK) (es : List Expr) (f : FGs) : Prop where
  ex : ∃ t, PGs X es t ∧ RGs X.K E t f
structure PDI (X : Cx) (E : XK) (tg iter : Expr) (f : FA) : Prop where
  ex : ∃ t, PI X tg iter t ∧ RI X.K E t f
/-- an operator; a built-in -/
structure Op2 (X : Cx) (E : XK) (f : Value → Value → Sem Value) (g : PM → D → D → Out D) : Prop where
  ex : ∃ r, OpR X f r ∧ OpD X.K E r g
structure Blt (X : Cx) (E : XK) (f : Value) (g : PM → List D → Out D) : Prop where
  ex : ∃ r, CallR X f r ∧ CbD X.K E r g
section
variable {X : Cx} {E : XK} {a b c e o : Expr} {es : List Expr} {fa fb fc fe : FE} {pos p apos : Pos} {x : Str}
theorem pv' (i : Nat) (h : PE X (.Name x pos) (tVar i)) : PD X E (.Name x pos) (pVar i) := ⟨_, h, r_var⟩
theorem pd_var (i : Nat) (hN : X.N[i]? = some x := by rfl) (hv : Vis X.env.scope x := by first | exact Or.inl rfl | exact Or.inr (Or.inl rfl) | exact Or.inr (Or.inr rfl)) (hd : (x == ("__debug__" : Str)) = false := by decide)
    (hcd : (x == ("__classdict__" : Str)) = false := by decide) : PD X E (.Name x pos) (pVar i) := ⟨_, pe_var hN hv hd hcd, r_var⟩
theorem pd_int {i : Int} {j} : PD X E (.Constant (.int i) j pos) (pC (.int i)) := ⟨_, pe_int, r_c fun _ _ => .int i⟩
theorem pd_str {z : Str} {j} : PD X E (.Constant (.str z) j pos) (pC (.str z)) := ⟨_, pe_str, r_c fun _ _ => .str z⟩
theorem pd_bl {k : Bool} {j} : PD X E (.Constant (.bool k) j pos) (pC (.bl k)) := ⟨_, pe_bl, r_c fun _ _ => .bl k⟩
theorem pd_non {j} : PD X E (.Constant .none j pos) (pC .non) := ⟨_, pe_non, r_c fun _ _ => .non⟩
/-- a module's constant -/
theorem pd_glob {d : D} {v : V} {u : Value} (hg : Gl X x) (hm : X.mg x = some u) (r : RelV v u) (hr : ∀ α H, Rep X.K α H d v) (hd : (x == ("__debug__" : Str)) = false := by decide) : PD X E (.Name x pos) (pC d) := ⟨_, pe_glob hg hm r hd, r_c hr⟩
/-- a built-in type's name -/
theorem pd_ty {n : String} (hg : Gl X x) (hm : X.mg x = none) (hv : bootBuiltins x = some (.type n)) (hn : x ≠ "__name__" := by decide) (hd : (x == ("__debug__" : Str)) = false := by decide) : PD X E (.Name x pos) (pC (.raw (.ty n))) :=
  ⟨_, pe_bltn (v := .ty n) hg hm hv rfl hn hd, r_c fun _ _ => .raw _⟩
theorem pd_op {op : Operator} {g : PM → D → D → Out D} (ho : Op2 X E (binaryOp op) g) (ha : PD X E a fa) (hb : PD X E b fb) : PD X E (.BinOp a op b pos) (pOp g fa fb) := by
  obtain ⟨r, h1, h2⟩ := ho
  obtain ⟨ta, ha, ra⟩ := ha
  obtain ⟨tb, hb, rb⟩ := hb
  exact ⟨_, pe_op h1 ha hb, r_op ra rb h2⟩
theorem pd_cmp {op : CmpOp} {g : PM → D → D → Out D} (ho : Op2 X E (compareOp op) g) (ha : PD X E a fa) (hb : PD X E b fb) (hm : behindInMarks op b = false) : PD X E (.Compare a [op] [b] pos) (pOp g fa fb) := by
  obtain ⟨r, h1, h2⟩ := ho
  obtain ⟨ta, ha, ra⟩ := ha
  obtain ⟨tb, hb, rb⟩ := hb
  exact ⟨_, pe_cmpR h1 ha hb hm, r_op ra rb h2⟩
theorem pdt_cmp {op : CmpOp} {g : PM → D → D → Out D} (ho : Op2 X E (compareOp op) g) (ha : PD X E a fa) (hb : PD X E b fb) (hm : behindInMarks op b = false) : PDT X E (.Compare a [op] [b] pos) (pTest (pOp g fa fb)) := by
  obtain ⟨r, h1, h2⟩ := ho
  obtain ⟨ta, ha, ra⟩ := ha
  obtain ⟨tb, hb, rb⟩ := hb
  exact ⟨_, pt_cmpR h1 ha hb hm, r_test (r_op ra rb h2)⟩
theorem pd_neg (ha : PD X E a fa) : PD X E (.UnaryOp .USub a pos) (pUn gNeg fa) := by
  obtain ⟨ta, ha, ra⟩ := ha
  exact ⟨_, pe_un un_neg ha, r_un ra ud_neg⟩
theorem pd_not (ha : PD X E a fa) : PD X E (.UnaryOp .Not a pos) (pNotV fa) := by
  obtain ⟨ta, ha, ra⟩ := ha
  exact ⟨_, pe_not ha, r_notV ra⟩
theorem pd_one {op} (ha : PD X E a fa) : PD X E (.BoolOp op [a] pos) fa := by
  obtain ⟨ta, ha, ra⟩ := ha
  exact ⟨_, pe_one ha, ra⟩
theorem pd_and (ha : PD X E a fa) (hb : PD X E (.BoolOp .And (b :: es) pos) fb) : PD X E (.BoolOp .And (a :: b :: es) pos) (pAndV fa fb) := by
  obtain ⟨ta, ha, ra⟩ := ha
  obtain ⟨tb, hb, rb⟩ := hb
  exact ⟨_, pe_and ha hb, r_andV ra rb⟩
theorem pd_or (ha : PD X E a fa) (hb : PD X E (.BoolOp .Or (b :: es) pos) fb) : PD X E (.BoolOp .Or (a :: b :: es) pos) (pOrV fa fb) := by
  obtain ⟨ta, ha, ra⟩ := ha
  obtain ⟨tb, hb, rb⟩ := hb
  exact ⟨_, pe_or ha hb, r_orV ra rb⟩
theorem pd_if {t : FT} (hc : PDT X E c t) (ha : PD X E a fa) (hb : PD X E b fb) : PD X E (.IfExp c a b pos) (pIf t fa fb) := by
  obtain ⟨tc, hc, rc⟩ := hc
  obtain ⟨ta, ha, ra⟩ := ha
  obtain ⟨tb, hb, rb⟩ := hb
  exact ⟨_, pe_ifExp hc ha hb, r_if rc ra rb⟩
/-! tests -/
theorem pdt_val (ha : PD X E e fe) (he : ∀ whole, isTrue e X.env whole = (do let v ← whole; standAt e.pos; holding [v] (truthy v)) := by intro _; rfl) : PDT X E e (pTest fe) := by
  obtain ⟨ta, ha, ra⟩ := ha
  exact ⟨_, pt_val ha he, r_tB ra⟩
theorem pdt_not {t : FT} (ha : PDT X E a t) : PDT X E (.UnaryOp .Not a pos) (pNot t) := by
  obtain ⟨ta, ha, ra⟩ := ha
  exact ⟨_, pt_not ha, r_not ra⟩
theorem pdt_w {t : FT} (h : PDW X E e t) : PDT X E e t := by
  obtain ⟨t', h, r⟩ := h
  exact ⟨_, h.pt, r⟩
theorem pdw_and1 {t : FT} (ha : PDT X E a t) : PDW X E (.BoolOp .And [a] pos) t := by
  obtain ⟨ta, ha, ra⟩ := ha
  exact ⟨_, pw_and1 ha, ra⟩
theorem pdw_or1 {t : FT} (ha : PDT X E a t) : PDW X E (.BoolOp .Or [a] pos) t := by
  obtain ⟨ta, ha, ra⟩ := ha
  exact ⟨_, pw_or1 ha, ra⟩
theorem pdw_and {t u : FT} (ha : PDT X E a t) (hb : PDW X E (.BoolOp .And (b :: es) pos) u) : PDW X E (.BoolOp .And (a :: b :: es) pos) (pAnd t u) := by
  obtain ⟨ta, ha, ra⟩ := ha
  obtain ⟨tb, hb, rb⟩ := hb
  exact ⟨_, pw_and ha hb, r_and ra rb⟩
theorem pdw_or {t u : FT} (ha : PDT X E a t) (hb : PDW X E (.BoolOp .Or (b :: es) pos) u) : PDW X E (.BoolOp .Or (a :: b :: es) pos) (pOr t u) := by
  obtain ⟨ta, ha, ra⟩ := ha
  obtain ⟨tb, hb, rb⟩ := hb
  exact ⟨_, pw_or ha hb, r_or ra rb⟩
/-! arguments, displays, parts -/
theorem pda_nil : PDA X E [] aNil := ⟨_, pa_nil, r_nil⟩
theorem pda_cons {f : FA} (ha : PD X E e fe) (hr : PDA X E es f) (h : starEach (e :: es) X.env = (false, eval e X.env) :: starEach es X.env := by rfl) : PDA X E (e :: es) (aCons fe f) := by
  obtain ⟨ta, ha, ra⟩ := ha
  obtain ⟨tr, hr, rr⟩ := hr
  exact ⟨_, pa_cons ha hr h, r_cons ra rr⟩
theorem pd_tup {f : FA} {x1} (h : PDA X E es f) : PD X E (.Tuple es x1 pos) (pTup f) := by
  obtain ⟨t, h, r⟩ := h
  exact ⟨_, pe_tup h, r_tup r⟩
theorem pd_lst {f : FA} (h : PDA X E es f) : PD X E (.List es pos) (pLst f) := by
  obtain ⟨t, h, r⟩ := h
  exact ⟨_, pe_lst h, r_lst r⟩
theorem pd_new {f : FA} (h : PDA X E es f) : PD X E (.List es pos) (pNew f) := by
  obtain ⟨t, h, r⟩ := h
  exact ⟨_, pe_lst h, r_new r⟩
theorem pd_ix (ha : PD X E a fa) (hb : PD X E b fb) (hs : PlainIx b := by exact fun _ _ => rfl) : PD X E (.Subscript a b pos) (pOp gIx fa fb) := by
  obtain ⟨ta, ha, ra⟩ := ha
  obtain ⟨tb, hb, rb⟩ := hb
  exact ⟨_, pe_ix ix_seq ha hb hs, r_op ra rb od_ix⟩
theorem pdo_none : PDO X E none oNone := ⟨_, po_none, r_oNone⟩
theorem pdo_some (h : PD X E e fe) : PDO X E (some e) (oSome fe) := by
  obtain ⟨t, h, r⟩ := h
  exact ⟨_, po_some h, r_oSome r⟩
theorem pd_sl {lo hi : Option Expr} {p2 : Pos} {fl fh : FO} (he : PD X E e fe) (hl : PDO X E lo fl) (hh : PDO X E hi fh) : PD X E (.Subscript e (.Slice lo hi none p2) pos) (pSl gSl fe fl fh) := by
  obtain ⟨t, he, r⟩ := he
  obtain ⟨tl, hl, rl⟩ := hl
  obtain ⟨th, hh, rh⟩ := hh
  exact ⟨_, pe_slice sl_D he hl hh, r_sl r rl rh sd_sl⟩
/-! calls -/
theorem pd_call {CX : CXT} {k : Nat} {f : Addr} {fd : FuncData} {ps : List Str} {Φ : List D → PM → Out D} {fargs : FA} (F : FnOk X.prog X.w X.K X.mg X.base CX k f fd ps (spP X.K Φ)) (hr : Room k X.A) (hg : Gl X x) (hm : X.mg x = some (.ref f)) (hk : PySem.W.keepIn X.K (.ref f) = true)
    (hb : Binds X.K fd ps []) (hx : Passes CX X E) (ha : PDA X E (e :: es) fargs) (hdb : (x == ("__debug__" : Str)) = false := by decide)
    (he : starEach (e :: es) X.env = (false, eval e X.env) :: starEach es X.env := by rfl) (hpl : (backTo pos (starEach es X.env)).any (·.1) = false := by rfl) : PD X E (.Call (.Name x p) (e :: es) [] pos) (pCall Φ fargs) := by
  obtain ⟨t, ha, r⟩ := ha
  exact ⟨_, pe_call F hr hg hm hk hb .nil hx ha hdb he hpl, r_call r⟩
theorem pd_callB {id : String} {g : PM → List D → Out D} {fargs : FA} (hc : Blt X E (.builtin id) g) (hg : Gl X x) (hm : X.mg x = none) (hv : bootBuiltins x = some (.builtin id)) (ha : PDA X E (e :: es) fargs) (hn : x ≠ "__name__" := by decide) (hdb : (x == ("__debug__" : Str)) = false := by decide)
    (he : starEach (e :: es) X.env = (false, eval e X.env) :: starEach es X.env := by rfl) (hpl : (backTo pos (starEach es X.env)).any (·.1) = false := by rfl) : PD X E (.Call (.Name x p) (e :: es) [] pos) (pCB g fargs) := by
  obtain ⟨r, h1, h2⟩ := hc
  obtain ⟨t, ha, rr⟩ := ha
  exact ⟨_, pe_callB h1 hg hm hv ha hn hdb he hpl, r_cb rr h2⟩
theorem pd_callT {T : String} {g : PM → List D → Out D} {fargs : FA} (hc : Blt X E (.type T) g) (hg : Gl X x) (hm : X.mg x = none) (hv : bootBuiltins x = some (.type T)) (ha : PDA X E (e :: es) fargs) (hn : x ≠ "__name__" := by decide) (hdb : (x == ("__debug__" : Str)) = false := by decide)
    (he : starEach (e :: es) X.env = (false, eval e X.env) :: starEach es X.env := by rfl) (hpl : (backTo pos (starEach es X.env)).any (·.1) = false := by rfl) : PD X E (.Call (.Name x p) (e :: es) [] pos) (pCB g fargs) := by
  obtain ⟨r, h1, h2⟩ := hc
  obtain ⟨t, ha, rr⟩ := ha
  exact ⟨_, pe_callTy h1 hg hm hv ha hn hdb he hpl, r_cb rr h2⟩
/-! the operators -/
theorem o_add : Op2 X E (binaryOp .Add) gAdd := ⟨_, op_add.or (op_add_str.or (op_catA.or op_cat)), (od_II0 fun _ _ _ _ => .int _).or (od_addS.or (od_addT.or od_addL))⟩
theorem o_sub : Op2 X E (binaryOp .Sub) gSub := ⟨_, op_sub, od_II0 fun _ _ _ _ => .int _⟩
theorem o_mul : Op2 X E (binaryOp .Mult) gMul := ⟨_, op_mul, od_II (fun i j h => by
  unfold cMul at h
  simp only [Bool.or_eq_true, Bool.and_eq_true, decide_eq_true_eq] at h
  exact h) fun _ _ _ _ => .int _⟩
theorem o_fdiv : Op2 X E (binaryOp .FloorDiv) gFdiv := ⟨_, op_fdiv.or op_fdivN, (od_II (fun i j h => by
  unfold cDiv at h
  simp only [Bool.and_eq_true, decide_eq_true_eq] at h
  exact h) fun _ _ _ _ => .int _).or (od_II (fun i j h => by
  unfold cDivN at h
  simp only [Bool.and_eq_true, decide_eq_true_eq] at h
  exact h) fun _ _ _ _ => .int _)⟩
theorem o_mod : Op2 X E (binaryOp .Mod) gMod := ⟨_, op_mod.or op_modN, (od_II (fun i j h => of_decide_eq_true h) fun _ _ _ _ => .int _).or (od_II (fun i j h => of_decide_eq_true h) fun _ _ _ _ => .int _)⟩
theorem o_pow : Op2 X E (binaryOp .Pow) gPow := ⟨_, op_pow, od_II (fun i j h => by
  unfold cPow at h
  simp only [Bool.and_eq_true, decide_eq_true_eq] at h
  exact ⟨h.1.1, h.1.2, h.2⟩) fun _ _ _ _ => .int _⟩
theorem o_lt : Op2 X E (compareOp .Lt) gLt := ⟨_, op_lt, od_II0 fun _ _ _ _ => .bl _⟩
theorem o_le : Op2 X E (compareOp .LtE) gLe := ⟨_, op_le, od_II0 fun _ _ _ _ => .bl _⟩
theorem o_gt : Op2 X E (compareOp .Gt) gGt := ⟨_, op_gt, od_II0 fun _ _ _ _ => .bl _⟩
theorem o_ge : Op2 X E (compareOp .GtE) gGe := ⟨_, op_ge, od_II0 fun _ _ _ _ => .bl _⟩
theorem o_eq : Op2 X E (compareOp .Eq) gEq := ⟨_, op_eq, od_eq⟩
theorem o_ne : Op2 X E (compareOp .NotEq) gNe := ⟨_, op_ne, od_ne⟩
theorem o_is : Op2 X E (compareOp .Is) gIs' := ⟨_, op_isN1, od_is⟩
theorem o_isNot : Op2 X E (compareOp .IsNot) gIsNot' := ⟨_, op_notN1, od_isNot⟩
theorem o_in : Op2 X E (compareOp .In) gIn := ⟨_, op_inS.or op_in_seq, od_inS.or od_inL⟩
theorem o_notIn : Op2 X E (compareOp .NotIn) gNotIn := ⟨_, op_notInS.or op_notIn_seq, od_notInS.or od_notInL⟩
theorem b_len : Blt X E (.builtin "len") bLen := ⟨_, call_len, cd_len⟩
theorem b_abs : Blt X E (.builtin "abs") bAbs := ⟨_, call_abs, cd_abs⟩
theorem b_int : Blt X E (.type "int") bInt := ⟨_, call_int1.or call_int_str, cd_int⟩
theorem b_str : Blt X E (.type "str") bStr := ⟨_, call_str_int.or SkE.call_str_str, cd_str⟩
theorem b_tuple : Blt X E (.type "tuple") bTuple := ⟨_, call_tuple_of, cd_tuple⟩
theorem b_list : Blt X E (.type "list") bList := ⟨_, call_list_of, cd_list⟩
theorem b_isi : Blt X E (.builtin "isinstance") bIsi := ⟨_, call_isi, cd_isi⟩
theorem b_max2 (hc : X.calm = true) : Blt X E (.builtin "max") bMax2 := ⟨_, call_max2 hc, cd_max2⟩
theorem b_min2 (hc : X.calm = true) : Blt X E (.builtin "min") bMin2 := ⟨_, call_min2 hc, cd_min2⟩
/-! statements -/
section
variable {st : Stmt} {sts body orelse : List Stmt} {f g : FS} {t : FT} {tg iter : Expr}
theorem pdb_nil : PDB X E [] sNext := ⟨_, pss_nil, s_next⟩
theorem pdb_cons (h1 : PDS X E st f) (h2 : PDB X E sts g) : PDB X E (st :: sts) (sSeq f g) := by
  obtain ⟨t1, h1, r1⟩ := h1
  obtain ⟨t2, h2, r2⟩ := h2
  exact ⟨_, pss_cons h1 h2, s_seq r1 r2⟩
theorem pdb_one (h1 : PDS X E st f) : PDB X E [st] f := by
  obtain ⟨t1, h1, r1⟩ := h1
  exact ⟨_, pss_one h1, r1⟩
theorem pds_set {pos' : Pos} (i : Nat) (he : PD X E e fe) (hN : X.N.Nodup) (hi : X.N[i]? = some x := by rfl) (hx : Loc X.env.scope x := by first | exact Or.inl rfl | exact Or.inr rfl) (hs : swapsWith e (some (.Name x pos')) pos.line X.env = pure false := by rfl)
    (hf : X.fn x = true ∨ X.env.scope.names.lookup x = some .local := by first | exact .inl rfl | exact .inr rfl | assumption) : PDS X E (.Assign [.Name x pos'] e pos) (sAsg fe (fName i)) := by
  obtain ⟨t, he, r⟩ := he
  exact ⟨_, ps_set hN hi hx he hs hf, s_asg r g_name⟩
theorem pds_asg {fg : FG} (he : PD X E e fe) (hg : PDG X E tg fg) (hs : swapsWithSole [tg] e pos.line X.env = pure false := by rfl) (hw : swappedStores [tg] e X.env = pure none := by rfl)
    (h1 : (assignEach [tg] X.env).map (·.2) = [assign tg X.env] := by rfl) : PDS X E (.Assign [tg] e pos) (sAsg fe fg) := by
  obtain ⟨t, he, r⟩ := he
  obtain ⟨tg', hg, rg⟩ := hg
  exact ⟨_, ps_asg he hg hs hw h1, s_asg r rg⟩
theorem pdg_name {i : Nat} (hN : X.N.Nodup) (hi : X.N[i]? = some x := by rfl) (hx : Loc X.env.scope x := by first | exact Or.inl rfl | exact Or.inr rfl) (hf : X.fn x = true ∨ X.env.scope.names.lookup x = some .local := by first | exact .inl rfl | exact .inr rfl | assumption) : PDG X E (.Name x pos) (fName i) :=
  ⟨_, pg_name hN hi hx hf, g_name⟩
theorem pdgs_nil : PDGs X E [] fNil := ⟨_, pgs_nil, g_nil⟩
theorem pdgs_cons {f : FG} {fs : FGs} (h1 : PDG X E e f) (h2 : PDGs X E es fs) (hs : (assignEach (e :: es) X.env).map (·.2) = assign e X.env :: (assignEach es X.env).map (·.2) := by rfl) : PDGs X E (e :: es) (fCons f fs) := by
  obtain ⟨t1, h1, r1⟩ := h1
  obtain ⟨t2, h2, r2⟩ := h2
  exact ⟨_, pgs_cons h1 h2 hs, g_cons r1 r2⟩
theorem pdg_tup {k : Nat} {n : Nat} {fs : FGs} (hc : X.calm = true) (h : PDGs X E es fs) (hn : (assignEach es X.env).length = n := by rfl) (hst : (assignEach es X.env).findIdx? (·.1) = none := by rfl) : PDG X E (.Tuple es k pos) (fTup n fs) := by
  obtain ⟨t, h, r⟩ := h
  exact ⟨_, pg_tup hc h hn hst, g_tup r⟩
theorem pdg_sub (ho : PD X E a fa) (hi : PD X E b fb) (ha : ∀ v, assign (.Subscript a b pos) X.env v = (do
      let ov ← holding [v] (eval a X.env)
      let iv ← holding [v, ov] (eval b X.env)
      standAt pos
      holding [v, ov, iv] (setItem ov iv v)
      release [v, ov, iv] []) := by intro v; rfl) : PDG X E (.Subscript a b pos) (fSub fa fb) := by
  obtain ⟨t1, h1, r1⟩ := ho
  obtain ⟨t2, h2, r2⟩ := hi
  exact ⟨_, pg_sub h1 h2 set_list ha, g_sub r1 r2⟩
theorem pds_expr (he : PD X E e fe) (hs : swapsWith e none pos.line X.env = pure false := by rfl) : PDS X E (.Expr e pos) (sDrop fe) := by
  obtain ⟨t, he, r⟩ := he
  exact ⟨_, ps_expr he hs, s_drop r⟩
theorem pds_ret (he : PD X E e fe) : PDS X E (.Return (some e) pos) (sRet fe) := by
  obtain ⟨t, he, r⟩ := he
  exact ⟨_, ps_ret he, s_ret r⟩
theorem pds_retN : PDS X E (.Return none pos) sRetN := ⟨_, ps_retN, s_retN⟩
theorem pds_brk : PDS X E (.Break pos) sBreak := ⟨_, ps_break, s_break⟩
theorem pds_cont : PDS X E (.Continue pos) sCont := ⟨_, ps_continue, s_cont⟩
theorem pds_pass : PDS X E (.Pass pos) sNext := ⟨_, ps_pass, s_next⟩
theorem pds_if (hc : PDT X E c t) (h1 : PDB X E body f) (h2 : PDB X E orelse g) : PDS X E (.If c body orelse pos) (sIf t f g) := by
  obtain ⟨tc, hc, rc⟩ := hc
  obtain ⟨t1, h1, r1⟩ := h1
  obtain ⟨t2, h2, r2⟩ := h2
  exact ⟨_, ps_if hc h1 h2, s_if rc r1 r2⟩
theorem pds_while (n : Nat) (hp : PassesOwn (model X.prog X.w) X.A X.env X.xe) (hc : PDT X E c t) (hb : PDB X E body f) : PDS X E (.While c body [] pos) (sWhile t f n) := by
  obtain ⟨tc, hc, rc⟩ := hc
  obtain ⟨tb, hb, rb⟩ := hb
  exact ⟨_, ps_while hp hc hb, s_while n rc rb⟩
theorem pds_for {fw : FA} {fg : FG} (hp : PassesOwn (model X.prog X.w) X.A X.env X.xe) (hc : X.calm = true) (hi : PDI X E tg iter fw) (hg : PDG X E tg fg) (hb : PDB X E body f) (hs : ∀ x, foldedSetIterable iter X.env x = pure x := by intro _; rfl) : PDS X E (.For tg iter body [] pos) (sFor fw fg f) := by
  obtain ⟨ti, hi, ri⟩ := hi
  obtain ⟨t1, hg, rg⟩ := hg
  obtain ⟨tb, hb, rb⟩ := hb
  exact ⟨_, ps_for hp hc hi hg hb hs, s_for ri rg rb⟩
end
end
end Pd

set_option Elab.async false
set_option linter.all false
set_option maxRecDepth 100000
set_option maxHeartbeats 1000000
namespace Pd
open PySem L2 PyProof.Rows

/-! ### values without the objects from n on -/
mutual
def clD (n : Nat) : D → Bool
  | .adr i => decide (i < n)
  | .tup ds => clL n ds
  | .lst ds => clL n ds
  | .rol ds => clL n ds
  | .non => true
  | .bl _ => true
  | .int _ => true
  | .str _ => true
  | .raw _ => true
def clL (n : Nat) : List D → Bool
  | [] => true
  | d :: ds => clD n d && clL n ds
end
def clMO (n : Nat) : MO → Bool
  | .lst ds => clL n ds
  | .ins _ fs => clL n (fs.map (·.2))
theorem clL_append (n : Nat) : ∀ as bs : List D, clL n (as ++ bs) = (clL n as && clL n bs)
  | [], bs => by simp [clL]
  | a :: as, bs => by simp [clL, clL_append n as bs, Bool.and_assoc]
theorem clL_of (n : Nat) : ∀ {as : List D}, (∀ a ∈ as, clD n a = true) → clL n as = true
  | [], _ => rfl
  | a :: as, h => by
    simp only [clL, Bool.and_eq_true]
    exact ⟨h a (List.mem_cons_self ..), clL_of n fun b hb => h b (List.mem_cons_of_mem _ hb)⟩
section
variable {K : PySem.W.Frag} {α α' : List Addr} {H H' : Hp} {E : XK}
mutual
theorem Rep.cl : ∀ (d : D) (v : V), Rep K α H d v → clD α.length d = true
  | .adr i, _, h => by
    cases h with
    | adr e => simp only [clD, decide_eq_true_eq]; exact (List.getElem?_eq_some_iff.mp e).1
  | .tup ds, _, h => by cases h with | tup t r => simp only [clD]; exact RepL.cl ds _ r
  | .lst ds, _, h => by cases h with | lst t r => simp only [clD]; exact RepL.cl ds _ r
  | .rol ds, _, h => by cases h with | rol t r => simp only [clD]; exact RepL.cl ds _ r
  | .non, _, _ => by simp only [clD]
  | .bl _, _, _ => by simp only [clD]
  | .int _, _, _ => by simp only [clD]
  | .str _, _, _ => by simp only [clD]
  | .raw _, _, _ => by simp only [clD]
theorem RepL.cl : ∀ (ds : List D) (vs : List V), RepL K α H ds vs → clL α.length ds = true
  | [], _, _ => by simp only [clL]
  | d :: ds, _, h => by
    cases h with
    | cons r t => simp only [clL, Bool.and_eq_true]; exact ⟨Rep.cl d _ r, RepL.cl ds _ t⟩
end
mutual
theorem Rep.trim (n : Nat) : ∀ (d : D) (v : V), clD n d = true → Rep K α H d v → Rep K (α.take n) H d v
  | .adr i, _, c, h => by
    cases h with
    | adr e =>
      simp only [clD, decide_eq_true_eq] at c
      exact .adr (by rw [List.getElem?_take_of_lt c]; exact e)
  | .tup ds, _, c, h => by
    cases h with
    | tup t r =>
      simp only [clD] at c
      refine .tup ?_ (RepL.trim n ds _ c r)
      rcases t with ⟨t, q⟩ | t
      · exact .inl ⟨t, fun z => q (List.mem_of_mem_take z)⟩
      · exact .inr t
  | .lst ds, _, c, h => by
    cases h with
    | lst t r =>
      simp only [clD] at c
      exact .lst ⟨t.1, fun z => t.2 (List.mem_of_mem_take z)⟩ (RepL.trim n ds _ c r)
  | .rol ds, _, c, h => by
    cases h with
    | rol t r =>
      simp only [clD] at c
      refine .rol ?_ (RepL.trim n ds _ c r)
      rcases t with ⟨t, q⟩ | t
      · exact .inl ⟨t, fun z => q (List.mem_of_mem_take z)⟩
      · exact .inr t
  | .non, _, _, h => by cases h; exact .non
  | .bl b, _, _, h => by cases h; exact .bl b
  | .int b, _, _, h => by cases h; exact .int b
  | .str b, _, _, h => by cases h; exact .str b
  | .raw b, _, _, h => by cases h; exact .raw b
theorem RepL.trim (n : Nat) : ∀ (ds : List D) (vs : List V), clL n ds = true → RepL K α H ds vs → RepL K (α.take n) H ds vs
  | [], _, _, h => by cases h; exact .nil
  | d :: ds, _, c, h => by
    cases h with
    | cons r t =>
      simp only [clL, Bool.and_eq_true] at c
      exact .cons (Rep.trim n d _ c.1 r) (RepL.trim n ds _ c.2 t)
end
theorem ObR.cl {a : Addr} {m : MO} (h : ObR K α H a m) : clMO α.length m = true := by
  cases m with
  | lst ds => obtain ⟨vs, _, r⟩ := h; exact RepL.cl ds _ r
  | ins C fs => obtain ⟨dx, vs, _, r⟩ := h; exact RepL.cl _ _ r
theorem ObR.trim {a : Addr} {m : MO} (n : Nat) (c : clMO n m = true) (h : ObR K α H a m) : ObR K (α.take n) H a m := by
  cases m with
  | lst ds => obtain ⟨vs, e, r⟩ := h; exact ⟨vs, e, RepL.trim n ds _ c r⟩
  | ins C fs => obtain ⟨dx, vs, e, r⟩ := h; exact ⟨dx, vs, e, RepL.trim n _ _ c r⟩
theorem Wd.cl {M : PM} (w : Wd K α M H) : ∀ m ∈ M, clMO M.length m = true := fun m hm => by
  obtain ⟨i, hi, e⟩ := List.mem_iff_getElem.mp hm
  obtain ⟨a, _, o⟩ := w.ob i m (by rw [List.getElem?_eq_getElem hi, e])
  rw [← w.len]
  exact o.cl
/-- the first n objects -/
theorem Wd.trim {M' junk : PM} (w : Wd K α (M' ++ junk) H) (c : ∀ m ∈ M', clMO M'.length m = true) : Wd K (α.take M'.length) M' H := by
  refine ⟨w.nd.sublist (List.take_sublist _ _), by rw [List.length_take, w.len, List.length_append]; omega, fun i m e => ?_⟩
  have hi := (List.getElem?_eq_some_iff.mp e).1
  obtain ⟨a, e1, o⟩ := w.ob i m (by rw [List.getElem?_append_left hi]; exact e)
  exact ⟨a, by rw [List.getElem?_take_of_lt hi]; exact e1, o.trim _ (c m (List.mem_of_getElem? e))⟩
theorem Step.trim {n : Nat} (s : Step α H α' H') (h : α.length ≤ n) : Step α H (α'.take n) H' := by
  obtain ⟨β, rfl, hb⟩ := s.ext
  refine ⟨⟨β.take (n - α.length), ?_, fun b hb' => hb b (List.mem_of_mem_take hb')⟩, s.pr⟩
  rw [List.take_append, List.take_of_length_le h]
/-- what is left when a def ends -/
def Shuts (M' M'' : PM) (d' d : D) : Prop := (M'' = M' ∧ d' = d) ∨
  ∃ junk, M'' = M' ++ junk ∧ (∀ m ∈ M', clMO M'.length m = true) ∧ ((d' = d ∧ clD M'.length d = true) ∨ ∃ i es, d' = .adr i ∧ M'.length ≤ i ∧ M''[i]? = some (.lst es) ∧ d = .lst es ∧ clL M'.length es = true)
theorem shut_ok {M' M'' : PM} {d' d : D} {v : V} (s : Shuts M' M'' d' d) (w : Wd K α M'' H) (r : Rep K α H d' v) : Wd K (α.take M'.length) M' H ∧ Rep K (α.take M'.length) H d v := by
  rcases s with ⟨rfl, rfl⟩ | ⟨junk, rfl, c, s⟩
  · rw [← w.len, List.take_length]
    exact ⟨w, r⟩
  · refine ⟨w.trim c, ?_⟩
    rcases s with ⟨rfl, cd⟩ | ⟨i, es, rfl, hi, e, rfl, ce⟩
    · exact Rep.trim _ _ _ cd r
    · cases r with
      | adr ha =>
        obtain ⟨a', e1, vs, e2, e3⟩ := w.ob _ _ e
        rw [ha] at e1
        cases e1
        refine .lst ⟨e2, fun z => ?_⟩ (RepL.trim _ _ _ ce e3)
        obtain ⟨j, hj, e4⟩ := List.mem_iff_getElem.mp z
        rw [List.getElem_take] at e4
        rw [List.length_take] at hj
        obtain ⟨hi', e5⟩ := List.getElem?_eq_some_iff.mp ha
        have := (List.getElem_inj w.nd).mp (e4.trans e5.symm)
        omega

/-! ### THE RULE for a def -/
def rho0 (N : List Str) (ds : List D) : Rho := ds.map some ++ List.replicate (N.length - ds.length) none
theorem env0 {N : List Str} {ds : List D} {vs : List V} (r : RepL K α H ds vs) : EnvR K α H (rho0 N ds) (L2.start N vs) := by
  unfold rho0 L2.start
  refine ⟨by simp [r.length], fun i d h => ?_⟩
  by_cases hi : i < ds.length
  · rw [List.getElem?_append_left (by simpa using hi), List.getElem?_map] at h
    cases e : ds[i]? with
    | none => rw [e] at h; cases h
    | some d' =>
      rw [e] at h
      cases h
      obtain ⟨v, e1, e2⟩ := r.get e
      refine ⟨v, ?_, e2⟩
      rw [List.getElem?_append_left (by rw [List.length_map, ← r.length]; exact hi), List.getElem?_map, e1]
      rfl
  · rw [List.getElem?_append_right (by simpa using hi), List.getElem?_replicate] at h
    split at h <;> cases h
def Fits (N : List Str) (g : FS) (Φ : List D → PM → Out D) (ds : List D) (M : PM) : Prop := match Φ ds M with
  | .ok d M' => M.length ≤ M'.length ∧ ∃ d' M'', (g (rho0 N ds) M = .ok (.rt d') M'' ∨ (∃ ρ, g (rho0 N ds) M = .ok (.nx ρ) M'' ∧ d' = .non)) ∧ Shuts M' M'' d' d
  | .exn _ _ _ => False
  | .bad => True
theorem fn_pd {P : Program} {w : World} {mg : Str → Option Value} {base : Heap} {x qual : Str} {st : Stmt} {f : Addr} {fd : FuncData} {N ps : List Str} {k : Nat} {Φ : List D → PM → Out D} {g : FS} (F : Fun K x qual st f fd) (S : FnScope N ps (defScope st))
    (hl : ∀ ds M, ds.length ≠ ps.length → Φ ds M = .bad)
    (body : ∀ (cdv : Value) (A : Around) (outer : List PySem.Env) (s : Shared) (H : Hp) (E : XK), Room k (A.deeper (envOfC qual (defScope st) s.heap.objs.size f cdv)) → PDB (cxOf CX0 P w K mg base N qual (defScope st) f cdv A outer s H E).nox E0 (defBody st) g)
    (fit : ∀ ds M, ds.length = ps.length → (∀ m ∈ M, clMO M.length m = true) → clL M.length ds = true → Fits N g Φ ds M) : FnOk P w K mg base CX0 (k + 1) f fd ps (spP K Φ) := by
  refine F.ok S (fun vs H Q E h => ?_) (fun cdv A outer s H vs Q E hr h => ?_)
  · obtain ⟨ds, α, M, hw, hr, hp⟩ := h
    by_cases e : ds.length = ps.length
    · rw [← hr.length]; exact e
    · rw [hl ds M e] at hp; exact hp.elim
  · obtain ⟨ds, α, M, hw, hrp, hp⟩ := h
    obtain ⟨t, h1, h2⟩ := body cdv A outer s H E hr
    refine ⟨t, h1, ?_⟩
    have hlen : ds.length = ps.length := by
      by_cases e : ds.length = ps.length
      · exact e
      · rw [hl ds M e] at hp; exact hp.elim
    have hf := fit ds M hlen hw.cl (by have := RepL.cl _ _ hrp; rw [hw.len] at this; exact this)
    unfold Fits at hf
    split at hf
    · rename_i d M' he
      rw [he] at hp
      obtain ⟨hM, d', M'', hg, hs⟩ := hf
      have hs' : Shuts M' M'' d' d := hs
      refine h2 (rho0 N ds) _ H α M _ (env0 hrp) hw ?_
      have key : ∀ v α' H', Step α H α' H' → Wd K α' M'' H' → Rep K α' H' d' v → Q v H' := fun v α' H' st w' r' => by
        obtain ⟨w2, r2⟩ := shut_ok hs' w' r'
        exact hp v _ H' (st.trim (by rw [hw.len]; exact hM)) w2 r2
      rcases hg with hg | ⟨ρ, hg, hd⟩
      · rw [hg]
        intro b α' H' st w' r'
        cases b with
        | rt v => exact key v α' H' st w' r'
        | _ => exact r'.elim
      · rw [hg]
        intro b α' H' st w' r'
        cases b with
        | nx σ => exact key .non α' H' st w' (by rw [hd]; exact .non)
        | _ => exact r'.elim
    · exact hf.elim
    · rename_i he
      rw [he] at hp
      exact hp.elim

/-! ### what a for walks -/
def pItems (f : FE) : FA := fun ρ M => (f ρ M).bind fun a M1 => match a with
  | .lst ds => .ok ds M1
  | .rol ds => .ok ds M1
  | .tup ds => .ok ds M1
  | .str z => .ok (z.cps.toList.map fun c => .str ⟨#[c]⟩) M1
  | _ => .bad
def iAny (K : PySem.W.Frag) (te : TE) : TI := fun σ H R => te σ H fun x H1 => (∃ a, x = .ref a ∧ (∃ xs, SqL K H1 a xs) ∧ R (Itl K a) H1) ∨ (∃ a, x = .ref a ∧ (∃ xs, SqT K H1 a xs) ∧ R (Itt K a) H1) ∨ ∃ z, x = .str z ∧ R (Its z) H1
theorem pi_any {X : Cx} {tg e : Expr} {te : TE} (he : PE X e te) : PI X tg e (iAny X.K te) := by
  refine ⟨fun pins s σ H R I h => ?_⟩
  refine thn (he.run pins s σ H _ I h) fun v s1 ⟨x, H1, I1, r1, q1⟩ => ?_
  rcases q1 with ⟨a, e, ⟨xs, hq⟩, q⟩ | ⟨a, e, ⟨xs, hq⟩, q⟩ | ⟨y, e, q⟩
  · subst e
    cases r1
    obtain ⟨its, rv, p, hz⟩ := I1.list hq
    refine wpAny_pyIter_list p.isList ?_
    exact pi_one (tk := s1.toks) I1 _ (turn_list a _) ⟨_, Heap.get?_push_size _ rfl, rfl, rfl⟩ q
  · subst e
    cases r1
    obtain ⟨its, rv, p, hz⟩ := I1.tuple hq
    refine wpAny_pyIter_tuple (show s1.heap.IsTuple a its.toArray from p) ?_
    exact pi_one (tk := s1.toks) I1 _ (turn_tuple a _) ⟨_, Heap.get?_push_size _ rfl, rfl, rfl⟩ q
  · subst e
    obtain ⟨t, rfl⟩ := r1
    cases ha : y.cps.all (· < 128)
    · exact wpAny_pyIter_wide ha (pi_one (tk := s1.toks) I1 _ (turn_str _ y t "str_iterator" (.inr rfl)) ⟨_, Heap.get?_push_size _ rfl, rfl, rfl⟩ q)
    · exact wpAny_pyIter_ascii ha (pi_one (tk := s1.toks) I1 _ (turn_str _ y t "str_ascii_iterator" (.inl rfl)) ⟨_, Heap.get?_push_size _ rfl, rfl, rfl⟩ q)
theorem itl_ok {p : Addr} {xs : List V} {ds : List D} (hs : ∀ α' H', Step α H α' H' → SqL K H' p xs) (r : RepL K α H ds xs) : ItR K α H ds (Itl K p) := fun α' H' st i => by
  have r' := RepL.step st _ _ r
  refine ⟨fun d hd => ?_, fun hl => ⟨xs, hs α' H' st, by rw [← r.length]; exact hl⟩⟩
  obtain ⟨v, hv, rv⟩ := r'.get hd
  refine ⟨⟨xs, v, hs α' H' st, hv⟩, fun x H'' y => ?_⟩
  obtain ⟨rfl, y⟩ := y
  have := y xs (hs α' _ st)
  rw [hv] at this
  cases this
  exact ⟨fun _ _ h => h, rv⟩
theorem itt_ok {p : Addr} {xs : List V} {ds : List D} (hs : ∀ α' H', Step α H α' H' → SqT K H' p xs) (r : RepL K α H ds xs) : ItR K α H ds (Itt K p) := fun α' H' st i => by
  have r' := RepL.step st _ _ r
  refine ⟨fun d hd => ?_, fun hl => ⟨xs, hs α' H' st, by rw [← r.length]; exact hl⟩⟩
  obtain ⟨v, hv, rv⟩ := r'.get hd
  refine ⟨⟨xs, v, hs α' H' st, hv⟩, fun x H'' y => ?_⟩
  obtain ⟨rfl, y⟩ := y
  have := y xs (hs α' _ st)
  rw [hv] at this
  cases this
  exact ⟨fun _ _ h => h, rv⟩
theorem its_ok {z : Str} : ItR K α H (z.cps.toList.map fun c => .str ⟨#[c]⟩) (Its z) := fun α' H' st i => by
  refine ⟨fun d hd => ?_, fun hl => by show z.cps.size ≤ i; simpa using hl⟩
  rw [List.getElem?_map] at hd
  cases e : z.cps.toList[i]? with
  | none => rw [e] at hd; cases hd
  | some c =>
    rw [e] at hd
    cases hd
    have hi : i < z.cps.size := by simpa using (List.getElem?_eq_some_iff.mp e).1
    refine ⟨hi, fun x H'' y => ?_⟩
    obtain ⟨rfl, c', h1, rfl⟩ := y
    have : z.cps[i]? = some c := by rw [← e]; simp
    rw [this] at h1
    cases h1
    exact ⟨fun _ _ h => h, .str _⟩
theorem r_items {te : TE} {fe : FE} (ha : RE K E te fe) : RI K E (iAny K te) (pItems fe) := fun ρ σ H α M Q e w h =>
  ha ρ σ H α M _ e w (bnd h fun a M1 x α1 H1 _ s1 w1 r1 q => by
    cases a with
    | lst ds =>
      cases r1 with
      | lst t r => exact .inl ⟨_, rfl, ⟨_, t.sq⟩, q.now w1 (itl_ok (fun α' H' st => (t.step st).sq) r)⟩
    | rol ds =>
      cases r1 with
      | rol t r => exact .inl ⟨_, rfl, ⟨_, t.sq⟩, q.now w1 (itl_ok (fun α' H' st => (t.step st).sq) r)⟩
    | tup ds =>
      cases r1 with
      | tup t r => exact .inr (.inl ⟨_, rfl, ⟨_, t.sq⟩, q.now w1 (itt_ok (fun α' H' st => (t.step st).sq) r)⟩)
    | str z =>
      cases r1
      exact .inr (.inr ⟨z, rfl, q.now w1 its_ok⟩)
    | _ => exact q.elim)
def rngD (lo : Int) (n : Nat) : List D := (List.range n).map fun (k : Nat) => .int (lo + (k : Int))
def rngOk (j : Int) : Bool := decide (-4611686018427387904 ≤ j) && decide (j < 4611686018427387904)
theorem rngOk_of {j : Int} (h : rngOk j = true) : -4611686018427387904 ≤ j ∧ j < 4611686018427387904 := by
  unfold rngOk at h
  rw [Bool.and_eq_true, decide_eq_true_eq, decide_eq_true_eq] at h
  exact h
def pRng1 (f : FA) : FA := fun ρ M => (f ρ M).bind fun as M1 => match as with
  | [.int j] => if rngOk j = true then .ok (rngD 0 j.toNat) M1 else .bad
  | _ => .bad
def pRng2 (f : FA) : FA := fun ρ M => (f ρ M).bind fun as M1 => match as with
  | [.int i, .int j] => if (rngOk i && rngOk j) = true then .ok (rngD i (j - i).toNat) M1 else .bad
  | _ => .bad
theorem itr_ok {lo : Int} {n : Nat} : ItR K α H (rngD lo n) (Itr lo n) := fun α' H' st i => by
  unfold rngD
  refine ⟨fun d hd => ?_, fun hl => by show n ≤ i; simpa using hl⟩
  rw [List.getElem?_map] at hd
  by_cases hi : i < n
  · rw [List.getElem?_range hi] at hd
    cases hd
    refine ⟨hi, fun x H'' y => ?_⟩
    obtain ⟨rfl, rfl⟩ := y
    exact ⟨fun _ _ h => h, .int _⟩
  · rw [List.getElem?_eq_none (by simpa using hi)] at hd
    cases hd
theorem r_rng1 {ta : TA} {fa : FA} (ha : RA K E ta fa) : RI K E (iRng1 ta) (pRng1 fa) := fun ρ σ H α M Q e w h =>
  ha ρ σ H α M _ e w (bnd h fun as M1 xs α1 H1 _ s1 w1 r1 q => by
    split at q
    · obtain ⟨x, rfl, r⟩ := rep1 r1
      cases r
      obtain ⟨hj, q⟩ := ifb q
      obtain ⟨h1, h2⟩ := rngOk_of hj
      exact ⟨_, rfl, h1, h2, q.now w1 itr_ok⟩
    · exact q.elim)
theorem r_rng2 {ta : TA} {fa : FA} (ha : RA K E ta fa) : RI K E (iRng2 ta) (pRng2 fa) := fun ρ σ H α M Q e w h =>
  ha ρ σ H α M _ e w (bnd h fun as M1 xs α1 H1 _ s1 w1 r1 q => by
    split at q
    · obtain ⟨x, y, rfl, r, r'⟩ := rep2 r1
      cases r
      cases r'
      obtain ⟨hj, q⟩ := ifb q
      rw [Bool.and_eq_true] at hj
      obtain ⟨h1, h2⟩ := rngOk_of hj.1
      obtain ⟨h3, h4⟩ := rngOk_of hj.2
      exact ⟨_, _, rfl, ⟨h1, h2, h3, h4⟩, q.now w1 itr_ok⟩
    · exact q.elim)
section
variable {X : Cx} {e a b tg : Expr} {fe : FE} {pos p : Pos}
theorem pdi_any (he : PD X E e fe) : PDI X E tg e (pItems fe) := by
  obtain ⟨t, h, r⟩ := he
  exact ⟨_, pi_any h, r_items r⟩
theorem pdi_rng1 {fa : FA} (hg : Gl X "range") (hm : X.mg "range" = none) (ha : PDA X E [a] fa) (hs : starEach [a] X.env = [(false, eval a X.env)] := by rfl) : PDI X E tg (.Call (.Name "range" p) [a] [] pos) (pRng1 fa) := by
  obtain ⟨t, h, r⟩ := ha
  exact ⟨_, pi_range1 hg hm h hs, r_rng1 r⟩
theorem pdi_rng2 {fa : FA} (hg : Gl X "range") (hm : X.mg "range" = none) (ha : PDA X E [a, b] fa) (hs : starEach [a, b] X.env = [(false, eval a X.env), (false, eval b X.env)] := by rfl) (hs2 : starEach [b] X.env = [(false, eval b X.env)] := by rfl) : PDI X E tg (.Call (.Name "range" p) [a, b] [] pos) (pRng2 fa) := by
  obtain ⟨t, h, r⟩ := ha
  exact ⟨_, pi_range2 hg hm h hs hs2, r_rng2 r⟩
end
end
end Pd

set_option Elab.async false
set_option linter.all false
set_option maxRecDepth 100000
set_option maxHeartbeats 1000000
namespace Pd
open PySem L2 PyProof.Rows

/-! ### the widest reading of a function -/
section
variable {K : PySem.W.Frag} {E : XK} {X : Cx}
def canE (K : PySem.W.Frag) (E : XK) (f : FE) : TE := fun σ H Q => ∃ ρ α M, EnvR K α H ρ σ ∧ Wd K α M H ∧ Post (Rep K) K α H Q E (f ρ M)
def canT (K : PySem.W.Frag) (E : XK) (f : FT) : TT := fun σ H Q => ∃ ρ α M, EnvR K α H ρ σ ∧ Wd K α M H ∧ Post (fun _ _ a b => a = b) K α H Q E (f ρ M)
theorem canE_r {f : FE} : RE K E (canE K E f) f := fun ρ σ H α M Q e w h => ⟨ρ, α, M, e, w, h⟩
theorem canT_r {f : FT} : RT K E (canT K E f) f := fun ρ σ H α M Q e w h => ⟨ρ, α, M, e, w, h⟩
theorem PD.can {e : Expr} {f : FE} (h : PD X E e f) : PE X e (canE X.K E f) := by
  obtain ⟨t, h, r⟩ := h
  exact ⟨fun pins s σ H Q I ⟨ρ, α, M, e, w, q⟩ => h.run pins s σ H Q I (r ρ σ H α M Q e w q)⟩
theorem PDT.can {e : Expr} {f : FT} (h : PDT X E e f) : PT X e (canT X.K E f) := by
  obtain ⟨t, h, r⟩ := h
  exact ⟨fun pins s σ H Q I ⟨ρ, α, M, e, w, q⟩ => h.run pins s σ H Q I (r ρ σ H α M Q e w q)⟩

/-! ### list comprehensions -/
def wipeR (ρ : Rho) : List Nat → Rho
  | [] => ρ
  | v :: vs => (wipeR ρ vs).set v none
theorem EnvR.wipe {α : List Addr} {H : Hp} {ρ : Rho} {σ : L2.St} (e : EnvR K α H ρ σ) : ∀ vs, EnvR K α H (wipeR ρ vs) (wipe σ vs)
  | [] => e
  | v :: vs => by
    have ih := EnvR.wipe e vs
    unfold wipeR L2.wipe
    refine ⟨by rw [List.length_set, List.length_set]; exact ih.1, fun j d h => ?_⟩
    by_cases hj : v = j
    · subst hj
      by_cases hl : v < (wipeR ρ vs).length
      · rw [List.getElem?_set_self hl] at h
        cases h
      · rw [List.set_eq_of_length_le (by omega)] at h
        exact absurd (List.getElem?_eq_some_iff.mp h).1 hl
    · rw [List.getElem?_set_ne hj] at h
      obtain ⟨w, h1, h2⟩ := ih.2 j d h
      exact ⟨w, by rw [List.getElem?_set_ne hj]; exact h1, h2⟩
theorem wipe_set {j : Nat} {v : Option V} : ∀ {vs : List Nat} {σ : L2.St}, j ∈ vs → wipe (σ.set j v) vs = wipe σ vs
  | [], _, h => by cases h
  | w :: vs, σ, h => by
    unfold wipe
    by_cases hm : j ∈ vs
    · rw [wipe_set hm]
    · have hw : j = w := by
        rcases List.mem_cons.mp h with e | e
        · exact e
        · exact absurd e hm
      subst hw
      have : ∀ {us : List Nat} {τ : L2.St}, j ∉ us → wipe (τ.set j v) us = (wipe τ us).set j v := by
        intro us
        induction us with
        | nil => intro τ _; rfl
        | cons u us ih =>
          intro τ hn
          unfold wipe
          rw [ih (fun z => hn (List.mem_cons_of_mem _ z)), List.set_comm _ _ (fun z => hn (by rw [z]; exact List.mem_cons_self ..))]
      rw [this hm, List.set_set]
theorem wipe_wipe (σ : L2.St) : ∀ vs us : List Nat, (∀ v ∈ us, v ∈ vs) → wipe (wipe σ us) vs = wipe σ vs
  | vs, [], _ => rfl
  | vs, u :: us, h => by
    show wipe ((wipe σ us).set u none) vs = _
    rw [wipe_set (h u (List.mem_cons_self ..)), wipe_wipe σ vs us fun v hv => h v (List.mem_cons_of_mem _ hv)]
def OnlyIn (vs : List Nat) (g : TG) : Prop := ∀ v σ H Q, g v σ H Q → g v σ H fun σ2 H2 => wipe σ2 vs = wipe σ vs ∧ Q σ2 H2
def gNames : List Nat → TGs
  | [] => gNil
  | j :: js => gCons (gName j) (gNames js)
def fNames : List Nat → FGs
  | [] => fNil
  | j :: js => fCons (fName j) (fNames js)
theorem only_name {vs : List Nat} {j : Nat} (h : j ∈ vs) : OnlyIn vs (gName j) := fun v σ H Q q => ⟨wipe_set h, q⟩
theorem only_names {vs : List Nat} : ∀ {js : List Nat}, (∀ j ∈ js, j ∈ vs) → ∀ xs σ H (Q : L2.St → Hp → Prop), gNames js xs σ H Q → gNames js xs σ H fun σ2 H2 => wipe σ2 vs = wipe σ vs ∧ Q σ2 H2
  | [], _, xs, σ, H, Q, ⟨e, q⟩ => ⟨e, rfl, q⟩
  | j :: js, h, xs, σ, H, Q, ⟨v, r, e, q⟩ => by
    refine ⟨v, r, e, ?_⟩
    have ih := only_names (js := js) (fun k hk => h k (List.mem_cons_of_mem _ hk)) r (σ.set j (some v)) H Q q
    rw [wipe_set (h j (List.mem_cons_self ..))] at ih
    exact ih
theorem only_tup {vs js : List Nat} {n : Nat} (h : ∀ j ∈ js, j ∈ vs) : OnlyIn vs (gTup K n (gNames js)) := fun v σ H Q ⟨a, xs, e, t, l, q⟩ => ⟨a, xs, e, t, l, only_names h xs σ H Q q⟩
theorem g_names : ∀ {js : List Nat}, RGs K E (gNames js) (fNames js)
  | [] => g_nil
  | _ :: _ => g_cons g_name g_names
def lcPut (n : Nat) (y : D) (M : PM) : Out Unit := match M[n]? with
  | some (.lst acc) => if acc.length < line then .ok () (M.set n (.lst (acc ++ [y]))) else .bad
  | _ => .bad
def lcEnd (n : Nat) (M : PM) : Out D := match M[n]? with
  | some (.lst acc) => if M.length = n + 1 ∧ clL n acc = true ∧ (M.take n).all (clMO n) = true then .ok (.lst acc) (M.take n) else .bad
  | _ => .bad
def lcFrom (n : Nat) (g : FG) (t : FT) (f : FE) (ρ0 : Rho) : List D → PM → Out D
  | [], M => lcEnd n M
  | d :: ds, M => (g d ρ0 M).bind fun ρ1 M1 => (t ρ1 M1).bind fun b M2 => if b = true then (f ρ1 M2).bind fun y M3 => (lcPut n y M3).bind fun _ M4 => lcFrom n g t f ρ0 ds M4 else lcFrom n g t f ρ0 ds M2
def pLc (w : FA) (g : FG) (t : FT) (f : FE) (vs : List Nat) : FE := fun ρ M => (w ρ M).bind fun ds M1 => lcFrom M1.length g t f (wipeR ρ vs) ds (M1 ++ [.lst []])
def pYes : FT := fun _ M => .ok true M
/-- the chain, what is wanted still told from an earlier moment -/
theorem bndB {A B A' B' : Type} {R : List Addr → Hp → A → B → Prop} {R' : List Addr → Hp → A' → B' → Prop} {α0 α : List Addr} {H0 H : Hp} {M : PM} {Q : B' → Hp → Prop} {o : Out A} {g : A → PM → Out A'} {C : B → Hp → Prop}
    (hp : Post R' K α0 H0 Q E (o.bind g)) (s0 : Step α0 H0 α H) (w0 : Wd K α M H) (k : ∀ a M' b α' H', o = .ok a M' → Step α H α' H' → Wd K α' M' H' → R α' H' a b → Post R' K α0 H0 Q E (g a M') → C b H') : Post R K α H C E o := by
  cases o with
  | ok a M' => exact fun b α' H' s w r => k a M' b α' H' rfl s w r hp
  | exn c fs M' => exact fun od α' H' s w r => hp od α' H' (s0.tr w0 s) w r
  | bad => exact hp
theorem r_lc {wi : TI} {g : TG} {tt : TT} {te : TE} {vs : List Nat} {fw : FA} {fg : FG} {ft : FT} {fe : FE} (hi : RI K E wi fw) (hg : RG K E g fg) (ho : OnlyIn vs g) (ht : RT K E tt ft) (he : RE K E te fe) : RE K E (tLc wi g tt te vs) (pLc fw fg ft fe vs) := fun ρ σ H α M Q e w h =>
  hi ρ σ H α M _ e w (bnd h fun ds M1 J α1 H1 _ s1 w1 r1 h1 => by
    intro D hD
    obtain ⟨wb, sb⟩ := w1.new (m := .lst []) (o := .lst []) hD fun H' st e => ⟨[], e, .nil⟩
    have e1 := (e.step s1).wipe vs
    have hDn : (α1 ++ [D])[M1.length]? = some D := by rw [← w1.len, List.getElem?_append_right (Nat.le_refl _), Nat.sub_self]; rfl
    refine ⟨fun i m H => m = ds.length - i ∧ ∃ α M, Wd K α M H ∧ Step α1 H1 α H ∧ α[M1.length]? = some D ∧ Post (Rep K) K α1 H1 Q E (lcFrom M1.length fg ft fe (wipeR ρ vs) (ds.drop i) M), ⟨ds.length, by simp, _, _, wb, sb, hDn, h1⟩, ?_⟩
    rintro i m H2 ⟨rfl, α2, M2, w2, s2, hn2, h2⟩
    obtain ⟨go, stop⟩ := r1 α2 H2 s2 i
    by_cases hi : i < ds.length
    · refine .inr ?_
      rw [List.drop_eq_getElem_cons hi] at h2
      obtain ⟨g1, y1⟩ := go ds[i] (List.getElem?_eq_getElem hi)
      refine ⟨g1, fun H => ∃ α M, Wd K α M H ∧ Step α1 H1 α H ∧ α[M1.length]? = some D ∧ Post (Rep K) K α1 H1 Q E (lcFrom M1.length fg ft fe (wipeR ρ vs) (ds.drop (i + 1)) M), fun H' z => ⟨ds.length - (i + 1), by omega, rfl, z⟩, fun x H3 y => ?_⟩
      obtain ⟨x3, r3⟩ := y1 x H3 y
      have s3 : Step α2 H2 α2 H3 := Step.ex x3
      have w3 := w2.ex x3
      have st3 := s2.tr w2 s3
      have go2 := ho x (wipe σ vs) H3 _ (hg (wipeR ρ vs) (wipe σ vs) H3 α2 M2 ds[i] x (fun σ2 H2 => tt σ2 H2 fun b H3 => if b = true then te σ2 H3 fun y H4 => ∃ acc, H4 D = some (.lst acc) ∧ acc.length < sizeLine ∧ (∃ α M, Wd K α M (upd H4 D (.lst (acc ++ [y]))) ∧ Step α1 H1 α (upd H4 D (.lst (acc ++ [y]))) ∧ α[M1.length]? = some D ∧ Post (Rep K) K α1 H1 Q E (lcFrom M1.length fg ft fe (wipeR ρ vs) (ds.drop (i + 1)) M)) else (∃ α M, Wd K α M H3 ∧ Step α1 H1 α H3 ∧ α[M1.length]? = some D ∧ Post (Rep K) K α1 H1 Q E (lcFrom M1.length fg ft fe (wipeR ρ vs) (ds.drop (i + 1)) M))) (e1.step st3) w3 r3 ?_)
      · rw [wipe_wipe σ vs vs fun _ h => h] at go2
        exact go2
      · have pf : ∀ {α α' : List Addr} {H H' : Hp}, α[M1.length]? = some D → Step α H α' H' → α'[M1.length]? = some D := fun {α α' H H'} h s => by
          obtain ⟨β, rfl, _⟩ := s.ext
          rw [List.getElem?_append_left (List.getElem?_eq_some_iff.mp h).1]
          exact h
        refine bndB (h2 : Post (Rep K) K α1 H1 Q E ((fg ds[i] (wipeR ρ vs) M2).bind _)) st3 w3 fun ρ4 M4 σ4 α4 H4 _ s4 w4 r4 h4 => ?_
        have st4 := st3.tr w3 s4
        have hn4 := pf hn2 s4
        refine ht ρ4 σ4 H4 α4 M4 _ r4 w4 (bndB h4 st4 w4 fun b M5 b' α5 H5 _ s5 w5 r5 h5 => ?_)
        subst r5
        have st5 := st4.tr w4 s5
        have hn5 := pf hn4 s5
        cases b with
        | false => rw [if_neg Bool.false_ne_true] at h5 ⊢; exact ⟨α5, M5, w5, st5, hn5, h5⟩
        | true =>
          rw [if_pos rfl] at h5 ⊢
          refine he ρ4 σ4 H5 α5 M5 _ (r4.step s5) w5 (bndB h5 st5 w5 fun y M6 v α6 H6 _ s6 w6 r6 h6 => ?_)
          have st6 := st5.tr w5 s6
          have hn6 := pf hn5 s6
          unfold lcPut at h6
          split at h6
          · rename_i acc hm
            obtain ⟨a', ea, vs', ev, rv⟩ := w6.ob _ _ hm
            rw [hn6] at ea
            cases ea
            split at h6
            · rename_i hl
              have hl' : acc.length < sizeLine := by rw [← line_eq]; exact hl
              obtain ⟨w7, s7⟩ := w6.put (m := .lst (acc ++ [y])) (o := .lst (vs' ++ [v])) hn6 (List.getElem?_eq_some_iff.mp hm).1 fun H' st e => ⟨_, e, RepL.step st _ _ (rv.append (.cons r6 .nil))⟩
              exact ⟨vs', ev, by rw [← rv.length]; exact hl', α6, _, w7, st6.tr w6 s7, hn6, h6⟩
            · exact h6.elim
          · exact h6.elim
    · rw [List.drop_eq_nil_of_le (by omega)] at h2
      refine .inl ⟨stop (by omega), ?_⟩
      have h2' : Post (Rep K) K α1 H1 Q E (lcEnd M1.length M2) := h2
      unfold lcEnd at h2'
      split at h2'
      · rename_i acc hm
        obtain ⟨⟨c1, c2, c3⟩, h3⟩ := ifb h2'
        obtain ⟨a', ea, vs', ev, rv⟩ := w2.ob _ _ hm
        rw [hn2] at ea
        cases ea
        have hlen : (M2.take M1.length).length = M1.length := by rw [List.length_take]; omega
        have eM : M2 = M2.take M1.length ++ M2.drop M1.length := (List.take_append_drop _ _).symm
        have wt : Wd K (α2.take (M2.take M1.length).length) (M2.take M1.length) H2 := by
          refine Wd.trim (junk := M2.drop M1.length) (by rw [← eM]; exact w2) fun m hmm => ?_
          rw [hlen]
          exact List.all_eq_true.mp c3 m hmm
        rw [hlen] at wt
        have stt : Step α1 H1 (α2.take M1.length) H2 := s2.trim (by rw [w1.len]; exact Nat.le_refl _)
        refine h3 _ _ _ stt wt (.lst ⟨ev, fun z => ?_⟩ (RepL.trim _ _ _ c2 rv))
        obtain ⟨j, hj, e4⟩ := List.mem_iff_getElem.mp z
        rw [List.getElem_take] at e4
        rw [List.length_take] at hj
        obtain ⟨hi', e5⟩ := List.getElem?_eq_some_iff.mp hn2
        have := (List.getElem_inj w2.nd).mp (e4.trans e5.symm)
        omega
      · exact h2'.elim)
end
section
variable {X : Cx} {E : XK} {elt iter c : Expr} {ifs : List Expr} {scope : Scope} {own : List (Str × Nat)} {pos px spos py : Pos} {x y : Str} {fw : FA} {ft : FT} {fe : FE} {i j : Nat}
/-- [elt for x in iter if c], a name the target; hx: the name's place -/
theorem pd_lc (hc : X.calm = true) (hN : X.N.Nodup) (hi : PDI X E (.Name x px) iter fw) (ok : BlkOk X.N X.env.scope scope own) (hj : j ∈ own.map (·.2))
    (hg : ∀ (s : Shared) (H : Hp) (C : Addr) (cl : List (Str × Addr)) (fp : List Addr), PG (X.blk s H scope (compEnvC scope cl C X.env) fp) (.Name x px) (gName j))
    (he : ∀ (s : Shared) (H : Hp) (C : Addr) (cl : List (Str × Addr)) (fp : List Addr), PD (X.blk s H scope (compEnvC scope cl C X.env) fp) E elt fe) (hs : ∀ x, foldedSetIterable iter X.env x = pure x := by intro _; rfl) :
    PD X E (.ListComp elt [⟨.Name x px, iter, [], 0⟩] scope pos) (pLc fw (fName j) pYes fe (own.map (·.2))) := by
  obtain ⟨ti, hi, ri⟩ := hi
  exact ⟨_, pe_lc (te := canE X.K E fe) hc hN hi ok hg (fun _ _ _ _ _ => pts_nil) (fun s H C cl fp => (he s H C cl fp).can) hs, r_lc ri g_name (only_name hj) (fun ρ σ H α M Q e w h => h.now w rfl) canE_r⟩
theorem pd_lcIf (hc : X.calm = true) (hN : X.N.Nodup) (hi : PDI X E (.Name x px) iter fw) (ok : BlkOk X.N X.env.scope scope own) (hj : j ∈ own.map (·.2))
    (hg : ∀ (s : Shared) (H : Hp) (C : Addr) (cl : List (Str × Addr)) (fp : List Addr), PG (X.blk s H scope (compEnvC scope cl C X.env) fp) (.Name x px) (gName j))
    (ht : ∀ (s : Shared) (H : Hp) (C : Addr) (cl : List (Str × Addr)) (fp : List Addr), PDT (X.blk s H scope (compEnvC scope cl C X.env) fp) E c ft)
    (he : ∀ (s : Shared) (H : Hp) (C : Addr) (cl : List (Str × Addr)) (fp : List Addr), PD (X.blk s H scope (compEnvC scope cl C X.env) fp) E elt fe) (hs : ∀ x, foldedSetIterable iter X.env x = pure x := by intro _; rfl) :
    PD X E (.ListComp elt [⟨.Name x px, iter, [c], 0⟩] scope pos) (pLc fw (fName j) ft fe (own.map (·.2))) := by
  obtain ⟨ti, hi, ri⟩ := hi
  exact ⟨_, pe_lc (te := canE X.K E fe) hc hN hi ok hg (fun s H C cl fp => pts_one (ht s H C cl fp).can) (fun s H C cl fp => (he s H C cl fp).can) hs, r_lc ri g_name (only_name hj) canT_r canE_r⟩
end

/-! ### methods -/
def pM1 (g : PM → D → D → Out D) (fo fe : FE) : FE := pOp g fo fe
def strL : List D → Option (List Str)
  | [] => some []
  | .str z :: r => (strL r).map (z :: ·)
  | _ => none
def mSplit : PM → D → D → Out D := fun M a b => match a, b with
  | .str x, .str y => if (y.length == 0) = false ∧ x.length + 2 ≤ line then .ok (.lst ((Txt.split x y).map .str)) M else .bad
  | _, _ => .bad
def mJoin : PM → D → D → Out D := fun M a b => match a, seqOf M b with
  | .str x, some ds => match strL ds with
    | some ys => if (ys.map (·.length)).sum + ys.length * x.length ≤ line then .ok (.str (Txt.join x ys)) M else .bad
    | none => .bad
  | _, _ => .bad
def isS : D → Bool
  | .str _ => true
  | _ => false
def gS (g : PM → D → D → Out D) : PM → D → D → Out D := fun M a b => if isS a = true then g M a b else .bad
def MtD (K : PySem.W.Frag) (E : XK) (r : V → List V → Hp → VK → Prop) (g : PM → D → D → Out D) : Prop :=
  ∀ α H M a b x y Q, Wd K α M H → Rep K α H a x → Rep K α H b y → Post (Rep K) K α H Q E (g M a b) → r x [y] H Q
section
variable {K : PySem.W.Frag} {E : XK} {to te : TE} {fo fe : FE}
/-- the receiver is a text -/
def pMS (g : PM → D → D → Out D) (fo fe : FE) : FE := fun ρ M => (fo ρ M).bind fun a M1 => if isS a = true then (fe ρ M1).bind fun b M2 => g M2 a b else .bad
theorem r_m1 {r : V → List V → Hp → VK → Prop} {g : PM → D → D → Out D} (ho : RE K E to fo) (he : RE K E te fe) (hm : MtD K E r g) : RE K E (tM1 r to te) (pMS g fo fe) := fun ρ σ H α M Q e w h =>
  ho ρ σ H α M _ e w (bnd h fun a M1 x α1 H1 _ s1 w1 r1 h1 => by
    obtain ⟨ha, h1⟩ := ifb h1
    cases a with
    | str z =>
      cases r1
      exact ⟨⟨z, rfl⟩, he ρ σ H1 α1 M1 _ (e.step s1) w1 (bnd h1 fun b M2 y α2 H2 _ s2 w2 r2 h2 => hm α2 H2 M2 _ b _ y Q w2 (.str z) r2 h2)⟩
    | _ => exact absurd (show false = true from ha) Bool.false_ne_true)
theorem repL_strs {α : List Addr} {H : Hp} : ∀ ys : List Str, RepL K α H (ys.map .str) (ys.map V.str)
  | [] => .nil
  | y :: ys => .cons (.str y) (repL_strs ys)
theorem strL_rep {α : List Addr} {H : Hp} : ∀ {ds : List D} {xs : List V} {ys : List Str}, RepL K α H ds xs → strL ds = some ys → xs = ys.map V.str
  | [], _, _, .nil, e => by cases e; rfl
  | d :: ds, _, ys, .cons r t, e => by
    cases d with
    | str z =>
      unfold strL at e
      cases q : strL ds with
      | none => rw [q] at e; cases e
      | some zs =>
        rw [q] at e
        cases e
        cases r
        rw [strL_rep t q]
        rfl
    | _ => cases e
theorem md_split : MtD K E (fun x xs H Q => ∃ a b, x = .str a ∧ xs = [.str b] ∧ (b.length == 0) = false ∧ a.length + 2 ≤ sizeLine ∧ rNewStrs (Txt.split a b) H Q) mSplit := fun α H M a b x y Q w ra rb q => by
  unfold mSplit at q
  split at q
  · cases ra
    cases rb
    obtain ⟨⟨h1, h2⟩, q⟩ := ifb q
    rw [line_eq] at h2
    exact ⟨_, _, rfl, rfl, h1, h2, fun p hp => q.nowX w (ex_new hp) (new_lst w hp (repL_strs _))⟩
  · exact q.elim
theorem md_join : MtD K E (fun x xs H Q => ∃ a p, ∃ ys : List Str, x = .str a ∧ xs = [.ref p] ∧ (SqL K H p (ys.map V.str) ∨ SqT K H p (ys.map V.str)) ∧ (ys.map (·.length)).sum + ys.length * a.length ≤ 16777216 ∧ Q (.str (Txt.join a ys)) H) mJoin := fun α H M a b x y Q w ra rb q => by
  unfold mJoin at q
  split at q
  · rename_i z ds hd
    cases ra
    obtain ⟨p, xs, rfl, hs, rs⟩ := seq_ok w rb hd
    split at q
    · rename_i ys hy
      obtain ⟨h1, q⟩ := ifb q
      have ex := strL_rep rs hy
      subst ex
      exact ⟨_, p, ys, rfl, rfl, hs, h1, q.now w (.str _)⟩
    · exact q.elim
  · exact q.elim
/-- xs.append(e), xs a list that changes -/
def isA (M : PM) : D → Bool
  | .adr k => match M[k]? with | some (.lst _) => true | _ => false
  | _ => false
def pApp (fo fe : FE) : FE := fun ρ M => (fo ρ M).bind fun o M1 => if isA M1 o = true then (fe ρ M1).bind fun d M2 => match o with
  | .adr k => match M2[k]? with
    | some (.lst ds) => if ds.length < line then .ok .non (M2.set k (.lst (ds ++ [d]))) else .bad
    | _ => .bad
  | _ => .bad else .bad
theorem r_app (ho : RE K E to fo) (he : RE K E te fe) : RE K E (tBM K "list" rAppend to (tCons te tNil)) (pApp fo fe) := fun ρ σ H α M Q e w h =>
  ho ρ σ H α M _ e w (bnd h fun o M1 x α1 H1 _ s1 w1 r1 h1 => by
    obtain ⟨ha, h1⟩ := ifb h1
    cases o with
    | adr k =>
      cases r1 with
      | @adr _ a ea =>
        have hty : tyV K "list" (.ref a) H1 := by
          have ha' : (match M1[k]? with | some (.lst _) => true | _ => false) = true := ha
          split at ha'
          · rename_i ds hm
            obtain ⟨a', e1, vs, e2, _⟩ := w1.ob _ _ hm
            rw [ea] at e1
            cases e1
            exact .inl ⟨rfl, _, .of e2⟩
          · exact absurd ha' Bool.false_ne_true
        refine ⟨hty, he ρ σ H1 α1 M1 _ (e.step s1) w1 (bnd h1 fun d M2 y α2 H2 _ s2 w2 r2 h2 => ?_)⟩
        have ea2 : α2[k]? = some a := by
          obtain ⟨β, rfl, _⟩ := s2.ext
          rw [List.getElem?_append_left (List.getElem?_eq_some_iff.mp ea).1]
          exact ea
        have h3 : Post (Rep K) K α2 H2 Q E (match M2[k]? with | some (.lst ds) => if ds.length < line then .ok .non (M2.set k (.lst (ds ++ [d]))) else .bad | _ => .bad) := h2
        split at h3
        · rename_i ds hm
          obtain ⟨hl, h4⟩ := ifb h3
          obtain ⟨a', e1, vs, e2, e3⟩ := w2.ob _ _ hm
          rw [ea2] at e1
          cases e1
          obtain ⟨w3, s3⟩ := w2.put (m := .lst (ds ++ [d])) (o := .lst (vs ++ [y])) ea2 (List.getElem?_eq_some_iff.mp hm).1 fun H' st e => ⟨_, e, RepL.step st _ _ (e3.append (.cons r2 .nil))⟩
          exact ⟨_, vs, y, rfl, rfl, e2, by rw [← e3.length, ← line_eq]; exact hl, h4 _ _ _ s3 w3 .non⟩
        · exact h3.elim
    | _ => exact absurd (show false = true from ha) Bool.false_ne_true)
end
section
variable {X : Cx} {E : XK} {o e : Expr} {fo fe : FE} {apos pos cpos : Pos}
theorem pd_split (ho : PD X E o fo) (he : PD X E e fe) (hs : starEach [e] X.env = [(false, eval e X.env)] := by rfl) (hbase : attributeBase o "split" X.env (eval o X.env) = eval o X.env := by rfl) (hline : (apos.endLine == pos.line) = true := by rfl) :
    PD X E (.Call (.Attribute o "split" apos) [e] [] pos) (pMS mSplit fo fe) := by
  obtain ⟨t, ho, r⟩ := ho
  obtain ⟨u, he, q⟩ := he
  exact ⟨_, pe_split ho he hs hbase hline, r_m1 r q md_split⟩
theorem pd_join (ho : PD X E o fo) (he : PD X E e fe) (hs : starEach [e] X.env = [(false, eval e X.env)] := by rfl) (hbase : attributeBase o "join" X.env (eval o X.env) = eval o X.env := by rfl) (hline : (apos.endLine == pos.line) = true := by rfl) :
    PD X E (.Call (.Attribute o "join" apos) [e] [] pos) (pMS mJoin fo fe) := by
  obtain ⟨t, ho, r⟩ := ho
  obtain ⟨u, he, q⟩ := he
  exact ⟨_, pe_join ho he hs hbase hline, r_m1 r q md_join⟩
theorem pd_append (ho : PD X E o fo) (he : PD X E e fe) (hbase : attributeBase o "append" X.env (eval o X.env) = eval o X.env := by rfl)
    (hfew : ((backTo cpos (starEach [e] X.env)).all (fun x => !x.1) && (backToKw cpos (keywordEach [] X.env)).all (fun x => x.1.isSome)
      && decide (([e] : List Expr).length + ([] : List Keyword).length + (if ([] : List Keyword).isEmpty then 0 else 1) < 30)) = true := by rfl)
    (hline : (apos.endLine == cpos.line) = true := by rfl) (hs : starEach [e] X.env = (false, eval e X.env) :: starEach [] X.env := by rfl) (hplain : (backTo cpos (starEach [] X.env)).any (·.1) = false := by rfl) :
    PD X E (.Call (.Attribute o "append" apos) [e] [] cpos) (pApp fo fe) := by
  obtain ⟨t, ho, r⟩ := ho
  obtain ⟨u, he, q⟩ := he
  exact ⟨_, pe_bm PySem.F.plainAttrs_list PySem.F.slot_list_append PySem.F.type_list_append mt_append ho (pa_cons he pa_nil hs) hbase hfew hline hs hplain, r_app r q⟩
end

/-! ### a += at a name; the law's end -/
section
variable {X : Cx} {E : XK} {x : Str} {e : Expr} {fe : FE} {pos pos' : Pos}
theorem r_aug {K : PySem.W.Frag} {i : Nat} {te : TE} {ti : TIp} {g : PM → D → D → Out D} (he : RE K E te fe) (hg : ∀ α H M a b x y Q, Wd K α M H → Rep K α H a x → Rep K α H b y → Post (Rep K) K α H Q E (g M a b) → ti x y H Q) : RS K E (tAug i te ti) (sAug i fe g) := fun ρ σ H α M D e w h => by
  unfold sAug at h
  split at h
  · rename_i a ha
    obtain ⟨x, h1, h2⟩ := e.2 i a ha
    refine ⟨x, h1, he ρ σ H α M _ e w (bnd h fun b M1 y α1 H1 _ s1 w1 r1 q => ?_)⟩
    exact hg α1 H1 M1 a b x y _ w1 (Rep.step s1 _ _ h2) r1 (bnd q fun z M2 v α2 H2 _ s2 w2 r2 q2 => q2.now (b := FlV.nx (σ.set i (some v))) w2 (((e.step s1).step s2).set r2))
  · exact h.elim
theorem pds_aug (i : Nat) {op : Operator} {f : Int → Int → Int} (ho : PIp X op (ipI f)) (he : PD X E e fe) (hN : X.N.Nodup) (hi : X.N[i]? = some x := by rfl) (hx : Loc X.env.scope x := by first | exact Or.inl rfl | exact Or.inr rfl)
    (hf : X.fn x = true ∨ X.env.scope.names.lookup x = some .local := by first | exact .inl rfl | exact .inr rfl | assumption) : PDS X E (.AugAssign (.Name x pos') op e pos) (sAug i fe (gII cTrue fun a b => .int (f a b))) := by
  obtain ⟨t, he, r⟩ := he
  refine ⟨_, ps_aug hN hi hx he ho hf, r_aug r fun α H M a b x y Q w ra rb q => ?_⟩
  unfold gII at q
  split at q
  · cases ra
    cases rb
    obtain ⟨_, q⟩ := ifb q
    exact ⟨_, _, rfl, rfl, q.now w (.int _)⟩
  · exact q.elim
end
theorem repL_ints {K : PySem.W.Frag} {α : List Addr} {H : Hp} : ∀ ns : List Int, RepL K α H (ns.map .int) (ns.map V.int)
  | [] => .nil
  | y :: ys => .cons (.int y) (repL_ints ys)
theorem law_sp {K : PySem.W.Frag} {Φ : List D → PM → Out D} {H : Hp} {a : Addr} {ns : List Int} (hS : SqL K H a (ns.map V.int)) (hΦ : ∃ M, Φ [.rol (ns.map .int)] [] = .ok (.bl true) M) : spP K Φ [.ref a] H (fun v _ => v = .bl true) fun _ _ _ => False := by
  obtain ⟨M, hM⟩ := hΦ
  refine ⟨_, [], [], ⟨List.nodup_nil, rfl, fun i m e => by simp at e⟩, .cons (.rol (ds := ns.map .int) ?_ (repL_ints ns)) .nil, ?_⟩
  · rcases hS with h | h
    · exact .inl ⟨h, by simp⟩
    · exact .inr (.inr h)
  · rw [hM]
    intro v α' H' _ _ r
    cases r
    rfl
theorem walk {l : PySem.W.OpenLaw} {k : Nat} {q : Program} {loose : List Str} {XP : (Str → Option Value) → Heap → Prop} {YP : World → Heap → Prop} {d : DefRec} {K : Params → PySem.W.Frag} {Φ : List D → PM → Out D} (hn : l.most = some 63) (hdf : d.params.defaults = []) (hr : Room k callerA)
    (hY : ∀ (w : World) (h : Heap), YP w h → (K w.params).In h) (hΦ : ∀ ns : List Int, ns.length ≤ 63 → ∃ M, Φ [.rol (ns.map .int)] [] = .ok (.bl true) M)
    (F : ∀ (w : World) (mg : Str → Option Value) (fa : Addr) (h : Heap), (K w.params).In h → h.Ns mainGlobals mg → mg d.name = some (.ref fa) →
      ∃ fd : FuncData, (∀ (s : Shared) (u : Value), BindsTo s fd ⟨[u], []⟩ [("script", u)]) ∧ ∀ base : Heap, (K w.params).In base → base.Ns mainGlobals mg → FnOk l.prog w (K w.params) mg base CX0 k fa fd ["script"] (spP (K w.params) Φ)) :
    PySem.W.WalkO q loose XP YP l.row.toRowW d [] (fun f vs => PySem.call f vs) :=
  L2.walk_of (n := 63) (k := k) (x := "script") (CX := fun _ => CX0) (sp := fun w => spP (K w.params) Φ) hn (by decide) hdf hr hY F (fun _ _ a ns hl _ hS => law_sp hS (hΦ ns hl)) fun _ _ _ _ _ z => z
end Pd
namespace Pd
open PySem L2 PyProof.Rows
/-! ### what the top has left, in short -/
/-- a def of the module as it stands behind the top -/
structure FunM (K : PySem.W.Frag) (mg : Str → Option Value) (x : Str) (st : Stmt) (ps : List Str) : Prop where
  ex : ∃ f fd, Fun K x x st f fd ∧ mg x = some (.ref f) ∧ ∀ us : List Value, us.length = ps.length → bindArgs fd ⟨us, []⟩ = pure (ps.zip us)
/-- .. keeps the promise Φ, by level k -/
structure Callee (P : Program) (w : World) (K : PySem.W.Frag) (mg : Str → Option Value) (base : Heap) (x : Str) (k : Nat) (Φ : List D → PM → Out D) : Prop where
  ex : ∃ f fd ps, FnOk P w K mg base CX0 k f fd ps (spP K Φ) ∧ mg x = some (.ref f) ∧ PySem.W.keepIn K (.ref f) = true ∧ Binds K fd ps []
/-- a constant of the module -/
structure GlobD (K : PySem.W.Frag) (mg : Str → Option Value) (x : Str) (d : D) : Prop where
  ex : ∃ u v, mg x = some u ∧ RelV v u ∧ ∀ α H, Rep K α H d v
section
variable {P : Program} {w : World} {K : PySem.W.Frag} {mg : Str → Option Value} {base : Heap} {x : Str} {st : Stmt} {N ps : List Str} {k : Nat} {Φ : List D → PM → Out D} {g : FS}
theorem Callee.mono {j : Nat} (c : Callee P w K mg base x k Φ) (h : k ≤ j) : Callee P w K mg base x j Φ := by
  obtain ⟨f, fd, ps, h1, h2⟩ := c.ex
  exact ⟨f, fd, ps, h1.mono h, h2⟩
theorem mk_callee (F : FunM K mg x st ps) (S : FnScope N ps (defScope st)) (hl : ∀ ds M, ds.length ≠ ps.length → Φ ds M = .bad)
    (body : ∀ (f : Addr) (cdv : Value) (A : Around) (outer : List PySem.Env) (s : Shared) (H : Hp) (E : XK), Room k (A.deeper (envOfC x (defScope st) s.heap.objs.size f cdv)) → PDB (cxOf CX0 P w K mg base N x (defScope st) f cdv A outer s H E).nox E0 (defBody st) g)
    (fit : ∀ ds M, ds.length = ps.length → (∀ m ∈ M, clMO M.length m = true) → clL M.length ds = true → Fits N g Φ ds M) : Callee P w K mg base x (k + 1) Φ := by
  obtain ⟨f, fd, h1, h2, h3⟩ := F.ex
  exact ⟨f, fd, ps, fn_pd h1 S hl (fun cdv A outer s H E hr => body f cdv A outer s H E hr) fit, h2, h1.kp, Binds.all h3⟩
end
section
variable {X : Cx} {E : XK} {e : Expr} {es : List Expr} {pos p : Pos} {x : Str}
theorem pd_callC {k : Nat} {Φ : List D → PM → Out D} {fargs : FA} (c : Callee X.prog X.w X.K X.mg X.base x k Φ) (hr : Room k X.A) (hg : Gl X x) (ha : PDA X E0 (e :: es) fargs) (hdb : (x == ("__debug__" : Str)) = false := by decide)
    (he : starEach (e :: es) X.env = (false, eval e X.env) :: starEach es X.env := by rfl) (hpl : (backTo pos (starEach es X.env)).any (·.1) = false := by rfl) : PD X E0 (.Call (.Name x p) (e :: es) [] pos) (pCall Φ fargs) := by
  obtain ⟨f, fd, ps, h1, h2, h3, h4⟩ := c.ex
  exact pd_call h1 hr hg h2 h3 h4 pass0 ha hdb he hpl
theorem pd_globC {d : D} (c : GlobD X.K X.mg x d) (hg : Gl X x) (hd : (x == ("__debug__" : Str)) = false := by decide) : PD X E (.Name x pos) (pC d) := by
  obtain ⟨u, v, h1, h2, h3⟩ := c.ex
  exact pd_glob hg h1 h2 h3 hd
end
section
variable {K : PySem.W.Frag} {mg : Str → Option Value} {x : Str}
theorem glob_int {n : Int} {t : Tok} (h : mg x = some (.int n t)) : GlobD K mg x (.int n) := ⟨_, .int n, h, ⟨t, rfl⟩, fun _ _ => .int n⟩
theorem glob_str {z : Str} {t : Tok} (h : mg x = some (.str z t)) : GlobD K mg x (.str z) := ⟨_, .str z, h, ⟨t, rfl⟩, fun _ _ => .str z⟩
theorem glob_bl {z : Bool} (h : mg x = some (.bool z)) : GlobD K mg x (.bl z) := ⟨_, .bl z, h, rfl, fun _ _ => .bl z⟩
theorem strs_vals {K : PySem.W.Frag} : ∀ {zs : List Str} {us : List Value}, Paired (fun (z : Str) u => ∃ t, u = Value.str z t) zs us → Vals (zs.map V.str) us
  | _, _, .nil => .nil
  | _, _, .cons r t => .cons r (strs_vals (K := K) t)
/-- a module's tuple of texts -/
theorem glob_strs {zs : List Str} {a : Addr} {o : Obj} {us : List Value} {n : Nat} (h : mg x = some (.ref a)) (hk : K.lookup a = some o) (hc : o.cls = .type "tuple") (hd : o.data = .seq us.toArray n) (hz : us.length ≤ sizeLine) (hv : Paired (fun (z : Str) u => ∃ t, u = Value.str z t) zs us) :
    GlobD K mg x (.tup (zs.map .str)) := by
  refine ⟨_, .ref a, h, rfl, fun α H => .tup (xs := zs.map V.str) (.inr (.inr ⟨o, us.toArray, n, hk, hc, hd, by simpa using hz, ?_⟩)) (repL_strs zs)⟩
  simpa using strs_vals (K := K) hv
end
/-- y = [..], a comprehension's list, on one line -/
theorem pds_setLc {X : Cx} {E : XK} {elt iter : Expr} {scope : Scope} {own : List (Str × Nat)} {pos px spos py : Pos} {x y : Str} {fw : FA} {fe : FE} {j : Nat} (i : Nat) (hc : X.calm = true) (hN : X.N.Nodup) (hyl : X.env.scope.names.lookup y = some .local)
    (hsw : swapsWith (.ListComp elt [⟨.Name x px, iter, [], 0⟩] scope pos) (some (.Name y py)) spos.line X.env = pure true) (hi : PDI X E (.Name x px) iter fw) (ok : BlkOk X.N X.env.scope scope own) (hj : j ∈ own.map (·.2))
    (hg : ∀ (s : Shared) (H : Hp) (C : Addr) (cl : List (Str × Addr)) (fp : List Addr), PG (X.blk s H scope (compEnvC scope cl C X.env) fp) (.Name x px) (gName j))
    (he : ∀ (s : Shared) (H : Hp) (C : Addr) (cl : List (Str × Addr)) (fp : List Addr), PD (X.blk s H scope (compEnvC scope cl C X.env) fp) E elt fe) (hs : ∀ x, foldedSetIterable iter X.env x = pure x := by intro _; rfl) (hy : X.N[i]? = some y := by rfl) :
    PDS X E (.Assign [.Name y py] (.ListComp elt [⟨.Name x px, iter, [], 0⟩] scope pos) spos) (sAsg (pLc fw (fName j) pYes fe (own.map (·.2))) (fName i)) := by
  obtain ⟨ti, hi, ri⟩ := hi
  exact ⟨_, ps_setLc (te := canE X.K E fe) hc hN hy hyl hsw hi ok hg (fun _ _ _ _ _ => pts_nil) (fun s H C cl fp => (he s H C cl fp).can) hs, s_asg (r_lc ri g_name (only_name hj) (fun ρ σ H α M Q e w h => h.now w rfl) canE_r) g_name⟩
theorem pds_setLcIf {X : Cx} {E : XK} {elt iter c : Expr} {scope : Scope} {own : List (Str × Nat)} {pos px spos py : Pos} {x y : Str} {fw : FA} {fe : FE} {ft : FT} {j : Nat} (i : Nat) (hc : X.calm = true) (hN : X.N.Nodup) (hyl : X.env.scope.names.lookup y = some .local)
    (hsw : swapsWith (.ListComp elt [⟨.Name x px, iter, [c], 0⟩] scope pos) (some (.Name y py)) spos.line X.env = pure true) (hi : PDI X E (.Name x px) iter fw) (ok : BlkOk X.N X.env.scope scope own) (hj : j ∈ own.map (·.2))
    (hg : ∀ (s : Shared) (H : Hp) (C : Addr) (cl : List (Str × Addr)) (fp : List Addr), PG (X.blk s H scope (compEnvC scope cl C X.env) fp) (.Name x px) (gName j))
    (ht : ∀ (s : Shared) (H : Hp) (C : Addr) (cl : List (Str × Addr)) (fp : List Addr), PDT (X.blk s H scope (compEnvC scope cl C X.env) fp) E c ft)
    (he : ∀ (s : Shared) (H : Hp) (C : Addr) (cl : List (Str × Addr)) (fp : List Addr), PD (X.blk s H scope (compEnvC scope cl C X.env) fp) E elt fe) (hs : ∀ x, foldedSetIterable iter X.env x = pure x := by intro _; rfl) (hy : X.N[i]? = some y := by rfl) :
    PDS X E (.Assign [.Name y py] (.ListComp elt [⟨.Name x px, iter, [c], 0⟩] scope pos) spos) (sAsg (pLc fw (fName j) ft fe (own.map (·.2))) (fName i)) := by
  obtain ⟨ti, hi, ri⟩ := hi
  exact ⟨_, ps_setLc (te := canE X.K E fe) hc hN hy hyl hsw hi ok hg (fun s H C cl fp => pts_one (ht s H C cl fp).can) (fun s H C cl fp => (he s H C cl fp).can) hs, s_asg (r_lc ri g_name (only_name hj) canT_r canE_r) g_name⟩
end Pd

set_option Elab.async false
set_option linter.all false
set_option maxRecDepth 100000
set_option maxHeartbeats 1000000
namespace Pd
open PySem L2 PyProof.Rows

/-! ### a def's function is its body's: what comes back, the callee's own objects thrown away -/
def fin (n : Nat) (d : D) (M' : PM) : Out D :=
  if n ≤ M'.length ∧ (M'.take n).all (clMO n) = true then
    (if clD n d = true then .ok d (M'.take n) else match d with
      | .adr i => match M'[i]? with
        | some (.lst es) => if clL n es = true then .ok (.lst es) (M'.take n) else .bad
        | _ => .bad
      | _ => .bad)
  else .bad
def run (ar : Nat) (N : List Str) (g : FS) : List D → PM → Out D := fun ds M => if ds.length = ar then (match g (rho0 N ds) M with
  | .ok (.rt d) M' => fin M.length d M'
  | .ok (.nx _) M' => fin M.length .non M'
  | _ => .bad) else .bad
theorem fin_ok {n : Nat} {d r : D} {M' M1 : PM} (h : fin n d M' = .ok r M1) : n ≤ M1.length ∧ Shuts M1 M' d r := by
  unfold fin at h
  split at h
  · rename_i hc
    obtain ⟨h1, h2⟩ := hc
    have hl : (M'.take n).length = n := by rw [List.length_take]; omega
    have hc : ∀ m ∈ M'.take n, clMO (M'.take n).length m = true := fun m hm => by rw [hl]; exact List.all_eq_true.mp h2 m hm
    split at h
    · rename_i hd
      cases h
      exact ⟨by omega, .inr ⟨M'.drop n, (List.take_append_drop _ _).symm, hc, .inl ⟨rfl, by rw [hl]; exact hd⟩⟩⟩
    · rename_i hd
      split at h
      · rename_i i
        split at h
        · rename_i es he
          split at h
          · rename_i hes
            cases h
            refine ⟨by omega, .inr ⟨M'.drop n, (List.take_append_drop _ _).symm, hc, .inr ⟨i, es, rfl, ?_, he, rfl, by rw [hl]; exact hes⟩⟩⟩
            rw [hl]
            simp only [clD, decide_eq_true_eq] at hd
            omega
          · cases h
        · cases h
      · cases h
  · cases h
theorem fin_no {n : Nat} {d : D} {M' M1 : PM} {c : Value} {fs : Option (List (Str × D))} (h : fin n d M' = .exn c fs M1) : False := by
  unfold fin at h
  split at h
  · split at h
    · cases h
    · split at h
      · split at h
        · split at h <;> cases h
        · cases h
      · cases h
  · cases h
theorem fits_run {ar : Nat} {N : List Str} {g : FS} {ds : List D} {M : PM} (hl : ds.length = ar) : Fits N g (run ar N g) ds M := by
  unfold Fits
  cases hr : run ar N g ds M with
  | bad => trivial
  | exn c fs M1 =>
    unfold run at hr
    rw [if_pos hl] at hr
    split at hr
    · exact fin_no hr
    · exact fin_no hr
    · cases hr
  | ok d M1 =>
    unfold run at hr
    rw [if_pos hl] at hr
    split at hr
    · rename_i d' M' he
      obtain ⟨h1, h2⟩ := fin_ok hr
      exact ⟨h1, d', M', .inl he, h2⟩
    · rename_i ρ M' he
      obtain ⟨h1, h2⟩ := fin_ok hr
      exact ⟨h1, .non, M', .inr ⟨ρ, he, rfl⟩, h2⟩
    · cases hr
theorem run_ar {ar : Nat} {N : List Str} {g : FS} {ds : List D} {M : PM} (h : ds.length ≠ ar) : run ar N g ds M = .bad := by
  unfold run
  rw [if_neg h]
/-- nothing is told of a def -/
def phi0 : List D → PM → Out D := fun _ _ => .bad
section
variable {P : Program} {w : World} {K : PySem.W.Frag} {mg : Str → Option Value} {base : Heap} {x : Str} {st : Stmt} {N ps : List Str} {k : Nat} {Φ : List D → PM → Out D} {g : FS}
theorem callee0 (F : FunM K mg x st ps) : Callee P w K mg base x k phi0 := by
  obtain ⟨f, fd, h1, h2, h3⟩ := F.ex
  exact ⟨f, fd, ps, ⟨fun vs H Q E ⟨_, _, _, _, _, h⟩ => h.elim, fun A outer s H args us vs Q E _ _ _ _ ⟨_, _, _, _, _, h⟩ => h.elim⟩, h2, h1.kp, Binds.all h3⟩
theorem callee_run {ar : Nat} (F : FunM K mg x st ps) (S : FnScope N ps (defScope st)) (ha : ps.length = ar)
    (body : ∀ (f : Addr) (cdv : Value) (A : Around) (outer : List PySem.Env) (s : Shared) (H : Hp) (E : XK), Room k (A.deeper (envOfC x (defScope st) s.heap.objs.size f cdv)) → PDB (cxOf CX0 P w K mg base N x (defScope st) f cdv A outer s H E).nox E0 (defBody st) g) : Callee P w K mg base x (k + 1) (run ar N g) :=
  mk_callee F S (fun ds M h => run_ar (by rw [← ha]; exact h)) body fun ds M h _ _ => fits_run (by rw [← ha]; exact h)
/-- the law's own def -/
theorem law_run {ar : Nat} {f : Addr} {fd : FuncData} (F : Fun K x x st f fd) (S : FnScope N ps (defScope st)) (ha : ps.length = ar)
    (body : ∀ (f : Addr) (cdv : Value) (A : Around) (outer : List PySem.Env) (s : Shared) (H : Hp) (E : XK), Room k (A.deeper (envOfC x (defScope st) s.heap.objs.size f cdv)) → PDB (cxOf CX0 P w K mg base N x (defScope st) f cdv A outer s H E).nox E0 (defBody st) g) : FnOk P w K mg base CX0 (k + 1) f fd ps (spP K (run ar N g)) :=
  fn_pd F S (fun ds M h => run_ar (by rw [← ha]; exact h)) (fun cdv A outer s H E hr => body f cdv A outer s H E hr) fun ds M h _ _ => fits_run (by rw [← ha]; exact h)
/-- a def, by what the kernel finds behind the top -/
theorem funM_of {h : Heap} (X : K.In h) (G : h.Ns mainGlobals mg) {f : Addr} {oc kV doc pm cdv ct : Value} {od an : Option Addr} {osl : Array (Option Value)} (a : PySem.W.nsIn K mainGlobals x = some (some (.ref f)))
    (l : K.lookup f = some ⟨oc, od, .func (PySem.W.fnOf x x (defArgs st) (defBody st) (defScope st) .none kV doc pm an cdv ct), osl⟩) (c : PySem.W.codeIn K cdv x = true) (kp : PySem.W.keepIn K (.ref f) = true)
    (hb : ∀ us : List Value, us.length = ps.length → bindArgs (PySem.W.fnOf x x (defArgs st) (defBody st) (defScope st) .none kV doc pm an cdv ct) ⟨us, []⟩ = pure (ps.zip us)) : FunM K mg x st ps :=
  ⟨f, _, fun_mk l c kp, PySem.W.mg_of X G a, hb⟩
theorem law_of {F : FunM K mg "law" st ["script"]} {fa : Addr} (ha : mg "law" = some (.ref fa)) (h : ∀ fd, Fun K "law" "law" st fa fd → ∀ base : Heap, K.In base → base.Ns mainGlobals mg → FnOk P w K mg base CX0 k fa fd ["script"] (spP K Φ)) :
    ∃ fd : FuncData, (∀ (s : Shared) (u : Value), BindsTo s fd ⟨[u], []⟩ [("script", u)]) ∧ ∀ base : Heap, K.In base → base.Ns mainGlobals mg → FnOk P w K mg base CX0 k fa fd ["script"] (spP K Φ) := by
  obtain ⟨f, fd, h1, h2, h3⟩ := F.ex
  rw [ha] at h2
  cases h2
  exact ⟨fd, fun s u => .of_eq (h3 [u] rfl), h fd h1⟩
end
end Pd

set_option Elab.async false
set_option linter.all false
set_option maxRecDepth 100000
set_option maxHeartbeats 1000000
namespace Pd
open PySem L2

/-! ### texts by their signs -/
def T (l : List Nat) : Str := ⟨l.toArray⟩
@[simp] theorem T_list (l : List Nat) : (T l).cps.toList = l := rfl
@[simp] theorem T_len (l : List Nat) : (T l).length = l.length := by simp [T, Str.length]
theorem T_eta (z : Str) : T z.cps.toList = z := rfl
theorem T_inj {l m : List Nat} (h : T l = T m) : l = m := by
  have := congrArg (fun z : Str => z.cps.toList) h
  exact this
@[simp] theorem T_eq {l m : List Nat} : (T l = T m) ↔ l = m := ⟨T_inj, fun h => by rw [h]⟩
theorem T_app (l m : List Nat) : T l ++ T m = T (l ++ m) := TL.ext_tl (by rw [TL.tl_append]; rfl)
theorem T_one (c : Nat) : (⟨#[c]⟩ : Str) = T [c] := rfl

/-! ### the functions at plain values -/
section
variable {M : PM}
theorem gII_ok {C : Int → Int → Bool} {h : Int → Int → D} {i j : Int} (hc : C i j = true) : gII C h M (.int i) (.int j) = .ok (h i j) M := by
  show (if C i j = true then Out.ok (h i j) M else Out.bad) = _
  rw [if_pos hc]
theorem gor_ok {g g' : PM → D → D → Out D} {a b d : D} {M' : PM} (h : g M a b = .ok d M') : gor g g' M a b = .ok d M' := by
  unfold gor
  rw [h]
theorem gor_bad {g g' : PM → D → D → Out D} {a b : D} (h : g M a b = .bad) : gor g g' M a b = g' M a b := by
  unfold gor
  rw [h]
@[simp] theorem e_add (i j : Int) : gAdd M (.int i) (.int j) = .ok (.int (i + j)) M := gor_ok (gII_ok rfl)
@[simp] theorem e_sub (i j : Int) : gSub M (.int i) (.int j) = .ok (.int (i - j)) M := gII_ok rfl
@[simp] theorem e_augAdd (i j : Int) : gII cTrue (fun i j => .int (i + j)) M (.int i) (.int j) = .ok (.int (i + j)) M := gII_ok rfl
theorem e_mul {i j : Int} (h : cMul i j = true) : gMul M (.int i) (.int j) = .ok (.int (i * j)) M := gII_ok h
theorem e_fdiv {i j : Int} (h : 0 < j ∧ j < 1073741824) : gFdiv M (.int i) (.int j) = .ok (.int (i / j)) M := gor_ok (gII_ok (by unfold cDiv; simp [h.1, h.2]))
theorem e_mod {i j : Int} (h : 0 < j) : gMod M (.int i) (.int j) = .ok (.int (i % j)) M := gor_ok (gII_ok (by unfold cPos; simp [h]))
@[simp] theorem e_lt (i j : Int) : gLt M (.int i) (.int j) = .ok (.bl (decide (i < j))) M := gII_ok rfl
@[simp] theorem e_le (i j : Int) : gLe M (.int i) (.int j) = .ok (.bl (decide (i ≤ j))) M := gII_ok rfl
@[simp] theorem e_gt (i j : Int) : gGt M (.int i) (.int j) = .ok (.bl (decide (j < i))) M := gII_ok rfl
@[simp] theorem e_ge (i j : Int) : gGe M (.int i) (.int j) = .ok (.bl (decide (j ≤ i))) M := gII_ok rfl
@[simp] theorem e_eqI (i j : Int) : gEq M (.int i) (.int j) = .ok (.bl (decide (i = j))) M := rfl
@[simp] theorem e_eqS (x y : Str) : gEq M (.str x) (.str y) = .ok (.bl (decide (x = y))) M := rfl
@[simp] theorem e_eqB (x y : Bool) : gEq M (.bl x) (.bl y) = .ok (.bl (decide (x = y))) M := rfl
@[simp] theorem e_neI (i j : Int) : gNe M (.int i) (.int j) = .ok (.bl (!decide (i = j))) M := rfl
@[simp] theorem e_neS (x y : Str) : gNe M (.str x) (.str y) = .ok (.bl (!decide (x = y))) M := rfl
theorem e_addS {x y : Str} (h : x.length + y.length ≤ 16777216) : gAdd M (.str x) (.str y) = .ok (.str (x ++ y)) M := by
  unfold gAdd
  rw [gor_bad rfl]
  refine gor_ok ?_
  show (if x.length + y.length ≤ line then Out.ok (D.str (x ++ y)) M else Out.bad) = _
  rw [if_pos h]
theorem e_addT {x y : List D} (h : x.length + y.length ≤ 16777216) : gAdd M (.tup x) (.tup y) = .ok (.tup (x ++ y)) M := by
  unfold gAdd
  rw [gor_bad rfl, gor_bad rfl]
  refine gor_ok ?_
  show (if x.length + y.length ≤ line then Out.ok (D.tup (x ++ y)) M else Out.bad) = _
  rw [if_pos h]
theorem e_addL {a b : D} {x y : List D} (ha : lstOf M a = some x) (hb : lstOf M b = some y) (h : x.length + y.length ≤ 16777216) : gAdd M a b = .ok (.lst (x ++ y)) M := by
  have h1 : gII cTrue (fun i j => .int (i + j)) M a b = .bad := by
    cases a <;> first | rfl | cases ha
  have h2 : gAddS M a b = .bad := by
    cases a <;> first | rfl | cases ha
  have h3 : gAddT M a b = .bad := by
    cases a <;> first | rfl | cases ha
  unfold gAdd
  rw [gor_bad h1, gor_bad h2, gor_bad h3]
  unfold gAddL
  rw [ha, hb]
  show (if x.length + y.length ≤ line then Out.ok (D.lst (x ++ y)) M else Out.bad) = _
  rw [if_pos h]
/-! places -/
theorem ixN_nat {n k : Nat} (h : k < n) : ixN n (k : Int) = some k := by
  unfold ixN
  rw [if_pos (by omega), if_pos (by omega)]
  simp
theorem atI_ok {α : Type} {xs : List α} {k : Nat} (h : k < xs.length) : atI xs (k : Int) = some xs[k] := by
  unfold atI
  rw [ixN_nat h]
  simp [h]
theorem atI_neg1 {α : Type} {xs : List α} {x : α} : atI (xs ++ [x]) (-1) = some x := atI_last xs x
theorem e_ixS {l : List Nat} {k : Nat} (h : k < l.length) (hl : l.length ≤ 16777216) : gIx M (.str (T l)) (.int (k : Int)) = .ok (.str (T [l[k]])) M := by
  show (if (T l).length ≤ line then (match atI (T l).cps.toList (k : Int) with | some c => Out.ok (D.str ⟨#[c]⟩) M | none => .bad) else Out.bad) = _
  rw [T_len, if_pos hl, T_list, atI_ok h]
  rfl
theorem gIx_seq {a d : D} {ds : List D} {i : Int} (ha : seqOf M a = some ds) (hd : atI ds i = some d) : gIx M a (.int i) = .ok d M := by
  have : gIx M a (.int i) = (match seqOf M a with | some ds => (match atI ds i with | some d => Out.ok d M | none => .bad) | none => .bad) := by
    cases a <;> first | rfl | cases ha
  rw [this, ha]
  show (match atI ds i with | some d => Out.ok d M | none => .bad) = _
  rw [hd]
theorem e_inS (c : Nat) (z : Str) : gIn M (.str (T [c])) (.str z) = .ok (.bl (decide (c ∈ z.cps.toList))) M := gor_ok rfl
theorem e_notInS (c : Nat) (z : Str) : gNotIn M (.str (T [c])) (.str z) = .ok (.bl (!decide (c ∈ z.cps.toList))) M := gor_ok rfl
theorem inS_bad {a b : D} (hb : ∀ z, b ≠ .str z) : gInS M a b = .bad := by
  unfold gInS
  split
  · rename_i z
    exact absurd rfl (hb z)
  · rfl
theorem notInS_bad {a b : D} (hb : ∀ z, b ≠ .str z) : gNotInS M a b = .bad := by
  unfold gNotInS
  split
  · rename_i z
    exact absurd rfl (hb z)
  · rfl
theorem e_inL {a b : D} {ds : List D} (hs : seqOf M b = some ds) (ha : flatD a = true) (hd : ds.all flatD = true) : gIn M a b = .ok (.bl (inF a ds)) M := by
  unfold gIn
  rw [gor_bad (inS_bad fun z e => by rw [e] at hs; cases hs)]
  unfold gInL
  rw [hs]
  show (if (flatD a && ds.all flatD) = true then Out.ok (D.bl (inF a ds)) M else .bad) = _
  rw [ha, hd]
  rfl
theorem e_notInL {a b : D} {ds : List D} (hs : seqOf M b = some ds) (ha : flatD a = true) (hd : ds.all flatD = true) : gNotIn M a b = .ok (.bl (!inF a ds)) M := by
  unfold gNotIn
  rw [gor_bad (notInS_bad fun z e => by rw [e] at hs; cases hs)]
  unfold gNotInL
  rw [hs]
  show (if (flatD a && ds.all flatD) = true then Out.ok (D.bl (!inF a ds)) M else .bad) = _
  rw [ha, hd]
  rfl
@[simp] theorem seq_tup (ds : List D) : seqOf M (.tup ds) = some ds := rfl
@[simp] theorem seq_lst (ds : List D) : seqOf M (.lst ds) = some ds := rfl
@[simp] theorem seq_rol (ds : List D) : seqOf M (.rol ds) = some ds := rfl
theorem seq_adr {i : Nat} {ds : List D} (h : M[i]? = some (.lst ds)) : seqOf M (.adr i) = some ds := by
  unfold seqOf
  simp only [h]
theorem lst_adr {i : Nat} {ds : List D} (h : M[i]? = some (.lst ds)) : lstOf M (.adr i) = some ds := by
  unfold lstOf
  simp only [h]
/-! slices of texts -/
def cut (l : List Nat) (a b : Nat) : List Nat := (l.drop (min a l.length)).take (min b l.length - min a l.length)
theorem cutS_nat (l : List Nat) (a b : Nat) : cutS (T l) (some (a : Int)) (some (b : Int)) = T (cut l a b) := by
  unfold cutS cut
  rw [HT.sIx_nat, HT.sIx_nat, T_len, T_list]
  rfl
theorem cutS_from (l : List Nat) (a : Nat) : cutS (T l) (some (a : Int)) none = T (l.drop a) := by
  unfold cutS
  rw [HT.sIx_nat, HT.sIx_none, T_len, T_list]
  by_cases h : a ≤ l.length
  · rw [Nat.min_eq_left h, List.take_of_length_le (by rw [List.length_drop]; exact Nat.le_refl _)]
    rfl
  · rw [Nat.min_eq_right (by omega), List.drop_length, List.drop_eq_nil_of_le (by omega)]
    simp [T]
theorem cutS_to (l : List Nat) (b : Nat) : cutS (T l) none (some (b : Int)) = T (l.take b) := by
  unfold cutS
  rw [HT.sIx_nat, HT.sIx_none, T_len, T_list, List.drop_zero, Nat.sub_zero]
  by_cases h : b ≤ l.length
  · rw [Nat.min_eq_left h]
    rfl
  · rw [Nat.min_eq_right (by omega), List.take_length, List.take_of_length_le (by omega)]
    rfl
theorem e_slS {z : Str} {lo hi : Option Int} (h : z.length ≤ 16777216) : gSl M (.str z) lo hi = .ok (.str (cutS z lo hi)) M := by
  show (if z.length ≤ line then Out.ok (D.str (cutS z lo hi)) M else .bad) = _
  rw [if_pos h]
/-! built-ins -/
theorem e_lenS {l : List Nat} (h : l.length ≤ 16777216) : bLen M [.str (T l)] = .ok (.int (l.length : Int)) M := by
  show (if (T l).length ≤ line then Out.ok (D.int ((T l).length : Nat)) M else .bad) = _
  rw [T_len, if_pos h]
theorem e_len {a : D} {ds : List D} (h : seqOf M a = some ds) : bLen M [a] = .ok (.int (ds.length : Int)) M := by
  have : bLen M [a] = (match seqOf M a with | some ds => Out.ok (D.int ds.length) M | none => .bad) := by
    cases a <;> first | rfl | cases h
  rw [this, h]
@[simp] theorem e_abs (i : Int) : bAbs M [.int i] = .ok (.int (if i < 0 then -i else i)) M := rfl
@[simp] theorem e_intI (i : Int) : bInt M [.int i] = .ok (.int i) M := rfl
@[simp] theorem e_tupT (ds : List D) : bTuple M [.tup ds] = .ok (.tup ds) M := rfl
theorem e_tup {a : D} {ds : List D} (h : seqOf M a = some ds) : bTuple M [a] = .ok (.tup ds) M := by
  cases a with
  | tup es => cases h; rfl
  | lst es => cases h; rfl
  | rol es => cases h; rfl
  | adr i =>
    show (match seqOf M (.adr i) with | some ds => Out.ok (D.tup ds) M | none => .bad) = _
    rw [h]
  | _ => cases h
@[simp] theorem i_tup_bool (ds : List D) : bIsi M [.tup ds, .raw (.ty "bool")] = .ok (.bl false) M := rfl
@[simp] theorem i_tup_int (ds : List D) : bIsi M [.tup ds, .raw (.ty "int")] = .ok (.bl false) M := rfl
@[simp] theorem i_tup_str (ds : List D) : bIsi M [.tup ds, .raw (.ty "str")] = .ok (.bl false) M := rfl
@[simp] theorem i_tup_tuple (ds : List D) : bIsi M [.tup ds, .raw (.ty "tuple")] = .ok (.bl true) M := rfl
@[simp] theorem i_tup_list (ds : List D) : bIsi M [.tup ds, .raw (.ty "list")] = .ok (.bl false) M := rfl
@[simp] theorem i_tup_dict (ds : List D) : bIsi M [.tup ds, .raw (.ty "dict")] = .ok (.bl false) M := rfl
@[simp] theorem is_tup (ds : List D) : gIs' M (.tup ds) .non = .ok (.bl false) M := rfl
@[simp] theorem isNot_tup (ds : List D) : gIsNot' M (.tup ds) .non = .ok (.bl true) M := rfl
@[simp] theorem i_lst_bool (ds : List D) : bIsi M [.lst ds, .raw (.ty "bool")] = .ok (.bl false) M := rfl
@[simp] theorem i_lst_int (ds : List D) : bIsi M [.lst ds, .raw (.ty "int")] = .ok (.bl false) M := rfl
@[simp] theorem i_lst_str (ds : List D) : bIsi M [.lst ds, .raw (.ty "str")] = .ok (.bl false) M := rfl
@[simp] theorem i_lst_tuple (ds : List D) : bIsi M [.lst ds, .raw (.ty "tuple")] = .ok (.bl false) M := rfl
@[simp] theorem i_lst_list (ds : List D) : bIsi M [.lst ds, .raw (.ty "list")] = .ok (.bl true) M := rfl
@[simp] theorem i_lst_dict (ds : List D) : bIsi M [.lst ds, .raw (.ty "dict")] = .ok (.bl false) M := rfl
@[simp] theorem is_lst (ds : List D) : gIs' M (.lst ds) .non = .ok (.bl false) M := rfl
@[simp] theorem isNot_lst (ds : List D) : gIsNot' M (.lst ds) .non = .ok (.bl true) M := rfl
@[simp] theorem i_rol_bool (ds : List D) : bIsi M [.rol ds, .raw (.ty "bool")] = .ok (.bl false) M := rfl
@[simp] theorem i_rol_int (ds : List D) : bIsi M [.rol ds, .raw (.ty "int")] = .ok (.bl false) M := rfl
@[simp] theorem i_rol_str (ds : List D) : bIsi M [.rol ds, .raw (.ty "str")] = .ok (.bl false) M := rfl
@[simp] theorem i_rol_tuple (ds : List D) : bIsi M [.rol ds, .raw (.ty "tuple")] = .ok (.bl false) M := rfl
@[simp] theorem i_rol_list (ds : List D) : bIsi M [.rol ds, .raw (.ty "list")] = .ok (.bl true) M := rfl
@[simp] theorem i_rol_dict (ds : List D) : bIsi M [.rol ds, .raw (.ty "dict")] = .ok (.bl false) M := rfl
@[simp] theorem is_rol (ds : List D) : gIs' M (.rol ds) .non = .ok (.bl false) M := rfl
@[simp] theorem isNot_rol (ds : List D) : gIsNot' M (.rol ds) .non = .ok (.bl true) M := rfl
@[simp] theorem i_bl_bool (x : Bool) : bIsi M [.bl x, .raw (.ty "bool")] = .ok (.bl true) M := rfl
@[simp] theorem i_bl_int (x : Bool) : bIsi M [.bl x, .raw (.ty "int")] = .ok (.bl true) M := rfl
@[simp] theorem i_bl_str (x : Bool) : bIsi M [.bl x, .raw (.ty "str")] = .ok (.bl false) M := rfl
@[simp] theorem i_bl_tuple (x : Bool) : bIsi M [.bl x, .raw (.ty "tuple")] = .ok (.bl false) M := rfl
@[simp] theorem i_bl_list (x : Bool) : bIsi M [.bl x, .raw (.ty "list")] = .ok (.bl false) M := rfl
@[simp] theorem i_bl_dict (x : Bool) : bIsi M [.bl x, .raw (.ty "dict")] = .ok (.bl false) M := rfl
@[simp] theorem is_bl (x : Bool) : gIs' M (.bl x) .non = .ok (.bl false) M := rfl
@[simp] theorem isNot_bl (x : Bool) : gIsNot' M (.bl x) .non = .ok (.bl true) M := rfl
@[simp] theorem i_int_bool (x : Int) : bIsi M [.int x, .raw (.ty "bool")] = .ok (.bl false) M := rfl
@[simp] theorem i_int_int (x : Int) : bIsi M [.int x, .raw (.ty "int")] = .ok (.bl true) M := rfl
@[simp] theorem i_int_str (x : Int) : bIsi M [.int x, .raw (.ty "str")] = .ok (.bl false) M := rfl
@[simp] theorem i_int_tuple (x : Int) : bIsi M [.int x, .raw (.ty "tuple")] = .ok (.bl false) M := rfl
@[simp] theorem i_int_list (x : Int) : bIsi M [.int x, .raw (.ty "list")] = .ok (.bl false) M := rfl
@[simp] theorem i_int_dict (x : Int) : bIsi M [.int x, .raw (.ty "dict")] = .ok (.bl false) M := rfl
@[simp] theorem is_int (x : Int) : gIs' M (.int x) .non = .ok (.bl false) M := rfl
@[simp] theorem isNot_int (x : Int) : gIsNot' M (.int x) .non = .ok (.bl true) M := rfl
@[simp] theorem i_str_bool (x : Str) : bIsi M [.str x, .raw (.ty "bool")] = .ok (.bl false) M := rfl
@[simp] theorem i_str_int (x : Str) : bIsi M [.str x, .raw (.ty "int")] = .ok (.bl false) M := rfl
@[simp] theorem i_str_str (x : Str) : bIsi M [.str x, .raw (.ty "str")] = .ok (.bl true) M := rfl
@[simp] theorem i_str_tuple (x : Str) : bIsi M [.str x, .raw (.ty "tuple")] = .ok (.bl false) M := rfl
@[simp] theorem i_str_list (x : Str) : bIsi M [.str x, .raw (.ty "list")] = .ok (.bl false) M := rfl
@[simp] theorem i_str_dict (x : Str) : bIsi M [.str x, .raw (.ty "dict")] = .ok (.bl false) M := rfl
@[simp] theorem is_str (x : Str) : gIs' M (.str x) .non = .ok (.bl false) M := rfl
@[simp] theorem isNot_str (x : Str) : gIsNot' M (.str x) .non = .ok (.bl true) M := rfl
@[simp] theorem i_non_bool  : bIsi M [.non, .raw (.ty "bool")] = .ok (.bl false) M := rfl
@[simp] theorem i_non_int  : bIsi M [.non, .raw (.ty "int")] = .ok (.bl false) M := rfl
@[simp] theorem i_non_str  : bIsi M [.non, .raw (.ty "str")] = .ok (.bl false) M := rfl
@[simp] theorem i_non_tuple  : bIsi M [.non, .raw (.ty "tuple")] = .ok (.bl false) M := rfl
@[simp] theorem i_non_list  : bIsi M [.non, .raw (.ty "list")] = .ok (.bl false) M := rfl
@[simp] theorem i_non_dict  : bIsi M [.non, .raw (.ty "dict")] = .ok (.bl false) M := rfl
@[simp] theorem is_non : gIs' M .non .non = .ok (.bl true) M := rfl
@[simp] theorem isNot_non : gIsNot' M .non .non = .ok (.bl false) M := rfl
theorem rngOk_nat {n : Nat} (h : n ≤ 1000000000) : rngOk (n : Int) = true := by
  unfold rngOk
  rw [Bool.and_eq_true, decide_eq_true_eq, decide_eq_true_eq]
  constructor <;> omega
theorem pr2 {f : FA} {ρ : Rho} {M M1 : PM} {j : Int} (h : f ρ M = .ok [.int j] M1) (hj : rngOk j = true) : pRng1 f ρ M = .ok (rngD 0 j.toNat) M1 := by
  have e : pRng1 f ρ M = (f ρ M).bind (fun as M1 => match as with | [.int j] => if rngOk j = true then .ok (rngD 0 j.toNat) M1 else .bad | _ => .bad) := rfl
  rw [e, h]
  show (if rngOk j = true then Out.ok (rngD 0 j.toNat) M1 else Out.bad) = _
  exact if_pos hj
theorem e_rng1 {f : FA} {ρ : Rho} {M M1 : PM} {n : Nat} (h : f ρ M = .ok [.int (n : Int)] M1) (hn : n ≤ 1000000000) : pRng1 f ρ M = .ok (rngD 0 n) M1 := by
  have h2 := pr2 h (rngOk_nat hn)
  rw [Int.toNat_natCast] at h2
  exact h2
/-! an object that changes, the last one -/
theorem get_last (M : PM) (m : MO) : (M ++ [m])[M.length]? = some m := by simp
theorem set_last (M : PM) (m m' : MO) : (M ++ [m]).set M.length m' = M ++ [m'] := by
  rw [List.set_append_right _ _ (Nat.le_refl _), Nat.sub_self]
  rfl
mutual
theorem clD_mono {n m : Nat} (h : n ≤ m) : ∀ d : D, clD n d = true → clD m d = true
  | .adr i, c => by simp only [clD, decide_eq_true_eq] at c ⊢; omega
  | .tup ds, c => by simp only [clD] at c ⊢; exact clL_mono h ds c
  | .lst ds, c => by simp only [clD] at c ⊢; exact clL_mono h ds c
  | .rol ds, c => by simp only [clD] at c ⊢; exact clL_mono h ds c
  | .non, _ => by simp only [clD]
  | .bl _, _ => by simp only [clD]
  | .int _, _ => by simp only [clD]
  | .str _, _ => by simp only [clD]
  | .raw _, _ => by simp only [clD]
theorem clL_mono {n m : Nat} (h : n ≤ m) : ∀ ds : List D, clL n ds = true → clL m ds = true
  | [], _ => by simp only [clL]
  | d :: ds, c => by
    simp only [clL, Bool.and_eq_true] at c ⊢
    exact ⟨clD_mono h d c.1, clL_mono h ds c.2⟩
end
theorem clMO_mono {n m : Nat} (h : n ≤ m) (o : MO) (c : clMO n o = true) : clMO m o = true := by
  cases o with
  | lst ds => exact clL_mono h ds c
  | ins C fs => exact clL_mono h _ c
/-! a def's end -/
def WfM (M : PM) : Prop := M.all (clMO M.length) = true
theorem WfM.snoc {M : PM} (w : WfM M) {m : MO} (h : clMO (M.length + 1) m = true) : WfM (M ++ [m]) := by
  unfold WfM at w ⊢
  rw [List.all_append, List.length_append]
  simp only [List.length_cons, List.length_nil, List.all_cons, List.all_nil, Bool.and_true, Bool.and_eq_true]
  refine ⟨List.all_eq_true.mpr fun x hx => clMO_mono (by omega) x (List.all_eq_true.mp w x hx), ?_⟩
  simpa using h
theorem WfM.set {M : PM} (w : WfM M) {i : Nat} {m : MO} (h : clMO M.length m = true) : WfM (M.set i m) := by
  unfold WfM at w ⊢
  rw [List.length_set]
  refine List.all_eq_true.mpr fun x hx => ?_
  rcases List.mem_or_eq_of_mem_set hx with e | e
  · exact List.all_eq_true.mp w x e
  · rw [e]; exact h
theorem fin_ok' {n : Nat} {d : D} {M1 J : PM} (hl : M1.length = n) (hM : M1.all (clMO n) = true) (hd : clD n d = true) : fin n d (M1 ++ J) = .ok d M1 := by
  unfold fin
  have e : (M1 ++ J).take n = M1 := by rw [← hl]; simp
  rw [e, if_pos ⟨by rw [List.length_append]; omega, hM⟩, if_pos hd]
theorem run_rt {ar : Nat} {N : List Str} {g : FS} {ds : List D} {M M1 J : PM} {d : D} (ha : ds.length = ar) (hg : g (rho0 N ds) M = .ok (.rt d) (M1 ++ J)) (hl : M1.length = M.length) (hM : M1.all (clMO M.length) = true) (hd : clD M.length d = true) : run ar N g ds M = .ok d M1 := by
  unfold run
  rw [if_pos ha, hg]
  exact fin_ok' hl hM hd
/-- .. that left all objects as they were -/
theorem run_pure {ar : Nat} {N : List Str} {g : FS} {ds : List D} {M J : PM} {d : D} (ha : ds.length = ar) (w : WfM M) (hg : g (rho0 N ds) M = .ok (.rt d) (M ++ J)) (hd : clD M.length d = true) : run ar N g ds M = .ok d M := run_rt ha hg rfl w hd
theorem run_pure0 {ar : Nat} {N : List Str} {g : FS} {ds : List D} {M : PM} {d : D} (ha : ds.length = ar) (w : WfM M) (hg : g (rho0 N ds) M = .ok (.rt d) M) (hd : clD M.length d = true) : run ar N g ds M = .ok d M := run_rt (J := []) ha (by rw [hg, List.append_nil]) rfl w hd
end
end Pd

set_option Elab.async false
set_option linter.all false
set_option maxRecDepth 100000
set_option maxHeartbeats 2000000
namespace Pd
open PySem L2

/-! ### reading on, step by step -/
section
variable {ρ ρ' ρ2 : Rho} {M M1 M2 M3 : PM} {a b d x : D}
theorem v_op {g : PM → D → D → Out D} {f h : FE} (h1 : f ρ M = .ok a M1) (h2 : h ρ M1 = .ok b M2) (h3 : g M2 a b = .ok d M3) : pOp g f h ρ M = .ok d M3 := by
  unfold pOp
  rw [h1, Out.bind_ok, h2, Out.bind_ok, h3]
theorem v_var {i : Nat} (h : ρ[i]? = some (some d)) : pVar i ρ M = .ok d M := by
  unfold pVar
  rw [h]
theorem v_a1 {f : FE} (h1 : f ρ M = .ok a M1) : aCons f aNil ρ M = .ok [a] M1 := by
  unfold aCons
  rw [h1]
  rfl
theorem v_ac {f : FE} {fs : FA} {ds : List D} (h1 : f ρ M = .ok a M1) (h2 : fs ρ M1 = .ok ds M2) : aCons f fs ρ M = .ok (a :: ds) M2 := by
  unfold aCons
  rw [h1, Out.bind_ok, h2, Out.bind_ok]
theorem v_cb {g : PM → List D → Out D} {f : FA} {ds : List D} (h1 : f ρ M = .ok ds M1) (h2 : g M1 ds = .ok d M2) : pCB g f ρ M = .ok d M2 := by
  unfold pCB
  rw [h1, Out.bind_ok, h2]
theorem v_call {Φ : List D → PM → Out D} {f : FA} {ds : List D} (h1 : f ρ M = .ok ds M1) (h2 : Φ ds M1 = .ok d M2) : pCall Φ f ρ M = .ok d M2 := by
  unfold pCall
  rw [h1, Out.bind_ok, h2]
theorem v_test {f : FE} {k : Bool} (h1 : f ρ M = .ok (.bl k) M1) : pTest f ρ M = .ok k M1 := by
  unfold pTest
  rw [h1]
  rfl
theorem v_and_f {f g : FT} (h1 : f ρ M = .ok false M1) : pAnd f g ρ M = .ok false M1 := by
  unfold pAnd
  rw [h1]
  rfl
theorem v_and_t {f g : FT} {k : Bool} (h1 : f ρ M = .ok true M1) (h2 : g ρ M1 = .ok k M2) : pAnd f g ρ M = .ok k M2 := by
  unfold pAnd
  rw [h1, Out.bind_ok, if_pos rfl, h2]
theorem v_not {f : FT} {k : Bool} (h1 : f ρ M = .ok k M1) : pNot f ρ M = .ok (!k) M1 := by
  unfold pNot
  rw [h1]
  rfl
theorem v_sq {f g : FS} (h : f ρ M = .ok (.nx ρ') M1) : sSeq f g ρ M = g ρ' M1 := by
  unfold sSeq
  rw [h]
  rfl
theorem v_sqr {f g : FS} (h : f ρ M = .ok (.rt d) M1) : sSeq f g ρ M = .ok (.rt d) M1 := by
  unfold sSeq
  rw [h]
  rfl
theorem v_ag {f : FE} {j : Nat} (h : f ρ M = .ok d M1) : sAsg f (fName j) ρ M = .ok (.nx (ρ.set j (some d))) M1 := by
  unfold sAsg
  rw [h]
  rfl
theorem v_ret {f : FE} (h : f ρ M = .ok d M1) : sRet f ρ M = .ok (.rt d) M1 := by
  unfold sRet
  rw [h]
  rfl
theorem v_if_t {c : FT} {f g : FS} (h : c ρ M = .ok true M1) : sIf c f g ρ M = f ρ M1 := by
  unfold sIf
  rw [h]
  rfl
theorem v_if_f {c : FT} {f g : FS} (h : c ρ M = .ok false M1) : sIf c f g ρ M = g ρ M1 := by
  unfold sIf
  rw [h]
  rfl
theorem v_lst {f : FA} {ds : List D} (h : f ρ M = .ok ds M1) (hl : ds.length ≤ 16777216) : pLst f ρ M = .ok (.lst ds) M1 := by
  unfold pLst
  rw [h, Out.bind_ok]
  exact if_pos hl
theorem v_for {w : FA} {g : FG} {b : FS} {ds : List D} (h : w ρ M = .ok ds M1) : sFor w g b ρ M = sEach g b ds ρ M1 := by
  unfold sFor
  rw [h]
  rfl
end
/-! ### the numbers that a law draws: its own little machine -/
def gNext2 : FS :=
    sSeq (sAsg (pOp gAdd (pOp gIx (pVar 0) (pC (.int 0))) (pC (.int 1))) (fSub (pVar 0) (pC (.int 0))))
    (sSeq (sIf (pTest (pOp gGe (pVar 3) (pOp gPow (pC (.int 10)) (pC (.int 18))))) (sSeq (sAsg (pOp gFdiv (pVar 3) (pVar 2)) (fSub (pVar 0) (pC (.int 1))))
      (sRet (pOp gMod (pCB bInt (aCons (pVar 3) (aNil))) (pVar 2)))) (sNext))
    (sSeq (sAsg (pOp gMod (pCB bInt (aCons (pOp gAdd (pOp gAdd (pOp gMul (pOp gIx (pVar 0) (pC (.int 2))) (pC (.int 48271))) (pOp gMul (pVar 3) (pC (.int 69621)))) (pC (.int 12345))) (aNil))) (pC (.int 2147483647))) (fSub (pVar 0) (pC (.int 2))))
    (sRet (pOp gMod (pCB bInt (aCons (pOp gAdd (pOp gFdiv (pOp gIx (pVar 0) (pC (.int 2))) (pC (.int 7))) (pOp gFdiv (pOp gMul (pOp gIx (pVar 0) (pC (.int 2))) (pOp gIx (pVar 0) (pC (.int 2)))) (pC (.int 65537)))) (aNil))) (pVar 2)))))
def gNext : FS :=
    sSeq (sIf (pTest (pOp gGt (pOp gIx (pVar 0) (pC (.int 1))) (pC (.int 0)))) (sSeq (sAsg (pOp gMod (pCB bInt (aCons (pOp gIx (pVar 0) (pC (.int 1))) (aNil))) (pVar 2)) (fName 4))
      (sSeq (sAsg (pOp gFdiv (pCB bInt (aCons (pOp gIx (pVar 0) (pC (.int 1))) (aNil))) (pVar 2)) (fSub (pVar 0) (pC (.int 1))))
      (sRet (pVar 4)))) (sNext))
    (sSeq (sAsg (pC (.int 0)) (fName 3))
    (sSeq (sIf (pTest (pOp gLt (pOp gIx (pVar 0) (pC (.int 0))) (pCB bLen (aCons (pVar 1) (aNil))))) (sAsg (pCB bAbs (aCons (pCB bInt (aCons (pOp gIx (pVar 1) (pOp gIx (pVar 0) (pC (.int 0)))) (aNil))) (aNil))) (fName 3)) (sNext))
    gNext2))
/-- what its list holds -/
def Rst (m : MO) : Prop := ∃ a b c e : Int, m = .lst [.int a, .int b, .int c, .int e] ∧ 0 ≤ a ∧ 0 ≤ c ∧ c < 2147483647
theorem Rst.cl {m : MO} (h : Rst m) (n : Nat) : clMO n m = true := by
  obtain ⟨a, b, c, e, rfl, _⟩ := h
  rfl
theorem Rst.start : Rst (.lst [.int 0, .int 0, .int 1, .int 0]) := ⟨0, 0, 1, 0, rfl, by omega, by omega, by omega⟩
section
variable {M : PM} {i : Nat}
theorem set_get (hi : i < M.length) (m : MO) : (M.set i m)[i]? = some m := by simp [hi]
theorem put_at {ds : List D} (hi : i < M.length) {n : Nat} (hn : n < ds.length) (v : D) : putL (M.set i (.lst ds)) (.adr i) (.int (n : Int)) v = .ok () (M.set i (.lst (ds.set n v))) := by
  unfold putL
  simp only [set_get hi, ixN_nat hn, List.set_set]
theorem st_ix {ds : List D} (hi : i < M.length) {n : Nat} (hn : n < ds.length) : gIx (M.set i (.lst ds)) (.adr i) (.int (n : Int)) = .ok ds[n] (M.set i (.lst ds)) :=
  gIx_seq (seq_adr (set_get hi _)) (atI_ok hn)
theorem p18 : gPow M (.int 10) (.int 18) = .ok (.int 1000000000000000000) M := gII_ok (C := cPow) (h := fun i j => .int (i ^ j.toNat)) (i := 10) (j := 18) (by decide)
theorem mulR {x k : Int} (h1 : -18446744073709551616 < k) (h2 : k < 18446744073709551616) : gMul M (.int x) (.int k) = .ok (.int (x * k)) M := e_mul (by
  unfold cMul
  rw [decide_eq_true h1, decide_eq_true h2]
  exact Bool.or_true _)
theorem next1 {ns : List Int} {many a b c e : Int} (hi : i < M.length) (hm : 0 < many ∧ many < 1073741824) (hb : 0 < b) :
    gNext [some (.adr i), some (.rol (ns.map .int)), some (.int many), none, none] (M.set i (.lst [.int a, .int b, .int c, .int e])) = .ok (.rt (.int (b % many))) (M.set i (.lst [.int a, .int (b / many), .int c, .int e])) := by
  have h1 : gIx (M.set i (.lst [.int a, .int b, .int c, .int e])) (.adr i) (.int 1) = .ok (.int b) _ := st_ix (n := 1) hi (by simp)
  have h2 := e_mod (M := M.set i (.lst [.int a, .int b, .int c, .int e])) (i := b) hm.1
  have h3 := e_fdiv (M := M.set i (.lst [.int a, .int b, .int c, .int e])) (i := b) hm
  have h4 : putL (M.set i (.lst [.int a, .int b, .int c, .int e])) (.adr i) (.int 1) (.int (b / many)) = .ok () (M.set i (.lst [.int a, .int (b / many), .int c, .int e])) := put_at (n := 1) hi (by simp) _
  unfold gNext
  simp -implicitDefEqProofs [sSeq, sIf, sAsg, sRet, sNext, fName, fSub, pVar, pC, pOp, pTest, pCB, aCons, aNil, asB, h1, h2, h3, h4, hb]
theorem next2 {x1 x2 x4 : Option D} {many a b c e v : Int} (hi : i < M.length) (hm : 0 < many ∧ many < 1073741824) (hc : 0 ≤ c ∧ c < 2147483647) :
    ∃ (r a' b' c' : Int), gNext2 [some (.adr i), x1, some (.int many), some (.int v), x4] (M.set i (.lst [.int a, .int b, .int c, .int e])) = .ok (.rt (.int r)) (M.set i (.lst [.int a', .int b', .int c', .int e])) ∧ a' = a + 1 ∧ 0 ≤ c' ∧ c' < 2147483647 ∧ 0 ≤ r ∧ r < many := by
  have h1 : gIx (M.set i (.lst [.int a, .int b, .int c, .int e])) (.adr i) (.int 0) = .ok (.int a) _ := st_ix (n := 0) hi (by simp)
  have h2 : putL (M.set i (.lst [.int a, .int b, .int c, .int e])) (.adr i) (.int 0) (.int (a + 1)) = .ok () (M.set i (.lst [.int (a + 1), .int b, .int c, .int e])) := put_at (n := 0) hi (by simp) _
  have h3 : ∀ M : PM, gPow M (.int 10) (.int 18) = .ok (.int 1000000000000000000) M := fun M => p18
  have h4 : gFdiv (M.set i (.lst [.int (a + 1), .int b, .int c, .int e])) (.int v) (.int many) = .ok (.int (v / many)) _ := e_fdiv hm
  have h5 : putL (M.set i (.lst [.int (a + 1), .int b, .int c, .int e])) (.adr i) (.int 1) (.int (v / many)) = .ok () (M.set i (.lst [.int (a + 1), .int (v / many), .int c, .int e])) := put_at (n := 1) hi (by simp) _
  have h6 : ∀ (M : PM) (x : Int), gMod M (.int x) (.int many) = .ok (.int (x % many)) M := fun M x => e_mod hm.1
  by_cases hv : 1000000000000000000 ≤ v
  · refine ⟨v % many, a + 1, v / many, c, ?_, rfl, hc.1, hc.2, Int.emod_nonneg _ (by omega), Int.emod_lt_of_pos _ hm.1⟩
    unfold gNext2
    simp -implicitDefEqProofs only [sSeq, sIf, sAsg, sRet, sNext, fName, fSub, pVar, pC, pOp, pTest, pCB, aCons, aNil, asB, h1, h2, h3, h4, h5, h6, Out.bind_ok, List.getElem?_cons_zero, List.getElem?_cons_succ, e_add, e_ge, e_intI, decide_eq_true hv, if_true]
  · have h7 : gIx (M.set i (.lst [.int (a + 1), .int b, .int c, .int e])) (.adr i) (.int 2) = .ok (.int c) _ := st_ix (n := 2) hi (by simp)
    have h8 : ∀ (M : PM) (x : Int), gMul M (.int x) (.int 48271) = .ok (.int (x * 48271)) M := fun M x => mulR (by decide) (by decide)
    have h9 : ∀ (M : PM) (x : Int), gMul M (.int x) (.int 69621) = .ok (.int (x * 69621)) M := fun M x => mulR (by decide) (by decide)
    have h10 : ∀ (M : PM) (x : Int), gMod M (.int x) (.int 2147483647) = .ok (.int (x % 2147483647)) M := fun M x => e_mod (by decide)
    obtain ⟨c', hc'⟩ : ∃ c', c' = (c * 48271 + v * 69621 + 12345) % 2147483647 := ⟨_, rfl⟩
    have q1 : 0 ≤ c' := by rw [hc']; exact Int.emod_nonneg _ (by decide)
    have q2 : c' < 2147483647 := by rw [hc']; exact Int.emod_lt_of_pos _ (by decide)
    have h11 : putL (M.set i (.lst [.int (a + 1), .int b, .int c, .int e])) (.adr i) (.int 2) (.int c') = .ok () (M.set i (.lst [.int (a + 1), .int b, .int c', .int e])) := put_at (n := 2) hi (by simp) _
    have h12 : gIx (M.set i (.lst [.int (a + 1), .int b, .int c', .int e])) (.adr i) (.int 2) = .ok (.int c') _ := st_ix (n := 2) hi (by simp)
    have h13 : ∀ (M : PM), gMul M (.int c') (.int c') = .ok (.int (c' * c')) M := fun M => mulR (by omega) (by omega)
    have h14 : ∀ (M : PM) (x : Int), gFdiv M (.int x) (.int 7) = .ok (.int (x / 7)) M := fun M x => e_fdiv (by decide)
    have h15 : ∀ (M : PM) (x : Int), gFdiv M (.int x) (.int 65537) = .ok (.int (x / 65537)) M := fun M x => e_fdiv (by decide)
    refine ⟨(c' / 7 + c' * c' / 65537) % many, a + 1, b, c', ?_, rfl, q1, q2, Int.emod_nonneg _ (by omega), Int.emod_lt_of_pos _ hm.1⟩
    unfold gNext2
    simp -implicitDefEqProofs only [sSeq, sIf, sAsg, sRet, sNext, fName, fSub, pVar, pC, pOp, pTest, pCB, aCons, aNil, asB, h1, h2, h3, h6, h7, h8, h9, h10, ← hc', h11, h12, h13, h14, h15, Out.bind_ok, List.getElem?_cons_zero, List.getElem?_cons_succ, e_add, e_ge, e_intI, decide_eq_false hv, Bool.false_eq_true, if_false]
theorem next3 {ns : List Int} {many a b c e : Int} (hi : i < M.length) (hm : 0 < many ∧ many < 1073741824) (ha : 0 ≤ a) (hc : 0 ≤ c ∧ c < 2147483647) (hb : ¬ 0 < b) :
    ∃ (r a' b' c' : Int), gNext [some (.adr i), some (.rol (ns.map .int)), some (.int many), none, none] (M.set i (.lst [.int a, .int b, .int c, .int e])) = .ok (.rt (.int r)) (M.set i (.lst [.int a', .int b', .int c', .int e])) ∧ a' = a + 1 ∧ 0 ≤ c' ∧ c' < 2147483647 ∧ 0 ≤ r ∧ r < many := by
  have h1 : gIx (M.set i (.lst [.int a, .int b, .int c, .int e])) (.adr i) (.int 1) = .ok (.int b) _ := st_ix (n := 1) hi (by simp)
  have h2 : gIx (M.set i (.lst [.int a, .int b, .int c, .int e])) (.adr i) (.int 0) = .ok (.int a) _ := st_ix (n := 0) hi (by simp)
  have h3 : bLen (M.set i (.lst [.int a, .int b, .int c, .int e])) [.rol (ns.map .int)] = .ok (.int (ns.length : Int)) (M.set i (.lst [.int a, .int b, .int c, .int e])) := by
    rw [e_len (ds := ns.map .int) rfl, List.length_map]
  obtain ⟨v, hv⟩ : ∃ v : Int, (sIf (pTest (pOp gLt (pOp gIx (pVar 0) (pC (.int 0))) (pCB bLen (aCons (pVar 1) (aNil))))) (sAsg (pCB bAbs (aCons (pCB bInt (aCons (pOp gIx (pVar 1) (pOp gIx (pVar 0) (pC (.int 0)))) (aNil))) (aNil))) (fName 3)) (sNext)) [some (.adr i), some (.rol (ns.map .int)), some (.int many), some (.int 0), none] (M.set i (.lst [.int a, .int b, .int c, .int e])) = .ok (.nx [some (.adr i), some (.rol (ns.map .int)), some (.int many), some (.int v), none]) (M.set i (.lst [.int a, .int b, .int c, .int e])) := by
    by_cases hl : a < ns.length
    · obtain ⟨n, rfl⟩ := Int.eq_ofNat_of_zero_le ha
      have hn : n < ns.length := by omega
      have h4 : gIx (M.set i (.lst [.int (n : Int), .int b, .int c, .int e])) (.rol (ns.map .int)) (.int (n : Int)) = .ok (.int ns[n]) _ := gIx_seq (seq_rol _) (by rw [atI_ok (by simpa using hn)]; simp)
      refine ⟨if ns[n] < 0 then -ns[n] else ns[n], ?_⟩
      simp -implicitDefEqProofs only [sIf, sAsg, fName, pVar, pC, pOp, pTest, pCB, aCons, aNil, asB, h2, h3, h4, Out.bind_ok, List.getElem?_cons_zero, List.getElem?_cons_succ, e_lt, e_abs, e_intI, decide_eq_true hl, if_true, List.set_cons_zero, List.set_cons_succ]
    · refine ⟨0, ?_⟩
      simp -implicitDefEqProofs only [sIf, sNext, fName, pVar, pC, pOp, pTest, pCB, aCons, aNil, asB, h2, h3, Out.bind_ok, List.getElem?_cons_zero, List.getElem?_cons_succ, e_lt, decide_eq_false hl, Bool.false_eq_true, if_false]
  obtain ⟨r, a', b', c', h5, h6⟩ := next2 (M := M) (i := i) (x1 := some (.rol (ns.map .int))) (x2 := none) (x4 := none) (a := a) (b := b) (e := e) (v := v) hi hm hc
  refine ⟨r, a', b', c', ?_, h6⟩
  unfold gNext
  rw [show sSeq = sSeq from rfl]
  have h7 : sIf (pTest (pOp gGt (pOp gIx (pVar 0) (pC (.int 1))) (pC (.int 0)))) (sSeq (sAsg (pOp gMod (pCB bInt (aCons (pOp gIx (pVar 0) (pC (.int 1))) (aNil))) (pVar 2)) (fName 4))
      (sSeq (sAsg (pOp gFdiv (pCB bInt (aCons (pOp gIx (pVar 0) (pC (.int 1))) (aNil))) (pVar 2)) (fSub (pVar 0) (pC (.int 1))))
      (sRet (pVar 4)))) (sNext) [some (.adr i), some (.rol (ns.map .int)), some (.int many), none, none] (M.set i (.lst [.int a, .int b, .int c, .int e])) = .ok (.nx [some (.adr i), some (.rol (ns.map .int)), some (.int many), none, none]) (M.set i (.lst [.int a, .int b, .int c, .int e])) := by
    simp -implicitDefEqProofs only [sIf, sNext, pVar, pC, pOp, pTest, asB, h1, Out.bind_ok, List.getElem?_cons_zero, List.getElem?_cons_succ, e_gt, decide_eq_false hb, Bool.false_eq_true, if_false]
  have sq : ∀ {f g : FS} {ρ ρ' : Rho} {M M' : PM}, f ρ M = .ok (.nx ρ') M' → sSeq f g ρ M = g ρ' M' := fun h => by unfold sSeq; rw [h]; rfl
  rw [sq h7]
  have h8 : sAsg (pC (.int 0)) (fName 3) [some (.adr i), some (.rol (ns.map .int)), some (.int many), none, none] (M.set i (.lst [.int a, .int b, .int c, .int e])) = .ok (.nx [some (.adr i), some (.rol (ns.map .int)), some (.int many), some (.int 0), none]) (M.set i (.lst [.int a, .int b, .int c, .int e])) := rfl
  rw [sq h8, sq hv, h5]
theorem next_ok {N : List Str} (hN : N.length = 5) {ns : List Int} {many : Int} {m : MO} (w : WfM M) (hi : i < M.length) (hm : 0 < many ∧ many < 1073741824) (hs : Rst m) :
    ∃ (r : Int) (m' : MO), run 3 N gNext [.adr i, .rol (ns.map .int), .int many] (M.set i m) = .ok (.int r) (M.set i m') ∧ 0 ≤ r ∧ r < many ∧ Rst m' := by
  obtain ⟨a, b, c, e, rfl, ha, hc⟩ := hs
  have e0 : rho0 N [.adr i, .rol (ns.map .int), .int many] = [some (.adr i), some (.rol (ns.map .int)), some (.int many), none, none] := by
    unfold rho0
    rw [hN]
    rfl
  have fin : ∀ (r : Int) (m' : MO), Rst m' → gNext [some (.adr i), some (.rol (ns.map .int)), some (.int many), none, none] (M.set i (.lst [.int a, .int b, .int c, .int e])) = .ok (.rt (.int r)) (M.set i m') → run 3 N gNext [.adr i, .rol (ns.map .int), .int many] (M.set i (.lst [.int a, .int b, .int c, .int e])) = .ok (.int r) (M.set i m') := fun r m' hm' h => by
    refine run_rt (J := []) rfl (by rw [e0, List.append_nil, h]) (by simp) ?_ rfl
    have := WfM.set (i := i) w (hm'.cl M.length)
    unfold WfM at this
    simpa using this
  by_cases hb : 0 < b
  · exact ⟨b % many, .lst [.int a, .int (b / many), .int c, .int e], fin _ _ ⟨a, b / many, c, e, rfl, ha, hc⟩ (next1 hi hm hb), Int.emod_nonneg _ (by omega), Int.emod_lt_of_pos _ hm.1, a, b / many, c, e, rfl, ha, hc⟩
  · obtain ⟨r, a', b', c', h1, h2, h3, h4, h5, h6⟩ := next3 (M := M) (e := e) hi hm ha hc hb (ns := ns)
    have hr : Rst (.lst [.int a', .int b', .int c', .int e]) := ⟨a', b', c', e, rfl, by omega, h3, h4⟩
    exact ⟨r, _, fin _ _ hr h1, h5, h6, hr⟩
end
end Pd

set_option Elab.async false
set_option linter.all false
set_option maxRecDepth 100000
set_option maxHeartbeats 4000000
namespace G
open PySem L2 Pd PyProof.Rows
def topS (i : Nat) : Stmt := PySem.Challenge.pw_carryclaim_k01_tokens.main.body.getD i (.Pass ⟨0, 0, 0, 0⟩)
def d_LETTERS : D := .str (PySem.Str.ofString "abcdefghijklmnopqrstuvwxyz")
def d_WORD_CHARACTERS : D := .str (PySem.Str.ofString "abcdefghijklmnopqrstuvwxyz0123456789_")
def d_DIGITS : D := .str (PySem.Str.ofString "0123456789")
def d_LONG_SIGNS : D := .tup ([(PySem.Str.ofString "=="), (PySem.Str.ofString "!="), (PySem.Str.ofString "<=")].map .str)
def d_LONGEST_WORD : D := .int 12
def d_SHORT_SIGNS : D := .tup ([(PySem.Str.ofString "("), (PySem.Str.ofString ")"), (PySem.Str.ofString "{"), (PySem.Str.ofString "}"), (PySem.Str.ofString "["), (PySem.Str.ofString "]"), (PySem.Str.ofString ","), (PySem.Str.ofString ";"), (PySem.Str.ofString "="), (PySem.Str.ofString "<"), (PySem.Str.ofString "+"), (PySem.Str.ofString "-"), (PySem.Str.ofString "*"), (PySem.Str.ofString "/")].map .str)
def d_LARGEST_NUMBER : D := .int 10000
/-! ### run_end -/
abbrev s_run_end : Stmt := topS 10
def lc_run_end_1 : FT :=
    pAnd (pTest (pOp gLt (pVar 3) (pCB bLen (aCons (pVar 0) (aNil))))) (pTest (pOp gIn (pOp gIx (pVar 0) (pVar 3)) (pVar 2)))
def lb_run_end_1 : FS :=
    sAug 3 (pC (.int 1)) (gII cTrue fun i j => .int (i + j))
def g_run_end : FS :=
    sSeq (sAsg (pVar 1) (fName 3))
    (sSeq (sWhile (lc_run_end_1) (lb_run_end_1) 100000)
    (sRet (pVar 3)))
abbrev N_run_end : List Str := [PySem.Str.ofString "text", PySem.Str.ofString "start", PySem.Str.ofString "characters", PySem.Str.ofString "end"]
theorem sc_run_end : FnScope N_run_end [PySem.Str.ofString "text", PySem.Str.ofString "start", PySem.Str.ofString "characters"] (defScope s_run_end) := ⟨rfl, rfl, rfl, by decide +kernel, rfl, by decide +kernel, by decide +kernel⟩
def Φ_run_end : List D → PM → Out D := run 3 N_run_end (g_run_end)
theorem ok_run_end {P : Program} {w : World} {K : PySem.W.Frag} {mg : Str → Option Value} {base : Heap} (F : FunM K mg "run_end" s_run_end [PySem.Str.ofString "text", PySem.Str.ofString "start", PySem.Str.ofString "characters"]) (m_len : mg "len" = none) :
    Callee P w K mg base "run_end" 1 (run 3 N_run_end (g_run_end)) := by
  refine callee_run F sc_run_end rfl fun f cdv A outer s H E hr => ?_
  have nd := sc_run_end.nd
  exact pdb_cons (pds_set 3 (pd_var 1) nd)
    (pdb_cons (pds_while 100000 PassesOwn.never (pdt_w (pdw_and (pdt_cmp o_lt (pd_var 3) (pd_callB b_len rfl m_len (by decide +kernel) (pda_cons (pd_var 0) (pda_nil))) (nomark _)) (pdw_and1 (pdt_cmp o_in (pd_ix (pd_var 0) (pd_var 3)) (pd_var 2) (by rfl))))) (pdb_one (pds_aug 3 ip_add (pd_int) nd)))
    (pdb_one (pds_ret (pd_var 3))))
/-! ### token_end -/
abbrev s_token_end : Stmt := topS 9
def g_token_end (Φ_run_end : List D → PM → Out D) : FS :=
    sSeq (sIf (pTest (pOp gIn (pOp gIx (pVar 0) (pVar 1)) (pC d_LETTERS))) (sRet (pCall Φ_run_end (aCons (pVar 0) (aCons (pVar 1) (aCons (pC d_WORD_CHARACTERS) (aNil)))))) (sNext))
    (sSeq (sIf (pTest (pOp gIn (pOp gIx (pVar 0) (pVar 1)) (pC d_DIGITS))) (sRet (pCall Φ_run_end (aCons (pVar 0) (aCons (pVar 1) (aCons (pC d_DIGITS) (aNil)))))) (sNext))
    (sSeq (sIf (pTest (pOp gIn (pSl gSl (pVar 0) (oSome (pVar 1)) (oSome (pOp gAdd (pVar 1) (pC (.int 2))))) (pC d_LONG_SIGNS))) (sRet (pOp gAdd (pVar 1) (pC (.int 2)))) (sNext))
    (sRet (pOp gAdd (pVar 1) (pC (.int 1))))))
abbrev N_token_end : List Str := [PySem.Str.ofString "text", PySem.Str.ofString "start"]
theorem sc_token_end : FnScope N_token_end [PySem.Str.ofString "text", PySem.Str.ofString "start"] (defScope s_token_end) := ⟨rfl, rfl, rfl, by decide +kernel, rfl, by decide +kernel, by decide +kernel⟩
def Φ_token_end : List D → PM → Out D := run 2 N_token_end (g_token_end Φ_run_end)
theorem ok_token_end {P : Program} {w : World} {K : PySem.W.Frag} {mg : Str → Option Value} {base : Heap} (F : FunM K mg "token_end" s_token_end [PySem.Str.ofString "text", PySem.Str.ofString "start"]) {Φ_run_end : List D → PM → Out D} (C_run_end : Callee P w K mg base "run_end" 1 Φ_run_end) (G_LETTERS : GlobD K mg "LETTERS" d_LETTERS) (G_WORD_CHARACTERS : GlobD K mg "WORD_CHARACTERS" d_WORD_CHARACTERS) (G_DIGITS : GlobD K mg "DIGITS" d_DIGITS) (G_LONG_SIGNS : GlobD K mg "LONG_SIGNS" d_LONG_SIGNS) :
    Callee P w K mg base "token_end" 2 (run 2 N_token_end (g_token_end Φ_run_end)) := by
  refine callee_run F sc_token_end rfl fun f cdv A outer s H E hr => ?_
  have nd := sc_token_end.nd
  exact pdb_cons (pds_if (pdt_cmp o_in (pd_ix (pd_var 0) (pd_var 1)) (pd_globC G_LETTERS rfl) (by rfl)) (pdb_one (pds_ret (pd_callC C_run_end (hr.mono (by decide)) rfl (pda_cons (pd_var 0) (pda_cons (pd_var 1) (pda_cons (pd_globC G_WORD_CHARACTERS rfl) (pda_nil))))))) (pdb_nil))
    (pdb_cons (pds_if (pdt_cmp o_in (pd_ix (pd_var 0) (pd_var 1)) (pd_globC G_DIGITS rfl) (by rfl)) (pdb_one (pds_ret (pd_callC C_run_end (hr.mono (by decide)) rfl (pda_cons (pd_var 0) (pda_cons (pd_var 1) (pda_cons (pd_globC G_DIGITS rfl) (pda_nil))))))) (pdb_nil))
    (pdb_cons (pds_if (pdt_cmp o_in (pd_sl (pd_var 0) (pdo_some (pd_var 1)) (pdo_some (pd_op o_add (pd_var 1) (pd_int)))) (pd_globC G_LONG_SIGNS rfl) (by rfl)) (pdb_one (pds_ret (pd_op o_add (pd_var 1) (pd_int)))) (pdb_nil))
    (pdb_one (pds_ret (pd_op o_add (pd_var 1) (pd_int))))))
/-! ### is_number -/
abbrev s_is_number : Stmt := topS 12
def g_is_number : FS :=
    sSeq (sIf (pTest (pOp gEq (pOp gIx (pVar 0) (pC (.int 0))) (pC (.str (PySem.Str.ofString "0"))))) (sRet (pOp gEq (pCB bLen (aCons (pVar 0) (aNil))) (pC (.int 1)))) (sNext))
    (sRet (pAndV (pOp gLe (pCB bLen (aCons (pVar 0) (aNil))) (pCB bLen (aCons (pCB bStr (aCons (pC d_LARGEST_NUMBER) (aNil))) (aNil)))) (pOp gLe (pCB bInt (aCons (pVar 0) (aNil))) (pC d_LARGEST_NUMBER))))
abbrev N_is_number : List Str := [PySem.Str.ofString "digits"]
theorem sc_is_number : FnScope N_is_number [PySem.Str.ofString "digits"] (defScope s_is_number) := ⟨rfl, rfl, rfl, by decide +kernel, rfl, by decide +kernel, by decide +kernel⟩
def Φ_is_number : List D → PM → Out D := run 1 N_is_number (g_is_number)
theorem ok_is_number {P : Program} {w : World} {K : PySem.W.Frag} {mg : Str → Option Value} {base : Heap} (F : FunM K mg "is_number" s_is_number [PySem.Str.ofString "digits"]) (G_LARGEST_NUMBER : GlobD K mg "LARGEST_NUMBER" d_LARGEST_NUMBER) (m_len : mg "len" = none) (m_str : mg "str" = none) (m_int : mg "int" = none) :
    Callee P w K mg base "is_number" 1 (run 1 N_is_number (g_is_number)) := by
  refine callee_run F sc_is_number rfl fun f cdv A outer s H E hr => ?_
  have nd := sc_is_number.nd
  exact pdb_cons (pds_if (pdt_cmp o_eq (pd_ix (pd_var 0) (pd_int)) (pd_str) (nomark _)) (pdb_one (pds_ret (pd_cmp o_eq (pd_callB b_len rfl m_len (by decide +kernel) (pda_cons (pd_var 0) (pda_nil))) (pd_int) (nomark _)))) (pdb_nil))
    (pdb_one (pds_ret (pd_and (pd_cmp o_le (pd_callB b_len rfl m_len (by decide +kernel) (pda_cons (pd_var 0) (pda_nil))) (pd_callB b_len rfl m_len (by decide +kernel) (pda_cons (pd_callT b_str rfl m_str (by decide +kernel) (pda_cons (pd_globC G_LARGEST_NUMBER rfl) (pda_nil))) (pda_nil))) (nomark _)) (pd_one (pd_cmp o_le (pd_callT b_int rfl m_int (by decide +kernel) (pda_cons (pd_var 0) (pda_nil))) (pd_globC G_LARGEST_NUMBER rfl) (nomark _))))))
/-! ### read_token -/
abbrev s_read_token : Stmt := topS 11
def g_read_token (Φ_is_number : List D → PM → Out D) : FS :=
    sSeq (sIf (pAnd (pTest (pOp gIn (pOp gIx (pVar 0) (pC (.int 0))) (pC d_LETTERS))) (pTest (pOp gLe (pCB bLen (aCons (pVar 0) (aNil))) (pC d_LONGEST_WORD)))) (sRet (pTup (aCons (pC (.str (PySem.Str.ofString "word"))) (aCons (pVar 0) (aNil))))) (sNext))
    (sSeq (sIf (pAnd (pTest (pOp gIn (pOp gIx (pVar 0) (pC (.int 0))) (pC d_DIGITS))) (pTest (pCall Φ_is_number (aCons (pVar 0) (aNil))))) (sRet (pTup (aCons (pC (.str (PySem.Str.ofString "number"))) (aCons (pCB bInt (aCons (pVar 0) (aNil))) (aNil))))) (sNext))
    (sSeq (sIf (pOr (pTest (pOp gIn (pVar 0) (pC d_LONG_SIGNS))) (pTest (pOp gIn (pVar 0) (pC d_SHORT_SIGNS)))) (sRet (pTup (aCons (pC (.str (PySem.Str.ofString "sign"))) (aCons (pVar 0) (aNil))))) (sNext))
    (sRet (pTup (aCons (pC (.str (PySem.Str.ofString "error"))) (aCons (pC (.str (PySem.Str.ofString ""))) (aNil)))))))
abbrev N_read_token : List Str := [PySem.Str.ofString "part"]
theorem sc_read_token : FnScope N_read_token [PySem.Str.ofString "part"] (defScope s_read_token) := ⟨rfl, rfl, rfl, by decide +kernel, rfl, by decide +kernel, by decide +kernel⟩
def Φ_read_token : List D → PM → Out D := run 1 N_read_token (g_read_token Φ_is_number)
theorem ok_read_token {P : Program} {w : World} {K : PySem.W.Frag} {mg : Str → Option Value} {base : Heap} (F : FunM K mg "read_token" s_read_token [PySem.Str.ofString "part"]) {Φ_is_number : List D → PM → Out D} (C_is_number : Callee P w K mg base "is_number" 1 Φ_is_number) (G_LETTERS : GlobD K mg "LETTERS" d_LETTERS) (G_LONGEST_WORD : GlobD K mg "LONGEST_WORD" d_LONGEST_WORD) (G_DIGITS : GlobD K mg "DIGITS" d_DIGITS) (G_LONG_SIGNS : GlobD K mg "LONG_SIGNS" d_LONG_SIGNS) (G_SHORT_SIGNS : GlobD K mg "SHORT_SIGNS" d_SHORT_SIGNS) (m_len : mg "len" = none) (m_int : mg "int" = none) :
    Callee P w K mg base "read_token" 2 (run 1 N_read_token (g_read_token Φ_is_number)) := by
  refine callee_run F sc_read_token rfl fun f cdv A outer s H E hr => ?_
  have nd := sc_read_token.nd
  exact pdb_cons (pds_if (pdt_w (pdw_and (pdt_cmp o_in (pd_ix (pd_var 0) (pd_int)) (pd_globC G_LETTERS rfl) (by rfl)) (pdw_and1 (pdt_cmp o_le (pd_callB b_len rfl m_len (by decide +kernel) (pda_cons (pd_var 0) (pda_nil))) (pd_globC G_LONGEST_WORD rfl) (nomark _))))) (pdb_one (pds_ret (pd_tup (pda_cons (pd_str) (pda_cons (pd_var 0) (pda_nil)))))) (pdb_nil))
    (pdb_cons (pds_if (pdt_w (pdw_and (pdt_cmp o_in (pd_ix (pd_var 0) (pd_int)) (pd_globC G_DIGITS rfl) (by rfl)) (pdw_and1 (pdt_val (pd_callC C_is_number (hr.mono (by decide)) rfl (pda_cons (pd_var 0) (pda_nil))))))) (pdb_one (pds_ret (pd_tup (pda_cons (pd_str) (pda_cons (pd_callT b_int rfl m_int (by decide +kernel) (pda_cons (pd_var 0) (pda_nil))) (pda_nil)))))) (pdb_nil))
    (pdb_cons (pds_if (pdt_w (pdw_or (pdt_cmp o_in (pd_var 0) (pd_globC G_LONG_SIGNS rfl) (by rfl)) (pdw_or1 (pdt_cmp o_in (pd_var 0) (pd_globC G_SHORT_SIGNS rfl) (by rfl))))) (pdb_one (pds_ret (pd_tup (pda_cons (pd_str) (pda_cons (pd_var 0) (pda_nil)))))) (pdb_nil))
    (pdb_one (pds_ret (pd_tup (pda_cons (pd_str) (pda_cons (pd_str) (pda_nil))))))))
/-! ### tokens -/
abbrev s_tokens : Stmt := topS 8
def lc_tokens_1 (Φ_token_end : List D → PM → Out D) (Φ_read_token : List D → PM → Out D) : FT :=
    pTest (pOp gLt (pVar 4) (pCB bLen (aCons (pVar 0) (aNil))))
def lb_tokens_1 (Φ_token_end : List D → PM → Out D) (Φ_read_token : List D → PM → Out D) : FS :=
    sIf (pTest (pOp gEq (pOp gIx (pVar 0) (pVar 4)) (pC (.str (PySem.Str.ofString "\n"))))) (sSeq (sAug 4 (pC (.int 1)) (gII cTrue fun i j => .int (i + j)))
        (sSeq (sAug 2 (pC (.int 1)) (gII cTrue fun i j => .int (i + j)))
        (sAsg (pVar 4) (fName 3)))) (sIf (pTest (pOp gEq (pOp gIx (pVar 0) (pVar 4)) (pC (.str (PySem.Str.ofString " "))))) (sAug 4 (pC (.int 1)) (gII cTrue fun i j => .int (i + j))) (sSeq (sAsg (pCall Φ_token_end (aCons (pVar 0) (aCons (pVar 4) (aNil)))) (fName 5))
          (sSeq (sAsg (pCall Φ_read_token (aCons (pSl gSl (pVar 0) (oSome (pVar 4)) (oSome (pVar 5))) (aNil))) (fTup 2 (fCons (fName 6) (fCons (fName 7) (fNil)))))
          (sSeq (sDrop (pApp (pVar 1) (pTup (aCons (pVar 6) (aCons (pVar 7) (aCons (pVar 2) (aCons (pOp gAdd (pOp gSub (pVar 4) (pVar 3)) (pC (.int 1))) (aNil))))))))
          (sSeq (sIf (pTest (pOp gEq (pVar 6) (pC (.str (PySem.Str.ofString "error"))))) (sBreak) (sNext))
          (sAsg (pVar 5) (fName 4)))))))
def g_tokens (Φ_token_end : List D → PM → Out D) (Φ_read_token : List D → PM → Out D) : FS :=
    sSeq (sAsg (pNew (aNil)) (fName 1))
    (sSeq (sAsg (pC (.int 1)) (fName 2))
    (sSeq (sAsg (pC (.int 0)) (fName 3))
    (sSeq (sAsg (pC (.int 0)) (fName 4))
    (sSeq (sWhile (lc_tokens_1 Φ_token_end Φ_read_token) (lb_tokens_1 Φ_token_end Φ_read_token) 100000)
    (sRet (pCB bTuple (aCons (pVar 1) (aNil))))))))
abbrev N_tokens : List Str := [PySem.Str.ofString "text", PySem.Str.ofString "found", PySem.Str.ofString "line", PySem.Str.ofString "line_start", PySem.Str.ofString "at", PySem.Str.ofString "end", PySem.Str.ofString "kind", PySem.Str.ofString "value"]
theorem sc_tokens : FnScope N_tokens [PySem.Str.ofString "text"] (defScope s_tokens) := ⟨rfl, rfl, rfl, by decide +kernel, rfl, by decide +kernel, by decide +kernel⟩
def Φ_tokens : List D → PM → Out D := run 1 N_tokens (g_tokens Φ_token_end Φ_read_token)
theorem ok_tokens {P : Program} {w : World} {K : PySem.W.Frag} {mg : Str → Option Value} {base : Heap} (F : FunM K mg "tokens" s_tokens [PySem.Str.ofString "text"]) {Φ_token_end : List D → PM → Out D} (C_token_end : Callee P w K mg base "token_end" 2 Φ_token_end) {Φ_read_token : List D → PM → Out D} (C_read_token : Callee P w K mg base "read_token" 2 Φ_read_token) (m_len : mg "len" = none) (m_tuple : mg "tuple" = none) :
    Callee P w K mg base "tokens" 3 (run 1 N_tokens (g_tokens Φ_token_end Φ_read_token)) := by
  refine callee_run F sc_tokens rfl fun f cdv A outer s H E hr => ?_
  have nd := sc_tokens.nd
  exact pdb_cons (pds_set 1 (pd_new (pda_nil)) nd)
    (pdb_cons (pds_set 2 (pd_int) nd)
    (pdb_cons (pds_set 3 (pd_int) nd)
    (pdb_cons (pds_set 4 (pd_int) nd)
    (pdb_cons (pds_while 100000 PassesOwn.never (pdt_cmp o_lt (pd_var 4) (pd_callB b_len rfl m_len (by decide +kernel) (pda_cons (pd_var 0) (pda_nil))) (nomark _)) (pdb_one (pds_if (pdt_cmp o_eq (pd_ix (pd_var 0) (pd_var 4)) (pd_str) (nomark _)) (pdb_cons (pds_aug 4 ip_add (pd_int) nd)
        (pdb_cons (pds_aug 2 ip_add (pd_int) nd)
        (pdb_one (pds_set 3 (pd_var 4) nd)))) (pdb_one (pds_if (pdt_cmp o_eq (pd_ix (pd_var 0) (pd_var 4)) (pd_str) (nomark _)) (pdb_one (pds_aug 4 ip_add (pd_int) nd)) (pdb_cons (pds_set 5 (pd_callC C_token_end (hr.mono (by decide)) rfl (pda_cons (pd_var 0) (pda_cons (pd_var 4) (pda_nil)))) nd)
          (pdb_cons (pds_asg (pd_callC C_read_token (hr.mono (by decide)) rfl (pda_cons (pd_sl (pd_var 0) (pdo_some (pd_var 4)) (pdo_some (pd_var 5))) (pda_nil))) (pdg_tup rfl (pdgs_cons (pdg_name (i := 6) nd) (pdgs_cons (pdg_name (i := 7) nd) (pdgs_nil)))))
          (pdb_cons (pds_expr (pd_append (pd_var 1) (pd_tup (pda_cons (pd_var 6) (pda_cons (pd_var 7) (pda_cons (pd_var 2) (pda_cons (pd_op o_add (pd_op o_sub (pd_var 4) (pd_var 3)) (pd_int)) (pda_nil))))))))
          (pdb_cons (pds_if (pdt_cmp o_eq (pd_var 6) (pd_str) (nomark _)) (pdb_one (pds_brk)) (pdb_nil))
          (pdb_one (pds_set 4 (pd_var 5) nd)))))))))))
    (pdb_one (pds_ret (pd_callT b_tuple rfl m_tuple (by decide +kernel) (pda_cons (pd_var 1) (pda_nil)))))))))
/-! ### _law_next -/
abbrev s__law_next : Stmt := topS 14
def g__law_next : FS :=
    sSeq (sIf (pTest (pOp gGt (pOp gIx (pVar 0) (pC (.int 1))) (pC (.int 0)))) (sSeq (sAsg (pOp gMod (pCB bInt (aCons (pOp gIx (pVar 0) (pC (.int 1))) (aNil))) (pVar 2)) (fName 4))
      (sSeq (sAsg (pOp gFdiv (pCB bInt (aCons (pOp gIx (pVar 0) (pC (.int 1))) (aNil))) (pVar 2)) (fSub (pVar 0) (pC (.int 1))))
      (sRet (pVar 4)))) (sNext))
    (sSeq (sAsg (pC (.int 0)) (fName 3))
    (sSeq (sIf (pTest (pOp gLt (pOp gIx (pVar 0) (pC (.int 0))) (pCB bLen (aCons (pVar 1) (aNil))))) (sAsg (pCB bAbs (aCons (pCB bInt (aCons (pOp gIx (pVar 1) (pOp gIx (pVar 0) (pC (.int 0)))) (aNil))) (aNil))) (fName 3)) (sNext))
    (sSeq (sAsg (pOp gAdd (pOp gIx (pVar 0) (pC (.int 0))) (pC (.int 1))) (fSub (pVar 0) (pC (.int 0))))
    (sSeq (sIf (pTest (pOp gGe (pVar 3) (pOp gPow (pC (.int 10)) (pC (.int 18))))) (sSeq (sAsg (pOp gFdiv (pVar 3) (pVar 2)) (fSub (pVar 0) (pC (.int 1))))
      (sRet (pOp gMod (pCB bInt (aCons (pVar 3) (aNil))) (pVar 2)))) (sNext))
    (sSeq (sAsg (pOp gMod (pCB bInt (aCons (pOp gAdd (pOp gAdd (pOp gMul (pOp gIx (pVar 0) (pC (.int 2))) (pC (.int 48271))) (pOp gMul (pVar 3) (pC (.int 69621)))) (pC (.int 12345))) (aNil))) (pC (.int 2147483647))) (fSub (pVar 0) (pC (.int 2))))
    (sRet (pOp gMod (pCB bInt (aCons (pOp gAdd (pOp gFdiv (pOp gIx (pVar 0) (pC (.int 2))) (pC (.int 7))) (pOp gFdiv (pOp gMul (pOp gIx (pVar 0) (pC (.int 2))) (pOp gIx (pVar 0) (pC (.int 2)))) (pC (.int 65537)))) (aNil))) (pVar 2))))))))
abbrev N__law_next : List Str := [PySem.Str.ofString "state", PySem.Str.ofString "script", PySem.Str.ofString "many", PySem.Str.ofString "cell", PySem.Str.ofString "answer"]
theorem sc__law_next : FnScope N__law_next [PySem.Str.ofString "state", PySem.Str.ofString "script", PySem.Str.ofString "many"] (defScope s__law_next) := ⟨rfl, rfl, rfl, by decide +kernel, rfl, by decide +kernel, by decide +kernel⟩
def Φ__law_next : List D → PM → Out D := run 3 N__law_next (g__law_next)
theorem ok__law_next {P : Program} {w : World} {K : PySem.W.Frag} {mg : Str → Option Value} {base : Heap} (F : FunM K mg "_law_next" s__law_next [PySem.Str.ofString "state", PySem.Str.ofString "script", PySem.Str.ofString "many"]) (m_int : mg "int" = none) (m_len : mg "len" = none) (m_abs : mg "abs" = none) :
    Callee P w K mg base "_law_next" 1 (run 3 N__law_next (g__law_next)) := by
  refine callee_run F sc__law_next rfl fun f cdv A outer s H E hr => ?_
  have nd := sc__law_next.nd
  exact pdb_cons (pds_if (pdt_cmp o_gt (pd_ix (pd_var 0) (pd_int)) (pd_int) (nomark _)) (pdb_cons (pds_set 4 (pd_op o_mod (pd_callT b_int rfl m_int (by decide +kernel) (pda_cons (pd_ix (pd_var 0) (pd_int)) (pda_nil))) (pd_var 2)) nd)
      (pdb_cons (pds_asg (pd_op o_fdiv (pd_callT b_int rfl m_int (by decide +kernel) (pda_cons (pd_ix (pd_var 0) (pd_int)) (pda_nil))) (pd_var 2)) (pdg_sub (pd_var 0) (pd_int)))
      (pdb_one (pds_ret (pd_var 4))))) (pdb_nil))
    (pdb_cons (pds_set 3 (pd_int) nd)
    (pdb_cons (pds_if (pdt_cmp o_lt (pd_ix (pd_var 0) (pd_int)) (pd_callB b_len rfl m_len (by decide +kernel) (pda_cons (pd_var 1) (pda_nil))) (nomark _)) (pdb_one (pds_set 3 (pd_callB b_abs rfl m_abs (by decide +kernel) (pda_cons (pd_callT b_int rfl m_int (by decide +kernel) (pda_cons (pd_ix (pd_var 1) (pd_ix (pd_var 0) (pd_int))) (pda_nil))) (pda_nil))) nd)) (pdb_nil))
    (pdb_cons (pds_asg (pd_op o_add (pd_ix (pd_var 0) (pd_int)) (pd_int)) (pdg_sub (pd_var 0) (pd_int)))
    (pdb_cons (pds_if (pdt_cmp o_ge (pd_var 3) (pd_op o_pow (pd_int) (pd_int)) (nomark _)) (pdb_cons (pds_asg (pd_op o_fdiv (pd_var 3) (pd_var 2)) (pdg_sub (pd_var 0) (pd_int)))
      (pdb_one (pds_ret (pd_op o_mod (pd_callT b_int rfl m_int (by decide +kernel) (pda_cons (pd_var 3) (pda_nil))) (pd_var 2))))) (pdb_nil))
    (pdb_cons (pds_asg (pd_op o_mod (pd_callT b_int rfl m_int (by decide +kernel) (pda_cons (pd_op o_add (pd_op o_add (pd_op o_mul (pd_ix (pd_var 0) (pd_int)) (pd_int)) (pd_op o_mul (pd_var 3) (pd_int))) (pd_int)) (pda_nil))) (pd_int)) (pdg_sub (pd_var 0) (pd_int)))
    (pdb_one (pds_ret (pd_op o_mod (pd_callT b_int rfl m_int (by decide +kernel) (pda_cons (pd_op o_add (pd_op o_fdiv (pd_ix (pd_var 0) (pd_int)) (pd_int)) (pd_op o_fdiv (pd_op o_mul (pd_ix (pd_var 0) (pd_int)) (pd_ix (pd_var 0) (pd_int))) (pd_int))) (pda_nil))) (pd_var 2)))))))))
/-! ### _law_same -/
abbrev s__law_same : Stmt := topS 15
def lb__law_same_1 (Φ__law_same : List D → PM → Out D) : FS :=
    sIf (pNot (pTest (pCall Φ__law_same (aCons (pOp gIx (pVar 0) (pVar 2)) (aCons (pOp gIx (pVar 1) (pVar 2)) (aNil)))))) (sRet (pC (.bl false))) (sNext)
def g__law_same (Φ__law_same : List D → PM → Out D) : FS :=
    sSeq (sIf (pTest (pOp gIs' (pVar 1) (pC .non))) (sRet (pOp gIs' (pVar 0) (pC .non))) (sNext))
    (sSeq (sIf (pTest (pCB bIsi (aCons (pVar 1) (aCons (pC (.raw (.ty "tuple"))) (aNil))))) (sSeq (sIf (pOr (pNot (pTest (pCB bIsi (aCons (pVar 0) (aCons (pC (.raw (.ty "tuple"))) (aNil)))))) (pTest (pOp gNe (pCB bLen (aCons (pVar 0) (aNil))) (pCB bLen (aCons (pVar 1) (aNil)))))) (sRet (pC (.bl false))) (sNext))
      (sSeq (sFor (pRng1 (aCons (pCB bLen (aCons (pVar 1) (aNil))) (aNil))) (fName 2) (lb__law_same_1 Φ__law_same))
      (sRet (pC (.bl true))))) (sNext))
    (sSeq (sIf (pTest (pCB bIsi (aCons (pVar 1) (aCons (pC (.raw (.ty "bool"))) (aNil))))) (sRet (pAndV (pCB bIsi (aCons (pVar 0) (aCons (pC (.raw (.ty "bool"))) (aNil)))) (pOp gEq (pVar 0) (pVar 1)))) (sNext))
    (sSeq (sIf (pTest (pCB bIsi (aCons (pVar 1) (aCons (pC (.raw (.ty "int"))) (aNil))))) (sRet (pAndV (pCB bIsi (aCons (pVar 0) (aCons (pC (.raw (.ty "int"))) (aNil)))) (pAndV (pNotV (pCB bIsi (aCons (pVar 0) (aCons (pC (.raw (.ty "bool"))) (aNil))))) (pOp gEq (pVar 0) (pVar 1))))) (sNext))
    (sRet (pAndV (pCB bIsi (aCons (pVar 0) (aCons (pC (.raw (.ty "str"))) (aNil)))) (pOp gEq (pVar 0) (pVar 1)))))))
abbrev N__law_same : List Str := [PySem.Str.ofString "actual", PySem.Str.ofString "due", PySem.Str.ofString "k"]
theorem sc__law_same : FnScope N__law_same [PySem.Str.ofString "actual", PySem.Str.ofString "due"] (defScope s__law_same) := ⟨rfl, rfl, rfl, by decide +kernel, rfl, by decide +kernel, by decide +kernel⟩
def Ψ__law_same : Nat → List D → PM → Out D
  | 0 => phi0
  | t + 1 => run 2 N__law_same (g__law_same (Ψ__law_same t))
def Φ__law_same : List D → PM → Out D := Ψ__law_same 4
theorem ok__law_same {P : Program} {w : World} {K : PySem.W.Frag} {mg : Str → Option Value} {base : Heap} {k : Nat} (F : FunM K mg "_law_same" s__law_same [PySem.Str.ofString "actual", PySem.Str.ofString "due"]) {Φ__law_same : List D → PM → Out D} (C__law_same : Callee P w K mg base "_law_same" k Φ__law_same) (m_tuple : mg "tuple" = none) (m_isinstance : mg "isinstance" = none) (m_len : mg "len" = none) (m_range : mg "range" = none) (m_bool : mg "bool" = none) (m_int : mg "int" = none) (m_str : mg "str" = none) :
    Callee P w K mg base "_law_same" (k + 1) (run 2 N__law_same (g__law_same Φ__law_same)) := by
  refine callee_run F sc__law_same rfl fun f cdv A outer s H E hr => ?_
  have nd := sc__law_same.nd
  exact pdb_cons (pds_if (pdt_cmp o_is (pd_var 1) (pd_non) (nomark _)) (pdb_one (pds_ret (pd_cmp o_is (pd_var 0) (pd_non) (nomark _)))) (pdb_nil))
    (pdb_cons (pds_if (pdt_val (pd_callB b_isi rfl m_isinstance (by decide +kernel) (pda_cons (pd_var 1) (pda_cons (pd_ty rfl m_tuple (by decide +kernel)) (pda_nil))))) (pdb_cons (pds_if (pdt_w (pdw_or (pdt_not (pdt_val (pd_callB b_isi rfl m_isinstance (by decide +kernel) (pda_cons (pd_var 0) (pda_cons (pd_ty rfl m_tuple (by decide +kernel)) (pda_nil)))))) (pdw_or1 (pdt_cmp o_ne (pd_callB b_len rfl m_len (by decide +kernel) (pda_cons (pd_var 0) (pda_nil))) (pd_callB b_len rfl m_len (by decide +kernel) (pda_cons (pd_var 1) (pda_nil))) (nomark _))))) (pdb_one (pds_ret (pd_bl))) (pdb_nil))
      (pdb_cons (pds_for PassesOwn.never rfl (pdi_rng1 rfl m_range (pda_cons (pd_callB b_len rfl m_len (by decide +kernel) (pda_cons (pd_var 1) (pda_nil))) (pda_nil))) (pdg_name (i := 2) nd) (pdb_one (pds_if (pdt_not (pdt_val (pd_callC C__law_same hr rfl (pda_cons (pd_ix (pd_var 0) (pd_var 2)) (pda_cons (pd_ix (pd_var 1) (pd_var 2)) (pda_nil)))))) (pdb_one (pds_ret (pd_bl))) (pdb_nil))))
      (pdb_one (pds_ret (pd_bl))))) (pdb_nil))
    (pdb_cons (pds_if (pdt_val (pd_callB b_isi rfl m_isinstance (by decide +kernel) (pda_cons (pd_var 1) (pda_cons (pd_ty rfl m_bool (by decide +kernel)) (pda_nil))))) (pdb_one (pds_ret (pd_and (pd_callB b_isi rfl m_isinstance (by decide +kernel) (pda_cons (pd_var 0) (pda_cons (pd_ty rfl m_bool (by decide +kernel)) (pda_nil)))) (pd_one (pd_cmp o_eq (pd_var 0) (pd_var 1) (nomark _)))))) (pdb_nil))
    (pdb_cons (pds_if (pdt_val (pd_callB b_isi rfl m_isinstance (by decide +kernel) (pda_cons (pd_var 1) (pda_cons (pd_ty rfl m_int (by decide +kernel)) (pda_nil))))) (pdb_one (pds_ret (pd_and (pd_callB b_isi rfl m_isinstance (by decide +kernel) (pda_cons (pd_var 0) (pda_cons (pd_ty rfl m_int (by decide +kernel)) (pda_nil)))) (pd_and (pd_not (pd_callB b_isi rfl m_isinstance (by decide +kernel) (pda_cons (pd_var 0) (pda_cons (pd_ty rfl m_bool (by decide +kernel)) (pda_nil))))) (pd_one (pd_cmp o_eq (pd_var 0) (pd_var 1) (nomark _))))))) (pdb_nil))
    (pdb_one (pds_ret (pd_and (pd_callB b_isi rfl m_isinstance (by decide +kernel) (pda_cons (pd_var 0) (pda_cons (pd_ty rfl m_str (by decide +kernel)) (pda_nil)))) (pd_one (pd_cmp o_eq (pd_var 0) (pd_var 1) (nomark _)))))))))
theorem all__law_same {P : Program} {w : World} {K : PySem.W.Frag} {mg : Str → Option Value} {base : Heap} (F__law_same : FunM K mg "_law_same" s__law_same [PySem.Str.ofString "actual", PySem.Str.ofString "due"]) (m_tuple : mg "tuple" = none) (m_isinstance : mg "isinstance" = none) (m_len : mg "len" = none) (m_range : mg "range" = none) (m_bool : mg "bool" = none) (m_int : mg "int" = none) (m_str : mg "str" = none) :
    ∀ t, Callee P w K mg base "_law_same" (0 + t) (Ψ__law_same t) := by
  intro t
  induction t with
  | zero => exact callee0 F__law_same
  | succ t ih =>
    have I__law_same := ih
    exact ok__law_same (k := 0 + t) F__law_same I__law_same m_tuple m_isinstance m_len m_range m_bool m_int m_str
/-! ### _law_word -/
abbrev s__law_word : Stmt := topS 16
def lb__law_word_1 (Φ__law_next : List D → PM → Out D) : FS :=
    sAsg (pOp gAdd (pVar 5) (pOp gIx (pVar 3) (pCall Φ__law_next (aCons (pVar 0) (aCons (pVar 1) (aCons (pC (.int 37)) (aNil))))))) (fName 5)
def g__law_word (Φ__law_next : List D → PM → Out D) : FS :=
    sSeq (sAsg (pC (.str (PySem.Str.ofString "abcdefghijklmnopqrstuvwxyz"))) (fName 2))
    (sSeq (sAsg (pOp gAdd (pVar 2) (pC (.str (PySem.Str.ofString "0123456789_")))) (fName 3))
    (sSeq (sAsg (pOp gAdd (pC (.int 1)) (pCall Φ__law_next (aCons (pVar 0) (aCons (pVar 1) (aCons (pOp gIx (pLst (aCons (pC (.int 3)) (aCons (pC (.int 12)) (aNil)))) (pCall Φ__law_next (aCons (pVar 0) (aCons (pVar 1) (aCons (pC (.int 2)) (aNil)))))) (aNil)))))) (fName 4))
    (sSeq (sAsg (pOp gIx (pVar 2) (pCall Φ__law_next (aCons (pVar 0) (aCons (pVar 1) (aCons (pC (.int 26)) (aNil)))))) (fName 5))
    (sSeq (sFor (pRng1 (aCons (pOp gSub (pVar 4) (pC (.int 1))) (aNil))) (fName 6) (lb__law_word_1 Φ__law_next))
    (sRet (pVar 5))))))
abbrev N__law_word : List Str := [PySem.Str.ofString "state", PySem.Str.ofString "script", PySem.Str.ofString "letters", PySem.Str.ofString "signs", PySem.Str.ofString "many", PySem.Str.ofString "word", PySem.Str.ofString "k"]
theorem sc__law_word : FnScope N__law_word [PySem.Str.ofString "state", PySem.Str.ofString "script"] (defScope s__law_word) := ⟨rfl, rfl, rfl, by decide +kernel, rfl, by decide +kernel, by decide +kernel⟩
def Φ__law_word : List D → PM → Out D := run 2 N__law_word (g__law_word Φ__law_next)
theorem ok__law_word {P : Program} {w : World} {K : PySem.W.Frag} {mg : Str → Option Value} {base : Heap} (F : FunM K mg "_law_word" s__law_word [PySem.Str.ofString "state", PySem.Str.ofString "script"]) {Φ__law_next : List D → PM → Out D} (C__law_next : Callee P w K mg base "_law_next" 1 Φ__law_next) (m_range : mg "range" = none) :
    Callee P w K mg base "_law_word" 2 (run 2 N__law_word (g__law_word Φ__law_next)) := by
  refine callee_run F sc__law_word rfl fun f cdv A outer s H E hr => ?_
  have nd := sc__law_word.nd
  exact pdb_cons (pds_set 2 (pd_str) nd)
    (pdb_cons (pds_set 3 (pd_op o_add (pd_var 2) (pd_str)) nd)
    (pdb_cons (pds_set 4 (pd_op o_add (pd_int) (pd_callC C__law_next (hr.mono (by decide)) rfl (pda_cons (pd_var 0) (pda_cons (pd_var 1) (pda_cons (pd_ix (pd_lst (pda_cons (pd_int) (pda_cons (pd_int) (pda_nil)))) (pd_callC C__law_next (hr.mono (by decide)) rfl (pda_cons (pd_var 0) (pda_cons (pd_var 1) (pda_cons (pd_int) (pda_nil)))))) (pda_nil)))))) nd)
    (pdb_cons (pds_set 5 (pd_ix (pd_var 2) (pd_callC C__law_next (hr.mono (by decide)) rfl (pda_cons (pd_var 0) (pda_cons (pd_var 1) (pda_cons (pd_int) (pda_nil)))))) nd)
    (pdb_cons (pds_for PassesOwn.never rfl (pdi_rng1 rfl m_range (pda_cons (pd_op o_sub (pd_var 4) (pd_int)) (pda_nil))) (pdg_name (i := 6) nd) (pdb_one (pds_set 5 (pd_op o_add (pd_var 5) (pd_ix (pd_var 3) (pd_callC C__law_next (hr.mono (by decide)) rfl (pda_cons (pd_var 0) (pda_cons (pd_var 1) (pda_cons (pd_int) (pda_nil))))))) nd)))
    (pdb_one (pds_ret (pd_var 5)))))))
/-! ### _law_piece -/
abbrev s__law_piece : Stmt := topS 17
def g__law_piece (Φ__law_next : List D → PM → Out D) (Φ__law_word : List D → PM → Out D) : FS :=
    sSeq (sAsg (pCall Φ__law_next (aCons (pVar 0) (aCons (pVar 1) (aCons (pC (.int 8)) (aNil))))) (fName 2))
    (sSeq (sIf (pTest (pOp gLt (pVar 2) (pC (.int 2)))) (sSeq (sAsg (pCall Φ__law_word (aCons (pVar 0) (aCons (pVar 1) (aNil)))) (fName 4))
      (sSeq (sIf (pTest (pOp gEq (pCall Φ__law_next (aCons (pVar 0) (aCons (pVar 1) (aCons (pC (.int 12)) (aNil))))) (pC (.int 0)))) (sAsg (pOp gAdd (pVar 4) (pSl gSl (pC (.str (PySem.Str.ofString "abcdefghijklm"))) (oNone) (oSome (pCall Φ__law_next (aCons (pVar 0) (aCons (pVar 1) (aCons (pC (.int 14)) (aNil)))))))) (fName 4)) (sNext))
      (sRet (pVar 4)))) (sNext))
    (sSeq (sIf (pTest (pOp gEq (pVar 2) (pC (.int 2)))) (sRet (pCB bStr (aCons (pCall Φ__law_next (aCons (pVar 0) (aCons (pVar 1) (aCons (pOp gIx (pLst (aCons (pC (.int 12)) (aCons (pC (.int 10001)) (aNil)))) (pCall Φ__law_next (aCons (pVar 0) (aCons (pVar 1) (aCons (pC (.int 2)) (aNil)))))) (aNil))))) (aNil)))) (sNext))
    (sSeq (sIf (pAnd (pTest (pOp gEq (pVar 2) (pC (.int 3)))) (pTest (pOp gEq (pCall Φ__law_next (aCons (pVar 0) (aCons (pVar 1) (aCons (pC (.int 3)) (aNil))))) (pC (.int 0))))) (sRet (pOp gIx (pLst (aCons (pC (.str (PySem.Str.ofString "00"))) (aCons (pC (.str (PySem.Str.ofString "007"))) (aCons (pC (.str (PySem.Str.ofString "10001"))) (aCons (pC (.str (PySem.Str.ofString "99999"))) (aCons (pC (.str (PySem.Str.ofString "123456"))) (aCons (pC (.str (PySem.Str.ofString "01"))) (aCons (pC (.str (PySem.Str.ofString "10000"))) (aCons (pC (.str (PySem.Str.ofString "0"))) (aNil)))))))))) (pCall Φ__law_next (aCons (pVar 0) (aCons (pVar 1) (aCons (pC (.int 8)) (aNil))))))) (sNext))
    (sSeq (sIf (pAnd (pTest (pOp gEq (pVar 2) (pC (.int 4)))) (pTest (pOp gEq (pCall Φ__law_next (aCons (pVar 0) (aCons (pVar 1) (aCons (pC (.int 6)) (aNil))))) (pC (.int 0))))) (sSeq (sAsg (pLst (aCons (pC (.str (PySem.Str.ofString "Z9"))) (aCons (pC (.str (PySem.Str.ofString "!!"))) (aCons (pC (.str (PySem.Str.ofString "# x"))) (aCons (pC (.str (PySem.Str.ofString "//"))) (aNil)))))) (fName 5))
      (sSeq (sAsg (pC (.str (PySem.Str.ofString "!\"#$&'()*+,-./0123456789:;<=>?@ABCDEFGHIJKLMNOPQRSTUVWXYZ[\\]^_`abcdefghijklmnopqrstuvwxyz{|}~"))) (fName 3))
      (sRet (pOp gIx (pOp gAdd (pVar 5) (pLc (pItems (pVar 3)) (fName 6) pYes (pVar 6) [6])) (pCall Φ__law_next (aCons (pVar 0) (aCons (pVar 1) (aCons (pOp gAdd (pC (.int 4)) (pCB bLen (aCons (pVar 3) (aNil)))) (aNil))))))))) (sNext))
    (sSeq (sAsg (pLst (aCons (pC (.str (PySem.Str.ofString "("))) (aCons (pC (.str (PySem.Str.ofString ")"))) (aCons (pC (.str (PySem.Str.ofString "{"))) (aCons (pC (.str (PySem.Str.ofString "}"))) (aCons (pC (.str (PySem.Str.ofString "["))) (aCons (pC (.str (PySem.Str.ofString "]"))) (aCons (pC (.str (PySem.Str.ofString ","))) (aCons (pC (.str (PySem.Str.ofString ";"))) (aCons (pC (.str (PySem.Str.ofString "="))) (aCons (pC (.str (PySem.Str.ofString "=="))) (aCons (pC (.str (PySem.Str.ofString "!="))) (aCons (pC (.str (PySem.Str.ofString "<"))) (aCons (pC (.str (PySem.Str.ofString "<="))) (aCons (pC (.str (PySem.Str.ofString "+"))) (aCons (pC (.str (PySem.Str.ofString "-"))) (aCons (pC (.str (PySem.Str.ofString "*"))) (aCons (pC (.str (PySem.Str.ofString "/"))) (aNil))))))))))))))))))) (fName 3))
    (sRet (pOp gIx (pVar 3) (pCall Φ__law_next (aCons (pVar 0) (aCons (pVar 1) (aCons (pC (.int 17)) (aNil))))))))))))
abbrev N__law_piece : List Str := [PySem.Str.ofString "state", PySem.Str.ofString "script", PySem.Str.ofString "choice", PySem.Str.ofString "signs", PySem.Str.ofString "word", PySem.Str.ofString "odd", PySem.Str.ofString "sign"]
theorem sc__law_piece : FnScope N__law_piece [PySem.Str.ofString "state", PySem.Str.ofString "script"] (defScope s__law_piece) := ⟨rfl, rfl, rfl, by decide +kernel, rfl, by decide +kernel, by decide +kernel⟩
def Φ__law_piece : List D → PM → Out D := run 2 N__law_piece (g__law_piece Φ__law_next Φ__law_word)
theorem ok__law_piece {P : Program} {w : World} {K : PySem.W.Frag} {mg : Str → Option Value} {base : Heap} (F : FunM K mg "_law_piece" s__law_piece [PySem.Str.ofString "state", PySem.Str.ofString "script"]) {Φ__law_next : List D → PM → Out D} (C__law_next : Callee P w K mg base "_law_next" 1 Φ__law_next) {Φ__law_word : List D → PM → Out D} (C__law_word : Callee P w K mg base "_law_word" 2 Φ__law_word) (m_str : mg "str" = none) (m_len : mg "len" = none) :
    Callee P w K mg base "_law_piece" 3 (run 2 N__law_piece (g__law_piece Φ__law_next Φ__law_word)) := by
  refine callee_run F sc__law_piece rfl fun f cdv A outer s H E hr => ?_
  have nd := sc__law_piece.nd
  exact pdb_cons (pds_set 2 (pd_callC C__law_next (hr.mono (by decide)) rfl (pda_cons (pd_var 0) (pda_cons (pd_var 1) (pda_cons (pd_int) (pda_nil))))) nd)
    (pdb_cons (pds_if (pdt_cmp o_lt (pd_var 2) (pd_int) (nomark _)) (pdb_cons (pds_set 4 (pd_callC C__law_word (hr.mono (by decide)) rfl (pda_cons (pd_var 0) (pda_cons (pd_var 1) (pda_nil)))) nd)
      (pdb_cons (pds_if (pdt_cmp o_eq (pd_callC C__law_next (hr.mono (by decide)) rfl (pda_cons (pd_var 0) (pda_cons (pd_var 1) (pda_cons (pd_int) (pda_nil))))) (pd_int) (nomark _)) (pdb_one (pds_set 4 (pd_op o_add (pd_var 4) (pd_sl (pd_str) (pdo_none) (pdo_some (pd_callC C__law_next (hr.mono (by decide)) rfl (pda_cons (pd_var 0) (pda_cons (pd_var 1) (pda_cons (pd_int) (pda_nil)))))))) nd)) (pdb_nil))
      (pdb_one (pds_ret (pd_var 4))))) (pdb_nil))
    (pdb_cons (pds_if (pdt_cmp o_eq (pd_var 2) (pd_int) (nomark _)) (pdb_one (pds_ret (pd_callT b_str rfl m_str (by decide +kernel) (pda_cons (pd_callC C__law_next (hr.mono (by decide)) rfl (pda_cons (pd_var 0) (pda_cons (pd_var 1) (pda_cons (pd_ix (pd_lst (pda_cons (pd_int) (pda_cons (pd_int) (pda_nil)))) (pd_callC C__law_next (hr.mono (by decide)) rfl (pda_cons (pd_var 0) (pda_cons (pd_var 1) (pda_cons (pd_int) (pda_nil)))))) (pda_nil))))) (pda_nil))))) (pdb_nil))
    (pdb_cons (pds_if (pdt_w (pdw_and (pdt_cmp o_eq (pd_var 2) (pd_int) (nomark _)) (pdw_and1 (pdt_cmp o_eq (pd_callC C__law_next (hr.mono (by decide)) rfl (pda_cons (pd_var 0) (pda_cons (pd_var 1) (pda_cons (pd_int) (pda_nil))))) (pd_int) (nomark _))))) (pdb_one (pds_ret (pd_ix (pd_lst (pda_cons (pd_str) (pda_cons (pd_str) (pda_cons (pd_str) (pda_cons (pd_str) (pda_cons (pd_str) (pda_cons (pd_str) (pda_cons (pd_str) (pda_cons (pd_str) (pda_nil)))))))))) (pd_callC C__law_next (hr.mono (by decide)) rfl (pda_cons (pd_var 0) (pda_cons (pd_var 1) (pda_cons (pd_int) (pda_nil)))))))) (pdb_nil))
    (pdb_cons (pds_if (pdt_w (pdw_and (pdt_cmp o_eq (pd_var 2) (pd_int) (nomark _)) (pdw_and1 (pdt_cmp o_eq (pd_callC C__law_next (hr.mono (by decide)) rfl (pda_cons (pd_var 0) (pda_cons (pd_var 1) (pda_cons (pd_int) (pda_nil))))) (pd_int) (nomark _))))) (pdb_cons (pds_set 5 (pd_lst (pda_cons (pd_str) (pda_cons (pd_str) (pda_cons (pd_str) (pda_cons (pd_str) (pda_nil)))))) nd)
      (pdb_cons (pds_set 3 (pd_str) nd)
      (pdb_one (pds_ret (pd_ix (pd_op o_add (pd_var 5) (pd_lc (own := [((PySem.Str.ofString "sign"), 6)]) rfl nd (pdi_any (pd_var 3)) (blkOk_by (N := N__law_piece) (sc := defScope s__law_piece) (by decide +kernel)) (by decide) (fun _ _ _ _ _ => pg_name (i := 6) nd rfl (Or.inl rfl)) (fun _ _ _ _ _ => pd_var 6))) (pd_callC C__law_next (hr.mono (by decide)) rfl (pda_cons (pd_var 0) (pda_cons (pd_var 1) (pda_cons (pd_op o_add (pd_int) (pd_callB b_len rfl m_len (by decide +kernel) (pda_cons (pd_var 3) (pda_nil)))) (pda_nil)))))))))) (pdb_nil))
    (pdb_cons (pds_set 3 (pd_lst (pda_cons (pd_str) (pda_cons (pd_str) (pda_cons (pd_str) (pda_cons (pd_str) (pda_cons (pd_str) (pda_cons (pd_str) (pda_cons (pd_str) (pda_cons (pd_str) (pda_cons (pd_str) (pda_cons (pd_str) (pda_cons (pd_str) (pda_cons (pd_str) (pda_cons (pd_str) (pda_cons (pd_str) (pda_cons (pd_str) (pda_cons (pd_str) (pda_cons (pd_str) (pda_nil))))))))))))))))))) nd)
    (pdb_one (pds_ret (pd_ix (pd_var 3) (pd_callC C__law_next (hr.mono (by decide)) rfl (pda_cons (pd_var 0) (pda_cons (pd_var 1) (pda_cons (pd_int) (pda_nil)))))))))))))
/-! ### _law_text -/
abbrev s__law_text : Stmt := topS 18
def lb__law_text_1 (Φ__law_next : List D → PM → Out D) (Φ__law_piece : List D → PM → Out D) : FS :=
    sAsg (pOp gAdd (pOp gAdd (pVar 2) (pCall Φ__law_piece (aCons (pVar 0) (aCons (pVar 1) (aNil))))) (pOp gIx (pLst (aCons (pC (.str (PySem.Str.ofString ""))) (aCons (pC (.str (PySem.Str.ofString " "))) (aCons (pC (.str (PySem.Str.ofString "  "))) (aCons (pC (.str (PySem.Str.ofString "\n"))) (aCons (pC (.str (PySem.Str.ofString " "))) (aCons (pC (.str (PySem.Str.ofString "\n \n"))) (aNil)))))))) (pCall Φ__law_next (aCons (pVar 0) (aCons (pVar 1) (aCons (pC (.int 6)) (aNil))))))) (fName 2)
def g__law_text (Φ__law_next : List D → PM → Out D) (Φ__law_piece : List D → PM → Out D) : FS :=
    sSeq (sAsg (pC (.str (PySem.Str.ofString ""))) (fName 2))
    (sSeq (sFor (pRng1 (aCons (pCall Φ__law_next (aCons (pVar 0) (aCons (pVar 1) (aCons (pC (.int 31)) (aNil))))) (aNil))) (fName 3) (lb__law_text_1 Φ__law_next Φ__law_piece))
    (sRet (pVar 2)))
abbrev N__law_text : List Str := [PySem.Str.ofString "state", PySem.Str.ofString "script", PySem.Str.ofString "text", PySem.Str.ofString "k"]
theorem sc__law_text : FnScope N__law_text [PySem.Str.ofString "state", PySem.Str.ofString "script"] (defScope s__law_text) := ⟨rfl, rfl, rfl, by decide +kernel, rfl, by decide +kernel, by decide +kernel⟩
def Φ__law_text : List D → PM → Out D := run 2 N__law_text (g__law_text Φ__law_next Φ__law_piece)
theorem ok__law_text {P : Program} {w : World} {K : PySem.W.Frag} {mg : Str → Option Value} {base : Heap} (F : FunM K mg "_law_text" s__law_text [PySem.Str.ofString "state", PySem.Str.ofString "script"]) {Φ__law_next : List D → PM → Out D} (C__law_next : Callee P w K mg base "_law_next" 1 Φ__law_next) {Φ__law_piece : List D → PM → Out D} (C__law_piece : Callee P w K mg base "_law_piece" 3 Φ__law_piece) (m_range : mg "range" = none) :
    Callee P w K mg base "_law_text" 4 (run 2 N__law_text (g__law_text Φ__law_next Φ__law_piece)) := by
  refine callee_run F sc__law_text rfl fun f cdv A outer s H E hr => ?_
  have nd := sc__law_text.nd
  exact pdb_cons (pds_set 2 (pd_str) nd)
    (pdb_cons (pds_for PassesOwn.never rfl (pdi_rng1 rfl m_range (pda_cons (pd_callC C__law_next (hr.mono (by decide)) rfl (pda_cons (pd_var 0) (pda_cons (pd_var 1) (pda_cons (pd_int) (pda_nil))))) (pda_nil))) (pdg_name (i := 3) nd) (pdb_one (pds_set 2 (pd_op o_add (pd_op o_add (pd_var 2) (pd_callC C__law_piece (hr.mono (by decide)) rfl (pda_cons (pd_var 0) (pda_cons (pd_var 1) (pda_nil))))) (pd_ix (pd_lst (pda_cons (pd_str) (pda_cons (pd_str) (pda_cons (pd_str) (pda_cons (pd_str) (pda_cons (pd_str) (pda_cons (pd_str) (pda_nil)))))))) (pd_callC C__law_next (hr.mono (by decide)) rfl (pda_cons (pd_var 0) (pda_cons (pd_var 1) (pda_cons (pd_int) (pda_nil))))))) nd)))
    (pdb_one (pds_ret (pd_var 2))))
/-! ### _law_run_of -/
abbrev s__law_run_of : Stmt := topS 19
def lb__law_run_of_1 : FS :=
    sSeq (sIf (pTest (pOp gNotIn (pVar 4) (pVar 2))) (sRet (pVar 3)) (sNext))
      (sAsg (pOp gAdd (pVar 3) (pVar 4)) (fName 3))
def g__law_run_of : FS :=
    sSeq (sAsg (pC (.str (PySem.Str.ofString ""))) (fName 3))
    (sSeq (sFor (pItems (pSl gSl (pVar 0) (oSome (pVar 1)) (oNone))) (fName 4) (lb__law_run_of_1))
    (sRet (pVar 3)))
abbrev N__law_run_of : List Str := [PySem.Str.ofString "text", PySem.Str.ofString "at", PySem.Str.ofString "signs", PySem.Str.ofString "found", PySem.Str.ofString "sign"]
theorem sc__law_run_of : FnScope N__law_run_of [PySem.Str.ofString "text", PySem.Str.ofString "at", PySem.Str.ofString "signs"] (defScope s__law_run_of) := ⟨rfl, rfl, rfl, by decide +kernel, rfl, by decide +kernel, by decide +kernel⟩
def Φ__law_run_of : List D → PM → Out D := run 3 N__law_run_of (g__law_run_of)
theorem ok__law_run_of {P : Program} {w : World} {K : PySem.W.Frag} {mg : Str → Option Value} {base : Heap} (F : FunM K mg "_law_run_of" s__law_run_of [PySem.Str.ofString "text", PySem.Str.ofString "at", PySem.Str.ofString "signs"]) :
    Callee P w K mg base "_law_run_of" 1 (run 3 N__law_run_of (g__law_run_of)) := by
  refine callee_run F sc__law_run_of rfl fun f cdv A outer s H E hr => ?_
  have nd := sc__law_run_of.nd
  exact pdb_cons (pds_set 3 (pd_str) nd)
    (pdb_cons (pds_for PassesOwn.never rfl (pdi_any (pd_sl (pd_var 0) (pdo_some (pd_var 1)) (pdo_none))) (pdg_name (i := 4) nd) (pdb_cons (pds_if (pdt_cmp o_notIn (pd_var 4) (pd_var 2) (by rfl)) (pdb_one (pds_ret (pd_var 3))) (pdb_nil))
      (pdb_one (pds_set 3 (pd_op o_add (pd_var 3) (pd_var 4)) nd))))
    (pdb_one (pds_ret (pd_var 3))))
/-! ### _law_token -/
abbrev s__law_token : Stmt := topS 20
def g__law_token (Φ__law_run_of : List D → PM → Out D) : FS :=
    sSeq (sAsg (pC (.str (PySem.Str.ofString "abcdefghijklmnopqrstuvwxyz"))) (fName 2))
    (sSeq (sAsg (pC (.str (PySem.Str.ofString "0123456789"))) (fName 3))
    (sSeq (sIf (pTest (pOp gIn (pOp gIx (pVar 0) (pVar 1)) (pVar 2))) (sSeq (sAsg (pCall Φ__law_run_of (aCons (pVar 0) (aCons (pVar 1) (aCons (pOp gAdd (pOp gAdd (pVar 2) (pVar 3)) (pC (.str (PySem.Str.ofString "_")))) (aNil))))) (fName 4))
      (sSeq (sIf (pTest (pOp gLt (pCB bLen (aCons (pVar 4) (aNil))) (pC (.int 13)))) (sRet (pTup (aCons (pC (.str (PySem.Str.ofString "word"))) (aCons (pVar 4) (aCons (pCB bLen (aCons (pVar 4) (aNil))) (aNil)))))) (sNext))
      (sRet (pTup (aCons (pC (.str (PySem.Str.ofString "error"))) (aCons (pC (.str (PySem.Str.ofString ""))) (aCons (pC (.int 1)) (aNil)))))))) (sNext))
    (sSeq (sIf (pTest (pOp gIn (pOp gIx (pVar 0) (pVar 1)) (pVar 3))) (sSeq (sAsg (pCall Φ__law_run_of (aCons (pVar 0) (aCons (pVar 1) (aCons (pVar 3) (aNil))))) (fName 4))
      (sSeq (sIf (pOr (pTest (pOp gGt (pCB bLen (aCons (pVar 4) (aNil))) (pC (.int 5)))) (pOr (pTest (pOp gGt (pCB bInt (aCons (pVar 4) (aNil))) (pC (.int 10000)))) (pTest (pOp gNe (pCB bStr (aCons (pCB bInt (aCons (pVar 4) (aNil))) (aNil))) (pVar 4))))) (sRet (pTup (aCons (pC (.str (PySem.Str.ofString "error"))) (aCons (pC (.str (PySem.Str.ofString ""))) (aCons (pC (.int 1)) (aNil)))))) (sNext))
      (sRet (pTup (aCons (pC (.str (PySem.Str.ofString "number"))) (aCons (pCB bInt (aCons (pVar 4) (aNil))) (aCons (pCB bLen (aCons (pVar 4) (aNil))) (aNil)))))))) (sNext))
    (sSeq (sIf (pTest (pOp gIn (pSl gSl (pVar 0) (oSome (pVar 1)) (oSome (pOp gAdd (pVar 1) (pC (.int 2))))) (pTup (aCons (pC (.str (PySem.Str.ofString "=="))) (aCons (pC (.str (PySem.Str.ofString "!="))) (aCons (pC (.str (PySem.Str.ofString "<="))) (aNil))))))) (sRet (pTup (aCons (pC (.str (PySem.Str.ofString "sign"))) (aCons (pSl gSl (pVar 0) (oSome (pVar 1)) (oSome (pOp gAdd (pVar 1) (pC (.int 2))))) (aCons (pC (.int 2)) (aNil)))))) (sNext))
    (sSeq (sIf (pTest (pOp gIn (pOp gIx (pVar 0) (pVar 1)) (pC (.str (PySem.Str.ofString "(){}[],;=<+-*/"))))) (sRet (pTup (aCons (pC (.str (PySem.Str.ofString "sign"))) (aCons (pOp gIx (pVar 0) (pVar 1)) (aCons (pC (.int 1)) (aNil)))))) (sNext))
    (sRet (pTup (aCons (pC (.str (PySem.Str.ofString "error"))) (aCons (pC (.str (PySem.Str.ofString ""))) (aCons (pC (.int 1)) (aNil)))))))))))
abbrev N__law_token : List Str := [PySem.Str.ofString "text", PySem.Str.ofString "at", PySem.Str.ofString "letters", PySem.Str.ofString "digits", PySem.Str.ofString "word"]
theorem sc__law_token : FnScope N__law_token [PySem.Str.ofString "text", PySem.Str.ofString "at"] (defScope s__law_token) := ⟨rfl, rfl, rfl, by decide +kernel, rfl, by decide +kernel, by decide +kernel⟩
def Φ__law_token : List D → PM → Out D := run 2 N__law_token (g__law_token Φ__law_run_of)
theorem ok__law_token {P : Program} {w : World} {K : PySem.W.Frag} {mg : Str → Option Value} {base : Heap} (F : FunM K mg "_law_token" s__law_token [PySem.Str.ofString "text", PySem.Str.ofString "at"]) {Φ__law_run_of : List D → PM → Out D} (C__law_run_of : Callee P w K mg base "_law_run_of" 1 Φ__law_run_of) (m_len : mg "len" = none) (m_int : mg "int" = none) (m_str : mg "str" = none) :
    Callee P w K mg base "_law_token" 2 (run 2 N__law_token (g__law_token Φ__law_run_of)) := by
  refine callee_run F sc__law_token rfl fun f cdv A outer s H E hr => ?_
  have nd := sc__law_token.nd
  exact pdb_cons (pds_set 2 (pd_str) nd)
    (pdb_cons (pds_set 3 (pd_str) nd)
    (pdb_cons (pds_if (pdt_cmp o_in (pd_ix (pd_var 0) (pd_var 1)) (pd_var 2) (by rfl)) (pdb_cons (pds_set 4 (pd_callC C__law_run_of (hr.mono (by decide)) rfl (pda_cons (pd_var 0) (pda_cons (pd_var 1) (pda_cons (pd_op o_add (pd_op o_add (pd_var 2) (pd_var 3)) (pd_str)) (pda_nil))))) nd)
      (pdb_cons (pds_if (pdt_cmp o_lt (pd_callB b_len rfl m_len (by decide +kernel) (pda_cons (pd_var 4) (pda_nil))) (pd_int) (nomark _)) (pdb_one (pds_ret (pd_tup (pda_cons (pd_str) (pda_cons (pd_var 4) (pda_cons (pd_callB b_len rfl m_len (by decide +kernel) (pda_cons (pd_var 4) (pda_nil))) (pda_nil))))))) (pdb_nil))
      (pdb_one (pds_ret (pd_tup (pda_cons (pd_str) (pda_cons (pd_str) (pda_cons (pd_int) (pda_nil))))))))) (pdb_nil))
    (pdb_cons (pds_if (pdt_cmp o_in (pd_ix (pd_var 0) (pd_var 1)) (pd_var 3) (by rfl)) (pdb_cons (pds_set 4 (pd_callC C__law_run_of (hr.mono (by decide)) rfl (pda_cons (pd_var 0) (pda_cons (pd_var 1) (pda_cons (pd_var 3) (pda_nil))))) nd)
      (pdb_cons (pds_if (pdt_w (pdw_or (pdt_cmp o_gt (pd_callB b_len rfl m_len (by decide +kernel) (pda_cons (pd_var 4) (pda_nil))) (pd_int) (nomark _)) (pdw_or (pdt_cmp o_gt (pd_callT b_int rfl m_int (by decide +kernel) (pda_cons (pd_var 4) (pda_nil))) (pd_int) (nomark _)) (pdw_or1 (pdt_cmp o_ne (pd_callT b_str rfl m_str (by decide +kernel) (pda_cons (pd_callT b_int rfl m_int (by decide +kernel) (pda_cons (pd_var 4) (pda_nil))) (pda_nil))) (pd_var 4) (nomark _)))))) (pdb_one (pds_ret (pd_tup (pda_cons (pd_str) (pda_cons (pd_str) (pda_cons (pd_int) (pda_nil))))))) (pdb_nil))
      (pdb_one (pds_ret (pd_tup (pda_cons (pd_str) (pda_cons (pd_callT b_int rfl m_int (by decide +kernel) (pda_cons (pd_var 4) (pda_nil))) (pda_cons (pd_callB b_len rfl m_len (by decide +kernel) (pda_cons (pd_var 4) (pda_nil))) (pda_nil))))))))) (pdb_nil))
    (pdb_cons (pds_if (pdt_cmp o_in (pd_sl (pd_var 0) (pdo_some (pd_var 1)) (pdo_some (pd_op o_add (pd_var 1) (pd_int)))) (pd_tup (pda_cons (pd_str) (pda_cons (pd_str) (pda_cons (pd_str) (pda_nil))))) (by rfl)) (pdb_one (pds_ret (pd_tup (pda_cons (pd_str) (pda_cons (pd_sl (pd_var 0) (pdo_some (pd_var 1)) (pdo_some (pd_op o_add (pd_var 1) (pd_int)))) (pda_cons (pd_int) (pda_nil))))))) (pdb_nil))
    (pdb_cons (pds_if (pdt_cmp o_in (pd_ix (pd_var 0) (pd_var 1)) (pd_str) (by rfl)) (pdb_one (pds_ret (pd_tup (pda_cons (pd_str) (pda_cons (pd_ix (pd_var 0) (pd_var 1)) (pda_cons (pd_int) (pda_nil))))))) (pdb_nil))
    (pdb_one (pds_ret (pd_tup (pda_cons (pd_str) (pda_cons (pd_str) (pda_cons (pd_int) (pda_nil))))))))))))
/-! ### _law_tokens -/
abbrev s__law_tokens : Stmt := topS 21
def lb__law_tokens_1 (Φ__law_token : List D → PM → Out D) : FS :=
    sIf (pAnd (pTest (pOp gLt (pVar 2) (pCB bLen (aCons (pVar 0) (aNil))))) (pTest (pOp gIn (pOp gIx (pVar 0) (pVar 2)) (pC (.str (PySem.Str.ofString " \n")))))) (sAsg (pOp gAdd (pVar 2) (pC (.int 1))) (fName 2)) (sIf (pAnd (pTest (pOp gLt (pVar 2) (pCB bLen (aCons (pVar 0) (aNil))))) (pOr (pTest (pOp gEq (pCB bLen (aCons (pVar 1) (aNil))) (pC (.int 0)))) (pTest (pOp gNe (pOp gIx (pOp gIx (pVar 1) (pUn gNeg (pC (.int 1)))) (pC (.int 0))) (pC (.str (PySem.Str.ofString "error"))))))) (sSeq (sAsg (pCall Φ__law_token (aCons (pVar 0) (aCons (pVar 2) (aNil)))) (fTup 3 (fCons (fName 5) (fCons (fName 6) (fCons (fName 7) (fNil))))))
          (sSeq (sAsg (pSl gSl (pVar 0) (oNone) (oSome (pVar 2))) (fName 4))
          (sSeq (sDrop (pApp (pVar 1) (pTup (aCons (pVar 5) (aCons (pVar 6) (aCons (pOp gSub (pOp gAdd (pC (.int 1)) (pCB bLen (aCons (pMS mSplit (pVar 4) (pC (.str (PySem.Str.ofString "\n")))) (aNil)))) (pC (.int 1))) (aCons (pOp gAdd (pCB bLen (aCons (pOp gIx (pMS mSplit (pVar 4) (pC (.str (PySem.Str.ofString "\n")))) (pUn gNeg (pC (.int 1)))) (aNil))) (pC (.int 1))) (aNil))))))))
          (sAsg (pOp gAdd (pVar 2) (pVar 7)) (fName 2))))) (sNext))
def g__law_tokens (Φ__law_token : List D → PM → Out D) : FS :=
    sSeq (sAsg (pNew (aNil)) (fName 1))
    (sSeq (sAsg (pC (.int 0)) (fName 2))
    (sSeq (sFor (pRng1 (aCons (pCB bLen (aCons (pVar 0) (aNil))) (aNil))) (fName 3) (lb__law_tokens_1 Φ__law_token))
    (sRet (pCB bTuple (aCons (pVar 1) (aNil))))))
abbrev N__law_tokens : List Str := [PySem.Str.ofString "text", PySem.Str.ofString "found", PySem.Str.ofString "at", PySem.Str.ofString "k", PySem.Str.ofString "before", PySem.Str.ofString "kind", PySem.Str.ofString "value", PySem.Str.ofString "size"]
theorem sc__law_tokens : FnScope N__law_tokens [PySem.Str.ofString "text"] (defScope s__law_tokens) := ⟨rfl, rfl, rfl, by decide +kernel, rfl, by decide +kernel, by decide +kernel⟩
def Φ__law_tokens : List D → PM → Out D := run 1 N__law_tokens (g__law_tokens Φ__law_token)
theorem ok__law_tokens {P : Program} {w : World} {K : PySem.W.Frag} {mg : Str → Option Value} {base : Heap} (F : FunM K mg "_law_tokens" s__law_tokens [PySem.Str.ofString "text"]) {Φ__law_token : List D → PM → Out D} (C__law_token : Callee P w K mg base "_law_token" 2 Φ__law_token) (m_range : mg "range" = none) (m_len : mg "len" = none) (m_tuple : mg "tuple" = none) :
    Callee P w K mg base "_law_tokens" 3 (run 1 N__law_tokens (g__law_tokens Φ__law_token)) := by
  refine callee_run F sc__law_tokens rfl fun f cdv A outer s H E hr => ?_
  have nd := sc__law_tokens.nd
  exact pdb_cons (pds_set 1 (pd_new (pda_nil)) nd)
    (pdb_cons (pds_set 2 (pd_int) nd)
    (pdb_cons (pds_for PassesOwn.never rfl (pdi_rng1 rfl m_range (pda_cons (pd_callB b_len rfl m_len (by decide +kernel) (pda_cons (pd_var 0) (pda_nil))) (pda_nil))) (pdg_name (i := 3) nd) (pdb_one (pds_if (pdt_w (pdw_and (pdt_cmp o_lt (pd_var 2) (pd_callB b_len rfl m_len (by decide +kernel) (pda_cons (pd_var 0) (pda_nil))) (nomark _)) (pdw_and1 (pdt_cmp o_in (pd_ix (pd_var 0) (pd_var 2)) (pd_str) (by rfl))))) (pdb_one (pds_set 2 (pd_op o_add (pd_var 2) (pd_int)) nd)) (pdb_one (pds_if (pdt_w (pdw_and (pdt_cmp o_lt (pd_var 2) (pd_callB b_len rfl m_len (by decide +kernel) (pda_cons (pd_var 0) (pda_nil))) (nomark _)) (pdw_and1 (pdt_w (pdw_or (pdt_cmp o_eq (pd_callB b_len rfl m_len (by decide +kernel) (pda_cons (pd_var 1) (pda_nil))) (pd_int) (nomark _)) (pdw_or1 (pdt_cmp o_ne (pd_ix (pd_ix (pd_var 1) (pd_neg (pd_int))) (pd_int)) (pd_str) (nomark _)))))))) (pdb_cons (pds_asg (pd_callC C__law_token (hr.mono (by decide)) rfl (pda_cons (pd_var 0) (pda_cons (pd_var 2) (pda_nil)))) (pdg_tup rfl (pdgs_cons (pdg_name (i := 5) nd) (pdgs_cons (pdg_name (i := 6) nd) (pdgs_cons (pdg_name (i := 7) nd) (pdgs_nil))))))
          (pdb_cons (pds_set 4 (pd_sl (pd_var 0) (pdo_none) (pdo_some (pd_var 2))) nd)
          (pdb_cons (pds_expr (pd_append (pd_var 1) (pd_tup (pda_cons (pd_var 5) (pda_cons (pd_var 6) (pda_cons (pd_op o_sub (pd_op o_add (pd_int) (pd_callB b_len rfl m_len (by decide +kernel) (pda_cons (pd_split (pd_var 4) (pd_str)) (pda_nil)))) (pd_int)) (pda_cons (pd_op o_add (pd_callB b_len rfl m_len (by decide +kernel) (pda_cons (pd_ix (pd_split (pd_var 4) (pd_str)) (pd_neg (pd_int))) (pda_nil))) (pd_int)) (pda_nil))))))))
          (pdb_one (pds_set 2 (pd_op o_add (pd_var 2) (pd_var 7)) nd))))) (pdb_nil))))))
    (pdb_one (pds_ret (pd_callT b_tuple rfl m_tuple (by decide +kernel) (pda_cons (pd_var 1) (pda_nil)))))))
/-! ### law -/
abbrev s_law : Stmt := topS 22
def lb_law_1 (Φ__law_text : List D → PM → Out D) (Φ__law_same : List D → PM → Out D) (Φ__law_tokens : List D → PM → Out D) (Φ_tokens : List D → PM → Out D) : FS :=
    sSeq (sAsg (pCall Φ__law_text (aCons (pVar 1) (aCons (pVar 0) (aNil)))) (fName 3))
      (sIf (pNot (pTest (pCall Φ__law_same (aCons (pCall Φ_tokens (aCons (pVar 3) (aNil))) (aCons (pCall Φ__law_tokens (aCons (pVar 3) (aNil))) (aNil)))))) (sRet (pC (.bl false))) (sNext))
def g_law (Φ__law_text : List D → PM → Out D) (Φ__law_same : List D → PM → Out D) (Φ__law_tokens : List D → PM → Out D) (Φ_tokens : List D → PM → Out D) : FS :=
    sSeq (sAsg (pNew (aCons (pC (.int 0)) (aCons (pC (.int 0)) (aCons (pC (.int 1)) (aCons (pC (.int 0)) (aNil)))))) (fName 1))
    (sSeq (sFor (pRng1 (aCons (pC (.int 3)) (aNil))) (fName 2) (lb_law_1 Φ__law_text Φ__law_same Φ__law_tokens Φ_tokens))
    (sRet (pCall Φ__law_same (aCons (pCall Φ_tokens (aCons (pC (.str (PySem.Str.ofString ""))) (aNil))) (aCons (pTup (aNil)) (aNil))))))
abbrev N_law : List Str := [PySem.Str.ofString "script", PySem.Str.ofString "state", PySem.Str.ofString "k", PySem.Str.ofString "text"]
theorem sc_law : FnScope N_law [PySem.Str.ofString "script"] (defScope s_law) := ⟨rfl, rfl, rfl, by decide +kernel, rfl, by decide +kernel, by decide +kernel⟩
def Φ_law : List D → PM → Out D := run 1 N_law (g_law Φ__law_text Φ__law_same Φ__law_tokens Φ_tokens)
theorem ok_law {P : Program} {w : World} {K : PySem.W.Frag} {mg : Str → Option Value} {base : Heap} {f : Addr} {fd : FuncData} (F : Fun K "law" "law" s_law f fd) {Φ__law_text : List D → PM → Out D} (C__law_text : Callee P w K mg base "_law_text" 4 Φ__law_text) {Φ__law_same : List D → PM → Out D} (C__law_same : Callee P w K mg base "_law_same" 4 Φ__law_same) {Φ__law_tokens : List D → PM → Out D} (C__law_tokens : Callee P w K mg base "_law_tokens" 3 Φ__law_tokens) {Φ_tokens : List D → PM → Out D} (C_tokens : Callee P w K mg base "tokens" 3 Φ_tokens) (m_range : mg "range" = none) :
    FnOk P w K mg base CX0 5 f fd ["script"] (spP K (run 1 N_law (g_law Φ__law_text Φ__law_same Φ__law_tokens Φ_tokens))) := by
  refine law_run F sc_law rfl fun f cdv A outer s H E hr => ?_
  have nd := sc_law.nd
  exact pdb_cons (pds_set 1 (pd_new (pda_cons (pd_int) (pda_cons (pd_int) (pda_cons (pd_int) (pda_cons (pd_int) (pda_nil)))))) nd)
    (pdb_cons (pds_for PassesOwn.never rfl (pdi_rng1 rfl m_range (pda_cons (pd_int) (pda_nil))) (pdg_name (i := 2) nd) (pdb_cons (pds_set 3 (pd_callC C__law_text (hr.mono (by decide)) rfl (pda_cons (pd_var 1) (pda_cons (pd_var 0) (pda_nil)))) nd)
      (pdb_one (pds_if (pdt_not (pdt_val (pd_callC C__law_same (hr.mono (by decide)) rfl (pda_cons (pd_callC C_tokens (hr.mono (by decide)) rfl (pda_cons (pd_var 3) (pda_nil))) (pda_cons (pd_callC C__law_tokens (hr.mono (by decide)) rfl (pda_cons (pd_var 3) (pda_nil))) (pda_nil)))))) (pdb_one (pds_ret (pd_bl))) (pdb_nil)))))
    (pdb_one (pds_ret (pd_callC C__law_same (hr.mono (by decide)) rfl (pda_cons (pd_callC C_tokens (hr.mono (by decide)) rfl (pda_cons (pd_str) (pda_nil))) (pda_cons (pd_tup (pda_nil)) (pda_nil)))))))
/-! ### what the top has left -/
theorem all_mk {l : PySem.W.OpenLaw} {w : World} {K : PySem.W.Frag} {h : Heap} {mg : Str → Option Value} {fa : Addr} (X : K.In h) (G : h.Ns mainGlobals mg) (hfa : mg "law" = some (.ref fa))
    {f_run_end : Addr} {oc_run_end kV_run_end dc_run_end pm_run_end cd_run_end ct_run_end : Value} {od_run_end an_run_end : Option Addr} {sl_run_end : Array (Option Value)}
    {f_token_end : Addr} {oc_token_end kV_token_end dc_token_end pm_token_end cd_token_end ct_token_end : Value} {od_token_end an_token_end : Option Addr} {sl_token_end : Array (Option Value)}
    {f_is_number : Addr} {oc_is_number kV_is_number dc_is_number pm_is_number cd_is_number ct_is_number : Value} {od_is_number an_is_number : Option Addr} {sl_is_number : Array (Option Value)}
    {f_read_token : Addr} {oc_read_token kV_read_token dc_read_token pm_read_token cd_read_token ct_read_token : Value} {od_read_token an_read_token : Option Addr} {sl_read_token : Array (Option Value)}
    {f_tokens : Addr} {oc_tokens kV_tokens dc_tokens pm_tokens cd_tokens ct_tokens : Value} {od_tokens an_tokens : Option Addr} {sl_tokens : Array (Option Value)}
    {f__law_next : Addr} {oc__law_next kV__law_next dc__law_next pm__law_next cd__law_next ct__law_next : Value} {od__law_next an__law_next : Option Addr} {sl__law_next : Array (Option Value)}
    {f__law_same : Addr} {oc__law_same kV__law_same dc__law_same pm__law_same cd__law_same ct__law_same : Value} {od__law_same an__law_same : Option Addr} {sl__law_same : Array (Option Value)}
    {f__law_word : Addr} {oc__law_word kV__law_word dc__law_word pm__law_word cd__law_word ct__law_word : Value} {od__law_word an__law_word : Option Addr} {sl__law_word : Array (Option Value)}
    {f__law_piece : Addr} {oc__law_piece kV__law_piece dc__law_piece pm__law_piece cd__law_piece ct__law_piece : Value} {od__law_piece an__law_piece : Option Addr} {sl__law_piece : Array (Option Value)}
    {f__law_text : Addr} {oc__law_text kV__law_text dc__law_text pm__law_text cd__law_text ct__law_text : Value} {od__law_text an__law_text : Option Addr} {sl__law_text : Array (Option Value)}
    {f__law_run_of : Addr} {oc__law_run_of kV__law_run_of dc__law_run_of pm__law_run_of cd__law_run_of ct__law_run_of : Value} {od__law_run_of an__law_run_of : Option Addr} {sl__law_run_of : Array (Option Value)}
    {f__law_token : Addr} {oc__law_token kV__law_token dc__law_token pm__law_token cd__law_token ct__law_token : Value} {od__law_token an__law_token : Option Addr} {sl__law_token : Array (Option Value)}
    {f__law_tokens : Addr} {oc__law_tokens kV__law_tokens dc__law_tokens pm__law_tokens cd__law_tokens ct__law_tokens : Value} {od__law_tokens an__law_tokens : Option Addr} {sl__law_tokens : Array (Option Value)}
    {f_law : Addr} {oc_law kV_law dc_law pm_law cd_law ct_law : Value} {od_law an_law : Option Addr} {sl_law : Array (Option Value)}
    {t_LETTERS : Tok}
    {t_WORD_CHARACTERS : Tok}
    {t_DIGITS : Tok}
    {t_LONG_SIGNS : Addr} {dd_LONG_SIGNS : Option Addr} {us_LONG_SIGNS : List Value} {n_LONG_SIGNS : Nat} {sl_LONG_SIGNS : Array (Option Value)}
    {t_LONGEST_WORD : Tok}
    {t_SHORT_SIGNS : Addr} {dd_SHORT_SIGNS : Option Addr} {us_SHORT_SIGNS : List Value} {n_SHORT_SIGNS : Nat} {sl_SHORT_SIGNS : Array (Option Value)}
    {t_LARGEST_NUMBER : Tok}
    (a_run_end : PySem.W.nsIn K mainGlobals "run_end" = some (some (.ref f_run_end)))
    (l_run_end : K.lookup f_run_end = some ⟨oc_run_end, od_run_end, .func (PySem.W.fnOf "run_end" "run_end" (defArgs s_run_end) (defBody s_run_end) (defScope s_run_end) .none kV_run_end dc_run_end pm_run_end an_run_end cd_run_end ct_run_end), sl_run_end⟩)
    (c_run_end : PySem.W.codeIn K cd_run_end "run_end" = true)
    (k_run_end : PySem.W.keepIn K (.ref f_run_end) = true)
    (a_token_end : PySem.W.nsIn K mainGlobals "token_end" = some (some (.ref f_token_end)))
    (l_token_end : K.lookup f_token_end = some ⟨oc_token_end, od_token_end, .func (PySem.W.fnOf "token_end" "token_end" (defArgs s_token_end) (defBody s_token_end) (defScope s_token_end) .none kV_token_end dc_token_end pm_token_end an_token_end cd_token_end ct_token_end), sl_token_end⟩)
    (c_token_end : PySem.W.codeIn K cd_token_end "token_end" = true)
    (k_token_end : PySem.W.keepIn K (.ref f_token_end) = true)
    (a_is_number : PySem.W.nsIn K mainGlobals "is_number" = some (some (.ref f_is_number)))
    (l_is_number : K.lookup f_is_number = some ⟨oc_is_number, od_is_number, .func (PySem.W.fnOf "is_number" "is_number" (defArgs s_is_number) (defBody s_is_number) (defScope s_is_number) .none kV_is_number dc_is_number pm_is_number an_is_number cd_is_number ct_is_number), sl_is_number⟩)
    (c_is_number : PySem.W.codeIn K cd_is_number "is_number" = true)
    (k_is_number : PySem.W.keepIn K (.ref f_is_number) = true)
    (a_read_token : PySem.W.nsIn K mainGlobals "read_token" = some (some (.ref f_read_token)))
    (l_read_token : K.lookup f_read_token = some ⟨oc_read_token, od_read_token, .func (PySem.W.fnOf "read_token" "read_token" (defArgs s_read_token) (defBody s_read_token) (defScope s_read_token) .none kV_read_token dc_read_token pm_read_token an_read_token cd_read_token ct_read_token), sl_read_token⟩)
    (c_read_token : PySem.W.codeIn K cd_read_token "read_token" = true)
    (k_read_token : PySem.W.keepIn K (.ref f_read_token) = true)
    (a_tokens : PySem.W.nsIn K mainGlobals "tokens" = some (some (.ref f_tokens)))
    (l_tokens : K.lookup f_tokens = some ⟨oc_tokens, od_tokens, .func (PySem.W.fnOf "tokens" "tokens" (defArgs s_tokens) (defBody s_tokens) (defScope s_tokens) .none kV_tokens dc_tokens pm_tokens an_tokens cd_tokens ct_tokens), sl_tokens⟩)
    (c_tokens : PySem.W.codeIn K cd_tokens "tokens" = true)
    (k_tokens : PySem.W.keepIn K (.ref f_tokens) = true)
    (a__law_next : PySem.W.nsIn K mainGlobals "_law_next" = some (some (.ref f__law_next)))
    (l__law_next : K.lookup f__law_next = some ⟨oc__law_next, od__law_next, .func (PySem.W.fnOf "_law_next" "_law_next" (defArgs s__law_next) (defBody s__law_next) (defScope s__law_next) .none kV__law_next dc__law_next pm__law_next an__law_next cd__law_next ct__law_next), sl__law_next⟩)
    (c__law_next : PySem.W.codeIn K cd__law_next "_law_next" = true)
    (k__law_next : PySem.W.keepIn K (.ref f__law_next) = true)
    (a__law_same : PySem.W.nsIn K mainGlobals "_law_same" = some (some (.ref f__law_same)))
    (l__law_same : K.lookup f__law_same = some ⟨oc__law_same, od__law_same, .func (PySem.W.fnOf "_law_same" "_law_same" (defArgs s__law_same) (defBody s__law_same) (defScope s__law_same) .none kV__law_same dc__law_same pm__law_same an__law_same cd__law_same ct__law_same), sl__law_same⟩)
    (c__law_same : PySem.W.codeIn K cd__law_same "_law_same" = true)
    (k__law_same : PySem.W.keepIn K (.ref f__law_same) = true)
    (a__law_word : PySem.W.nsIn K mainGlobals "_law_word" = some (some (.ref f__law_word)))
    (l__law_word : K.lookup f__law_word = some ⟨oc__law_word, od__law_word, .func (PySem.W.fnOf "_law_word" "_law_word" (defArgs s__law_word) (defBody s__law_word) (defScope s__law_word) .none kV__law_word dc__law_word pm__law_word an__law_word cd__law_word ct__law_word), sl__law_word⟩)
    (c__law_word : PySem.W.codeIn K cd__law_word "_law_word" = true)
    (k__law_word : PySem.W.keepIn K (.ref f__law_word) = true)
    (a__law_piece : PySem.W.nsIn K mainGlobals "_law_piece" = some (some (.ref f__law_piece)))
    (l__law_piece : K.lookup f__law_piece = some ⟨oc__law_piece, od__law_piece, .func (PySem.W.fnOf "_law_piece" "_law_piece" (defArgs s__law_piece) (defBody s__law_piece) (defScope s__law_piece) .none kV__law_piece dc__law_piece pm__law_piece an__law_piece cd__law_piece ct__law_piece), sl__law_piece⟩)
    (c__law_piece : PySem.W.codeIn K cd__law_piece "_law_piece" = true)
    (k__law_piece : PySem.W.keepIn K (.ref f__law_piece) = true)
    (a__law_text : PySem.W.nsIn K mainGlobals "_law_text" = some (some (.ref f__law_text)))
    (l__law_text : K.lookup f__law_text = some ⟨oc__law_text, od__law_text, .func (PySem.W.fnOf "_law_text" "_law_text" (defArgs s__law_text) (defBody s__law_text) (defScope s__law_text) .none kV__law_text dc__law_text pm__law_text an__law_text cd__law_text ct__law_text), sl__law_text⟩)
    (c__law_text : PySem.W.codeIn K cd__law_text "_law_text" = true)
    (k__law_text : PySem.W.keepIn K (.ref f__law_text) = true)
    (a__law_run_of : PySem.W.nsIn K mainGlobals "_law_run_of" = some (some (.ref f__law_run_of)))
    (l__law_run_of : K.lookup f__law_run_of = some ⟨oc__law_run_of, od__law_run_of, .func (PySem.W.fnOf "_law_run_of" "_law_run_of" (defArgs s__law_run_of) (defBody s__law_run_of) (defScope s__law_run_of) .none kV__law_run_of dc__law_run_of pm__law_run_of an__law_run_of cd__law_run_of ct__law_run_of), sl__law_run_of⟩)
    (c__law_run_of : PySem.W.codeIn K cd__law_run_of "_law_run_of" = true)
    (k__law_run_of : PySem.W.keepIn K (.ref f__law_run_of) = true)
    (a__law_token : PySem.W.nsIn K mainGlobals "_law_token" = some (some (.ref f__law_token)))
    (l__law_token : K.lookup f__law_token = some ⟨oc__law_token, od__law_token, .func (PySem.W.fnOf "_law_token" "_law_token" (defArgs s__law_token) (defBody s__law_token) (defScope s__law_token) .none kV__law_token dc__law_token pm__law_token an__law_token cd__law_token ct__law_token), sl__law_token⟩)
    (c__law_token : PySem.W.codeIn K cd__law_token "_law_token" = true)
    (k__law_token : PySem.W.keepIn K (.ref f__law_token) = true)
    (a__law_tokens : PySem.W.nsIn K mainGlobals "_law_tokens" = some (some (.ref f__law_tokens)))
    (l__law_tokens : K.lookup f__law_tokens = some ⟨oc__law_tokens, od__law_tokens, .func (PySem.W.fnOf "_law_tokens" "_law_tokens" (defArgs s__law_tokens) (defBody s__law_tokens) (defScope s__law_tokens) .none kV__law_tokens dc__law_tokens pm__law_tokens an__law_tokens cd__law_tokens ct__law_tokens), sl__law_tokens⟩)
    (c__law_tokens : PySem.W.codeIn K cd__law_tokens "_law_tokens" = true)
    (k__law_tokens : PySem.W.keepIn K (.ref f__law_tokens) = true)
    (a_law : PySem.W.nsIn K mainGlobals "law" = some (some (.ref f_law)))
    (l_law : K.lookup f_law = some ⟨oc_law, od_law, .func (PySem.W.fnOf "law" "law" (defArgs s_law) (defBody s_law) (defScope s_law) .none kV_law dc_law pm_law an_law cd_law ct_law), sl_law⟩)
    (c_law : PySem.W.codeIn K cd_law "law" = true)
    (k_law : PySem.W.keepIn K (.ref f_law) = true)
    (b_len : PySem.W.nsIn K mainGlobals "len" = some none)
    (b_tuple : PySem.W.nsIn K mainGlobals "tuple" = some none)
    (b_int : PySem.W.nsIn K mainGlobals "int" = some none)
    (b_str : PySem.W.nsIn K mainGlobals "str" = some none)
    (b_abs : PySem.W.nsIn K mainGlobals "abs" = some none)
    (b_isinstance : PySem.W.nsIn K mainGlobals "isinstance" = some none)
    (b_range : PySem.W.nsIn K mainGlobals "range" = some none)
    (b_bool : PySem.W.nsIn K mainGlobals "bool" = some none)
    (v_LETTERS : PySem.W.nsIn K mainGlobals "LETTERS" = some (some (.str (PySem.Str.ofString "abcdefghijklmnopqrstuvwxyz") t_LETTERS)))
    (v_WORD_CHARACTERS : PySem.W.nsIn K mainGlobals "WORD_CHARACTERS" = some (some (.str (PySem.Str.ofString "abcdefghijklmnopqrstuvwxyz0123456789_") t_WORD_CHARACTERS)))
    (v_DIGITS : PySem.W.nsIn K mainGlobals "DIGITS" = some (some (.str (PySem.Str.ofString "0123456789") t_DIGITS)))
    (v_LONG_SIGNS : PySem.W.nsIn K mainGlobals "LONG_SIGNS" = some (some (.ref t_LONG_SIGNS)))
    (l_LONG_SIGNS : K.lookup t_LONG_SIGNS = some ⟨.type "tuple", dd_LONG_SIGNS, .seq us_LONG_SIGNS.toArray n_LONG_SIGNS, sl_LONG_SIGNS⟩)
    (p_LONG_SIGNS : Paired (fun (z : Str) u => ∃ t, u = Value.str z t) [(PySem.Str.ofString "=="), (PySem.Str.ofString "!="), (PySem.Str.ofString "<=")] us_LONG_SIGNS)
    (v_LONGEST_WORD : PySem.W.nsIn K mainGlobals "LONGEST_WORD" = some (some (.int 12 t_LONGEST_WORD)))
    (v_SHORT_SIGNS : PySem.W.nsIn K mainGlobals "SHORT_SIGNS" = some (some (.ref t_SHORT_SIGNS)))
    (l_SHORT_SIGNS : K.lookup t_SHORT_SIGNS = some ⟨.type "tuple", dd_SHORT_SIGNS, .seq us_SHORT_SIGNS.toArray n_SHORT_SIGNS, sl_SHORT_SIGNS⟩)
    (p_SHORT_SIGNS : Paired (fun (z : Str) u => ∃ t, u = Value.str z t) [(PySem.Str.ofString "("), (PySem.Str.ofString ")"), (PySem.Str.ofString "{"), (PySem.Str.ofString "}"), (PySem.Str.ofString "["), (PySem.Str.ofString "]"), (PySem.Str.ofString ","), (PySem.Str.ofString ";"), (PySem.Str.ofString "="), (PySem.Str.ofString "<"), (PySem.Str.ofString "+"), (PySem.Str.ofString "-"), (PySem.Str.ofString "*"), (PySem.Str.ofString "/")] us_SHORT_SIGNS)
    (v_LARGEST_NUMBER : PySem.W.nsIn K mainGlobals "LARGEST_NUMBER" = some (some (.int 10000 t_LARGEST_NUMBER)))
    : ∃ fd : FuncData, (∀ (s : Shared) (u : Value), BindsTo s fd ⟨[u], []⟩ [("script", u)]) ∧ ∀ base : Heap, K.In base → base.Ns mainGlobals mg → FnOk l.prog w K mg base CX0 5 fa fd ["script"] (spP K Φ_law) := by
  have F_run_end : FunM K mg "run_end" s_run_end [PySem.Str.ofString "text", PySem.Str.ofString "start", PySem.Str.ofString "characters"] := funM_of X G a_run_end l_run_end c_run_end k_run_end (fun us hl => match us, hl with | [_, _, _], _ => rfl)
  have F_token_end : FunM K mg "token_end" s_token_end [PySem.Str.ofString "text", PySem.Str.ofString "start"] := funM_of X G a_token_end l_token_end c_token_end k_token_end (fun us hl => match us, hl with | [_, _], _ => rfl)
  have F_is_number : FunM K mg "is_number" s_is_number [PySem.Str.ofString "digits"] := funM_of X G a_is_number l_is_number c_is_number k_is_number (fun us hl => match us, hl with | [_], _ => rfl)
  have F_read_token : FunM K mg "read_token" s_read_token [PySem.Str.ofString "part"] := funM_of X G a_read_token l_read_token c_read_token k_read_token (fun us hl => match us, hl with | [_], _ => rfl)
  have F_tokens : FunM K mg "tokens" s_tokens [PySem.Str.ofString "text"] := funM_of X G a_tokens l_tokens c_tokens k_tokens (fun us hl => match us, hl with | [_], _ => rfl)
  have F__law_next : FunM K mg "_law_next" s__law_next [PySem.Str.ofString "state", PySem.Str.ofString "script", PySem.Str.ofString "many"] := funM_of X G a__law_next l__law_next c__law_next k__law_next (fun us hl => match us, hl with | [_, _, _], _ => rfl)
  have F__law_same : FunM K mg "_law_same" s__law_same [PySem.Str.ofString "actual", PySem.Str.ofString "due"] := funM_of X G a__law_same l__law_same c__law_same k__law_same (fun us hl => match us, hl with | [_, _], _ => rfl)
  have F__law_word : FunM K mg "_law_word" s__law_word [PySem.Str.ofString "state", PySem.Str.ofString "script"] := funM_of X G a__law_word l__law_word c__law_word k__law_word (fun us hl => match us, hl with | [_, _], _ => rfl)
  have F__law_piece : FunM K mg "_law_piece" s__law_piece [PySem.Str.ofString "state", PySem.Str.ofString "script"] := funM_of X G a__law_piece l__law_piece c__law_piece k__law_piece (fun us hl => match us, hl with | [_, _], _ => rfl)
  have F__law_text : FunM K mg "_law_text" s__law_text [PySem.Str.ofString "state", PySem.Str.ofString "script"] := funM_of X G a__law_text l__law_text c__law_text k__law_text (fun us hl => match us, hl with | [_, _], _ => rfl)
  have F__law_run_of : FunM K mg "_law_run_of" s__law_run_of [PySem.Str.ofString "text", PySem.Str.ofString "at", PySem.Str.ofString "signs"] := funM_of X G a__law_run_of l__law_run_of c__law_run_of k__law_run_of (fun us hl => match us, hl with | [_, _, _], _ => rfl)
  have F__law_token : FunM K mg "_law_token" s__law_token [PySem.Str.ofString "text", PySem.Str.ofString "at"] := funM_of X G a__law_token l__law_token c__law_token k__law_token (fun us hl => match us, hl with | [_, _], _ => rfl)
  have F__law_tokens : FunM K mg "_law_tokens" s__law_tokens [PySem.Str.ofString "text"] := funM_of X G a__law_tokens l__law_tokens c__law_tokens k__law_tokens (fun us hl => match us, hl with | [_], _ => rfl)
  have F_law : FunM K mg "law" s_law [PySem.Str.ofString "script"] := funM_of X G a_law l_law c_law k_law (fun us hl => match us, hl with | [_], _ => rfl)
  have m_len : mg "len" = none := PySem.W.mg_none_of X G b_len
  have m_tuple : mg "tuple" = none := PySem.W.mg_none_of X G b_tuple
  have m_int : mg "int" = none := PySem.W.mg_none_of X G b_int
  have m_str : mg "str" = none := PySem.W.mg_none_of X G b_str
  have m_abs : mg "abs" = none := PySem.W.mg_none_of X G b_abs
  have m_isinstance : mg "isinstance" = none := PySem.W.mg_none_of X G b_isinstance
  have m_range : mg "range" = none := PySem.W.mg_none_of X G b_range
  have m_bool : mg "bool" = none := PySem.W.mg_none_of X G b_bool
  have G_LETTERS : GlobD K mg "LETTERS" d_LETTERS := glob_str (PySem.W.mg_of X G v_LETTERS)
  have G_WORD_CHARACTERS : GlobD K mg "WORD_CHARACTERS" d_WORD_CHARACTERS := glob_str (PySem.W.mg_of X G v_WORD_CHARACTERS)
  have G_DIGITS : GlobD K mg "DIGITS" d_DIGITS := glob_str (PySem.W.mg_of X G v_DIGITS)
  have G_LONG_SIGNS : GlobD K mg "LONG_SIGNS" d_LONG_SIGNS := glob_strs (PySem.W.mg_of X G v_LONG_SIGNS) l_LONG_SIGNS rfl rfl (by have := p_LONG_SIGNS.length; rw [← this]; decide) p_LONG_SIGNS
  have G_LONGEST_WORD : GlobD K mg "LONGEST_WORD" d_LONGEST_WORD := glob_int (PySem.W.mg_of X G v_LONGEST_WORD)
  have G_SHORT_SIGNS : GlobD K mg "SHORT_SIGNS" d_SHORT_SIGNS := glob_strs (PySem.W.mg_of X G v_SHORT_SIGNS) l_SHORT_SIGNS rfl rfl (by have := p_SHORT_SIGNS.length; rw [← this]; decide) p_SHORT_SIGNS
  have G_LARGEST_NUMBER : GlobD K mg "LARGEST_NUMBER" d_LARGEST_NUMBER := glob_int (PySem.W.mg_of X G v_LARGEST_NUMBER)
  refine law_of (F := F_law) hfa fun fd hF base KB GB => ?_
  have C_run_end : Callee l.prog w K mg base "run_end" 1 Φ_run_end := ok_run_end F_run_end m_len
  have C_token_end : Callee l.prog w K mg base "token_end" 2 Φ_token_end := ok_token_end F_token_end C_run_end G_LETTERS G_WORD_CHARACTERS G_DIGITS G_LONG_SIGNS
  have C_is_number : Callee l.prog w K mg base "is_number" 1 Φ_is_number := ok_is_number F_is_number G_LARGEST_NUMBER m_len m_str m_int
  have C_read_token : Callee l.prog w K mg base "read_token" 2 Φ_read_token := ok_read_token F_read_token C_is_number G_LETTERS G_LONGEST_WORD G_DIGITS G_LONG_SIGNS G_SHORT_SIGNS m_len m_int
  have C_tokens : Callee l.prog w K mg base "tokens" 3 Φ_tokens := ok_tokens F_tokens C_token_end C_read_token m_len m_tuple
  have C__law_next : Callee l.prog w K mg base "_law_next" 1 Φ__law_next := ok__law_next F__law_next m_int m_len m_abs
  have C__law_same : Callee l.prog w K mg base "_law_same" 4 Φ__law_same := all__law_same F__law_same m_tuple m_isinstance m_len m_range m_bool m_int m_str 4
  have C__law_word : Callee l.prog w K mg base "_law_word" 2 Φ__law_word := ok__law_word F__law_word C__law_next m_range
  have C__law_piece : Callee l.prog w K mg base "_law_piece" 3 Φ__law_piece := ok__law_piece F__law_piece C__law_next C__law_word m_str m_len
  have C__law_text : Callee l.prog w K mg base "_law_text" 4 Φ__law_text := ok__law_text F__law_text C__law_next C__law_piece m_range
  have C__law_run_of : Callee l.prog w K mg base "_law_run_of" 1 Φ__law_run_of := ok__law_run_of F__law_run_of
  have C__law_token : Callee l.prog w K mg base "_law_token" 2 Φ__law_token := ok__law_token F__law_token C__law_run_of m_len m_int m_str
  have C__law_tokens : Callee l.prog w K mg base "_law_tokens" 3 Φ__law_tokens := ok__law_tokens F__law_tokens C__law_token m_range m_len m_tuple
  exact ok_law hF C__law_text C__law_same C__law_tokens C_tokens m_range
end G

set_option Elab.async false
set_option linter.all false
set_option maxRecDepth 100000
set_option maxHeartbeats 2000000
namespace M
open PySem L2 Pd G

/-! ### run_end -/
def runOf (S l : List Nat) : List Nat := l.takeWhile (· ∈ S)
theorem run_end_loop {M : PM} (S l : List Nat) (s : D) (hl : l.length ≤ 5000) : ∀ (n e : Nat), e ≤ l.length → l.length - e < n →
    sWhile lc_run_end_1 lb_run_end_1 n
      [some (.str (T l)), some s, some (.str (T S)), some (.int (e : Int))] M
    = .ok (.nx [some (.str (T l)), some s, some (.str (T S)), some (.int ((e + (runOf S (l.drop e)).length : Nat) : Int))]) M
  | 0, _, _, h => by omega
  | n + 1, e, he, h => by
    unfold sWhile
    by_cases hlt : e < l.length
    · have ed : l.drop e = l[e] :: l.drop (e + 1) := List.drop_eq_getElem_cons hlt
      have ih := run_end_loop (M := M) S l s hl n (e + 1) hlt (by omega)
      by_cases hc : l[e] ∈ S
      · have er : runOf S (l.drop e) = l[e] :: runOf S (l.drop (e + 1)) := by
          unfold runOf
          rw [ed, List.takeWhile_cons_of_pos (by simpa using hc)]
        simp [lc_run_end_1, lb_run_end_1, pAnd, pTest, pOp, pVar, pCB, aCons, aNil, asB, sAug, pC, e_lenS (show l.length ≤ 16777216 by omega), e_ixS hlt (by omega), e_inS, hc, hlt, er] at ih ⊢
        rw [ih]
        simp
        omega
      · have er : runOf S (l.drop e) = [] := by
          unfold runOf
          rw [ed, List.takeWhile_cons_of_neg (by simpa using hc)]
        simp [lc_run_end_1, lb_run_end_1, pAnd, pTest, pOp, pVar, pCB, aCons, aNil, asB, sAug, pC, e_lenS (show l.length ≤ 16777216 by omega), e_ixS hlt (by omega), e_inS, hc, hlt, er]
    · have er : l.drop e = [] := List.drop_eq_nil_of_le (by omega)
      simp [lc_run_end_1, lb_run_end_1, pAnd, pTest, pOp, pVar, pCB, aCons, aNil, asB, e_lenS (show l.length ≤ 16777216 by omega), hlt, er, runOf]
theorem run_end_ok {M : PM} (w : WfM M) (S l : List Nat) (s : Nat) (hl : l.length ≤ 5000) (hs : s ≤ l.length) :
    Φ_run_end [.str (T l), .int (s : Int), .str (T S)] M = .ok (.int ((s + (runOf S (l.drop s)).length : Nat) : Int)) M := by
  refine run_pure0 rfl w ?_ rfl
  have e0 : rho0 N_run_end [.str (T l), .int (s : Int), .str (T S)] = [some (.str (T l)), some (.int (s : Int)), some (.str (T S)), none] := rfl
  rw [e0]
  simp [g_run_end, sSeq, sAsg, fName, pVar, sRet]
  rw [run_end_loop S l _ hl _ s hs (by omega)]
  simp
end M

set_option Elab.async false
set_option linter.all false
set_option maxRecDepth 100000
set_option maxHeartbeats 2000000
namespace M
open PySem L2 Pd G
local macro_rules | `(tactic| walk_at "pd") => `(tactic| simp [sSeq, sIf, sAsg, sRet, sRetN, sDrop, sNext, sBreak, sCont, sAug, fName, fTup, fCons, fNil, fSub, pVar, pC, pOp, pUn, pTest, pAnd, pOr, pNot, pIf, pAndV, pOrV, pNotV, aNil, aCons, pTup, pLst, pCall, pCB, pSl, oNone, oSome, asB, line, *])

def LET : List Nat := (PySem.Str.ofString "abcdefghijklmnopqrstuvwxyz").cps.toList
def DIG : List Nat := (PySem.Str.ofString "0123456789").cps.toList
def WRD : List Nat := (PySem.Str.ofString "abcdefghijklmnopqrstuvwxyz0123456789_").cps.toList
def LONG : List (List Nat) := [[61, 61], [33, 61], [60, 61]]
def SHORT : List (List Nat) := [[40], [41], [123], [125], [91], [93], [44], [59], [61], [60], [43], [45], [42], [47]]
theorem dLET : d_LETTERS = .str (T LET) := rfl
theorem dDIG : d_DIGITS = .str (T DIG) := rfl
theorem dWRD : d_WORD_CHARACTERS = .str (T WRD) := rfl
theorem T_mem {p : List Nat} {L : List (List Nat)} : T p ∈ L.map T ↔ p ∈ L := by
  rw [List.mem_map]
  constructor
  · rintro ⟨q, h, e⟩
    rw [← T_inj e]
    exact h
  · exact fun h => ⟨p, h, rfl⟩
theorem dLONG : d_LONG_SIGNS = .tup ((LONG.map T).map .str) := rfl
theorem dSHORT : d_SHORT_SIGNS = .tup ((SHORT.map T).map .str) := rfl
theorem inF_strs (x : Str) : ∀ zs : List Str, inF (.str x) (zs.map .str) = decide (x ∈ zs)
  | [] => by simp [inF]
  | z :: zs => by
    have ih := inF_strs x zs
    unfold inF at ih ⊢
    rw [List.map_cons, List.any_cons, ih]
    show ((z == x) || decide (x ∈ zs)) = _
    by_cases h : z = x
    · subst h; simp
    · have h' : ¬ x = z := fun e => h e.symm
      simp [h, h']
theorem flat_strs : ∀ zs : List Str, (zs.map D.str).all flatD = true
  | [] => rfl
  | z :: zs => by
    rw [List.map_cons, List.all_cons, flat_strs zs]
    rfl
theorem e_inStrs {M : PM} {x : Str} {zs : List Str} {b : D} (h : seqOf M b = some (zs.map .str)) : gIn M (.str x) b = .ok (.bl (decide (x ∈ zs))) M := by
  rw [e_inL h rfl (flat_strs zs), inF_strs]
def ch (l : List Nat) (s : Nat) : Nat := l.getD s 0
theorem ch_eq {l : List Nat} {s : Nat} (h : s < l.length) : l[s] = ch l s := by
  unfold ch
  simp [h]
def tokEnd (l : List Nat) (s : Nat) : Nat :=
  if ch l s ∈ LET then s + (runOf WRD (l.drop s)).length else if ch l s ∈ DIG then s + (runOf DIG (l.drop s)).length else if cut l s (s + 2) ∈ LONG then s + 2 else s + 1
theorem token_end_ok {M : PM} (w : WfM M) (l : List Nat) (s : Nat) (hl : l.length ≤ 5000) (hs : s < l.length) :
    Φ_token_end [.str (T l), .int (s : Int)] M = .ok (.int (tokEnd l s : Int)) M := by
  refine run_pure0 rfl w ?_ rfl
  have e0 : rho0 N_token_end [.str (T l), .int (s : Int)] = [some (.str (T l)), some (.int (s : Int))] := rfl
  rw [e0]
  have hz : l.length ≤ 16777216 := by omega
  have hx : gIx M (.str (T l)) (.int (s : Int)) = .ok (.str (T [ch l s])) M := by rw [e_ixS hs hz, ch_eq hs]
  have h1 := run_end_ok w WRD l s hl (by omega)
  have h2 := run_end_ok w DIG l s hl (by omega)
  have e2 : gSl M (.str (T l)) (some (s : Int)) (some ((s : Int) + 2)) = .ok (.str (T (cut l s (s + 2)))) M := by
    rw [e_slS (by rw [T_len]; exact hz)]
    exact congrArg (fun z => Out.ok (D.str z) M) (cutS_nat l s (s + 2))
  have hL : gIn M (.str (T (cut l s (s + 2)))) d_LONG_SIGNS = .ok (.bl (decide (cut l s (s + 2) ∈ LONG))) M := by
    rw [dLONG, e_inStrs (zs := LONG.map T) rfl]
    simp only [T_mem]
  unfold tokEnd g_token_end
  rw [dLET, dDIG, dWRD]
  have i1 := e_inS (M := M) (ch l s) (T LET)
  have i2 := e_inS (M := M) (ch l s) (T DIG)
  by_cases c1 : ch l s ∈ LET
  · walk_at "pd"
  · by_cases c2 : ch l s ∈ DIG
    · walk_at "pd"
    · by_cases c3 : cut l s (s + 2) ∈ LONG
      · walk_at "pd"
      · walk_at "pd"
end M

set_option Elab.async false
set_option linter.all false
set_option maxRecDepth 100000
set_option maxHeartbeats 2000000
namespace M
open PySem L2 Pd G
local macro_rules | `(tactic| walk_at "pd") => `(tactic| simp [sSeq, sIf, sAsg, sRet, sRetN, sDrop, sNext, sBreak, sCont, sAug, fName, fTup, fCons, fNil, fSub, pVar, pC, pOp, pUn, pTest, pAnd, pOr, pNot, pIf, pAndV, pOrV, pNotV, aNil, aCons, pTup, pLst, pCall, pCB, pSl, oNone, oSome, asB, line, *])

/-! ### digits -/
def Digs (p : List Nat) : Prop := ∀ c ∈ p, 48 ≤ c ∧ c ≤ 57
def val (p : List Nat) : Nat := NumText.digitsVal p
theorem int_text {p : List Nat} (h : Digs p) (h0 : p ≠ []) (h1 : p.length ≤ 4300) : PySem.intText? (T p) = some ((val p : Nat) : Int) :=
  SX.int_S (a := p) (List.all_eq_true.mpr fun c hc => by have := h c hc; simp [this.1, this.2]) h0 h1
theorem fold_lt : ∀ (p : List Nat) (a : Nat), Digs p → p.foldl (fun acc c => acc * 10 + (c - 48)) a < (a + 1) * 10 ^ p.length
  | [], a, _ => by simp
  | c :: p, a, h => by
    have hc := h c (List.mem_cons_self ..)
    have ih := fold_lt p (a * 10 + (c - 48)) fun d hd => h d (List.mem_cons_of_mem _ hd)
    rw [List.foldl_cons, List.length_cons, Nat.pow_succ]
    refine Nat.lt_of_lt_of_le ih ?_
    have : a * 10 + (c - 48) + 1 ≤ (a + 1) * 10 := by omega
    calc (a * 10 + (c - 48) + 1) * 10 ^ p.length ≤ ((a + 1) * 10) * 10 ^ p.length := Nat.mul_le_mul_right _ this
      _ = (a + 1) * (10 ^ p.length * 10) := by rw [Nat.mul_assoc, Nat.mul_comm 10]
theorem fold_ge : ∀ (p : List Nat) (a : Nat), a * 10 ^ p.length ≤ p.foldl (fun acc c => acc * 10 + (c - 48)) a
  | [], a => by simp
  | c :: p, a => by
    have ih := fold_ge p (a * 10 + (c - 48))
    rw [List.foldl_cons, List.length_cons, Nat.pow_succ]
    refine Nat.le_trans ?_ ih
    calc a * (10 ^ p.length * 10) = (a * 10) * 10 ^ p.length := by rw [Nat.mul_comm (10 ^ p.length), ← Nat.mul_assoc]
      _ ≤ (a * 10 + (c - 48)) * 10 ^ p.length := Nat.mul_le_mul_right _ (Nat.le_add_right _ _)
theorem fold_inj : ∀ (p q : List Nat) (a b : Nat), p.length = q.length → Digs p → Digs q → p.foldl (fun acc c => acc * 10 + (c - 48)) a = q.foldl (fun acc c => acc * 10 + (c - 48)) b → a = b ∧ p = q
  | [], [], a, b, _, _, _, h => ⟨h, rfl⟩
  | [], _ :: _, _, _, h, _, _, _ => by simp at h
  | _ :: _, [], _, _, h, _, _, _ => by simp at h
  | c :: p, d :: q, a, b, hl, hp, hq, h => by
    have hc := hp c (List.mem_cons_self ..)
    have hd := hq d (List.mem_cons_self ..)
    obtain ⟨h1, h2⟩ := fold_inj p q _ _ (by simpa using hl) (fun x hx => hp x (List.mem_cons_of_mem _ hx)) (fun x hx => hq x (List.mem_cons_of_mem _ hx)) h
    have h1 : a * 10 + (c - 48) = b * 10 + (d - 48) := h1
    have e1 : a = b := by omega
    have e2 : c = d := by omega
    rw [e1, e2, h2]
    exact ⟨rfl, rfl⟩
theorem val_lt {p : List Nat} (h : Digs p) : val p < 10 ^ p.length := by
  have := fold_lt p 0 h
  simpa [val, NumText.digitsVal] using this
def shown (n : Nat) : List Nat := (Nat.toDigits 10 n).map Char.toNat
theorem str_shown (n : Nat) : Str.ofString (toString ((n : Nat) : Int)) = T (shown n) := TL.ext_tl (TL.tl_num n)
theorem shown_digs (n : Nat) : Digs (shown n) := TL.numL_digits n
theorem val_shown (n : Nat) : val (shown n) = n := PySem.W.KIN.val_back n
theorem shown_eq {p : List Nat} (h : Digs p) (h0 : p ≠ []) (hz : ch p 0 ≠ 48) : shown (val p) = p := by
  cases p with
  | nil => exact absurd rfl h0
  | cons c p =>
    have hc := h c (List.mem_cons_self ..)
    have hc0 : c ≠ 48 := by simpa [ch] using hz
    have lo : 10 ^ p.length ≤ val (c :: p) := by
      have := fold_ge p (c - 48)
      have e : val (c :: p) = p.foldl (fun acc c => acc * 10 + (c - 48)) (c - 48) := by simp [val, NumText.digitsVal]
      rw [e]
      refine Nat.le_trans ?_ this
      exact Nat.le_mul_of_pos_left _ (by omega)
    have hi := val_lt h
    have l1 : (shown (val (c :: p))).length ≤ (c :: p).length := by
      unfold shown
      rw [List.length_map]
      exact PyProof.Rows.digits10_le (by simp) hi
    have l2 : p.length + 1 ≤ (shown (val (c :: p))).length := by
      unfold shown
      rw [List.length_map]
      exact PyProof.Rows.digits10_ge lo
    have := (fold_inj (shown (val (c :: p))) (c :: p) 0 0 (by rw [List.length_cons] at l1 ⊢; omega) (shown_digs _) h (by
      have := val_shown (val (c :: p))
      simpa [val, NumText.digitsVal] using this)).2
    exact this
theorem shown_ne {p : List Nat} (h : Digs p) (hl : 1 < p.length) (hz : ch p 0 = 48) : shown (val p) ≠ p := by
  cases p with
  | nil => simp at hl
  | cons c p =>
    have hc : c = 48 := by simpa [ch] using hz
    subst hc
    have e : val (48 :: p) = val p := by simp [val, NumText.digitsVal]
    have hi : val (48 :: p) < 10 ^ p.length := by rw [e]; exact val_lt fun x hx => h x (List.mem_cons_of_mem _ hx)
    have l1 : (shown (val (48 :: p))).length ≤ p.length := by
      unfold shown
      rw [List.length_map]
      exact PyProof.Rows.digits10_le (by have hl' := hl; rw [List.length_cons] at hl'; omega) hi
    intro q
    rw [q] at l1
    simp at l1
    omega
/-! ### is_number, read_token -/
def isNum (p : List Nat) : Bool := if ch p 0 = 48 then decide (p.length = 1) else decide (p.length ≤ 5) && decide (val p ≤ 10000)
theorem str_10000 {M : PM} : bStr M [d_LARGEST_NUMBER] = .ok (.str (T [49, 48, 48, 48, 48])) M := by
  show (if (10000 : Int).natAbs < 18446744073709551616 then Out.ok (D.str (Str.ofString (toString (10000 : Int)))) M else .bad) = _
  rw [if_pos (by decide)]
  exact congrArg (fun z => Out.ok (D.str z) M) ((str_shown 10000).trans (by decide +kernel))
theorem s0 : PySem.Str.ofString "0" = T [48] := rfl
theorem e_intS {M : PM} {p : List Nat} (h : Digs p) (h0 : p ≠ []) (h1 : p.length ≤ 640) : bInt M [.str (T p)] = .ok (.int ((val p : Nat) : Int)) M := by
  show (match PySem.intText? (T p) with | some n => if (T p).length ≤ 640 then Out.ok (D.int n) M else .bad | none => .bad) = _
  rw [int_text h h0 (by omega)]
  show (if (T p).length ≤ 640 then Out.ok (D.int ((val p : Nat) : Int)) M else .bad) = _
  rw [T_len, if_pos h1]
theorem is_number_ok {M : PM} (w : WfM M) {p : List Nat} (hp : p.length ≤ 5000) (h0 : p ≠ []) (hd : Digs p) : Φ_is_number [.str (T p)] M = .ok (.bl (isNum p)) M := by
  refine run_pure0 rfl w ?_ rfl
  have e0 : rho0 N_is_number [.str (T p)] = [some (.str (T p))] := rfl
  rw [e0]
  have hpos : 0 < p.length := List.length_pos_iff.mpr h0
  have hx : gIx M (.str (T p)) (.int 0) = .ok (.str (T [ch p 0])) M := by
    have := e_ixS (M := M) (k := 0) hpos (by omega)
    rw [ch_eq hpos] at this
    exact this
  have hl := e_lenS (M := M) (l := p) (by omega)
  have hs := str_10000 (M := M)
  have hL := e_lenS (M := M) (l := [49, 48, 48, 48, 48]) (by decide)
  unfold g_is_number isNum
  rw [s0]
  by_cases c1 : ch p 0 = 48
  · walk_at "pd"
    omega
  · by_cases c2 : p.length ≤ 5
    · have hi := e_intS (M := M) hd h0 (by omega)
      have c2' : (p.length : Int) ≤ 5 := by omega
      have e5 : d_LARGEST_NUMBER = .int 10000 := rfl
      simp [sSeq, sIf, sRet, sNext, pVar, pC, pOp, pTest, pAndV, aNil, aCons, pCB, asB, hx, hl, hs, hL, hi, c1, c2, c2']
      rw [e5]
      simp
      omega
    · have c2' : ¬ (p.length : Int) ≤ 5 := by omega
      walk_at "pd"
end M

set_option Elab.async false
set_option linter.all false
set_option maxRecDepth 100000
set_option maxHeartbeats 2000000
namespace M
open PySem L2 Pd G
local macro_rules | `(tactic| walk_at "pd") => `(tactic| simp [sSeq, sIf, sAsg, sRet, sRetN, sDrop, sNext, sBreak, sCont, sAug, fName, fTup, fCons, fNil, fSub, pVar, pC, pOp, pUn, pTest, pAnd, pOr, pNot, pIf, pAndV, pOrV, pNotV, aNil, aCons, pTup, pLst, pCall, pCB, pSl, oNone, oSome, asB, line, *])

def kWord : D := .str (PySem.Str.ofString "word")
def kNum : D := .str (PySem.Str.ofString "number")
def kSign : D := .str (PySem.Str.ofString "sign")
def kErr : D := .str (PySem.Str.ofString "error")
def vErr : D := .str (PySem.Str.ofString "")
def readT (p : List Nat) : D × D :=
  if ch p 0 ∈ LET ∧ p.length ≤ 12 then (kWord, .str (T p)) else if ch p 0 ∈ DIG ∧ isNum p = true then (kNum, .int ((val p : Nat) : Int)) else if p ∈ LONG ∨ p ∈ SHORT then (kSign, .str (T p)) else (kErr, vErr)
theorem read_token_ok {M : PM} (w : WfM M) {p : List Nat} (hp : p.length ≤ 5000) (h0 : p ≠ []) (hd : ch p 0 ∈ DIG → Digs p) :
    Φ_read_token [.str (T p)] M = .ok (.tup [(readT p).1, (readT p).2]) M := by
  have hcl : clD M.length (.tup [(readT p).1, (readT p).2]) = true := by
    unfold readT
    repeat' split
    all_goals rfl
  refine run_pure0 rfl w ?_ hcl
  have e0 : rho0 N_read_token [.str (T p)] = [some (.str (T p))] := rfl
  rw [e0]
  have hpos : 0 < p.length := List.length_pos_iff.mpr h0
  have hx : gIx M (.str (T p)) (.int 0) = .ok (.str (T [ch p 0])) M := by
    have := e_ixS (M := M) (k := 0) hpos (by omega)
    rw [ch_eq hpos] at this
    exact this
  have hl := e_lenS (M := M) (l := p) (by omega)
  have e12 : d_LONGEST_WORD = .int 12 := rfl
  have i1 := e_inS (M := M) (ch p 0) (T LET)
  have i2 := e_inS (M := M) (ch p 0) (T DIG)
  have hL : gIn M (.str (T p)) d_LONG_SIGNS = .ok (.bl (decide (p ∈ LONG))) M := by
    rw [dLONG, e_inStrs (zs := LONG.map T) rfl]
    simp only [T_mem]
  have hS : gIn M (.str (T p)) d_SHORT_SIGNS = .ok (.bl (decide (p ∈ SHORT))) M := by
    rw [dSHORT, e_inStrs (zs := SHORT.map T) rfl]
    simp only [T_mem]
  unfold g_read_token
  rw [dLET, dDIG, e12]
  have last : (sSeq (sIf (pOr (pTest (pOp gIn (pVar 0) (pC d_LONG_SIGNS))) (pTest (pOp gIn (pVar 0) (pC d_SHORT_SIGNS)))) (sRet (pTup (aCons (pC (.str (PySem.Str.ofString "sign"))) (aCons (pVar 0) (aNil))))) (sNext))
      (sRet (pTup (aCons (pC (.str (PySem.Str.ofString "error"))) (aCons (pC (.str (PySem.Str.ofString ""))) (aNil)))))) [some (.str (T p))] M =
      .ok (.rt (.tup (if p ∈ LONG ∨ p ∈ SHORT then [kSign, .str (T p)] else [kErr, vErr]))) M := by
    by_cases c3 : p ∈ LONG
    · simp [sSeq, sIf, sRet, sNext, pVar, pC, pOp, pTest, pOr, pTup, aNil, aCons, asB, line, hL, hS, c3, kSign]
    · by_cases c4 : p ∈ SHORT
      · simp [sSeq, sIf, sRet, sNext, pVar, pC, pOp, pTest, pOr, pTup, aNil, aCons, asB, line, hL, hS, c3, c4, kSign]
      · simp [sSeq, sIf, sRet, sNext, pVar, pC, pOp, pTest, pOr, pTup, aNil, aCons, asB, line, hL, hS, c3, c4, kErr, vErr]
  have second : ¬ (ch p 0 ∈ LET ∧ p.length ≤ 12) → (sSeq (sIf (pAnd (pTest (pOp gIn (pOp gIx (pVar 0) (pC (.int 0))) (pC (.str (T DIG))))) (pTest (pCall Φ_is_number (aCons (pVar 0) (aNil))))) (sRet (pTup (aCons (pC (.str (PySem.Str.ofString "number"))) (aCons (pCB bInt (aCons (pVar 0) (aNil))) (aNil))))) (sNext))
      (sSeq (sIf (pOr (pTest (pOp gIn (pVar 0) (pC d_LONG_SIGNS))) (pTest (pOp gIn (pVar 0) (pC d_SHORT_SIGNS)))) (sRet (pTup (aCons (pC (.str (PySem.Str.ofString "sign"))) (aCons (pVar 0) (aNil))))) (sNext))
      (sRet (pTup (aCons (pC (.str (PySem.Str.ofString "error"))) (aCons (pC (.str (PySem.Str.ofString ""))) (aNil))))))) [some (.str (T p))] M =
      .ok (.rt (.tup [(readT p).1, (readT p).2])) M := by
    intro hw
    have hr : [(readT p).1, (readT p).2] = if ch p 0 ∈ DIG ∧ isNum p = true then [kNum, .int ((val p : Nat) : Int)] else if p ∈ LONG ∨ p ∈ SHORT then [kSign, .str (T p)] else [kErr, vErr] := by
      unfold readT
      rw [if_neg hw]
      repeat' split
      all_goals rfl
    rw [hr]
    by_cases c2 : ch p 0 ∈ DIG
    · have hn := is_number_ok w hp h0 (hd c2)
      by_cases c3 : isNum p = true
      · have hlen : p.length ≤ 640 := by
          unfold isNum at c3
          split at c3
          · have := of_decide_eq_true c3; omega
          · simp at c3; omega
        have hi := e_intS (M := M) (hd c2) h0 hlen
        simp [sSeq, sIf, sRet, sNext, pVar, pC, pOp, pTest, pAnd, pTup, aNil, aCons, asB, line, pCall, pCB, hx, i2, hn, hi, c2, c3, kNum]
      · have c3' : isNum p = false := by simpa using c3
        rw [if_neg (fun h => c3 h.2), ← last]
        conv => lhs; rw [sSeq]
        simp [sIf, sNext, pVar, pC, pOp, pTest, pAnd, aNil, aCons, asB, pCall, hx, i2, hn, c2, c3']
    · rw [if_neg (fun h => c2 h.1), ← last]
      conv => lhs; rw [sSeq]
      simp [sIf, sNext, pVar, pC, pOp, pTest, pAnd, aNil, aCons, asB, hx, i2, c2]
  by_cases c1 : ch p 0 ∈ LET
  · by_cases c2 : p.length ≤ 12
    · have c2' : (p.length : Int) ≤ 12 := by omega
      have hr : readT p = (kWord, .str (T p)) := by unfold readT; rw [if_pos ⟨c1, c2⟩]
      rw [hr]
      simp [sSeq, sIf, sRet, pVar, pC, pOp, pTest, pAnd, pTup, aNil, aCons, asB, line, pCB, hx, i1, hl, c1, c2', kWord]
    · have c2' : ¬ (p.length : Int) ≤ 12 := by omega
      rw [← second (fun h => c2 h.2)]
      conv => lhs; rw [sSeq]
      simp [sIf, sNext, pVar, pC, pOp, pTest, pAnd, aNil, aCons, asB, pCB, hx, i1, hl, c1, c2']
  · rw [← second (fun h => c1 h.1)]
    conv => lhs; rw [sSeq]
    simp [sIf, sNext, pVar, pC, pOp, pTest, pAnd, aNil, aCons, asB, hx, i1, c1]

/-! ### the pieces of a text -/
theorem run_pre (S : List Nat) : ∀ l : List Nat, runOf S l = l.take (runOf S l).length
  | [] => rfl
  | c :: l => by
    unfold runOf
    by_cases h : c ∈ S
    · rw [List.takeWhile_cons_of_pos (by simpa using h), List.length_cons, List.take_succ_cons]
      have := run_pre S l
      unfold runOf at this
      rw [← this]
    · rw [List.takeWhile_cons_of_neg (by simpa using h)]
      rfl
theorem run_mem {S : List Nat} : ∀ {l : List Nat}, ∀ c ∈ runOf S l, c ∈ S
  | [], c, h => by cases h
  | d :: l, c, h => by
    unfold runOf at h
    by_cases hd : d ∈ S
    · rw [List.takeWhile_cons_of_pos (by simpa using hd)] at h
      rcases List.mem_cons.mp h with e | e
      · rw [e]; exact hd
      · exact run_mem (l := l) c e
    · rw [List.takeWhile_cons_of_neg (by simpa using hd)] at h
      cases h
theorem run_len (S l : List Nat) : (runOf S l).length ≤ l.length := by
  have := congrArg List.length (run_pre S l)
  rw [List.length_take] at this
  omega
theorem cut_run (S l : List Nat) (s : Nat) (hs : s ≤ l.length) : cut l s (s + (runOf S (l.drop s)).length) = runOf S (l.drop s) := by
  have h := run_len S (l.drop s)
  rw [List.length_drop] at h
  unfold cut
  rw [Nat.min_eq_left hs, Nat.min_eq_left (by omega), Nat.add_sub_cancel_left]
  exact (run_pre S (l.drop s)).symm
theorem run_head {S l : List Nat} {s : Nat} (hs : s < l.length) (h : ch l s ∈ S) : ∃ r, runOf S (l.drop s) = ch l s :: r := by
  rw [List.drop_eq_getElem_cons hs, ch_eq hs]
  unfold runOf
  rw [List.takeWhile_cons_of_pos (by simpa using h)]
  exact ⟨_, rfl⟩
theorem let_wrd : ∀ c ∈ LET, c ∈ WRD := by decide
theorem let_dig : ∀ c ∈ LET, c ∉ DIG := by decide
theorem dig_digs : ∀ c ∈ DIG, 48 ≤ c ∧ c ≤ 57 := by decide
theorem wrd_nl : ∀ c ∈ WRD, c ≠ 10 := by decide
theorem dig_nl : ∀ c ∈ DIG, c ≠ 10 := by decide
theorem long_nl : ∀ p ∈ LONG, ∀ c ∈ p, c ≠ 10 := by decide
theorem long_len : ∀ p ∈ LONG, p.length = 2 := by decide
def piece (l : List Nat) (s : Nat) : List Nat := cut l s (tokEnd l s)
/-- what a token is, by its first sign -/
inductive Pc (l : List Nat) (s : Nat) : Prop where
  | wrd (h : ch l s ∈ LET) (e : piece l s = runOf WRD (l.drop s)) (r : List Nat) (er : runOf WRD (l.drop s) = ch l s :: r) (t : tokEnd l s = s + (piece l s).length)
  | num (h1 : ch l s ∉ LET) (h : ch l s ∈ DIG) (e : piece l s = runOf DIG (l.drop s)) (r : List Nat) (er : runOf DIG (l.drop s) = ch l s :: r) (t : tokEnd l s = s + (piece l s).length)
  | two (h1 : ch l s ∉ LET) (h2 : ch l s ∉ DIG) (h : cut l s (s + 2) ∈ LONG) (e : piece l s = cut l s (s + 2)) (t : tokEnd l s = s + 2)
  | one (h1 : ch l s ∉ LET) (h2 : ch l s ∉ DIG) (h : cut l s (s + 2) ∉ LONG) (e : piece l s = [ch l s]) (t : tokEnd l s = s + 1)
theorem cut_one {l : List Nat} {s : Nat} (hs : s < l.length) : cut l s (s + 1) = [ch l s] := by
  unfold cut
  rw [Nat.min_eq_left (by omega), Nat.min_eq_left (by omega), Nat.add_sub_cancel_left, List.drop_eq_getElem_cons hs, ch_eq hs]
  rfl
theorem pc_of {l : List Nat} {s : Nat} (hs : s < l.length) : Pc l s := by
  by_cases c1 : ch l s ∈ LET
  · have t : tokEnd l s = s + (runOf WRD (l.drop s)).length := by unfold tokEnd; rw [if_pos c1]
    have e : piece l s = runOf WRD (l.drop s) := by unfold piece; rw [t]; exact cut_run WRD l s (by omega)
    obtain ⟨r, er⟩ := run_head hs (let_wrd _ c1)
    exact .wrd c1 e r er (by rw [e]; exact t)
  · by_cases c2 : ch l s ∈ DIG
    · have t : tokEnd l s = s + (runOf DIG (l.drop s)).length := by unfold tokEnd; rw [if_neg c1, if_pos c2]
      have e : piece l s = runOf DIG (l.drop s) := by unfold piece; rw [t]; exact cut_run DIG l s (by omega)
      obtain ⟨r, er⟩ := run_head hs c2
      exact .num c1 c2 e r er (by rw [e]; exact t)
    · by_cases c3 : cut l s (s + 2) ∈ LONG
      · have t : tokEnd l s = s + 2 := by unfold tokEnd; rw [if_neg c1, if_neg c2, if_pos c3]
        exact .two c1 c2 c3 (by unfold piece; rw [t]) t
      · have t : tokEnd l s = s + 1 := by unfold tokEnd; rw [if_neg c1, if_neg c2, if_neg c3]
        exact .one c1 c2 c3 (by unfold piece; rw [t]; exact cut_one hs) t
theorem cut_len (l : List Nat) (a b : Nat) : (cut l a b).length ≤ l.length := by
  unfold cut
  rw [List.length_take, List.length_drop]
  omega
theorem two_len {l : List Nat} {s : Nat} (h : cut l s (s + 2) ∈ LONG) : s + 2 ≤ l.length := by
  have := long_len _ h
  unfold cut at this
  rw [List.length_take, List.length_drop] at this
  omega
theorem tok_gt {l : List Nat} {s : Nat} (hs : s < l.length) : s < tokEnd l s ∧ tokEnd l s ≤ l.length := by
  cases pc_of hs with
  | wrd h e r er t =>
    have h1 := run_len WRD (l.drop s)
    rw [List.length_drop] at h1
    rw [t, e]
    have : 0 < (runOf WRD (l.drop s)).length := by rw [er]; simp
    omega
  | num h1 h e r er t =>
    have h1 := run_len DIG (l.drop s)
    rw [List.length_drop] at h1
    rw [t, e]
    have : 0 < (runOf DIG (l.drop s)).length := by rw [er]; simp
    omega
  | two h1 h2 h e t =>
    have := two_len h
    omega
  | one h1 h2 h e t => omega
theorem piece_ok {l : List Nat} {s : Nat} (hs : s < l.length) : piece l s ≠ [] ∧ (ch (piece l s) 0 ∈ DIG → Digs (piece l s)) ∧ ch (piece l s) 0 = ch l s := by
  cases pc_of hs with
  | wrd h e r er t =>
    rw [e, er]
    exact ⟨by simp, fun z => absurd z (let_dig _ h), rfl⟩
  | num h1 h e r er t =>
    refine ⟨by rw [e, er]; simp, fun _ c hc => dig_digs c (run_mem c (by rw [← e]; exact hc)), by rw [e, er]; rfl⟩
  | two h1 h2 h e t =>
    have hl := two_len h
    have e0 : ch (cut l s (s + 2)) 0 = ch l s := by
      unfold cut
      rw [Nat.min_eq_left (show s ≤ l.length by omega), Nat.min_eq_left hl, Nat.add_sub_cancel_left, List.drop_eq_getElem_cons hs, ch_eq hs]
      rfl
    rw [e]
    exact ⟨fun z => by rw [z] at h; exact absurd h (by decide), fun z => absurd (by rw [← e0]; exact z) h2, e0⟩
  | one h1 h2 h e t =>
    rw [e]
    exact ⟨by simp, fun z => absurd z h2, rfl⟩
theorem piece_nl {l : List Nat} {s : Nat} (hs : s < l.length) (h : ch l s ≠ 10) : ∀ c ∈ piece l s, c ≠ 10 := by
  cases pc_of hs with
  | wrd h e r er t => exact fun c hc => wrd_nl c (run_mem c (by rw [← e]; exact hc))
  | num h1 h e r er t => exact fun c hc => dig_nl c (run_mem c (by rw [← e]; exact hc))
  | two h1 h2 h e t => rw [e]; exact long_nl _ h
  | one h1 h2 h' e t =>
    rw [e]
    intro c hc
    rw [List.mem_singleton.mp hc]
    exact h
end M

set_option Elab.async false
set_option linter.all false
set_option maxRecDepth 100000
set_option maxHeartbeats 2000000
namespace M
open PySem L2 Pd G
local macro_rules | `(tactic| walk_at "pd") => `(tactic| simp [sSeq, sIf, sAsg, sRet, sRetN, sDrop, sNext, sBreak, sCont, sAug, fName, fTup, fCons, fNil, fSub, pVar, pC, pOp, pUn, pTest, pAnd, pOr, pNot, pIf, pAndV, pOrV, pNotV, aNil, aCons, pTup, pLst, pCall, pCB, pSl, oNone, oSome, asB, line, *])

def lastLen (l : List Nat) : Nat := (l.reverse.takeWhile (fun c => decide (c ≠ 10))).length
def nls (l : List Nat) : Nat := l.count 10
theorem take_succ {l : List Nat} {s : Nat} (hs : s < l.length) : l.take (s + 1) = l.take s ++ [ch l s] := by
  rw [← ch_eq hs, ← List.take_append_getElem hs]
theorem last_nl {l : List Nat} {s : Nat} (hs : s < l.length) (h : ch l s = 10) : lastLen (l.take (s + 1)) = 0 ∧ nls (l.take (s + 1)) = nls (l.take s) + 1 := by
  rw [take_succ hs, h]
  unfold lastLen nls
  rw [List.reverse_append, List.count_append]
  simp
theorem last_ch {l : List Nat} {s : Nat} (hs : s < l.length) (h : ch l s ≠ 10) : lastLen (l.take (s + 1)) = lastLen (l.take s) + 1 ∧ nls (l.take (s + 1)) = nls (l.take s) := by
  rw [take_succ hs]
  unfold lastLen nls
  rw [List.reverse_append, List.count_append]
  simp [h]
theorem last_run {l : List Nat} {s : Nat} : ∀ (k : Nat), s + k ≤ l.length → (∀ c ∈ cut l s (s + k), c ≠ 10) → lastLen (l.take (s + k)) = lastLen (l.take s) + k ∧ nls (l.take (s + k)) = nls (l.take s)
  | 0, _, _ => ⟨rfl, rfl⟩
  | k + 1, h, hc => by
    have e : ∀ j, s + j ≤ l.length → cut l s (s + j) = (l.drop s).take j := fun j hj => by
      unfold cut
      rw [Nat.min_eq_left (show s ≤ l.length by omega), Nat.min_eq_left hj, Nat.add_sub_cancel_left]
    have hlt : k < (l.drop s).length := by rw [List.length_drop]; omega
    have hd : (l.drop s)[k] = ch l (s + k) := by
      rw [List.getElem_drop, ch_eq (show s + k < l.length by omega)]
    have et : (l.drop s).take (k + 1) = (l.drop s).take k ++ [ch l (s + k)] := by
      rw [← hd, ← List.take_append_getElem hlt]
    rw [e (k + 1) h, et] at hc
    have ih := last_run (l := l) (s := s) k (by omega) fun c hx => hc c (by rw [e k (by omega)] at hx; exact List.mem_append_left _ hx)
    have h1 := last_ch (l := l) (s := s + k) (by omega) (hc _ (List.mem_append_right _ (List.mem_singleton.mpr rfl)))
    rw [show s + (k + 1) = s + k + 1 by omega, h1.1, h1.2, ih.1, ih.2]
    exact ⟨by omega, rfl⟩
theorem last_tok {l : List Nat} {s : Nat} (hs : s < l.length) (h : ch l s ≠ 10) : lastLen (l.take (tokEnd l s)) = lastLen (l.take s) + (tokEnd l s - s) ∧ nls (l.take (tokEnd l s)) = nls (l.take s) := by
  obtain ⟨h1, h2⟩ := tok_gt hs
  have e : s + (tokEnd l s - s) = tokEnd l s := by omega
  have := last_run (l := l) (s := s) (tokEnd l s - s) (by omega) (by rw [e]; exact piece_nl hs h)
  rw [e] at this
  exact this
theorem last_le (l : List Nat) : lastLen l ≤ l.length := by
  unfold lastLen
  have := run_len (l := l.reverse) 
  refine Nat.le_trans (List.Sublist.length_le (List.takeWhile_sublist _)) ?_
  rw [List.length_reverse]
  exact Nat.le_refl _
def entry (l : List Nat) (s : Nat) : D := .tup [(readT (piece l s)).1, (readT (piece l s)).2, .int ((1 + nls (l.take s) : Nat) : Int), .int ((lastLen (l.take s) + 1 : Nat) : Int)]
def errT (p : List Nat) : Bool := !(decide (ch p 0 ∈ LET ∧ p.length ≤ 12) || decide (ch p 0 ∈ DIG ∧ isNum p = true) || decide (p ∈ LONG ∨ p ∈ SHORT))
theorem err_eq {M : PM} (p : List Nat) : gEq M (readT p).1 kErr = .ok (.bl (errT p)) M := by
  unfold readT errT
  by_cases c1 : ch p 0 ∈ LET ∧ p.length ≤ 12
  · rw [if_pos c1]; simp [c1, kWord, kErr]; decide
  · rw [if_neg c1]
    by_cases c2 : ch p 0 ∈ DIG ∧ isNum p = true
    · rw [if_pos c2]; simp [c1, c2, kNum, kErr]; decide
    · rw [if_neg c2]
      by_cases c3 : p ∈ LONG ∨ p ∈ SHORT
      · rw [if_pos c3]; simp [c1, c2, c3, kSign, kErr]; decide
      · rw [if_neg c3]; simp [c1, c2, c3, kErr]
/-- the tokens from s on, by at most n turns -/
def toksF (l : List Nat) : Nat → Nat → List D
  | 0, _ => []
  | n + 1, s => if s < l.length then (if ch l s = 10 ∨ ch l s = 32 then toksF l n (s + 1) else if errT (piece l s) = true then [entry l s] else entry l s :: toksF l n (tokEnd l s)) else []
theorem toksF_fuel (l : List Nat) : ∀ (n m s : Nat), l.length - s ≤ n → l.length - s ≤ m → toksF l n s = toksF l m s
  | 0, 0, _, _, _ => rfl
  | 0, m + 1, s, h, _ => by
    unfold toksF
    rw [if_neg (by omega)]
  | n + 1, 0, s, _, h => by
    unfold toksF
    rw [if_neg (by omega)]
  | n + 1, m + 1, s, h1, h2 => by
    unfold toksF
    by_cases hs : s < l.length
    · rw [if_pos hs, if_pos hs, toksF_fuel l n m (s + 1) (by omega) (by omega), toksF_fuel l n m (tokEnd l s) (by have := (tok_gt hs).1; omega) (by have := (tok_gt hs).1; omega)]
    · rw [if_neg hs, if_neg hs]
def toks (l : List Nat) : List D := toksF l l.length 0
theorem entry_cl (n : Nat) (l : List Nat) (s : Nat) : clD n (entry l s) = true := by
  unfold entry readT
  repeat' split
  all_goals rfl
theorem toksF_cl (k : Nat) (l : List Nat) : ∀ n s, clL k (toksF l n s) = true
  | 0, _ => rfl
  | n + 1, s => by
    unfold toksF
    split
    · split
      · exact toksF_cl k l n _
      · split
        · simp [clL, entry_cl]
        · simp [clL, entry_cl, toksF_cl k l n]
    · rfl
theorem toksF_len (l : List Nat) : ∀ n s, (toksF l n s).length ≤ n
  | 0, _ => Nat.le_refl _
  | n + 1, s => by
    unfold toksF
    split
    · split
      · exact Nat.le_trans (toksF_len l n _) (by omega)
      · split
        · simp
        · simp [toksF_len l n]
    · simp
end M

set_option Elab.async false
set_option linter.all false
set_option maxRecDepth 100000
set_option maxHeartbeats 2000000
namespace M
open PySem L2 Pd G
local macro_rules | `(tactic| walk_at "pd") => `(tactic| simp [sSeq, sIf, sAsg, sRet, sRetN, sDrop, sNext, sBreak, sCont, sAug, fName, fTup, fCons, fNil, fSub, pVar, pC, pOp, pUn, pTest, pAnd, pOr, pNot, pIf, pAndV, pOrV, pNotV, aNil, aCons, pTup, pLst, pCall, pCB, pSl, oNone, oSome, asB, line, *])

theorem sNl : PySem.Str.ofString "\n" = T [10] := rfl
theorem sSp : PySem.Str.ofString " " = T [32] := rfl
theorem e_app {M : PM} {ds : List D} {d : D} {fo fe : FE} {ρ : Rho} (ho : fo ρ (M ++ [.lst ds]) = .ok (.adr M.length) (M ++ [.lst ds])) (he : fe ρ (M ++ [.lst ds]) = .ok d (M ++ [.lst ds])) (hl : ds.length < 16777216) :
    pApp fo fe ρ (M ++ [.lst ds]) = .ok .non (M ++ [.lst (ds ++ [d])]) := by
  unfold pApp
  rw [ho]
  have h1 : isA (M ++ [.lst ds]) (.adr M.length) = true := by
    show (match (M ++ [MO.lst ds])[M.length]? with | some (.lst _) => true | _ => false) = true
    rw [get_last]
  simp only [Out.bind_ok, h1, if_true, he, get_last]
  rw [if_pos hl, set_last]
theorem tokens_loop {M : PM} (w : WfM M) (l : List Nat) (hl : l.length ≤ 5000) : ∀ (n s : Nat) (found : List D) (x5 x6 x7 : Option D), s ≤ l.length → l.length - s < n → found.length ≤ s → clL M.length found = true →
    ∃ ρ, sWhile (lc_tokens_1 Φ_token_end Φ_read_token) (lb_tokens_1 Φ_token_end Φ_read_token) n [some (.str (T l)), some (.adr M.length), some (.int ((1 + nls (l.take s) : Nat) : Int)), some (.int ((s : Int) - (lastLen (l.take s) : Int))), some (.int (s : Int)), x5, x6, x7] (M ++ [.lst found]) = .ok (.nx ρ) (M ++ [.lst (found ++ toksF l n s)]) ∧ ρ[1]? = some (some (.adr M.length))
  | 0, _, _, _, _, _, _, h, _, _ => by omega
  | n + 1, s, found, x5, x6, x7, hs, h, hf, hcf => by
    unfold sWhile
    have hz : l.length ≤ 16777216 := by omega
    have hln := e_lenS (M := M ++ [.lst found]) hz
    unfold toksF
    by_cases hlt : s < l.length
    · have hlt' : (s : Int) < l.length := by omega
      have hx : gIx (M ++ [.lst found]) (.str (T l)) (.int (s : Int)) = .ok (.str (T [ch l s])) (M ++ [.lst found]) := by rw [e_ixS hlt hz, ch_eq hlt]
      rw [if_pos hlt]
      by_cases c1 : ch l s = 10
      · obtain ⟨h1, h2⟩ := last_nl hlt c1
        obtain ⟨ρ, hr, h3⟩ := tokens_loop w l hl n (s + 1) found x5 x6 x7 hlt (by omega) (by omega) hcf
        refine ⟨ρ, ?_, h3⟩
        rw [h1, h2] at hr
        have e1 : ((1 + (nls (l.take s) + 1) : Nat) : Int) = ((1 + nls (l.take s) : Nat) : Int) + 1 := by omega
        have e2 : ((s + 1 : Nat) : Int) - ((0 : Nat) : Int) = (s : Int) + 1 := by omega
        have e3 : ((s + 1 : Nat) : Int) = (s : Int) + 1 := by omega
        rw [e1, e2, e3] at hr
        have hf1 : ch l s = 10 ∨ ch l s = 32 := .inl c1
        rw [if_pos hf1, ← hr]
        simp [lc_tokens_1, lb_tokens_1, sNl, sSp, sSeq, sIf, sAsg, sAug, fName, pVar, pC, pOp, pTest, pCB, aCons, aNil, asB, hln, hx, hlt', c1]
      · by_cases c2 : ch l s = 32
        · obtain ⟨h1, h2⟩ := last_ch hlt c1
          obtain ⟨ρ, hr, h3⟩ := tokens_loop w l hl n (s + 1) found x5 x6 x7 hlt (by omega) (by omega) hcf
          refine ⟨ρ, ?_, h3⟩
          rw [h1, h2] at hr
          have e2 : ((s + 1 : Nat) : Int) - ((lastLen (l.take s) + 1 : Nat) : Int) = (s : Int) - (lastLen (l.take s) : Int) := by omega
          have e3 : ((s + 1 : Nat) : Int) = (s : Int) + 1 := by omega
          rw [e2, e3] at hr
          rw [if_pos (Or.inr c2), ← hr]
          simp [lc_tokens_1, lb_tokens_1, sNl, sSp, sSeq, sIf, sAsg, sAug, fName, pVar, pC, pOp, pTest, pCB, aCons, aNil, asB, hln, hx, hlt', c1, c2]
        · rw [if_neg (fun z => z.elim c1 c2)]
          have w2 : WfM (M ++ [.lst found]) := w.snoc (clL_mono (by omega) found hcf)
          have ht := token_end_ok w2 l s hl hlt
          obtain ⟨hp0, hpd, _⟩ := piece_ok hlt
          have hplen : (piece l s).length ≤ 5000 := Nat.le_trans (cut_len l s _) hl
          have hrd := read_token_ok w2 hplen hp0 hpd
          have hsl : gSl (M ++ [.lst found]) (.str (T l)) (some (s : Int)) (some (tokEnd l s : Int)) = .ok (.str (T (piece l s))) (M ++ [.lst found]) := by
            rw [e_slS (by rw [T_len]; exact hz), cutS_nat]
            rfl
          have hll : lastLen (l.take s) ≤ s := by
            have := last_le (l.take s)
            rw [List.length_take] at this
            omega
          have ecol : (s : Int) - ((s : Int) - (lastLen (l.take s) : Int)) + 1 = ((lastLen (l.take s) + 1 : Nat) : Int) := by omega
          have hee := err_eq (M := M ++ [.lst (found ++ [entry l s])]) (piece l s)
          have happ : ∀ x5 : Option D, pApp (pVar 1) (pTup (aCons (pVar 6) (aCons (pVar 7) (aCons (pVar 2) (aCons (pOp gAdd (pOp gSub (pVar 4) (pVar 3)) (pC (.int 1))) (aNil)))))) [some (.str (T l)), some (.adr M.length), some (.int ((1 + nls (l.take s) : Nat) : Int)), some (.int ((s : Int) - (lastLen (l.take s) : Int))), some (.int (s : Int)), x5, some (readT (piece l s)).1, some (readT (piece l s)).2] (M ++ [.lst found]) = .ok .non (M ++ [.lst (found ++ [entry l s])]) := fun x5 => by
            refine e_app (by simp [pVar]) ?_ (by omega)
            simp only [pTup, aCons, aNil, pVar, pOp, pC, List.getElem?_cons_zero, List.getElem?_cons_succ, Out.bind_ok, e_sub, e_add, ecol]
            rw [if_pos (by show 4 ≤ 16777216; decide)]
            rfl
          obtain ⟨h1, h2⟩ := last_tok hlt c1
          obtain ⟨t1, t2⟩ := tok_gt hlt
          by_cases c3 : errT (piece l s) = true
          · rw [if_pos c3]
            refine ⟨[some (.str (T l)), some (.adr M.length), some (.int ((1 + nls (l.take s) : Nat) : Int)), some (.int ((s : Int) - (lastLen (l.take s) : Int))), some (.int (s : Int)), some (.int (tokEnd l s : Int)), some (readT (piece l s)).1, some (readT (piece l s)).2], ?_, rfl⟩
            have hee' : gEq (M ++ [.lst (found ++ [entry l s])]) (readT (piece l s)).1 (.str (PySem.Str.ofString "error")) = .ok (.bl true) (M ++ [.lst (found ++ [entry l s])]) := by rw [← c3]; exact hee
            have happ' := happ (some (.int (tokEnd l s : Int)))
            simp [lc_tokens_1, lb_tokens_1, sNl, sSp, sSeq, sIf, sAsg, sDrop, sBreak, fName, fTup, fCons, fNil, pVar, pC, pOp, pTest, pCB, pCall, pSl, oSome, aCons, aNil, asB, hln, hx, hlt', c1, c2, ht, hrd, hsl] at happ' ⊢
            rw [happ']
            simp [hee', asB, sNext]
          · have c3' : errT (piece l s) = false := by simpa using c3
            rw [if_neg c3]
            obtain ⟨ρ, hr, h3⟩ := tokens_loop w l hl n (tokEnd l s) (found ++ [entry l s]) (some (.int (tokEnd l s : Int))) (some (readT (piece l s)).1) (some (readT (piece l s)).2) t2 (by omega) (by rw [List.length_append]; simp; omega) (by rw [clL_append, hcf]; simp [clL, entry_cl])
            refine ⟨ρ, ?_, h3⟩
            rw [h1, h2] at hr
            have e2 : (tokEnd l s : Int) - ((lastLen (l.take s) + (tokEnd l s - s) : Nat) : Int) = (s : Int) - (lastLen (l.take s) : Int) := by omega
            rw [e2, List.append_assoc] at hr
            have hee' : gEq (M ++ [.lst (found ++ [entry l s])]) (readT (piece l s)).1 (.str (PySem.Str.ofString "error")) = .ok (.bl false) (M ++ [.lst (found ++ [entry l s])]) := by rw [← c3']; exact hee
            have happ' := happ (some (.int (tokEnd l s : Int)))
            rw [show entry l s :: toksF l n (tokEnd l s) = [entry l s] ++ toksF l n (tokEnd l s) from rfl, ← hr]
            simp [lc_tokens_1, lb_tokens_1, sNl, sSp, sSeq, sIf, sAsg, sDrop, sBreak, sNext, fName, fTup, fCons, fNil, pVar, pC, pOp, pTest, pCB, pCall, pSl, oSome, aCons, aNil, asB, hln, hx, hlt', c1, c2, ht, hrd, hsl] at happ' ⊢
            rw [happ']
            simp [hee', asB, sNext]
    · have hlt' : ¬ (s : Int) < l.length := by omega
      rw [if_neg hlt, List.append_nil]
      refine ⟨[some (.str (T l)), some (.adr M.length), some (.int ((1 + nls (l.take s) : Nat) : Int)), some (.int ((s : Int) - (lastLen (l.take s) : Int))), some (.int (s : Int)), x5, x6, x7], ?_, rfl⟩
      simp [lc_tokens_1, pVar, pOp, pTest, pCB, aCons, aNil, asB, hln, hlt']
theorem tokens_ok {M : PM} (w : WfM M) (l : List Nat) (hl : l.length ≤ 5000) : Φ_tokens [.str (T l)] M = .ok (.tup (toks l)) M := by
  obtain ⟨ρ, h1, h2⟩ := tokens_loop w l hl 100000 0 [] none none none (Nat.zero_le _) (by omega) (Nat.le_refl _) rfl
  have et : toksF l 100000 0 = toks l := toksF_fuel l _ _ _ (by omega) (by omega)
  rw [et] at h1
  refine run_pure (J := [.lst (toks l)]) rfl w ?_ (toksF_cl _ l _ _)
  have e0 : rho0 N_tokens [.str (T l)] = [some (.str (T l)), none, none, none, none, none, none, none] := rfl
  rw [e0]
  have e1 : ((1 + nls (l.take 0) : Nat) : Int) = 1 := by simp [nls]
  have e2 : ((0 : Nat) : Int) - (lastLen (l.take 0) : Int) = 0 := by simp [lastLen]
  rw [e1, e2] at h1
  have hs : seqOf (M ++ [.lst (toks l)]) (.adr M.length) = some (toks l) := seq_adr (get_last _ _)
  have ht := e_tup (M := M ++ [.lst (toks l)]) hs
  unfold g_tokens
  simp only [sSeq, sAsg, pNew, aNil, Out.bind_ok, fName, pC, List.set_cons_succ, List.set_cons_zero, List.length_nil]
  rw [if_pos (by decide)]
  simp only [Out.bind_ok, List.set_cons_succ, List.set_cons_zero]
  rw [show ([] : List D) ++ toks l = toks l from rfl] at h1
  rw [show ((0 : Nat) : Int) = 0 from rfl] at h1
  rw [h1]
  simp [sRet, pCB, aCons, aNil, pVar, h2, ht]
end M

set_option Elab.async false
set_option linter.all false
set_option maxRecDepth 100000
set_option maxHeartbeats 2000000
namespace M
open PySem L2 Pd G
local macro_rules | `(tactic| walk_at "pd") => `(tactic| simp [sSeq, sIf, sAsg, sRet, sRetN, sDrop, sNext, sBreak, sCont, sAug, fName, fTup, fCons, fNil, fSub, pVar, pC, pOp, pUn, pTest, pAnd, pOr, pNot, pIf, pAndV, pOrV, pNotV, aNil, aCons, pTup, pLst, pCall, pCB, pSl, oNone, oSome, asB, line, *])

/-! ### the law's own run of signs -/
theorem sE : PySem.Str.ofString "" = T [] := rfl
theorem run_of_loop {M : PM} (S : List Nat) (x0 x1 : Option D) : ∀ (l acc : List Nat) (x4 : Option D), acc.length + l.length ≤ 5000 →
    (∃ ρ, sEach (fName 4) lb__law_run_of_1 (l.map fun c => .str ⟨#[c]⟩) [x0, x1, some (.str (T S)), some (.str (T acc)), x4] M = .ok (.rt (.str (T (acc ++ runOf S l)))) M ∨
      (sEach (fName 4) lb__law_run_of_1 (l.map fun c => .str ⟨#[c]⟩) [x0, x1, some (.str (T S)), some (.str (T acc)), x4] M = .ok (.nx ρ) M ∧ ρ[3]? = some (some (.str (T (acc ++ runOf S l))))))
  | [], acc, x4, _ => ⟨_, .inr ⟨rfl, by simp [runOf]⟩⟩
  | c :: l, acc, x4, h => by
    have h' : acc.length + l.length + 1 ≤ 5000 := by simpa [Nat.add_assoc] using h
    have hn := e_notInS (M := M) c (T S)
    by_cases hc : c ∈ S
    · have er : runOf S (c :: l) = c :: runOf S l := by unfold runOf; rw [List.takeWhile_cons_of_pos (by simpa using hc)]
      have ha : gAdd M (.str (T acc)) (.str (T [c])) = .ok (.str (T (acc ++ [c]))) M := by rw [e_addS (by rw [T_len, T_len]; simp; omega), T_app]
      obtain ⟨ρ, ih⟩ := run_of_loop (M := M) S x0 x1 l (acc ++ [c]) (some (.str (T [c]))) (by simp; omega)
      refine ⟨ρ, ?_⟩
      have step : sEach (fName 4) lb__law_run_of_1 ((c :: l).map fun c => .str ⟨#[c]⟩) [x0, x1, some (.str (T S)), some (.str (T acc)), x4] M = sEach (fName 4) lb__law_run_of_1 (l.map fun c => .str ⟨#[c]⟩) [x0, x1, some (.str (T S)), some (.str (T (acc ++ [c]))), some (.str (T [c]))] M := by
        have hb : lb__law_run_of_1 [x0, x1, some (.str (T S)), some (.str (T acc)), some (.str (T [c]))] M = .ok (.nx [x0, x1, some (.str (T S)), some (.str (T (acc ++ [c]))), some (.str (T [c]))]) M := by
          simp [lb__law_run_of_1, sSeq, sIf, sAsg, sNext, fName, pVar, pOp, pTest, asB, hn, hc, ha]
        rw [List.map_cons]
        conv => lhs; unfold sEach
        simp [fName, T_one, hb]
      rw [step, er]
      rw [List.append_assoc] at ih
      exact ih
    · have er : runOf S (c :: l) = [] := by unfold runOf; rw [List.takeWhile_cons_of_neg (by simpa using hc)]
      refine ⟨[], .inl ?_⟩
      rw [er, List.append_nil, List.map_cons]
      unfold sEach
      simp [lb__law_run_of_1, sSeq, sIf, sRet, fName, pVar, pOp, pTest, asB, T_one, hn, hc]
theorem law_run_ok {M : PM} (w : WfM M) (S l : List Nat) (s : Nat) (hl : l.length ≤ 5000) : Φ__law_run_of [.str (T l), .int (s : Int), .str (T S)] M = .ok (.str (T (runOf S (l.drop s)))) M := by
  refine run_pure0 rfl w ?_ rfl
  have e0 : rho0 N__law_run_of [.str (T l), .int (s : Int), .str (T S)] = [some (.str (T l)), some (.int (s : Int)), some (.str (T S)), none, none] := rfl
  rw [e0]
  have hs : gSl M (.str (T l)) (some (s : Int)) none = .ok (.str (T (l.drop s))) M := by rw [e_slS (by rw [T_len]; omega), cutS_from]
  obtain ⟨ρ, h⟩ := run_of_loop (M := M) S (some (.str (T l))) (some (.int (s : Int))) (l.drop s) [] none (by rw [List.length_drop]; simp; omega)
  unfold g__law_run_of
  rw [sE]
  rcases h with h | ⟨h, h3⟩
  · simp [sSeq, sAsg, sFor, pItems, pSl, oSome, oNone, fName, pVar, pC, hs] at h ⊢
    rw [h]
    simp
  · simp [sSeq, sAsg, sFor, pItems, pSl, oSome, oNone, fName, pVar, pC, hs] at h h3 ⊢
    rw [h]
    simp [sRet, pVar, h3]
/-! ### the law's own token -/
def lawT (l : List Nat) (s : Nat) : D × D × Nat :=
  if ch l s ∈ LET then (if (runOf WRD (l.drop s)).length < 13 then (kWord, .str (T (runOf WRD (l.drop s))), (runOf WRD (l.drop s)).length) else (kErr, vErr, 1))
  else if ch l s ∈ DIG then (if (runOf DIG (l.drop s)).length > 5 ∨ 10000 < val (runOf DIG (l.drop s)) ∨ shown (val (runOf DIG (l.drop s))) ≠ runOf DIG (l.drop s) then (kErr, vErr, 1) else (kNum, .int ((val (runOf DIG (l.drop s)) : Nat) : Int), (runOf DIG (l.drop s)).length))
  else if cut l s (s + 2) ∈ LONG then (kSign, .str (T (cut l s (s + 2))), 2)
  else if [ch l s] ∈ SHORT then (kSign, .str (T [ch l s]), 1) else (kErr, vErr, 1)
/-- both ways of reading a token agree -/
theorem lawT_eq {l : List Nat} {s : Nat} (hs : s < l.length) : (lawT l s).1 = (readT (piece l s)).1 ∧ (lawT l s).2.1 = (readT (piece l s)).2 ∧ (errT (piece l s) = false → (lawT l s).2.2 = tokEnd l s - s) ∧ 1 ≤ (lawT l s).2.2 := by
  obtain ⟨_, _, hc0⟩ := piece_ok hs
  have nosign : ∀ p : List Nat, 2 < p.length → ¬ (p ∈ LONG ∨ p ∈ SHORT) := fun p hp z => by
    have h1 : ∀ q ∈ LONG, q.length ≤ 2 := by decide
    have h2 : ∀ q ∈ SHORT, q.length ≤ 2 := by decide
    rcases z with z | z
    · have := h1 p z; omega
    · have := h2 p z; omega
  cases pc_of hs with
  | wrd h e r er t =>
    have hd : ch l s ∉ DIG := let_dig _ h
    unfold lawT readT errT
    rw [hc0, if_pos h, e]
    have hpos : 0 < (runOf WRD (l.drop s)).length := by rw [er]; simp
    by_cases c : (runOf WRD (l.drop s)).length < 13
    · rw [if_pos c, if_pos ⟨h, by omega⟩]
      refine ⟨rfl, rfl, fun _ => ?_, hpos⟩
      rw [t, e]
      simp
    · rw [if_neg c, if_neg (fun z => c (by omega)), if_neg (fun z => hd z.1), if_neg (nosign _ (by omega))]
      refine ⟨rfl, rfl, fun z => ?_, Nat.le_refl _⟩
      exfalso
      have c2 : ¬ (runOf WRD (l.drop s)).length ≤ 12 := by omega
      simp [c2, hd] at z
      have := nosign _ (show 2 < (runOf WRD (l.drop s)).length by omega)
      simp at this
      exact this.2 (z this.1)
  | num h1 h e r er t =>
    have hdg : Digs (runOf DIG (l.drop s)) := fun c hc => dig_digs c (run_mem c hc)
    have hne : runOf DIG (l.drop s) ≠ [] := by rw [er]; simp
    have hc1 : ch (runOf DIG (l.drop s)) 0 = ch l s := by rw [er]; rfl
    have hpos : 0 < (runOf DIG (l.drop s)).length := List.length_pos_iff.mpr hne
    have key : isNum (runOf DIG (l.drop s)) = true ↔ ¬ ((runOf DIG (l.drop s)).length > 5 ∨ 10000 < val (runOf DIG (l.drop s)) ∨ shown (val (runOf DIG (l.drop s))) ≠ runOf DIG (l.drop s)) := by
      unfold isNum
      by_cases cz : ch (runOf DIG (l.drop s)) 0 = 48
      · rw [if_pos cz]
        by_cases c1 : (runOf DIG (l.drop s)).length = 1
        · have e1 : runOf DIG (l.drop s) = [48] := by
            have hr : r = [] := by
              rw [er] at c1
              simpa using c1
            rw [er, hr, ← hc1, cz]
          rw [e1]
          decide
        · have := shown_ne hdg (by omega) cz
          simp [c1, this]
      · rw [if_neg cz]
        have := shown_eq hdg hne cz
        simp [this]
    have nos : ¬ (runOf DIG (l.drop s) ∈ LONG ∨ runOf DIG (l.drop s) ∈ SHORT) := fun z => by
      have h1 : ∀ q ∈ LONG, ch q 0 ∉ DIG := by decide
      have h2 : ∀ q ∈ SHORT, ch q 0 ∉ DIG := by decide
      rcases z with z | z
      · exact h1 _ z (by rw [hc1]; exact h)
      · exact h2 _ z (by rw [hc1]; exact h)
    unfold lawT readT errT
    rw [hc0, if_neg h1, if_pos h, e]
    have h1' : ¬ (ch l s ∈ LET ∧ (runOf DIG (l.drop s)).length ≤ 12) := fun z => h1 z.1
    by_cases c : isNum (runOf DIG (l.drop s)) = true
    · rw [if_neg (key.mp c), if_neg h1', if_pos ⟨h, c⟩]
      refine ⟨rfl, rfl, fun _ => ?_, hpos⟩
      rw [t, e]
      simp
    · have c' := fun z => c (key.mpr z)
      have c2 := Classical.not_not.mp c'
      rw [if_pos c2, if_neg h1', if_neg (fun z => c z.2), if_neg nos]
      refine ⟨rfl, rfl, fun z => ?_, Nat.le_refl _⟩
      exfalso
      have c3 : isNum (runOf DIG (l.drop s)) = false := by simpa using c
      simp [h1, c3] at z
      simp at nos
      exact nos.2 (z nos.1)
  | two h1 h2 h e t =>
    unfold lawT readT errT
    rw [hc0, if_neg h1, if_neg h2, if_pos h, e, if_neg (fun z => h1 z.1), if_neg (fun z => h2 z.1), if_pos (Or.inl h)]
    exact ⟨rfl, rfl, fun _ => by rw [t]; simp, by show 1 ≤ 2; decide⟩
  | one h1 h2 h e t =>
    have h3 : [ch l s] ∉ LONG := fun z => by
      have := long_len _ z
      simp at this
    unfold lawT readT errT
    rw [hc0, if_neg h1, if_neg h2, if_neg h, e]
    have h1' : ¬ (ch l s ∈ LET ∧ [ch l s].length ≤ 12) := fun z => h1 z.1
    have h2' : ¬ (ch l s ∈ DIG ∧ isNum [ch l s] = true) := fun z => h2 z.1
    by_cases c : [ch l s] ∈ SHORT
    · rw [if_pos c, if_neg h1', if_neg h2', if_pos (Or.inr c)]
      exact ⟨rfl, rfl, fun _ => by rw [t]; simp, Nat.le_refl _⟩
    · rw [if_neg c, if_neg h1', if_neg h2', if_neg (fun z => z.elim h3 c)]
      exact ⟨rfl, rfl, fun _ => by rw [t]; simp, Nat.le_refl _⟩
end M

set_option Elab.async false
set_option linter.all false
set_option maxRecDepth 100000
set_option maxHeartbeats 2000000
namespace M
open PySem L2 Pd G
local macro_rules | `(tactic| walk_at "pd") => `(tactic| simp [sSeq, sIf, sAsg, sRet, sRetN, sDrop, sNext, sBreak, sCont, sAug, fName, fTup, fCons, fNil, fSub, pVar, pC, pOp, pUn, pTest, pAnd, pOr, pNot, pIf, pAndV, pOrV, pNotV, aNil, aCons, pTup, pLst, pCall, pCB, pSl, oNone, oSome, asB, line, *])

theorem one_short (c : Nat) : decide (c ∈ (PySem.Str.ofString "(){}[],;=<+-*/").cps.toList) = decide ([c] ∈ SHORT) := by
  have : SHORT = ((PySem.Str.ofString "(){}[],;=<+-*/").cps.toList).map fun x => [x] := by decide
  rw [this]
  simp
theorem law_token_ok {M : PM} (w : WfM M) (l : List Nat) (s : Nat) (hl : l.length ≤ 5000) (hs : s < l.length) :
    Φ__law_token [.str (T l), .int (s : Int)] M = .ok (.tup [(lawT l s).1, (lawT l s).2.1, .int ((lawT l s).2.2 : Int)]) M := by
  have hcl : clD M.length (.tup [(lawT l s).1, (lawT l s).2.1, .int ((lawT l s).2.2 : Int)]) = true := by
    unfold lawT
    repeat' split
    all_goals rfl
  refine run_pure0 rfl w ?_ hcl
  have e0 : rho0 N__law_token [.str (T l), .int (s : Int)] = [some (.str (T l)), some (.int (s : Int)), none, none, none] := rfl
  rw [e0]
  have hz : l.length ≤ 16777216 := by omega
  have hx : gIx M (.str (T l)) (.int (s : Int)) = .ok (.str (T [ch l s])) M := by rw [e_ixS hs hz, ch_eq hs]
  have sL : PySem.Str.ofString "abcdefghijklmnopqrstuvwxyz" = T LET := rfl
  have sD : PySem.Str.ofString "0123456789" = T DIG := rfl
  have sU : PySem.Str.ofString "_" = T [95] := rfl
  have hA : gAdd M (.str (T LET)) (.str (T DIG)) = .ok (.str (T (LET ++ DIG))) M := by rw [e_addS (by decide), T_app]
  have hB : gAdd M (.str (T (LET ++ DIG))) (.str (T [95])) = .ok (.str (T WRD)) M := by
    rw [e_addS (by decide), T_app]
    exact congrArg (fun z => Out.ok (D.str (T z)) M) (by decide)
  have h1 := law_run_ok w WRD l s hl
  have h2 := law_run_ok w DIG l s hl
  have i1 := e_inS (M := M) (ch l s) (T LET)
  have i2 := e_inS (M := M) (ch l s) (T DIG)
  have i3 := e_inS (M := M) (ch l s) (PySem.Str.ofString "(){}[],;=<+-*/")
  rw [one_short] at i3
  have e2 : gSl M (.str (T l)) (some (s : Int)) (some ((s : Int) + 2)) = .ok (.str (T (cut l s (s + 2)))) M := by
    rw [e_slS (by rw [T_len]; exact hz)]
    exact congrArg (fun z => Out.ok (D.str z) M) (cutS_nat l s (s + 2))
  have hL : gIn M (.str (T (cut l s (s + 2)))) (.tup [.str (PySem.Str.ofString "=="), .str (PySem.Str.ofString "!="), .str (PySem.Str.ofString "<=")]) = .ok (.bl (decide (cut l s (s + 2) ∈ LONG))) M := by
    rw [e_inStrs (zs := LONG.map T) rfl]
    simp only [T_mem]
  have hrl : ∀ S, (runOf S (l.drop s)).length ≤ 5000 := fun S => Nat.le_trans (run_len S _) (by rw [List.length_drop]; omega)
  have l1 := e_lenS (M := M) (l := runOf WRD (l.drop s)) (by have := hrl WRD; omega)
  have l2 := e_lenS (M := M) (l := runOf DIG (l.drop s)) (by have := hrl DIG; omega)
  have hdg : Digs (runOf DIG (l.drop s)) := fun c hc => dig_digs c (run_mem c hc)
  unfold g__law_token lawT
  rw [sL, sD, sU]
  by_cases c1 : ch l s ∈ LET
  · rw [if_pos c1]
    by_cases c2 : (runOf WRD (l.drop s)).length < 13
    · have c2' : ((runOf WRD (l.drop s)).length : Int) < 13 := by omega
      rw [if_pos c2]
      walk_at "pd"
      simp [kWord]
    · have c2' : ¬ ((runOf WRD (l.drop s)).length : Int) < 13 := by omega
      rw [if_neg c2]
      walk_at "pd"
      simp [kErr, vErr]
  · rw [if_neg c1]
    by_cases c2 : ch l s ∈ DIG
    · rw [if_pos c2]
      have hne : runOf DIG (l.drop s) ≠ [] := by
        obtain ⟨r, er⟩ := run_head hs c2
        rw [er]; simp
      by_cases c3 : (runOf DIG (l.drop s)).length > 5
      · have c3' : ((5 : Int) < (runOf DIG (l.drop s)).length) := by omega
        rw [if_pos (Or.inl c3)]
        walk_at "pd"
        simp [kErr, vErr]
      · have c3' : ¬ ((5 : Int) < (runOf DIG (l.drop s)).length) := by omega
        have hi := e_intS (M := M) hdg hne (by omega)
        have hv : val (runOf DIG (l.drop s)) < 100000 := Nat.lt_of_lt_of_le (val_lt hdg) (Nat.le_trans (Nat.pow_le_pow_right (by decide) (show (runOf DIG (l.drop s)).length ≤ 5 by omega)) (by decide))
        have hsh : bStr M [.int ((val (runOf DIG (l.drop s)) : Nat) : Int)] = .ok (.str (T (shown (val (runOf DIG (l.drop s)))))) M := by
          show (if ((val (runOf DIG (l.drop s)) : Nat) : Int).natAbs < 18446744073709551616 then Out.ok (D.str (Str.ofString (toString ((val (runOf DIG (l.drop s)) : Nat) : Int)))) M else .bad) = _
          rw [if_pos (by omega), str_shown]
        by_cases c4 : 10000 < val (runOf DIG (l.drop s))
        · have c4' : (10000 : Int) < ((val (runOf DIG (l.drop s)) : Nat) : Int) := by omega
          rw [if_pos (Or.inr (Or.inl c4))]
          walk_at "pd"
          simp [kErr, vErr]
        · have c4' : ¬ (10000 : Int) < ((val (runOf DIG (l.drop s)) : Nat) : Int) := by omega
          by_cases c5 : shown (val (runOf DIG (l.drop s))) = runOf DIG (l.drop s)
          · rw [if_neg (fun z => z.elim c3 fun z => z.elim c4 fun z => z c5)]
            rw [c5] at hsh
            walk_at "pd"
            simp [kNum]
          · rw [if_pos (Or.inr (Or.inr c5))]
            walk_at "pd"
            simp [kErr, vErr]
    · rw [if_neg c2]
      by_cases c3 : cut l s (s + 2) ∈ LONG
      · rw [if_pos c3]
        walk_at "pd"
        simp [kSign]
      · rw [if_neg c3]
        by_cases c4 : [ch l s] ∈ SHORT
        · rw [if_pos c4]
          walk_at "pd"
          simp [kSign]
        · rw [if_neg c4]
          walk_at "pd"
          simp [kErr, vErr]
/-! ### lines of a text -/
theorem tw_all {p : Nat → Bool} : ∀ {l : List Nat}, (∀ x ∈ l, p x = true) → l.takeWhile p = l
  | [], _ => rfl
  | c :: l, h => by
    rw [List.takeWhile_cons_of_pos (h c (List.mem_cons_self ..)), tw_all fun x hx => h x (List.mem_cons_of_mem _ hx)]
theorem tw_some {p : Nat → Bool} : ∀ {l : List Nat}, (l.takeWhile p).length = l.length → ∀ x ∈ l, p x = true
  | [], _, x, h => by cases h
  | c :: l, e, x, h => by
    by_cases hc : p c = true
    · rw [List.takeWhile_cons_of_pos hc] at e
      rcases List.mem_cons.mp h with q | q
      · rw [q]; exact hc
      · exact tw_some (by simpa using e) x q
    · rw [List.takeWhile_cons_of_neg hc] at e
      simp at e
theorem spl_len : ∀ (l acc : List Nat), (TL.spl [10] 0 acc l).length = nls l + 1
  | [], acc => by simp [TL.spl, nls]
  | c :: l, acc => by
    by_cases h : c = 10
    · subst h
      rw [TL.spl_hit (show TL.pre [10] (10 :: l) = true from TL.pre_self [10] l), List.length_cons]
      have := spl_len l []
      simp [nls] at this ⊢
      exact this
    · rw [TL.spl_miss (TL.pre_of_head [] l h), spl_len l (acc ++ [c])]
      simp [nls, h]
theorem spl_last : ∀ (l acc : List Nat), ∃ L, TL.spl [10] 0 acc l = L ++ [if nls l = 0 then acc ++ l else (l.reverse.takeWhile (fun c => decide (c ≠ 10))).reverse]
  | [], acc => ⟨[], by simp [TL.spl, nls]⟩
  | c :: l, acc => by
    by_cases h : c = 10
    · subst h
      rw [TL.spl_hit (show TL.pre [10] (10 :: l) = true from TL.pre_self [10] l)]
      obtain ⟨L, hL⟩ := spl_last l []
      refine ⟨acc :: L, ?_⟩
      have e0 : ([10] : List Nat).length - 1 = 0 := rfl
      rw [e0, hL]
      have hn : nls (10 :: l) ≠ 0 := by simp [nls]
      rw [if_neg hn, List.reverse_cons, List.cons_append]
      congr 3
      by_cases hl : nls l = 0
      · rw [if_pos hl]
        have hall : ∀ x ∈ l.reverse, decide (x ≠ 10) = true := fun x hx => by
          have : x ≠ 10 := fun e => by
            subst e
            have := List.count_pos_iff.mpr (List.mem_reverse.mp hx)
            unfold nls at hl
            omega
          simpa using this
        rw [List.takeWhile_append_of_pos hall]
        simp
      · rw [if_neg hl]
        have : ∃ x ∈ l.reverse, ¬ decide (x ≠ 10) = true := by
          have hp : 0 < l.count 10 := by unfold nls at hl; omega
          exact ⟨10, List.mem_reverse.mpr (List.count_pos_iff.mp hp), by simp⟩
        obtain ⟨x, hx, hx2⟩ := this
        rw [List.takeWhile_append]
        rw [if_neg]
        intro e
        exact hx2 (tw_some e x hx)
    · rw [TL.spl_miss (TL.pre_of_head [] l h)]
      obtain ⟨L, hL⟩ := spl_last l (acc ++ [c])
      refine ⟨L, ?_⟩
      rw [hL]
      have hn : nls (c :: l) = nls l := by simp [nls, h]
      rw [hn]
      congr 2
      by_cases hl : nls l = 0
      · rw [if_pos hl, if_pos hl]; simp
      · rw [if_neg hl, if_neg hl, List.reverse_cons]
        congr 1
        rw [List.takeWhile_append, if_neg]
        intro e
        have hp : 0 < l.count 10 := by unfold nls at hl; omega
        have := tw_some e 10 (List.mem_reverse.mpr (List.count_pos_iff.mp hp))
        simp at this
theorem split_nl (l : List Nat) : ∃ L : List Str, Txt.split (T l) (T [10]) = L ++ [T (if nls l = 0 then l else (l.reverse.takeWhile (fun c => decide (c ≠ 10))).reverse)] ∧ (Txt.split (T l) (T [10])).length = nls l + 1 := by
  have h := TL.split_spl (T l) (T [10]) (by show [10] ≠ []; decide) (TL.kind_ok (by decide +kernel))
  have h1 : (Txt.split (T l) (T [10])).map TL.tl = TL.spl [10] 0 [] l := h
  obtain ⟨L, hL⟩ := spl_last l []
  rw [hL, List.nil_append] at h1
  refine ⟨L.map T, ?_, ?_⟩
  · refine TL.map_tl_inj ?_
    rw [h1, List.map_append, List.map_map]
    have : L.map (TL.tl ∘ T) = L := by
      conv => rhs; rw [← List.map_id L]
      exact List.map_congr_left fun x _ => rfl
    rw [this]
    rfl
  · have := congrArg List.length h
    rw [List.length_map] at this
    rw [this]
    exact spl_len l []
theorem last_len_eq (l : List Nat) : (if nls l = 0 then l else (l.reverse.takeWhile (fun c => decide (c ≠ 10))).reverse).length = lastLen l := by
  unfold lastLen
  by_cases h : nls l = 0
  · rw [if_pos h]
    have : l.reverse.takeWhile (fun c => decide (c ≠ 10)) = l.reverse := tw_all fun x hx => by
      have : x ≠ 10 := fun e => by
        subst e
        have := List.count_pos_iff.mpr (List.mem_reverse.mp hx)
        unfold nls at h
        omega
      simpa using this
    rw [this, List.length_reverse]
  · rw [if_neg h, List.length_reverse]
end M

set_option Elab.async false
set_option linter.all false
set_option maxRecDepth 100000
set_option maxHeartbeats 2000000
namespace M
open PySem L2 Pd G

/-! ### the law's own tokens -/
theorem sNs : (PySem.Str.ofString " \n") = T [32, 10] := rfl
theorem e_split {M : PM} (l : List Nat) (hl : l.length ≤ 5000) : mSplit M (.str (T l)) (.str (T [10])) = .ok (.lst ((Txt.split (T l) (T [10])).map .str)) M := by
  show (if ((T [10]).length == 0) = false ∧ (T l).length + 2 ≤ line then Out.ok (D.lst ((Txt.split (T l) (T [10])).map .str)) M else .bad) = _
  rw [if_pos ⟨rfl, by rw [T_len]; show l.length + 2 ≤ 16777216; omega⟩]
/-- the end of what is found is an error -/
def endErr (found : List D) : Prop := ∃ pre l s, found = pre ++ [entry l s] ∧ errT (piece l s) = true
def endOk (found : List D) : Prop := found = [] ∨ ∃ pre l s, found = pre ++ [entry l s] ∧ errT (piece l s) = false
theorem kind_ne {M : PM} (p : List Nat) : gNe M (readT p).1 (.str (PySem.Str.ofString "error")) = .ok (.bl (!errT p)) M := by
  have h := err_eq (M := M) p
  unfold gEq at h
  unfold gNe
  have e : kErr = .str (PySem.Str.ofString "error") := rfl
  rw [e] at h
  cases q : eqS (readT p).1 (.str (PySem.Str.ofString "error")) with
  | none => rw [q] at h; cases h
  | some b =>
    rw [q] at h
    have : b = errT p := by
      injection h with h1 h2
      injection h1
    rw [this]
theorem last_kind {M : PM} {pre : List D} {l : List Nat} {s : Nat} : pOp gIx (pOp gIx (pVar 1) (pUn gNeg (pC (.int 1)))) (pC (.int 0)) = pOp gIx (pOp gIx (pVar 1) (pUn gNeg (pC (.int 1)))) (pC (.int 0)) := rfl
theorem test2 {M : PM} (l : List Nat) (s : Nat) (hl : l.length ≤ 5000) (hs : s < l.length) (found : List D) (x3 x4 x5 x6 x7 : Option D) (b : Bool) (hb : (b = true ∧ endOk found) ∨ (b = false ∧ endErr found)) (ρ : Rho)
    (hρ : ρ = [some (.str (T l)), some (.adr M.length), some (.int (s : Int)), x3, x4, x5, x6, x7]) :
    pAnd (pTest (pOp gLt (pVar 2) (pCB bLen (aCons (pVar 0) (aNil))))) (pOr (pTest (pOp gEq (pCB bLen (aCons (pVar 1) (aNil))) (pC (.int 0)))) (pTest (pOp gNe (pOp gIx (pOp gIx (pVar 1) (pUn gNeg (pC (.int 1)))) (pC (.int 0))) (pC (.str (PySem.Str.ofString "error")))))) ρ (M ++ [.lst found]) = .ok b (M ++ [.lst found]) := by
  subst hρ
  have hz : l.length ≤ 16777216 := by omega
  have hln := e_lenS (M := M ++ [.lst found]) hz
  have hlt' : (s : Int) < l.length := by omega
  have hsq : seqOf (M ++ [.lst found]) (.adr M.length) = some found := seq_adr (get_last _ _)
  have hlf := e_len hsq
  rcases hb with ⟨rfl, rfl | ⟨pre, l', s', rfl, he⟩⟩ | ⟨rfl, pre, l', s', rfl, he⟩
  · simp [pAnd, pOr, pTest, pOp, pVar, pC, pCB, aCons, aNil, asB, hln, hlt', hlf]
  · have h1 : gIx (M ++ [.lst (pre ++ [entry l' s'])]) (.adr M.length) (.int (-1)) = .ok (entry l' s') (M ++ [.lst (pre ++ [entry l' s'])]) := gIx_seq hsq atI_neg1
    have h2 : gIx (M ++ [.lst (pre ++ [entry l' s'])]) (entry l' s') (.int 0) = .ok (readT (piece l' s')).1 (M ++ [.lst (pre ++ [entry l' s'])]) := gIx_seq rfl rfl
    have h3 := kind_ne (M := M ++ [.lst (pre ++ [entry l' s'])]) (piece l' s')
    rw [he] at h3
    have hp : ¬ ((pre.length : Int) + 1 = 0) := by omega
    simp [pAnd, pOr, pTest, pOp, pUn, gNeg, pVar, pC, pCB, aCons, aNil, asB, hln, hlt', hlf, h1, h2, h3, hp]
  · have h1 : gIx (M ++ [.lst (pre ++ [entry l' s'])]) (.adr M.length) (.int (-1)) = .ok (entry l' s') (M ++ [.lst (pre ++ [entry l' s'])]) := gIx_seq hsq atI_neg1
    have h2 : gIx (M ++ [.lst (pre ++ [entry l' s'])]) (entry l' s') (.int 0) = .ok (readT (piece l' s')).1 (M ++ [.lst (pre ++ [entry l' s'])]) := gIx_seq rfl rfl
    have h3 := kind_ne (M := M ++ [.lst (pre ++ [entry l' s'])]) (piece l' s')
    rw [he] at h3
    have hp : ¬ ((pre.length : Int) + 1 = 0) := by omega
    simp [pAnd, pOr, pTest, pOp, pUn, gNeg, pVar, pC, pCB, aCons, aNil, asB, hln, hlt', hlf, h1, h2, h3, hp]
/-- one turn of the law's loop -/
theorem law_turn {M : PM} (w : WfM M) (l : List Nat) (hl : l.length ≤ 5000) (s : Nat) (found : List D) (k : D) (x4 x5 x6 x7 : Option D) (hf : found.length ≤ 5000) (hcf : clL M.length found = true) (hk : endOk found ∨ endErr found) (hs : s ≤ l.length + 1) :
    ∃ (s' : Nat) (found' : List D) (y4 y5 y6 y7 : Option D), lb__law_tokens_1 Φ__law_token [some (.str (T l)), some (.adr M.length), some (.int (s : Int)), some k, x4, x5, x6, x7] (M ++ [.lst found]) = .ok (.nx [some (.str (T l)), some (.adr M.length), some (.int (s' : Int)), some k, y4, y5, y6, y7]) (M ++ [.lst found']) ∧
      (endErr found → found' = found ∧ endErr found') ∧
      (endOk found → (¬ s < l.length → found' = found ∧ endOk found' ∧ ¬ s' < l.length) ∧ (s < l.length → (ch l s = 10 ∨ ch l s = 32 → s' = s + 1 ∧ found' = found ∧ endOk found') ∧
        (¬ (ch l s = 10 ∨ ch l s = 32) → found' = found ++ [entry l s] ∧ (errT (piece l s) = true → endErr found') ∧ (errT (piece l s) = false → s' = tokEnd l s ∧ endOk found')))) ∧ s' ≤ l.length + 1 := by
  have hz : l.length ≤ 16777216 := by omega
  have hln := e_lenS (M := M ++ [.lst found]) hz
  by_cases hlt : s < l.length
  · have hlt' : (s : Int) < l.length := by omega
    have hx : gIx (M ++ [.lst found]) (.str (T l)) (.int (s : Int)) = .ok (.str (T [ch l s])) (M ++ [.lst found]) := by rw [e_ixS hlt hz, ch_eq hlt]
    have hi := e_inS (M := M ++ [.lst found]) (ch l s) (T [32, 10])
    by_cases c1 : ch l s = 10 ∨ ch l s = 32
    · have c1' : ch l s = 32 ∨ ch l s = 10 := c1.symm
      refine ⟨s + 1, found, x4, x5, x6, x7, ?_, ?_, ?_, by omega⟩
      · simp [lb__law_tokens_1, sNs, sIf, sAsg, fName, pAnd, pTest, pOp, pVar, pC, pCB, aCons, aNil, asB, hln, hlt', hx, hi, c1']
      · exact fun h => ⟨rfl, h⟩
      · exact fun h => ⟨fun z => absurd hlt z, fun _ => ⟨fun _ => ⟨rfl, rfl, h⟩, fun z => absurd c1 z⟩⟩
    · have c1' : ¬ (ch l s = 32 ∨ ch l s = 10) := fun z => c1 z.symm
      rcases hk with hk | hk
      · have ht := test2 (M := M) l s hl hlt found (some k) x4 x5 x6 x7 true (.inl ⟨rfl, hk⟩) _ rfl
        have w2 : WfM (M ++ [.lst found]) := w.snoc (clL_mono (by omega) found hcf)
        have htk := law_token_ok w2 l s hl hlt
        obtain ⟨q1, q2, q3, q4⟩ := lawT_eq hlt
        rw [q1, q2] at htk
        have hb : gSl (M ++ [.lst found]) (.str (T l)) none (some (s : Int)) = .ok (.str (T (l.take s))) (M ++ [.lst found]) := by rw [e_slS (by rw [T_len]; exact hz), cutS_to]
        have hbl : (l.take s).length ≤ 5000 := by rw [List.length_take]; omega
        have hsp := e_split (M := M ++ [.lst found]) (l.take s) hbl
        obtain ⟨L, hL, hL2⟩ := split_nl (l.take s)
        have hsl : bLen (M ++ [.lst found]) [.lst ((Txt.split (T (l.take s)) (T [10])).map .str)] = .ok (.int ((nls (l.take s) : Int) + 1)) (M ++ [.lst found]) := by
          rw [e_len (seq_lst _), List.length_map, hL2]
          rfl
        have hix : gIx (M ++ [.lst found]) (.lst ((Txt.split (T (l.take s)) (T [10])).map .str)) (.int (-1)) = .ok (.str (T (if nls (l.take s) = 0 then l.take s else ((l.take s).reverse.takeWhile (fun c => decide (c ≠ 10))).reverse))) (M ++ [.lst found]) := by
          rw [hL, List.map_append]
          exact gIx_seq (seq_lst _) atI_neg1
        have hll : bLen (M ++ [.lst found]) [.str (T (if nls (l.take s) = 0 then l.take s else ((l.take s).reverse.takeWhile (fun c => decide (c ≠ 10))).reverse))] = .ok (.int (lastLen (l.take s) : Int)) (M ++ [.lst found]) := by
          have hle := last_len_eq (l.take s)
          have := last_le (l.take s)
          rw [e_lenS (by rw [hle]; omega), hle]
        have e1 : (1 + ((nls (l.take s) : Int) + 1) - 1) = ((1 + nls (l.take s) : Nat) : Int) := by omega
        have e2 : ((lastLen (l.take s) : Int) + 1) = ((lastLen (l.take s) + 1 : Nat) : Int) := by omega
        have happ : ∀ y5 y6 : D, ∀ y7 : D, y5 = (readT (piece l s)).1 → y6 = (readT (piece l s)).2 → pApp (pVar 1) (pTup (aCons (pVar 5) (aCons (pVar 6) (aCons (pOp gSub (pOp gAdd (pC (.int 1)) (pCB bLen (aCons (pMS mSplit (pVar 4) (pC (.str (T [10])))) (aNil)))) (pC (.int 1))) (aCons (pOp gAdd (pCB bLen (aCons (pOp gIx (pMS mSplit (pVar 4) (pC (.str (T [10])))) (pUn gNeg (pC (.int 1)))) (aNil))) (pC (.int 1))) (aNil)))))) [some (.str (T l)), some (.adr M.length), some (.int (s : Int)), some k, some (.str (T (l.take s))), some y5, some y6, some y7] (M ++ [.lst found]) = .ok .non (M ++ [.lst (found ++ [entry l s])]) := by
          rintro y5 y6 y7 rfl rfl
          refine e_app (by simp [pVar]) ?_ (by omega)
          simp only [pTup, aCons, aNil, pVar, pOp, pUn, gNeg, pC, pCB, pMS, isS, if_true, List.getElem?_cons_zero, List.getElem?_cons_succ, Out.bind_ok, hsp, hsl, hix, hll, e_sub, e_add, e1, e2]
          rw [if_pos (by show 4 ≤ 16777216; decide)]
          rfl
        have hsum : ((s : Int) + ((lawT l s).2.2 : Int)) = ((s + (lawT l s).2.2 : Nat) : Int) := by omega
        refine ⟨s + (lawT l s).2.2, found ++ [entry l s], some (.str (T (l.take s))), some (readT (piece l s)).1, some (readT (piece l s)).2, some (.int ((lawT l s).2.2 : Int)), ?_, ?_, ?_, ?_⟩
        · have ha := happ _ _ (.int ((lawT l s).2.2 : Int)) rfl rfl
          simp only [lb__law_tokens_1, sNs, sNl, sIf]
          rw [show pAnd (pTest (pOp gLt (pVar 2) (pCB bLen (aCons (pVar 0) (aNil))))) (pTest (pOp gIn (pOp gIx (pVar 0) (pVar 2)) (pC (.str (T [32, 10]))))) [some (.str (T l)), some (.adr M.length), some (.int (s : Int)), some k, x4, x5, x6, x7] (M ++ [.lst found]) = .ok false (M ++ [.lst found]) by
            simp [pAnd, pTest, pOp, pVar, pC, pCB, aCons, aNil, asB, hln, hlt', hx, hi, c1']]
          simp only [Out.bind_ok, Bool.false_eq_true, if_false]
          rw [ht]
          simp only [Out.bind_ok, if_true]
          simp only [sSeq, sAsg, sDrop, fTup, fCons, fNil, fName, pCall, pSl, oNone, oSome, aCons, aNil, pVar, List.getElem?_cons_zero, List.getElem?_cons_succ, Out.bind_ok, htk, List.length_cons, List.length_nil, if_true, List.set_cons_succ, List.set_cons_zero, hb]
          rw [ha]
          simp only [Out.bind_ok, pOp, pVar, List.getElem?_cons_zero, List.getElem?_cons_succ, e_add, hsum, List.set_cons_succ, List.set_cons_zero]
        · intro h
          exfalso
          obtain ⟨p2, l2, s2, h2, h3⟩ := h
          rcases hk with h4 | ⟨p1, l1, s1, h4, h5⟩
          · rw [h4] at h2; simp at h2
          · rw [h4] at h2
            have := List.append_inj' h2 rfl
            have h6 : entry l1 s1 = entry l2 s2 := by simpa using this.2
            have h7 : (readT (piece l1 s1)).1 = (readT (piece l2 s2)).1 := by
              unfold entry at h6
              injection h6 with h6
              injection h6
            have a1 := err_eq (M := []) (piece l1 s1)
            have a2 := err_eq (M := []) (piece l2 s2)
            rw [h7, a2] at a1
            injection a1 with a1
            injection a1 with a1
            rw [h3, h5] at a1
            cases a1
        · intro h
          refine ⟨fun z => absurd hlt z, fun _ => ⟨fun z => absurd z c1, fun _ => ⟨rfl, fun he => ⟨found, l, s, rfl, he⟩, fun he => ⟨?_, .inr ⟨found, l, s, rfl, he⟩⟩⟩⟩⟩
          have := (tok_gt hlt).1
          rw [q3 he]
          omega
        · by_cases he : errT (piece l s) = true
          · -- an error's size is 1 or that of a sign
            have := (tok_gt hlt).2
            have hsz : (lawT l s).2.2 = 1 ∨ (lawT l s).2.2 ≤ l.length - s := by
              unfold lawT
              have r1 := run_len WRD (l.drop s)
              have r2 := run_len DIG (l.drop s)
              rw [List.length_drop] at r1 r2
              repeat' split
              all_goals first
                | exact .inl rfl
                | exact .inr r1
                | exact .inr r2
                | (right; have := two_len (by assumption); simp only; omega)
            omega
          · have := q3 (by simpa using he)
            have := (tok_gt hlt).2
            omega
      · have ht := test2 (M := M) l s hl hlt found (some k) x4 x5 x6 x7 false (.inr ⟨rfl, hk⟩) _ rfl
        refine ⟨s, found, x4, x5, x6, x7, ?_, fun h => ⟨rfl, h⟩, ?_, by omega⟩
        · simp only [lb__law_tokens_1, sNs, sNl, sIf]
          rw [show pAnd (pTest (pOp gLt (pVar 2) (pCB bLen (aCons (pVar 0) (aNil))))) (pTest (pOp gIn (pOp gIx (pVar 0) (pVar 2)) (pC (.str (T [32, 10]))))) [some (.str (T l)), some (.adr M.length), some (.int (s : Int)), some k, x4, x5, x6, x7] (M ++ [.lst found]) = .ok false (M ++ [.lst found]) by
            simp [pAnd, pTest, pOp, pVar, pC, pCB, aCons, aNil, asB, hln, hlt', hx, hi, c1']]
          simp only [Out.bind_ok, Bool.false_eq_true, if_false]
          rw [ht]
          simp only [Out.bind_ok, Bool.false_eq_true, if_false, sNext]
        · intro h
          exfalso
          obtain ⟨p2, l2, s2, h2, h3⟩ := hk
          rcases h with h4 | ⟨p1, l1, s1, h4, h5⟩
          · rw [h4] at h2; simp at h2
          · rw [h4] at h2
            have := List.append_inj' h2 rfl
            have h6 : entry l1 s1 = entry l2 s2 := by simpa using this.2
            have h7 : (readT (piece l1 s1)).1 = (readT (piece l2 s2)).1 := by
              unfold entry at h6
              injection h6 with h6
              injection h6
            have a1 := err_eq (M := []) (piece l1 s1)
            have a2 := err_eq (M := []) (piece l2 s2)
            rw [h7, a2] at a1
            injection a1 with a1
            injection a1 with a1
            rw [h3, h5] at a1
            cases a1
  · have hlt' : ¬ (s : Int) < l.length := by omega
    refine ⟨s, found, x4, x5, x6, x7, ?_, fun h => ⟨rfl, h⟩, fun h => ⟨fun _ => ⟨rfl, h, hlt⟩, fun z => absurd z hlt⟩, hs⟩
    simp [lb__law_tokens_1, sIf, sNext, pAnd, pTest, pOp, pVar, pC, pCB, aCons, aNil, asB, hln, hlt']
end M

set_option Elab.async false
set_option linter.all false
set_option maxRecDepth 100000
set_option maxHeartbeats 2000000
namespace M
open PySem L2 Pd G

theorem law_loop_err {M : PM} (w : WfM M) (l : List Nat) (hl : l.length ≤ 5000) : ∀ (items : List D) (s : Nat) (found : List D) (x3 x4 x5 x6 x7 : Option D), endErr found → found.length ≤ 5000 → clL M.length found = true → s ≤ l.length + 1 →
    ∃ ρ, sEach (fName 3) (lb__law_tokens_1 Φ__law_token) items [some (.str (T l)), some (.adr M.length), some (.int (s : Int)), x3, x4, x5, x6, x7] (M ++ [.lst found]) = .ok (.nx ρ) (M ++ [.lst found]) ∧ ρ[1]? = some (some (.adr M.length))
  | [], s, found, x3, x4, x5, x6, x7, _, _, _, _ => ⟨[some (.str (T l)), some (.adr M.length), some (.int (s : Int)), x3, x4, x5, x6, x7], rfl, rfl⟩
  | k :: items, s, found, x3, x4, x5, x6, x7, he, hf, hcf, hs => by
    obtain ⟨s', f', y4, y5, y6, y7, h1, h2, _, h4⟩ := law_turn w l hl s found k x4 x5 x6 x7 hf hcf (.inr he) hs
    obtain ⟨rfl, h3⟩ := h2 he
    obtain ⟨ρ, hr, h5⟩ := law_loop_err w l hl items s' f' (some k) y4 y5 y6 y7 he hf hcf h4
    refine ⟨ρ, ?_, h5⟩
    rw [← hr]
    conv => lhs; unfold sEach
    simp only [fName, List.set_cons_succ, List.set_cons_zero, Out.bind_ok, h1]
theorem law_loop {M : PM} (w : WfM M) (l : List Nat) (hl : l.length ≤ 5000 - 1) : ∀ (items : List D) (s : Nat) (found : List D) (x3 x4 x5 x6 x7 : Option D), endOk found → found.length ≤ min s l.length → clL M.length found = true → s ≤ l.length + 1 →
    ∃ ρ, sEach (fName 3) (lb__law_tokens_1 Φ__law_token) items [some (.str (T l)), some (.adr M.length), some (.int (s : Int)), x3, x4, x5, x6, x7] (M ++ [.lst found]) = .ok (.nx ρ) (M ++ [.lst (found ++ toksF l items.length s)]) ∧ ρ[1]? = some (some (.adr M.length))
  | [], s, found, x3, x4, x5, x6, x7, _, _, _, _ => ⟨[some (.str (T l)), some (.adr M.length), some (.int (s : Int)), x3, x4, x5, x6, x7], by simp [sEach, toksF], rfl⟩
  | k :: items, s, found, x3, x4, x5, x6, x7, he, hf, hcf, hs => by
    obtain ⟨s', f', y4, y5, y6, y7, h1, _, h2, h4⟩ := law_turn w l (by omega) s found k x4 x5 x6 x7 (by omega) hcf (.inl he) hs
    have step : sEach (fName 3) (lb__law_tokens_1 Φ__law_token) (k :: items) [some (.str (T l)), some (.adr M.length), some (.int (s : Int)), x3, x4, x5, x6, x7] (M ++ [.lst found]) = sEach (fName 3) (lb__law_tokens_1 Φ__law_token) items [some (.str (T l)), some (.adr M.length), some (.int (s' : Int)), some k, y4, y5, y6, y7] (M ++ [.lst f']) := by
      conv => lhs; unfold sEach
      simp only [fName, List.set_cons_succ, List.set_cons_zero, Out.bind_ok, h1]
    rw [step, List.length_cons]
    unfold toksF
    obtain ⟨ha, hb⟩ := h2 he
    by_cases hlt : s < l.length
    · rw [if_pos hlt]
      obtain ⟨hc, hd⟩ := hb hlt
      by_cases c1 : ch l s = 10 ∨ ch l s = 32
      · rw [if_pos c1]
        obtain ⟨rfl, rfl, h3⟩ := hc c1
        exact law_loop w l hl items (s + 1) f' (some k) y4 y5 y6 y7 h3 (by omega) hcf h4
      · rw [if_neg c1]
        obtain ⟨rfl, h3, h5⟩ := hd c1
        have hcf' : clL M.length (found ++ [entry l s]) = true := by rw [clL_append, hcf]; simp [clL, entry_cl]
        by_cases c2 : errT (piece l s) = true
        · rw [if_pos c2]
          exact law_loop_err w l (by omega) items s' _ (some k) y4 y5 y6 y7 (h3 c2) (by simp; omega) hcf' h4
        · rw [if_neg c2]
          obtain ⟨rfl, h6⟩ := h5 (by simpa using c2)
          have := (tok_gt hlt).1
          have := (tok_gt hlt).2
          obtain ⟨ρ, hr, h7⟩ := law_loop w l hl items (tokEnd l s) (found ++ [entry l s]) (some k) y4 y5 y6 y7 h6 (by simp; omega) hcf' h4
          refine ⟨ρ, ?_, h7⟩
          rw [hr, List.append_assoc]
          rfl
    · rw [if_neg hlt]
      obtain ⟨rfl, h3, h5⟩ := ha hlt
      have he0 : ∀ n, toksF l n s' = [] := fun n => by
        cases n with
        | zero => rfl
        | succ n => unfold toksF; rw [if_neg h5]
      by_cases hfs : f'.length ≤ min s' l.length
      · obtain ⟨ρ, hr, h7⟩ := law_loop w l hl items s' f' (some k) y4 y5 y6 y7 h3 hfs hcf h4
        rw [he0] at hr
        exact ⟨ρ, hr, h7⟩
      · exfalso
        omega
theorem law_tokens_ok {M : PM} (w : WfM M) (l : List Nat) (hl : l.length ≤ 4000) : Φ__law_tokens [.str (T l)] M = .ok (.tup (toks l)) M := by
  obtain ⟨ρ, h1, h2⟩ := law_loop w l (by omega) (rngD 0 l.length) 0 [] none none none none none (.inl rfl) (Nat.zero_le _) rfl (by omega)
  have et : toksF l (rngD 0 l.length).length 0 = toks l := toksF_fuel l _ _ _ (by simp [rngD]) (by omega)
  rw [et] at h1
  refine run_pure (J := [.lst (toks l)]) rfl w ?_ (toksF_cl _ l _ _)
  have e0 : rho0 N__law_tokens [.str (T l)] = [some (.str (T l)), none, none, none, none, none, none, none] := rfl
  rw [e0]
  have hln := e_lenS (M := M ++ [.lst []]) (l := l) (by omega)
  have hs : seqOf (M ++ [.lst (toks l)]) (.adr M.length) = some (toks l) := seq_adr (get_last _ _)
  have ht := e_tup (M := M ++ [.lst (toks l)]) hs
  rw [show ([] : List D) ++ toks l = toks l from rfl, show ((0 : Nat) : Int) = 0 from rfl] at h1
  unfold g__law_tokens
  simp only [sSeq, sAsg, pNew, aNil, Out.bind_ok, fName, pC, List.set_cons_succ, List.set_cons_zero, List.length_nil]
  rw [if_pos (by decide)]
  have hr := e_rng1 (f := aCons (pCB bLen (aCons (pVar 0) (aNil))) (aNil)) (ρ := [some (.str (T l)), some (.adr M.length), some (.int 0), none, none, none, none, none]) (M := M ++ [.lst []]) (M1 := M ++ [.lst []]) (n := l.length) (by simp [aCons, aNil, pCB, pVar, hln]) (by omega)
  simp only [Out.bind_ok, List.set_cons_succ, List.set_cons_zero, sFor, hr]
  rw [h1]
  simp [sRet, pCB, aCons, aNil, pVar, h2, ht]
/-! ### the law's own comparison -/
def SameOk (Φ : List D → PM → Out D) (M : PM) (d : D) : Prop := Φ [d, d] M = .ok (.bl true) M
theorem same_str {Φ : List D → PM → Out D} {M : PM} (w : WfM M) (x : Str) : SameOk (run 2 N__law_same (g__law_same Φ)) M (.str x) := by
  refine run_pure0 rfl w ?_ rfl
  have e0 : rho0 N__law_same [.str x, .str x] = [some (.str x), some (.str x), none] := rfl
  rw [e0]
  simp [g__law_same, sSeq, sIf, sRet, sNext, pVar, pC, pOp, pTest, pAndV, pCB, aCons, aNil, asB]
theorem same_int {Φ : List D → PM → Out D} {M : PM} (w : WfM M) (x : Int) : SameOk (run 2 N__law_same (g__law_same Φ)) M (.int x) := by
  refine run_pure0 rfl w ?_ rfl
  have e0 : rho0 N__law_same [.int x, .int x] = [some (.int x), some (.int x), none] := rfl
  rw [e0]
  simp [g__law_same, sSeq, sIf, sRet, sNext, pVar, pC, pOp, pTest, pAndV, pNotV, pCB, aCons, aNil, asB]
theorem same_loop {Φ : List D → PM → Out D} {M : PM} (ds : List D) (h : ∀ d ∈ ds, SameOk Φ M d) : ∀ (items : List Nat) (x : Option D), (∀ k ∈ items, k < ds.length) →
    ∃ ρ, sEach (fName 2) (lb__law_same_1 Φ) (items.map fun (k : Nat) => D.int (0 + (k : Int))) [some (.tup ds), some (.tup ds), x] M = .ok (.nx ρ) M
  | [], x, _ => ⟨_, rfl⟩
  | k :: items, x, hk => by
    have hlt := hk k (List.mem_cons_self ..)
    obtain ⟨ρ, hr⟩ := same_loop ds h items (some (.int (0 + (k : Int)))) fun j hj => hk j (List.mem_cons_of_mem _ hj)
    refine ⟨ρ, ?_⟩
    have hx : gIx M (.tup ds) (.int (k : Int)) = .ok ds[k] M := gIx_seq rfl (atI_ok hlt)
    have hs : Φ [ds[k], ds[k]] M = .ok (.bl true) M := h _ (List.getElem_mem hlt)
    rw [List.map_cons, ← hr]
    conv => lhs; unfold sEach
    simp [lb__law_same_1, sIf, sNext, fName, pNot, pTest, pCall, aCons, aNil, pOp, pVar, asB, hx, hs]
theorem same_tup {Φ : List D → PM → Out D} {M : PM} (w : WfM M) (ds : List D) (hl : ds.length ≤ 16777216) (h : ∀ d ∈ ds, SameOk Φ M d) : SameOk (run 2 N__law_same (g__law_same Φ)) M (.tup ds) := by
  refine run_pure0 rfl w ?_ rfl
  have e0 : rho0 N__law_same [.tup ds, .tup ds] = [some (.tup ds), some (.tup ds), none] := rfl
  rw [e0]
  obtain ⟨ρ, hr⟩ := same_loop ds h (List.range ds.length) none fun k hk => List.mem_range.mp hk
  have hln : bLen M [.tup ds] = .ok (.int (ds.length : Int)) M := e_len rfl
  have hf : sFor (pRng1 (aCons (pCB bLen (aCons (pVar 1) (aNil))) (aNil))) (fName 2) (lb__law_same_1 Φ) [some (.tup ds), some (.tup ds), none] M = .ok (.nx ρ) M := by
    have hq := e_rng1 (f := aCons (pCB bLen (aCons (pVar 1) (aNil))) (aNil)) (ρ := [some (.tup ds), some (.tup ds), none]) (M := M) (M1 := M) (n := ds.length) (by simp [aCons, aNil, pCB, pVar, hln]) (by omega)
    simp only [sFor, hq, Out.bind_ok]
    exact hr
  unfold g__law_same
  simp -implicitDefEqProofs [sSeq, sIf, sRet, sNext, pVar, pC, pOp, pOr, pNot, pTest, pCB, aCons, aNil, asB, hln]
  rw [hf]
  simp -implicitDefEqProofs
theorem same_entry {M : PM} (w : WfM M) (l : List Nat) (s : Nat) (t : Nat) : SameOk (Ψ__law_same (t + 2)) M (entry l s) := by
  refine same_tup w _ (by show 4 ≤ 16777216; decide) fun d hd => ?_
  have hk : ∀ z : Str, SameOk (Ψ__law_same (t + 1)) M (.str z) := fun z => same_str w z
  have hi : ∀ z : Int, SameOk (Ψ__law_same (t + 1)) M (.int z) := fun z => same_int w z
  have h4 : d = (readT (piece l s)).1 ∨ d = (readT (piece l s)).2 ∨ d = .int ((1 + nls (l.take s) : Nat) : Int) ∨ d = .int ((lastLen (l.take s) + 1 : Nat) : Int) := by simpa using hd
  rcases h4 with rfl | rfl | rfl | rfl
  · unfold readT
    repeat' split
    all_goals exact hk _
  · unfold readT
    repeat' split
    all_goals first | exact hk _ | exact hi _
  · exact hi _
  · exact hi _
theorem toksF_mem (l : List Nat) : ∀ n s, ∀ d ∈ toksF l n s, ∃ k, d = entry l k
  | 0, _, d, h => by cases h
  | n + 1, s, d, h => by
    unfold toksF at h
    split at h
    · split at h
      · exact toksF_mem l n _ d h
      · split at h
        · exact ⟨s, List.mem_singleton.mp h⟩
        · rcases List.mem_cons.mp h with e | e
          · exact ⟨s, e⟩
          · exact toksF_mem l n _ d e
    · cases h
theorem same_toks {M : PM} (w : WfM M) (l : List Nat) (hl : l.length ≤ 5000) : Φ__law_same [.tup (toks l), .tup (toks l)] M = .ok (.bl true) M := by
  refine same_tup (Φ := Ψ__law_same 3) w _ (Nat.le_trans (toksF_len l _ _) (by omega)) fun d hd => ?_
  obtain ⟨k, rfl⟩ := toksF_mem l _ _ d hd
  exact same_entry w l k 1
end M

set_option Elab.async false
set_option linter.all false
set_option maxRecDepth 100000
set_option maxHeartbeats 2000000
namespace M
open PySem L2 Pd G

/-! ### what a law draws -/
theorem run_st {ar : Nat} {N : List Str} {g : FS} {ds : List D} {M J : PM} {i : Nat} {m m' : MO} {d : D} (ha : ds.length = ar) (w : WfM M) (hs : Rst m') (hg : g (rho0 N ds) (M.set i m) = .ok (.rt d) (M.set i m' ++ J)) (hd : clD M.length d = true) : run ar N g ds (M.set i m) = .ok d (M.set i m') := by
  refine run_rt (J := J) ha hg (by simp) ?_ (by simpa using hd)
  have := WfM.set (i := i) w (hs.cl M.length)
  unfold WfM at this
  simpa using this
section
variable {M : PM} {i : Nat} {ns : List Int}
theorem ix_str {z : Str} {r : Int} (h0 : 0 ≤ r) (h : r < z.length) (hl : z.length ≤ 16777216) : ∃ c, gIx M (.str z) (.int r) = .ok (.str (T [c])) M := by
  obtain ⟨n, rfl⟩ := Int.eq_ofNat_of_zero_le h0
  have hn : n < z.cps.toList.length := by
    have : z.length = z.cps.toList.length := by simp [Str.length]
    omega
  have := e_ixS (M := M) (l := z.cps.toList) (k := n) hn (by have : z.length = z.cps.toList.length := by simp [Str.length]
                                                             omega)
  rw [T_eta] at this
  exact ⟨_, this⟩
theorem ix_lst {ds : List D} {r : Int} (h0 : 0 ≤ r) (h : r < ds.length) : ∃ d ∈ ds, gIx M (.lst ds) (.int r) = .ok d M := by
  obtain ⟨n, rfl⟩ := Int.eq_ofNat_of_zero_le h0
  have hn : n < ds.length := by omega
  exact ⟨ds[n], List.getElem_mem hn, gIx_seq rfl (atI_ok hn)⟩
/-- drawing -/
abbrev drw (f : FE) : FE := pCall Φ__law_next (aCons (pVar 0) (aCons (pVar 1) (aCons f aNil)))
theorem drw_ok (w : WfM M) (hi : i < M.length) {m m0 : MO} {f : FE} {k : Int} (hs : Rst m) (hk : 0 < k ∧ k < 1073741824) {ρ : Rho} (h0 : ρ[0]? = some (some (.adr i))) (h1 : ρ[1]? = some (some (.rol (ns.map .int)))) (hf : f ρ (M.set i m0) = .ok (.int k) (M.set i m)) :
    ∃ (r : Int) (m' : MO), drw f ρ (M.set i m0) = .ok (.int r) (M.set i m') ∧ 0 ≤ r ∧ r < k ∧ Rst m' := by
  obtain ⟨r, m', h, q⟩ := next_ok (N := N__law_next) rfl (ns := ns) w hi hk hs
  refine ⟨r, m', ?_, q⟩
  unfold drw pCall
  simp only [aCons, aNil, pVar, h0, h1, hf, Out.bind_ok]
  exact h
theorem drc_ok (w : WfM M) (hi : i < M.length) {m : MO} (k : Int) (hs : Rst m) (hk : 0 < k ∧ k < 1073741824) {ρ : Rho} (h0 : ρ[0]? = some (some (.adr i))) (h1 : ρ[1]? = some (some (.rol (ns.map .int)))) :
    ∃ (r : Int) (m' : MO), drw (pC (.int k)) ρ (M.set i m) = .ok (.int r) (M.set i m') ∧ 0 ≤ r ∧ r < k ∧ Rst m' := drw_ok w hi hs hk h0 h1 rfl
/-! a word -/
def zL : Str := PySem.Str.ofString "abcdefghijklmnopqrstuvwxyz"
def zS : Str := PySem.Str.ofString "0123456789_"
theorem zL_len : zL.length = 26 := by decide +kernel
theorem zS_len : (zL ++ zS).length = 37 := by decide +kernel
theorem word_loop (w : WfM M) (hi : i < M.length) (x2 x4 : Option D) : ∀ (items : List D) (l : List Nat) (x6 : Option D) (m : MO), Rst m → l.length + items.length ≤ 5000 →
    ∃ (l' : List Nat) (x6' : Option D) (m' : MO), sEach (fName 6) (lb__law_word_1 Φ__law_next) items [some (.adr i), some (.rol (ns.map .int)), x2, some (.str (zL ++ zS)), x4, some (.str (T l)), x6] (M.set i m) =
      .ok (.nx [some (.adr i), some (.rol (ns.map .int)), x2, some (.str (zL ++ zS)), x4, some (.str (T l')), x6']) (M.set i m') ∧ l'.length = l.length + items.length ∧ Rst m'
  | [], l, x6, m, hs, _ => ⟨l, x6, m, rfl, rfl, hs⟩
  | k :: items, l, x6, m, hs, hl => by
    rw [List.length_cons] at hl
    obtain ⟨r, m1, h1, h2, h3, h4⟩ := drc_ok w hi 37 hs (by omega) (ns := ns) (ρ := [some (.adr i), some (.rol (ns.map .int)), x2, some (.str (zL ++ zS)), x4, some (.str (T l)), some k]) rfl rfl
    obtain ⟨c, hc⟩ := ix_str (M := M.set i m1) (z := zL ++ zS) h2 (by rw [zS_len]; exact h3) (by rw [zS_len]; decide)
    have ha : gAdd (M.set i m1) (.str (T l)) (.str (T [c])) = .ok (.str (T (l ++ [c]))) (M.set i m1) := by
      rw [e_addS (by rw [T_len, T_len]; show l.length + 1 ≤ 16777216; omega), T_app]
    obtain ⟨l', x6', m', g1, g2, g3⟩ := word_loop w hi x2 x4 items (l ++ [c]) (some k) m1 h4 (by rw [List.length_append]; show l.length + 1 + _ ≤ 5000; omega)
    refine ⟨l', x6', m', ?_, by rw [g2]; simp only [List.length_append, List.length_cons, List.length_nil]; omega, g3⟩
    conv => lhs; unfold sEach
    have hb : lb__law_word_1 Φ__law_next [some (.adr i), some (.rol (ns.map .int)), x2, some (.str (zL ++ zS)), x4, some (.str (T l)), some k] (M.set i m) = .ok (.nx [some (.adr i), some (.rol (ns.map .int)), x2, some (.str (zL ++ zS)), x4, some (.str (T (l ++ [c]))), some k]) (M.set i m1) := by
      exact v_ag (v_op (v_var rfl) (v_op (v_var rfl) h1 hc) ha)
    simp only [fName, List.set_cons_succ, List.set_cons_zero, Out.bind_ok, hb]
    exact g1
theorem word_ok (w : WfM M) (hi : i < M.length) {m : MO} (hs : Rst m) : ∃ (l : List Nat) (m' : MO), Φ__law_word [.adr i, .rol (ns.map .int)] (M.set i m) = .ok (.str (T l)) (M.set i m') ∧ l.length ≤ 13 ∧ Rst m' := by
  have e0 : rho0 N__law_word [.adr i, .rol (ns.map .int)] = [some (.adr i), some (.rol (ns.map .int)), none, none, none, none, none] := rfl
  obtain ⟨r1, m1, a1, a2, a3, a4⟩ := drc_ok w hi 2 hs (by omega) (ns := ns) (ρ := [some (.adr i), some (.rol (ns.map .int)), some (.str zL), some (.str (zL ++ zS)), none, none, none]) rfl rfl
  obtain ⟨d, hd, b1⟩ := ix_lst (M := M.set i m1) (ds := [.int 3, .int 12]) a2 a3
  obtain ⟨k, rfl, hk⟩ : ∃ k : Int, d = .int k ∧ 3 ≤ k ∧ k ≤ 12 := by
    rcases List.mem_cons.mp hd with rfl | hd
    · exact ⟨3, rfl, by omega, by omega⟩
    · rw [List.mem_singleton] at hd
      exact ⟨12, hd, by omega, by omega⟩
  have hf : pOp gIx (pLst (aCons (pC (.int 3)) (aCons (pC (.int 12)) (aNil)))) (drw (pC (.int 2))) [some (.adr i), some (.rol (ns.map .int)), some (.str zL), some (.str (zL ++ zS)), none, none, none] (M.set i m) = .ok (.int k) (M.set i m1) := by
    exact v_op (v_lst (v_ac rfl (v_a1 rfl)) (by show 2 ≤ 16777216; decide)) a1 b1
  obtain ⟨r2, m2, c1, c2, c3, c4⟩ := drw_ok w hi a4 ⟨by omega, by omega⟩ (ns := ns) (ρ := [some (.adr i), some (.rol (ns.map .int)), some (.str zL), some (.str (zL ++ zS)), none, none, none]) rfl rfl hf
  obtain ⟨r3, m3, d1, d2, d3, d4⟩ := drc_ok w hi 26 c4 (by omega) (ns := ns) (ρ := [some (.adr i), some (.rol (ns.map .int)), some (.str zL), some (.str (zL ++ zS)), some (.int (1 + r2)), none, none]) rfl rfl
  obtain ⟨c, hc⟩ := ix_str (M := M.set i m3) (z := zL) d2 (by rw [zL_len]; exact d3) (by rw [zL_len]; decide)
  obtain ⟨n, rfl⟩ := Int.eq_ofNat_of_zero_le c2
  obtain ⟨l', x6', m4, g1, g2, g3⟩ := word_loop w hi (some (.str zL)) (some (.int (1 + (n : Int)))) (ns := ns) (rngD 0 n) [c] none m3 d4 (by unfold rngD; simp; omega)
  have gl : l'.length ≤ 13 := by
    rw [g2]
    unfold rngD
    simp
    omega
  refine ⟨l', m4, run_st (J := []) rfl w g3 ?_ rfl, gl, g3⟩
  rw [e0, List.append_nil]
  have ha : ∀ M : PM, gAdd M (.str zL) (.str zS) = .ok (.str (zL ++ zS)) M := fun M => e_addS (by rw [zL_len]; decide +kernel)
  have hr := e_rng1 (f := aCons (pOp gSub (pVar 4) (pC (.int 1))) aNil) (ρ := [some (.adr i), some (.rol (ns.map .int)), some (.str zL), some (.str (zL ++ zS)), some (.int (1 + (n : Int))), some (.str (T [c])), none]) (M := M.set i m3) (M1 := M.set i m3) (n := n) (by
    have : (1 + (n : Int) - 1) = n := by omega
    simp only [aCons, aNil, pOp, pVar, pC, List.getElem?_cons_zero, List.getElem?_cons_succ, Out.bind_ok, e_sub, this]) (by omega)
  unfold g__law_word
  refine (v_sq (v_ag (d := .str zL) rfl)).trans ?_
  refine (v_sq (v_ag (d := .str (zL ++ zS)) (v_op (v_var rfl) rfl (ha _)))).trans ?_
  refine (v_sq (v_ag (d := .int (1 + (n : Int))) (v_op rfl c1 (e_add _ _)))).trans ?_
  refine (v_sq (v_ag (d := .str (T [c])) (v_op (v_var rfl) d1 hc))).trans ?_
  refine (v_sq (ρ' := [some (.adr i), some (.rol (ns.map .int)), some (.str zL), some (.str (zL ++ zS)), some (.int (1 + (n : Int))), some (.str (T l')), x6']) (M1 := M.set i m4) ((v_for hr).trans g1)).trans ?_
  rfl
end
end M

set_option Elab.async false
set_option linter.all false
set_option maxRecDepth 100000
set_option maxHeartbeats 2000000
namespace M
open PySem L2 Pd G

theorem lc_id {M : PM} (w : WfM M) {ρ0 : Rho} {v : Nat} (hv : v < ρ0.length) : ∀ (ds acc : List D), clL M.length acc = true → clL M.length ds = true → acc.length + ds.length ≤ 16777216 →
    lcFrom M.length (fName v) pYes (pVar v) ρ0 ds (M ++ [.lst acc]) = .ok (.lst (acc ++ ds)) M
  | [], acc, ha, _, _ => by
    show lcEnd M.length (M ++ [.lst acc]) = _
    unfold lcEnd
    rw [get_last]
    have h1 : (M ++ [MO.lst acc]).length = M.length + 1 := by simp
    have h2 : (M ++ [MO.lst acc]).take M.length = M := by simp
    show (if (M ++ [MO.lst acc]).length = M.length + 1 ∧ clL M.length acc = true ∧ ((M ++ [MO.lst acc]).take M.length).all (clMO M.length) = true then Out.ok (D.lst acc) ((M ++ [MO.lst acc]).take M.length) else .bad) = _
    rw [if_pos ⟨h1, ha, by rw [h2]; exact w⟩, h2, List.append_nil]
  | d :: ds, acc, ha, hd, hl => by
    rw [List.length_cons] at hl
    simp only [clL, Bool.and_eq_true] at hd
    have e : lcPut M.length d (M ++ [.lst acc]) = .ok () (M ++ [.lst (acc ++ [d])]) := by
      unfold lcPut
      rw [get_last]
      show (if acc.length < 16777216 then Out.ok () ((M ++ [MO.lst acc]).set M.length (.lst (acc ++ [d]))) else .bad) = _
      rw [if_pos (by omega), set_last]
    have h1 : pVar v (ρ0.set v (some d)) (M ++ [.lst acc]) = .ok d (M ++ [.lst acc]) := v_var (by simp [hv])
    have cl : ∀ (xs ys : List D), clL M.length xs = true → clL M.length ys = true → clL M.length (xs ++ ys) = true := by
      intro xs ys hx hy
      induction xs with
      | nil => exact hy
      | cons x xs ih =>
        simp only [clL, List.cons_append, Bool.and_eq_true] at hx ⊢
        exact ⟨hx.1, ih hx.2⟩
    have ih := lc_id w hv ds (acc ++ [d]) (cl _ _ ha (by simp only [clL, hd.1, Bool.and_true])) hd.2 (by rw [List.length_append]; show acc.length + 1 + _ ≤ _; omega)
    show ((fName v d ρ0 (M ++ [.lst acc])).bind fun ρ1 M1 => (pYes ρ1 M1).bind fun b M2 => if b = true then (pVar v ρ1 M2).bind fun y M3 => (lcPut M.length y M3).bind fun _ M4 => lcFrom M.length (fName v) pYes (pVar v) ρ0 ds M4 else lcFrom M.length (fName v) pYes (pVar v) ρ0 ds M2) = _
    show ((pVar v (ρ0.set v (some d)) (M ++ [.lst acc])).bind fun y M3 => (lcPut M.length y M3).bind fun _ M4 => lcFrom M.length (fName v) pYes (pVar v) ρ0 ds M4) = _
    rw [h1, Out.bind_ok, e, Out.bind_ok, ih, List.append_assoc]
    rfl
/-! a piece -/
def isText : D → Bool
  | .str z => decide (z.length ≤ 26)
  | _ => false
theorem is_text {d : D} (h : isText d = true) : ∃ l : List Nat, d = .str (T l) ∧ l.length ≤ 26 := by
  cases d with
  | str z =>
    refine ⟨z.cps.toList, by rw [T_eta], ?_⟩
    have := of_decide_eq_true h
    have e : z.length = z.cps.toList.length := by simp [Str.length]
    omega
  | _ => cases h
def dOne : List D := [.str (PySem.Str.ofString "00"), .str (PySem.Str.ofString "007"), .str (PySem.Str.ofString "10001"), .str (PySem.Str.ofString "99999"), .str (PySem.Str.ofString "123456"), .str (PySem.Str.ofString "01"), .str (PySem.Str.ofString "10000"), .str (PySem.Str.ofString "0")]
theorem dOne_text : dOne.all isText = true := by decide +kernel
def dOdd : List D := [.str (PySem.Str.ofString "Z9"), .str (PySem.Str.ofString "!!"), .str (PySem.Str.ofString "# x"), .str (PySem.Str.ofString "//")]
def zOdd : Str := PySem.Str.ofString "!\"#$&'()*+,-./0123456789:;<=>?@ABCDEFGHIJKLMNOPQRSTUVWXYZ[\\]^_`abcdefghijklmnopqrstuvwxyz{|}~"
def dMany : List D := dOdd ++ zOdd.cps.toList.map fun c => .str ⟨#[c]⟩
theorem zOdd_len : zOdd.length = 94 - 1 := by decide +kernel
theorem dMany_text : dMany.all isText = true := by decide +kernel
theorem dMany_len : dMany.length = 4 + 93 := by decide +kernel
def dSigns : List D := [.str (PySem.Str.ofString "("), .str (PySem.Str.ofString ")"), .str (PySem.Str.ofString "{"), .str (PySem.Str.ofString "}"), .str (PySem.Str.ofString "["), .str (PySem.Str.ofString "]"), .str (PySem.Str.ofString ","), .str (PySem.Str.ofString ";"), .str (PySem.Str.ofString "="), .str (PySem.Str.ofString "=="), .str (PySem.Str.ofString "!="), .str (PySem.Str.ofString "<"), .str (PySem.Str.ofString "<="), .str (PySem.Str.ofString "+"), .str (PySem.Str.ofString "-"), .str (PySem.Str.ofString "*"), .str (PySem.Str.ofString "/")]
theorem dSigns_text : dSigns.all isText = true := by decide +kernel
theorem one_ok (ρ : Rho) (M : PM) : (pLst (aCons (pC (.str (PySem.Str.ofString "00"))) (aCons (pC (.str (PySem.Str.ofString "007"))) (aCons (pC (.str (PySem.Str.ofString "10001"))) (aCons (pC (.str (PySem.Str.ofString "99999"))) (aCons (pC (.str (PySem.Str.ofString "123456"))) (aCons (pC (.str (PySem.Str.ofString "01"))) (aCons (pC (.str (PySem.Str.ofString "10000"))) (aCons (pC (.str (PySem.Str.ofString "0"))) (aNil)))))))))) ρ M = .ok (.lst dOne) M := v_lst rfl (by decide)
def gSig : FS :=
    sSeq (sAsg (pLst (aCons (pC (.str (PySem.Str.ofString "("))) (aCons (pC (.str (PySem.Str.ofString ")"))) (aCons (pC (.str (PySem.Str.ofString "{"))) (aCons (pC (.str (PySem.Str.ofString "}"))) (aCons (pC (.str (PySem.Str.ofString "["))) (aCons (pC (.str (PySem.Str.ofString "]"))) (aCons (pC (.str (PySem.Str.ofString ","))) (aCons (pC (.str (PySem.Str.ofString ";"))) (aCons (pC (.str (PySem.Str.ofString "="))) (aCons (pC (.str (PySem.Str.ofString "=="))) (aCons (pC (.str (PySem.Str.ofString "!="))) (aCons (pC (.str (PySem.Str.ofString "<"))) (aCons (pC (.str (PySem.Str.ofString "<="))) (aCons (pC (.str (PySem.Str.ofString "+"))) (aCons (pC (.str (PySem.Str.ofString "-"))) (aCons (pC (.str (PySem.Str.ofString "*"))) (aCons (pC (.str (PySem.Str.ofString "/"))) (aNil))))))))))))))))))) (fName 3))
    (sRet (pOp gIx (pVar 3) (pCall Φ__law_next (aCons (pVar 0) (aCons (pVar 1) (aCons (pC (.int 17)) (aNil)))))))
def gFour : FS :=
    sSeq (sIf (pAnd (pTest (pOp gEq (pVar 2) (pC (.int 4)))) (pTest (pOp gEq (pCall Φ__law_next (aCons (pVar 0) (aCons (pVar 1) (aCons (pC (.int 6)) (aNil))))) (pC (.int 0))))) (sSeq (sAsg (pLst (aCons (pC (.str (PySem.Str.ofString "Z9"))) (aCons (pC (.str (PySem.Str.ofString "!!"))) (aCons (pC (.str (PySem.Str.ofString "# x"))) (aCons (pC (.str (PySem.Str.ofString "//"))) (aNil)))))) (fName 5))
      (sSeq (sAsg (pC (.str (PySem.Str.ofString "!\"#$&'()*+,-./0123456789:;<=>?@ABCDEFGHIJKLMNOPQRSTUVWXYZ[\\]^_`abcdefghijklmnopqrstuvwxyz{|}~"))) (fName 3))
      (sRet (pOp gIx (pOp gAdd (pVar 5) (pLc (pItems (pVar 3)) (fName 6) pYes (pVar 6) [6])) (pCall Φ__law_next (aCons (pVar 0) (aCons (pVar 1) (aCons (pOp gAdd (pC (.int 4)) (pCB bLen (aCons (pVar 3) (aNil)))) (aNil))))))))) (sNext))
    gSig
section
variable {M : PM} {i : Nat} {ns : List Int}
theorem wf_set (w : WfM M) {m : MO} (hs : Rst m) : WfM (M.set i m) := WfM.set w (hs.cl _)
/-- one of a list's texts, drawn -/
theorem pick (w : WfM M) (hi : i < M.length) {ds : List D} (ht : ds.all isText = true) {m m0 : MO} (hs : Rst m0) {ρ : Rho} (h0 : ρ[0]? = some (some (.adr i))) (h1 : ρ[1]? = some (some (.rol (ns.map .int)))) {fl f : FE} {m1 : MO} (hl : fl ρ (M.set i m0) = .ok (.lst ds) (M.set i m1)) (hs1 : Rst m1) (hf : f ρ (M.set i m1) = .ok (.int (ds.length : Int)) (M.set i m1)) (hk : 0 < ds.length ∧ ds.length ≤ 1000) :
    ∃ (l : List Nat) (m' : MO), pOp gIx fl (drw f) ρ (M.set i m0) = .ok (.str (T l)) (M.set i m') ∧ l.length ≤ 26 ∧ Rst m' := by
  obtain ⟨r, m2, a1, a2, a3, a4⟩ := drw_ok w hi hs1 (ns := ns) (k := (ds.length : Int)) (by omega) h0 h1 hf
  obtain ⟨d, hd, b1⟩ := ix_lst (M := M.set i m2) (ds := ds) a2 a3
  obtain ⟨l, rfl, hl2⟩ := is_text (List.all_eq_true.mp ht d hd)
  exact ⟨l, m2, v_op hl a1 b1, hl2, a4⟩
theorem sig_ok (w : WfM M) (hi : i < M.length) {m : MO} (hs : Rst m) (x2 : Option D) : ∃ (l : List Nat) (m' : MO), gSig [some (.adr i), some (.rol (ns.map .int)), x2, none, none, none, none] (M.set i m) = .ok (.rt (.str (T l))) (M.set i m') ∧ l.length ≤ 26 ∧ Rst m' := by
  obtain ⟨l, m', h1, h2, h3⟩ := pick w hi dSigns_text (m := m) hs (ns := ns) (ρ := [some (.adr i), some (.rol (ns.map .int)), x2, some (.lst dSigns), none, none, none]) rfl rfl (fl := pVar 3) (f := pC (.int 17)) (m1 := m) (v_var rfl) hs rfl (by decide)
  exact ⟨l, m', (v_sq (v_ag (d := .lst dSigns) (v_lst rfl (by decide)))).trans (v_ret h1), h2, h3⟩
theorem len_eq (z : Str) : z.cps.toList.length = z.length := by simp [Str.length]
theorem cl_texts (n : Nat) : ∀ l : List Nat, clL n (l.map fun c => D.str ⟨#[c]⟩) = true
  | [] => rfl
  | c :: l => by simp only [List.map_cons, clL, clD, cl_texts n l, Bool.and_self]
theorem four_ok (w : WfM M) (hi : i < M.length) {m : MO} (hs : Rst m) (r : Int) : ∃ (l : List Nat) (m' : MO), gFour [some (.adr i), some (.rol (ns.map .int)), some (.int r), none, none, none, none] (M.set i m) = .ok (.rt (.str (T l))) (M.set i m') ∧ l.length ≤ 26 ∧ Rst m' := by
  by_cases c1 : r = 4
  · obtain ⟨r2, m2, a1, a2, a3, a4⟩ := drc_ok w hi 6 hs (by omega) (ns := ns) (ρ := [some (.adr i), some (.rol (ns.map .int)), some (.int r), none, none, none, none]) rfl rfl
    have t1 : pTest (pOp gEq (pVar 2) (pC (.int 4))) [some (.adr i), some (.rol (ns.map .int)), some (.int r), none, none, none, none] (M.set i m) = .ok true (M.set i m) :=
      v_test ((v_op (v_var rfl) rfl (e_eqI _ _)).trans (congrArg (fun b => Out.ok (D.bl b) (M.set i m)) (decide_eq_true c1)))
    by_cases c2 : r2 = 0
    · have t2 : pTest (pOp gEq (drw (pC (.int 6))) (pC (.int 0))) [some (.adr i), some (.rol (ns.map .int)), some (.int r), none, none, none, none] (M.set i m) = .ok true (M.set i m2) :=
        v_test ((v_op a1 rfl (e_eqI _ _)).trans (congrArg (fun b => Out.ok (D.bl b) (M.set i m2)) (decide_eq_true c2)))
      have hlc : pLc (pItems (pVar 3)) (fName 6) pYes (pVar 6) [6] [some (.adr i), some (.rol (ns.map .int)), some (.int r), some (.str zOdd), none, some (.lst dOdd), none] (M.set i m2) = .ok (.lst (zOdd.cps.toList.map fun c => .str ⟨#[c]⟩)) (M.set i m2) := by
        have := lc_id (wf_set (i := i) w a4) (ρ0 := [some (.adr i), some (.rol (ns.map .int)), some (.int r), some (.str zOdd), none, some (.lst dOdd), none]) (v := 6) (by simp) (zOdd.cps.toList.map fun c => .str ⟨#[c]⟩) [] rfl (cl_texts _ _) (by rw [List.length_map, len_eq, zOdd_len]; decide)
        unfold pLc pItems
        rw [v_var (d := .str zOdd) rfl]
        simp only [Out.bind_ok]
        exact this
      have hfl : pOp gAdd (pVar 5) (pLc (pItems (pVar 3)) (fName 6) pYes (pVar 6) [6]) [some (.adr i), some (.rol (ns.map .int)), some (.int r), some (.str zOdd), none, some (.lst dOdd), none] (M.set i m2) = .ok (.lst dMany) (M.set i m2) :=
        v_op (v_var rfl) hlc (e_addL rfl rfl (by rw [List.length_map, len_eq, zOdd_len]; decide))
      have hf : pOp gAdd (pC (.int 4)) (pCB bLen (aCons (pVar 3) (aNil))) [some (.adr i), some (.rol (ns.map .int)), some (.int r), some (.str zOdd), none, some (.lst dOdd), none] (M.set i m2) = .ok (.int (dMany.length : Int)) (M.set i m2) := by
        have hl : bLen (M.set i m2) [.str zOdd] = .ok (.int 93) (M.set i m2) := by
          have := e_lenS (M := M.set i m2) (l := zOdd.cps.toList) (by rw [len_eq, zOdd_len]; decide)
          rw [T_eta, len_eq, zOdd_len] at this
          exact this
        exact (v_op rfl (v_cb (v_a1 (v_var rfl)) hl) (e_add _ _)).trans (by rw [dMany_len]; rfl)
      obtain ⟨l, m', h1, h2, h3⟩ := pick w hi dMany_text (m := m) a4 (ns := ns) (ρ := [some (.adr i), some (.rol (ns.map .int)), some (.int r), some (.str zOdd), none, some (.lst dOdd), none]) rfl rfl hfl a4 hf (by rw [dMany_len]; decide)
      refine ⟨l, m', v_sqr ((v_if_t (v_and_t t1 t2)).trans ?_), h2, h3⟩
      refine (v_sq (v_ag (d := .lst dOdd) (v_lst rfl (by decide)))).trans ?_
      refine (v_sq (v_ag (d := .str zOdd) rfl)).trans ?_
      exact v_ret h1
    · have t2 : pTest (pOp gEq (drw (pC (.int 6))) (pC (.int 0))) [some (.adr i), some (.rol (ns.map .int)), some (.int r), none, none, none, none] (M.set i m) = .ok false (M.set i m2) :=
        v_test ((v_op a1 rfl (e_eqI _ _)).trans (congrArg (fun b => Out.ok (D.bl b) (M.set i m2)) (decide_eq_false c2)))
      obtain ⟨l, m', h1, h2, h3⟩ := sig_ok w hi a4 (ns := ns) (some (.int r))
      exact ⟨l, m', (v_sq ((v_if_f (v_and_t t1 t2)).trans rfl)).trans h1, h2, h3⟩
  · have t1 : pTest (pOp gEq (pVar 2) (pC (.int 4))) [some (.adr i), some (.rol (ns.map .int)), some (.int r), none, none, none, none] (M.set i m) = .ok false (M.set i m) :=
      v_test ((v_op (v_var rfl) rfl (e_eqI _ _)).trans (congrArg (fun b => Out.ok (D.bl b) (M.set i m)) (decide_eq_false c1)))
    obtain ⟨l, m', h1, h2, h3⟩ := sig_ok w hi hs (ns := ns) (some (.int r))
    exact ⟨l, m', (v_sq ((v_if_f (v_and_f t1)).trans rfl)).trans h1, h2, h3⟩
theorem lpiece_ok (w : WfM M) (hi : i < M.length) {m : MO} (hs : Rst m) : ∃ (l : List Nat) (m' : MO), Φ__law_piece [.adr i, .rol (ns.map .int)] (M.set i m) = .ok (.str (T l)) (M.set i m') ∧ l.length ≤ 26 ∧ Rst m' := by
  have e0 : rho0 N__law_piece [.adr i, .rol (ns.map .int)] = [some (.adr i), some (.rol (ns.map .int)), none, none, none, none, none] := rfl
  suffices hb : ∃ (l : List Nat) (m' : MO), g__law_piece Φ__law_next Φ__law_word (rho0 N__law_piece [.adr i, .rol (ns.map .int)]) (M.set i m) = .ok (.rt (.str (T l))) (M.set i m') ∧ l.length ≤ 26 ∧ Rst m' by
    obtain ⟨l, m', h1, h2, h3⟩ := hb
    exact ⟨l, m', run_st (J := []) rfl w h3 (by rw [h1, List.append_nil]) rfl, h2, h3⟩
  rw [e0]
  obtain ⟨r, m1, a1, a2, a3, a4⟩ := drc_ok w hi 8 hs (by omega) (ns := ns) (ρ := [some (.adr i), some (.rol (ns.map .int)), none, none, none, none, none]) rfl rfl
  unfold g__law_piece
  have step1 : ∀ {g : FS} {l : List Nat} {m' : MO}, g [some (.adr i), some (.rol (ns.map .int)), some (.int r), none, none, none, none] (M.set i m1) = .ok (.rt (.str (T l))) (M.set i m') → sSeq (sAsg (drw (pC (.int 8))) (fName 2)) g [some (.adr i), some (.rol (ns.map .int)), none, none, none, none, none] (M.set i m) = .ok (.rt (.str (T l))) (M.set i m') := fun h => (v_sq (v_ag a1)).trans h
  by_cases c1 : r < 2
  · have t1 : pTest (pOp gLt (pVar 2) (pC (.int 2))) [some (.adr i), some (.rol (ns.map .int)), some (.int r), none, none, none, none] (M.set i m1) = .ok true (M.set i m1) :=
      v_test ((v_op (v_var rfl) rfl (e_lt _ _)).trans (congrArg (fun b => Out.ok (D.bl b) (M.set i m1)) (decide_eq_true c1)))
    obtain ⟨l, m2, b1, b2, b3⟩ := word_ok w hi a4 (ns := ns)
    obtain ⟨r2, m3, d1, d2, d3, d4⟩ := drc_ok w hi 12 b3 (by omega) (ns := ns) (ρ := [some (.adr i), some (.rol (ns.map .int)), some (.int r), none, some (.str (T l)), none, none]) rfl rfl
    by_cases c2 : r2 = 0
    · obtain ⟨r3, m4, f1, f2, f3, f4⟩ := drc_ok w hi 14 d4 (by omega) (ns := ns) (ρ := [some (.adr i), some (.rol (ns.map .int)), some (.int r), none, some (.str (T l)), none, none]) rfl rfl
      obtain ⟨n, rfl⟩ := Int.eq_ofNat_of_zero_le f2
      have hz : (PySem.Str.ofString "abcdefghijklm").length = 13 := by decide +kernel
      have hsl : gSl (M.set i m4) (.str (PySem.Str.ofString "abcdefghijklm")) none (some (n : Int)) = .ok (.str (T ((PySem.Str.ofString "abcdefghijklm").cps.toList.take n))) (M.set i m4) := by
        rw [e_slS (by rw [hz]; decide)]
        conv => lhs; rw [← T_eta (PySem.Str.ofString "abcdefghijklm")]
        rw [cutS_to]
      have hlen : ((PySem.Str.ofString "abcdefghijklm").cps.toList.take n).length ≤ 13 := by
        rw [List.length_take]
        have : (PySem.Str.ofString "abcdefghijklm").cps.toList.length = 13 := by decide +kernel
        omega
      have ha : gAdd (M.set i m4) (.str (T l)) (.str (T ((PySem.Str.ofString "abcdefghijklm").cps.toList.take n))) = .ok (.str (T (l ++ (PySem.Str.ofString "abcdefghijklm").cps.toList.take n))) (M.set i m4) := by
        rw [e_addS (by rw [T_len, T_len]; omega), T_app]
      refine ⟨l ++ (PySem.Str.ofString "abcdefghijklm").cps.toList.take n, m4, step1 ?_, ?_, f4⟩
      · refine v_sqr ((v_if_t t1).trans ?_)
        · refine (v_sq (v_ag (v_call (v_ac (v_var rfl) (v_a1 (v_var rfl))) b1))).trans ?_
          refine (v_sq (ρ' := [some (.adr i), some (.rol (ns.map .int)), some (.int r), none, some (.str (T (l ++ (PySem.Str.ofString "abcdefghijklm").cps.toList.take n))), none, none]) (M1 := M.set i m4) ?_).trans (v_ret (v_var rfl))
          refine (v_if_t (M1 := M.set i m3) (v_test ((v_op d1 rfl (e_eqI _ _)).trans ?_))).trans ?_
          · exact congrArg (fun b => Out.ok (D.bl b) (M.set i m3)) (decide_eq_true c2)
          · refine v_ag (v_op (v_var rfl) ?_ ha)
            unfold pSl oNone oSome
            simp only [pC, Out.bind_ok]
            have f1' := f1
            show ((drw (pC (.int 14)) _ _).bind _).bind _ = _
            rw [f1]
            exact hsl
      · rw [List.length_append]
        omega
    · refine ⟨l, m3, step1 ?_, by omega, d4⟩
      refine v_sqr ((v_if_t t1).trans ?_)
      · refine (v_sq (v_ag (v_call (v_ac (v_var rfl) (v_a1 (v_var rfl))) b1))).trans ?_
        refine (v_sq (ρ' := [some (.adr i), some (.rol (ns.map .int)), some (.int r), none, some (.str (T l)), none, none]) (M1 := M.set i m3) ?_).trans (v_ret (v_var rfl))
        refine (v_if_f (M1 := M.set i m3) (v_test ((v_op d1 rfl (e_eqI _ _)).trans ?_))).trans rfl
        exact congrArg (fun b => Out.ok (D.bl b) (M.set i m3)) (decide_eq_false c2)
  · have t1 : pTest (pOp gLt (pVar 2) (pC (.int 2))) [some (.adr i), some (.rol (ns.map .int)), some (.int r), none, none, none, none] (M.set i m1) = .ok false (M.set i m1) :=
      v_test ((v_op (v_var rfl) rfl (e_lt _ _)).trans (congrArg (fun b => Out.ok (D.bl b) (M.set i m1)) (decide_eq_false c1)))
    by_cases c2 : r = 2
    · have t2 : pTest (pOp gEq (pVar 2) (pC (.int 2))) [some (.adr i), some (.rol (ns.map .int)), some (.int r), none, none, none, none] (M.set i m1) = .ok true (M.set i m1) :=
        v_test ((v_op (v_var rfl) rfl (e_eqI _ _)).trans (congrArg (fun b => Out.ok (D.bl b) (M.set i m1)) (decide_eq_true c2)))
      obtain ⟨r1, m2, b1, b2, b3, b4⟩ := drc_ok w hi 2 a4 (by omega) (ns := ns) (ρ := [some (.adr i), some (.rol (ns.map .int)), some (.int r), none, none, none, none]) rfl rfl
      obtain ⟨d, hd, d1⟩ := ix_lst (M := M.set i m2) (ds := [.int 12, .int 10001]) b2 b3
      obtain ⟨k, rfl, hk⟩ : ∃ k : Int, d = .int k ∧ 3 ≤ k ∧ k ≤ 10001 := by
        rcases List.mem_cons.mp hd with rfl | hd
        · exact ⟨12, rfl, by omega, by omega⟩
        · rw [List.mem_singleton] at hd
          exact ⟨10001, hd, by omega, by omega⟩
      have hf : pOp gIx (pLst (aCons (pC (.int 12)) (aCons (pC (.int 10001)) (aNil)))) (drw (pC (.int 2))) [some (.adr i), some (.rol (ns.map .int)), some (.int r), none, none, none, none] (M.set i m1) = .ok (.int k) (M.set i m2) :=
        v_op (v_lst (v_ac rfl (v_a1 rfl)) (by show 2 ≤ 16777216; decide)) b1 d1
      obtain ⟨r2, m3, f1, f2, f3, f4⟩ := drw_ok w hi b4 ⟨by omega, by omega⟩ (ns := ns) (ρ := [some (.adr i), some (.rol (ns.map .int)), some (.int r), none, none, none, none]) rfl rfl hf
      obtain ⟨n, rfl⟩ := Int.eq_ofNat_of_zero_le f2
      have hst : bStr (M.set i m3) [.int (n : Int)] = .ok (.str (T (shown n))) (M.set i m3) := by
        show (if (n : Int).natAbs < 18446744073709551616 then Out.ok (D.str (Str.ofString (toString (n : Int)))) (M.set i m3) else .bad) = _
        rw [if_pos (by omega), str_shown]
      refine ⟨shown n, m3, step1 ?_, ?_, f4⟩
      · refine (v_sq ((v_if_f t1).trans rfl)).trans ?_
        exact v_sqr ((v_if_t t2).trans (v_ret (v_cb (v_a1 f1) hst)))
      · unfold shown
        rw [List.length_map]
        exact Nat.le_trans (PyProof.Rows.digits10_le (k := 5) (by omega) (by omega)) (by decide)
    · have t2 : pTest (pOp gEq (pVar 2) (pC (.int 2))) [some (.adr i), some (.rol (ns.map .int)), some (.int r), none, none, none, none] (M.set i m1) = .ok false (M.set i m1) :=
        v_test ((v_op (v_var rfl) rfl (e_eqI _ _)).trans (congrArg (fun b => Out.ok (D.bl b) (M.set i m1)) (decide_eq_false c2)))
      by_cases c3 : r = 3
      · have t3 : pTest (pOp gEq (pVar 2) (pC (.int 3))) [some (.adr i), some (.rol (ns.map .int)), some (.int r), none, none, none, none] (M.set i m1) = .ok true (M.set i m1) :=
          v_test ((v_op (v_var rfl) rfl (e_eqI _ _)).trans (congrArg (fun b => Out.ok (D.bl b) (M.set i m1)) (decide_eq_true c3)))
        obtain ⟨r1, m2, b1, b2, b3, b4⟩ := drc_ok w hi 3 a4 (by omega) (ns := ns) (ρ := [some (.adr i), some (.rol (ns.map .int)), some (.int r), none, none, none, none]) rfl rfl
        by_cases c4 : r1 = 0
        · have t4 : pTest (pOp gEq (drw (pC (.int 3))) (pC (.int 0))) [some (.adr i), some (.rol (ns.map .int)), some (.int r), none, none, none, none] (M.set i m1) = .ok true (M.set i m2) :=
            v_test ((v_op b1 rfl (e_eqI _ _)).trans (congrArg (fun b => Out.ok (D.bl b) (M.set i m2)) (decide_eq_true c4)))
          obtain ⟨l, m', h1, h2, h3⟩ := pick w hi dOne_text (m := m) b4 (ns := ns) (ρ := [some (.adr i), some (.rol (ns.map .int)), some (.int r), none, none, none, none]) rfl rfl (f := pC (.int 8)) (m1 := m2) (one_ok _ _) b4 rfl (by decide)
          refine ⟨l, m', step1 ?_, h2, h3⟩
          refine (v_sq ((v_if_f t1).trans rfl)).trans ?_
          refine (v_sq ((v_if_f t2).trans rfl)).trans ?_
          exact v_sqr ((v_if_t (v_and_t t3 t4)).trans (v_ret h1))
        · have t4 : pTest (pOp gEq (drw (pC (.int 3))) (pC (.int 0))) [some (.adr i), some (.rol (ns.map .int)), some (.int r), none, none, none, none] (M.set i m1) = .ok false (M.set i m2) :=
            v_test ((v_op b1 rfl (e_eqI _ _)).trans (congrArg (fun b => Out.ok (D.bl b) (M.set i m2)) (decide_eq_false c4)))
          obtain ⟨l, m', h1, h2, h3⟩ := four_ok w hi b4 (ns := ns) r
          refine ⟨l, m', step1 ?_, h2, h3⟩
          refine (v_sq ((v_if_f t1).trans rfl)).trans ?_
          refine (v_sq ((v_if_f t2).trans rfl)).trans ?_
          exact (v_sq ((v_if_f (v_and_t t3 t4)).trans rfl)).trans h1
      · have t3 : pTest (pOp gEq (pVar 2) (pC (.int 3))) [some (.adr i), some (.rol (ns.map .int)), some (.int r), none, none, none, none] (M.set i m1) = .ok false (M.set i m1) :=
          v_test ((v_op (v_var rfl) rfl (e_eqI _ _)).trans (congrArg (fun b => Out.ok (D.bl b) (M.set i m1)) (decide_eq_false c3)))
        obtain ⟨l, m', h1, h2, h3⟩ := four_ok w hi a4 (ns := ns) r
        refine ⟨l, m', step1 ?_, h2, h3⟩
        refine (v_sq ((v_if_f t1).trans rfl)).trans ?_
        refine (v_sq ((v_if_f t2).trans rfl)).trans ?_
        exact (v_sq ((v_if_f (v_and_f t3)).trans rfl)).trans h1
end
end M

set_option Elab.async false
set_option linter.all false
set_option maxRecDepth 100000
set_option maxHeartbeats 2000000
namespace M
open PySem L2 Pd G

def dGap : List D := [.str (PySem.Str.ofString ""), .str (PySem.Str.ofString " "), .str (PySem.Str.ofString "  "), .str (PySem.Str.ofString "\n"), .str (PySem.Str.ofString " "), .str (PySem.Str.ofString "\n \n")]
theorem dGap_text : dGap.all isText = true := by decide +kernel
section
variable {M : PM} {i : Nat} {ns : List Int}
theorem gap_ok (ρ : Rho) (M : PM) : pLst (aCons (pC (.str (PySem.Str.ofString ""))) (aCons (pC (.str (PySem.Str.ofString " "))) (aCons (pC (.str (PySem.Str.ofString "  "))) (aCons (pC (.str (PySem.Str.ofString "\n"))) (aCons (pC (.str (PySem.Str.ofString " "))) (aCons (pC (.str (PySem.Str.ofString "\n \n"))) (aNil))))))) ρ M = .ok (.lst dGap) M := v_lst rfl (by decide)
theorem text_loop (w : WfM M) (hi : i < M.length) : ∀ (items : List D) (l : List Nat) (x3 : Option D) (m : MO), Rst m → l.length + 52 * items.length ≤ 5000 →
    ∃ (l' : List Nat) (x3' : Option D) (m' : MO), sEach (fName 3) (lb__law_text_1 Φ__law_next Φ__law_piece) items [some (.adr i), some (.rol (ns.map .int)), some (.str (T l)), x3] (M.set i m) =
      .ok (.nx [some (.adr i), some (.rol (ns.map .int)), some (.str (T l')), x3']) (M.set i m') ∧ l'.length ≤ l.length + 52 * items.length ∧ Rst m'
  | [], l, x3, m, hs, _ => ⟨l, x3, m, rfl, Nat.le_refl _, hs⟩
  | k :: items, l, x3, m, hs, hl => by
    rw [List.length_cons] at hl
    obtain ⟨l1, m1, h1, h2, h3⟩ := lpiece_ok w hi hs (ns := ns)
    obtain ⟨l2, m2, h4, h5, h6⟩ := pick w hi dGap_text (m := m) h3 (ns := ns) (ρ := [some (.adr i), some (.rol (ns.map .int)), some (.str (T l)), some k]) rfl rfl (f := pC (.int 6)) (m1 := m1) (gap_ok _ _) h3 rfl (by decide)
    have ha : gAdd (M.set i m1) (.str (T l)) (.str (T l1)) = .ok (.str (T (l ++ l1))) (M.set i m1) := by
      rw [e_addS (by rw [T_len, T_len]; omega), T_app]
    have hb : gAdd (M.set i m2) (.str (T (l ++ l1))) (.str (T l2)) = .ok (.str (T (l ++ l1 ++ l2))) (M.set i m2) := by
      rw [e_addS (by rw [T_len, T_len, List.length_append]; omega), T_app]
    have hln : (l ++ l1 ++ l2).length ≤ l.length + 52 := by
      rw [List.length_append, List.length_append]
      omega
    obtain ⟨l', x3', m', g1, g2, g3⟩ := text_loop w hi items (l ++ l1 ++ l2) (some k) m2 h6 (by omega)
    refine ⟨l', x3', m', ?_, by rw [List.length_cons]; omega, g3⟩
    conv => lhs; unfold sEach
    have hbd : lb__law_text_1 Φ__law_next Φ__law_piece [some (.adr i), some (.rol (ns.map .int)), some (.str (T l)), some k] (M.set i m) = .ok (.nx [some (.adr i), some (.rol (ns.map .int)), some (.str (T (l ++ l1 ++ l2))), some k]) (M.set i m2) :=
      v_ag (v_op (v_op (v_var rfl) (v_call (v_ac (v_var rfl) (v_a1 (v_var rfl))) h1) ha) h4 hb)
    simp only [fName, List.set_cons_succ, List.set_cons_zero, Out.bind_ok, hbd]
    exact g1
theorem text_ok (w : WfM M) (hi : i < M.length) {m : MO} (hs : Rst m) : ∃ (l : List Nat) (m' : MO), Φ__law_text [.adr i, .rol (ns.map .int)] (M.set i m) = .ok (.str (T l)) (M.set i m') ∧ l.length ≤ 4000 ∧ Rst m' := by
  have e0 : rho0 N__law_text [.adr i, .rol (ns.map .int)] = [some (.adr i), some (.rol (ns.map .int)), none, none] := rfl
  obtain ⟨r, m1, a1, a2, a3, a4⟩ := drc_ok w hi 31 hs (by omega) (ns := ns) (ρ := [some (.adr i), some (.rol (ns.map .int)), some (.str (T [])), none]) rfl rfl
  obtain ⟨n, rfl⟩ := Int.eq_ofNat_of_zero_le a2
  have hn : (rngD 0 n).length = n := by unfold rngD; simp
  obtain ⟨l, x3, m2, b1, b2, b3⟩ := text_loop w hi (ns := ns) (rngD 0 n) [] none m1 a4 (by rw [hn]; simp; omega)
  rw [hn] at b2
  have b2' : l.length ≤ 52 * n := by simpa using b2
  refine ⟨l, m2, run_st (J := []) rfl w b3 ?_ rfl, by omega, b3⟩
  rw [e0, List.append_nil]
  unfold g__law_text
  refine (v_sq (v_ag (d := .str (T [])) rfl)).trans ?_
  exact (v_sq ((v_for (e_rng1 (v_a1 a1) (by omega))).trans b1)).trans rfl
end
/-! the law -/
theorem round_ok {ns : List Int} {m : MO} (hs : Rst m) (x2 x3 : Option D) : ∃ (x3' : Option D) (m' : MO), lb_law_1 Φ__law_text Φ__law_same Φ__law_tokens Φ_tokens [some (.rol (ns.map .int)), some (.adr 0), x2, x3] [m] = .ok (.nx [some (.rol (ns.map .int)), some (.adr 0), x2, x3']) [m'] ∧ Rst m' := by
  obtain ⟨l, m', h1, h2, h3⟩ := text_ok (M := [m]) (i := 0) (ns := ns) (by unfold WfM; simp [hs.cl]) (by simp) hs
  have h1' : Φ__law_text [.adr 0, .rol (ns.map .int)] [m] = .ok (.str (T l)) [m'] := h1
  have w : WfM [m'] := by unfold WfM; simp [h3.cl]
  refine ⟨some (.str (T l)), m', ?_, h3⟩
  unfold lb_law_1
  refine (v_sq (v_ag (v_call (v_ac (v_var rfl) (v_a1 (v_var rfl))) h1'))).trans ?_
  refine (v_if_f (M1 := [m']) (v_not (k := true) (v_test ?_))).trans rfl
  exact v_call (v_ac (v_call (v_a1 (v_var rfl)) (tokens_ok w l (by omega))) (v_a1 (v_call (v_a1 (v_var rfl)) (law_tokens_ok w l h2)))) (same_toks w l (by omega))
theorem rounds_ok {ns : List Int} : ∀ (items : List D) (m : MO) (x2 x3 : Option D), Rst m → ∃ (x2' x3' : Option D) (m' : MO), sEach (fName 2) (lb_law_1 Φ__law_text Φ__law_same Φ__law_tokens Φ_tokens) items [some (.rol (ns.map .int)), some (.adr 0), x2, x3] [m] = .ok (.nx [some (.rol (ns.map .int)), some (.adr 0), x2', x3']) [m'] ∧ Rst m'
  | [], m, x2, x3, hs => ⟨x2, x3, m, rfl, hs⟩
  | k :: items, m, x2, x3, hs => by
    obtain ⟨y, m1, h1, h2⟩ := round_ok (ns := ns) hs (some k) x3
    obtain ⟨a, b, m2, g1, g2⟩ := rounds_ok items m1 (some k) y h2
    refine ⟨a, b, m2, ?_, g2⟩
    conv => lhs; unfold sEach
    simp only [fName, List.set_cons_succ, List.set_cons_zero, Out.bind_ok, h1]
    exact g1
theorem law_true : ∀ ns : List Int, ns.length ≤ 63 → ∃ M, G.Φ_law [.rol (ns.map .int)] [] = .ok (.bl true) M := by
  intro ns _
  have e0 : rho0 N_law [.rol (ns.map .int)] = [some (.rol (ns.map .int)), none, none, none] := rfl
  obtain ⟨x2, x3, m, h1, h2⟩ := rounds_ok (ns := ns) (rngD 0 3) (.lst [.int 0, .int 0, .int 1, .int 0]) none none Rst.start
  have w : WfM [m] := by unfold WfM; simp [h2.cl]
  refine ⟨[], run_pure (J := [m]) rfl (by rfl) ?_ rfl⟩
  rw [e0]
  unfold g_law
  refine (v_sq (ρ' := [some (.rol (ns.map .int)), some (.adr 0), none, none]) (M1 := [.lst [.int 0, .int 0, .int 1, .int 0]]) ?_).trans ?_
  · refine v_ag ?_
    unfold pNew
    rw [show (aCons (pC (.int 0)) (aCons (pC (.int 0)) (aCons (pC (.int 1)) (aCons (pC (.int 0)) (aNil))))) [some (.rol (ns.map .int)), none, none, none] [] = .ok [.int 0, .int 0, .int 1, .int 0] [] from rfl]
    simp only [Out.bind_ok]
    rw [if_pos (by show 4 ≤ 16777216; decide)]
    rfl
  refine (v_sq ((v_for (e_rng1 (n := 3) (v_a1 rfl) (by decide))).trans h1)).trans ?_
  refine v_ret ?_
  have ht : toks [] = [] := rfl
  have a1 := tokens_ok w [] (by decide)
  have a2 := same_toks w [] (by decide)
  rw [ht] at a1 a2
  exact v_call (v_ac (v_call (v_a1 rfl) a1) (v_a1 rfl)) a2
end M

open PySem PySem.W PyProof.Rows
set_option maxRecDepth 100000 in
set_option maxHeartbeats 0 in
theorem PySem.Challenge.cw_carryclaim_k01_tokens_holds : PySem.Challenge.rw_carryclaim_k01_tokens.Holds := by
  w_on; o_law; k_head; (case hw => w_witness2)
  k_fill
  refine Pd.walk (l := PySem.Challenge.rw_carryclaim_k01_tokens) (k := 5) (Φ := G.Φ_law) rfl rfl ⟨rfl, by decide, by decide⟩ (fun w h Y => PySem.W.kIn_of Y) M.law_true ?F
  case F =>
    intro w mg fa h KX GX hmg
    refine' G.all_mk KX GX hmg ?a_run_end ?l_run_end ?c_run_end ?k_run_end ?a_token_end ?l_token_end ?c_token_end ?k_token_end ?a_is_number ?l_is_number ?c_is_number ?k_is_number ?a_read_token ?l_read_token ?c_read_token ?k_read_token ?a_tokens ?l_tokens ?c_tokens ?k_tokens ?a__law_next ?l__law_next ?c__law_next ?k__law_next ?a__law_same ?l__law_same ?c__law_same ?k__law_same ?a__law_word ?l__law_word ?c__law_word ?k__law_word ?a__law_piece ?l__law_piece ?c__law_piece ?k__law_piece ?a__law_text ?l__law_text ?c__law_text ?k__law_text ?a__law_run_of ?l__law_run_of ?c__law_run_of ?k__law_run_of ?a__law_token ?l__law_token ?c__law_token ?k__law_token ?a__law_tokens ?l__law_tokens ?c__law_tokens ?k__law_tokens ?a_law ?l_law ?c_law ?k_law ?b_len ?b_tuple ?b_int ?b_str ?b_abs ?b_isinstance ?b_range ?b_bool ?v_LETTERS ?v_WORD_CHARACTERS ?v_DIGITS ?v_LONG_SIGNS ?l_LONG_SIGNS ?p_LONG_SIGNS ?v_LONGEST_WORD ?v_SHORT_SIGNS ?l_SHORT_SIGNS ?p_SHORT_SIGNS ?v_LARGEST_NUMBER
    (case a_run_end => k_is)
    (case l_run_end => k_is)
    (case c_run_end => k_is)
    (case k_run_end => k_is)
    (case a_token_end => k_is)
    (case l_token_end => k_is)
    (case c_token_end => k_is)
    (case k_token_end => k_is)
    (case a_is_number => k_is)
    (case l_is_number => k_is)
    (case c_is_number => k_is)
    (case k_is_number => k_is)
    (case a_read_token => k_is)
    (case l_read_token => k_is)
    (case c_read_token => k_is)
    (case k_read_token => k_is)
    (case a_tokens => k_is)
    (case l_tokens => k_is)
    (case c_tokens => k_is)
    (case k_tokens => k_is)
    (case a__law_next => k_is)
    (case l__law_next => k_is)
    (case c__law_next => k_is)
    (case k__law_next => k_is)
    (case a__law_same => k_is)
    (case l__law_same => k_is)
    (case c__law_same => k_is)
    (case k__law_same => k_is)
    (case a__law_word => k_is)
    (case l__law_word => k_is)
    (case c__law_word => k_is)
    (case k__law_word => k_is)
    (case a__law_piece => k_is)
    (case l__law_piece => k_is)
    (case c__law_piece => k_is)
    (case k__law_piece => k_is)
    (case a__law_text => k_is)
    (case l__law_text => k_is)
    (case c__law_text => k_is)
    (case k__law_text => k_is)
    (case a__law_run_of => k_is)
    (case l__law_run_of => k_is)
    (case c__law_run_of => k_is)
    (case k__law_run_of => k_is)
    (case a__law_token => k_is)
    (case l__law_token => k_is)
    (case c__law_token => k_is)
    (case k__law_token => k_is)
    (case a__law_tokens => k_is)
    (case l__law_tokens => k_is)
    (case c__law_tokens => k_is)
    (case k__law_tokens => k_is)
    (case a_law => k_is)
    (case l_law => k_is)
    (case c_law => k_is)
    (case k_law => k_is)
    (case b_len => k_is)
    (case b_tuple => k_is)
    (case b_int => k_is)
    (case b_str => k_is)
    (case b_abs => k_is)
    (case b_isinstance => k_is)
    (case b_range => k_is)
    (case b_bool => k_is)
    (case v_LETTERS => k_is)
    (case v_WORD_CHARACTERS => k_is)
    (case v_DIGITS => k_is)
    (case v_LONG_SIGNS => k_is)
    (case l_LONG_SIGNS => k_is)
    (case v_LONGEST_WORD => k_is)
    (case v_SHORT_SIGNS => k_is)
    (case l_SHORT_SIGNS => k_is)
    (case v_LARGEST_NUMBER => k_is)
    (case p_LONG_SIGNS => repeat (first | exact .nil | refine .cons ⟨_, rfl⟩ ?_))
    (case p_SHORT_SIGNS => repeat (first | exact .nil | refine .cons ⟨_, rfl⟩ ?_))

