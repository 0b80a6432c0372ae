import PyProof.Rows.All
import Wide.All
import OpenK.AllK
import Wide.FinOn
import HandS.ForMost
import HandS.TupAny
import HandS.IsInst
import HandS.Wide
import HandS.Steps
import HandS.RaiseMore
import HandS.Iter
import HandS.SortInts
import HandS.Style
import HandS.WordsDict
import HandS.WordsExc
import HandS.ExcInit
import HandS.Gcd
import PySem.Challenge.RW_carryclaim_k10_widened_ranges
set_option Elab.async false
set_option linter.all false
set_option maxRecDepth 100000
set_option maxHeartbeats 1000000
/-! Plain data over the hand layer: what a piece of the program does, as a function of plain values. -/
namespace Pd
open PySem L2

/-! ### plain values -/
inductive D where
  | non | bl (b : Bool) | int (i : Int) | str (x : Str) | tup (xs : List D) | lst (xs : List D) | rol (xs : List D) | adr (i : Nat) | raw (v : V) | xcp (a dd : Addr) (ns : List Str) (ds : List D)
/-- an object that changes -/
inductive MO where
  | lst (xs : List D)
  | ins (C : Addr) (fs : List (Str × D))
  | dct (kvs : List (L2.Key × D))
abbrev Rho := List (Option D)
abbrev PM := List MO
/-- what comes of a piece: a value and the objects; an exception; nothing that is told -/
inductive Out (A : Type) where
  | ok (a : A) (M : PM)
  | exn (c : Value) (fs : Option (List (Str × D))) (M : PM)
  | bad
def Out.bind {A B : Type} : Out A → (A → PM → Out B) → Out B
  | .ok a M, g => g a M
  | .exn c fs M, _ => .exn c fs M
  | .bad, _ => .bad
@[simp] theorem Out.bind_ok {A B : Type} (a : A) (M : PM) (g : A → PM → Out B) : (Out.ok a M).bind g = g a M := rfl
@[simp] theorem Out.bind_exn {A B : Type} (c : Value) (fs : Option (List (Str × D))) (M : PM) (g : A → PM → Out B) : (Out.exn c fs M : Out A).bind g = .exn c fs M := rfl
@[simp] theorem Out.bind_bad {A B : Type} (g : A → PM → Out B) : (Out.bad : Out A).bind g = .bad := rfl

/-! ### how they lie -/
def K0 : Hp := fun _ => none
def TupAt (K : PySem.W.Frag) (α : List Addr) (H : Hp) (p : Addr) (xs : List V) : Prop := (Rd H p (.tup xs) ∧ p ∉ α) ∨ SqT K K0 p xs
def LstAt (α : List Addr) (H : Hp) (p : Addr) (xs : List V) : Prop := H p = some (.lst xs) ∧ p ∉ α
/-- a list that is only read: the script, a constant -/
def RolAt (K : PySem.W.Frag) (α : List Addr) (H : Hp) (p : Addr) (xs : List V) : Prop := (Rd H p (.lst xs) ∧ p ∉ α) ∨ SqL K K0 p xs
section
variable {K : PySem.W.Frag} {α α' α'' : List Addr} {H H' H'' : Hp} {p a : Addr} {xs : List V}
theorem rd0 {u : HO} (h : Rd K0 p u) : False := by
  rcases h with h | ⟨o, h⟩
  · cases h
  · cases h
theorem TupAt.sq (h : TupAt K α H p xs) : SqT K H p xs := by
  rcases h with h | h
  · exact .inl h.1
  · rcases h with h | h
    · exact (rd0 h).elim
    · exact .inr h
theorem LstAt.sq (h : LstAt α H p xs) : SqL K H p xs := .of h.1
theorem RolAt.sq (h : RolAt K α H p xs) : SqL K H p xs := by
  rcases h with h | h
  · exact .inl h.1
  · rcases h with h | h
    · exact (rd0 h).elim
    · exact .inr h
/-- from one moment to a later one: new objects that change come behind; all else that was tracked stands -/
structure Step (α : List Addr) (H : Hp) (α' : List Addr) (H' : Hp) : Prop where
  ext : ∃ β, α' = α ++ β ∧ ∀ b, b ∈ β → H b = none
  pr : ∀ a o, H a = some o → a ∉ α → H' a = some o
theorem Step.refl (α : List Addr) (H : Hp) : Step α H α H := ⟨⟨[], by simp, fun _ h => by cases h⟩, fun _ _ h _ => h⟩
theorem Step.out (s : Step α H α' H') {o : HO} (h : H a = some o) (n : a ∉ α) : a ∉ α' := by
  obtain ⟨β, rfl, hb⟩ := s.ext
  intro q
  rcases List.mem_append.mp q with q | q
  · exact n q
  · rw [hb a q] at h
    cases h
theorem Step.trans (s : Step α H α' H') (t : Step α' H' α'' H'') (k : ∀ b, b ∈ α → H b ≠ none → H' b ≠ none) : Step α H α'' H'' := by
  refine ⟨?_, fun a o h n => t.pr a o (s.pr a o h n) (s.out h n)⟩
  obtain ⟨β, e, hb⟩ := s.ext
  obtain ⟨γ, e', hc⟩ := t.ext
  refine ⟨β ++ γ, by rw [e', e, List.append_assoc], fun b hb' => ?_⟩
  rcases List.mem_append.mp hb' with q | q
  · exact hb b q
  · cases h : H b with
    | none => rfl
    | some o =>
      have z := hc b q
      by_cases n : b ∈ α
      · exact absurd z (k b n (by rw [h]; exact fun q => nomatch q))
      · rw [s.pr b o h n] at z
        cases z
theorem TupAt.step (s : Step α H α' H') (h : TupAt K α H p xs) : TupAt K α' H' p xs := by
  rcases h with ⟨h | ⟨o, h⟩, n⟩ | h
  · exact .inl ⟨.inl (s.pr _ _ h n), s.out h n⟩
  · exact .inl ⟨.inr ⟨o, s.pr _ _ h n⟩, s.out h n⟩
  · exact .inr h
theorem LstAt.step (s : Step α H α' H') (h : LstAt α H p xs) : LstAt α' H' p xs := ⟨s.pr _ _ h.1 h.2, s.out h.1 h.2⟩
theorem RolAt.step (s : Step α H α' H') (h : RolAt K α H p xs) : RolAt K α' H' p xs := by
  rcases h with ⟨h | ⟨o, h⟩, n⟩ | h
  · exact .inl ⟨.inl (s.pr _ _ h n), s.out h n⟩
  · exact .inl ⟨.inr ⟨o, s.pr _ _ h n⟩, s.out h n⟩
  · exact .inr h
end
mutual
inductive Rep (K : PySem.W.Frag) (α : List Addr) (H : Hp) : D → V → Prop
  | non : Rep K α H .non .non
  | bl (b : Bool) : Rep K α H (.bl b) (.bl b)
  | int (i : Int) : Rep K α H (.int i) (.int i)
  | str (x : Str) : Rep K α H (.str x) (.str x)
  | raw (v : V) : Rep K α H (.raw v) v
  | adr {i : Nat} {a : Addr} : α[i]? = some a → Rep K α H (.adr i) (.ref a)
  | tup {p : Addr} {xs : List V} {ds : List D} : TupAt K α H p xs → RepL K α H ds xs → Rep K α H (.tup ds) (.ref p)
  | lst {p : Addr} {xs : List V} {ds : List D} : LstAt α H p xs → RepL K α H ds xs → Rep K α H (.lst ds) (.ref p)
  | rol {p : Addr} {xs : List V} {ds : List D} : RolAt K α H p xs → RepL K α H ds xs → Rep K α H (.rol ds) (.ref p)
  | xcp {a dd : Addr} {ns : List Str} {ds : List D} {vs : List V} : H dd = some (.xd (ns.zip vs)) → dd ∉ α → RepL K α H ds vs → Rep K α H (.xcp a dd ns ds) (.ref a)
inductive RepL (K : PySem.W.Frag) (α : List Addr) (H : Hp) : List D → List V → Prop
  | nil : RepL K α H [] []
  | cons {d : D} {ds : List D} {v : V} {vs : List V} : Rep K α H d v → RepL K α H ds vs → RepL K α H (d :: ds) (v :: vs)
end
section
variable {K : PySem.W.Frag} {α α' α'' : List Addr} {H H' H'' : Hp} {p a : Addr}
mutual
theorem Rep.step (s : Step α H α' H') : ∀ (d : D) (v : V), Rep K α H d v → Rep K α' H' d v
  | .non, _, h => by cases h; exact .non
  | .bl b, _, h => by cases h; exact .bl b
  | .int i, _, h => by cases h; exact .int i
  | .str x, _, h => by cases h; exact .str x
  | .raw v, _, h => by cases h; exact .raw v
  | .adr i, _, h => by
    cases h with
    | adr e =>
      obtain ⟨β, q, _⟩ := s.ext
      refine .adr ?_
      rw [q, List.getElem?_append_left (List.getElem?_eq_some_iff.mp e).1]
      exact e
  | .tup ds, _, h => by
    cases h with
    | tup t r => exact .tup (t.step s) (RepL.step s ds _ r)
  | .lst ds, _, h => by
    cases h with
    | lst t r => exact .lst (t.step s) (RepL.step s ds _ r)
  | .rol ds, _, h => by
    cases h with
    | rol t r => exact .rol (t.step s) (RepL.step s ds _ r)
  | .xcp a dd ns ds, _, h => by
    cases h with
    | xcp e n r => exact .xcp (s.pr _ _ e n) (s.out e n) (RepL.step s ds _ r)
theorem RepL.step (s : Step α H α' H') : ∀ (ds : List D) (vs : List V), RepL K α H ds vs → RepL K α' H' ds vs
  | [], _, h => by cases h; exact .nil
  | d :: ds, _, h => by
    cases h with
    | cons r t => exact .cons (Rep.step s d _ r) (RepL.step s ds _ t)
end
theorem RepL.length : ∀ {ds : List D} {vs : List V}, RepL K α H ds vs → ds.length = vs.length
  | _, _, .nil => rfl
  | _, _, .cons _ t => by rw [List.length_cons, List.length_cons, RepL.length t]
theorem RepL.get : ∀ {ds : List D} {vs : List V} {i : Nat} {d : D}, RepL K α H ds vs → ds[i]? = some d → ∃ v, vs[i]? = some v ∧ Rep K α H d v
  | _, _, _, _, .nil, e => by simp at e
  | _, _, 0, _, .cons r _, e => by simp at e; subst e; exact ⟨_, rfl, r⟩
  | _, _, i + 1, d, .cons _ t, e => by
    obtain ⟨v, h1, h2⟩ := RepL.get (i := i) (d := d) t (by simpa using e)
    exact ⟨v, by simpa using h1, h2⟩
theorem RepL.get' : ∀ {ds : List D} {vs : List V} {i : Nat} {v : V}, RepL K α H ds vs → vs[i]? = some v → ∃ d, ds[i]? = some d ∧ Rep K α H d v
  | _, _, _, _, .nil, e => by simp at e
  | _, _, 0, _, .cons r _, e => by simp at e; subst e; exact ⟨_, rfl, r⟩
  | _, _, i + 1, v, .cons _ t, e => by
    obtain ⟨d, h1, h2⟩ := RepL.get' (i := i) (v := v) t (by simpa using e)
    exact ⟨d, by simpa using h1, h2⟩
theorem RepL.append : ∀ {ds es : List D} {vs ws : List V}, RepL K α H ds vs → RepL K α H es ws → RepL K α H (ds ++ es) (vs ++ ws)
  | _, _, _, _, .nil, s => s
  | _, _, _, _, .cons r t, s => .cons r (RepL.append t s)
theorem RepL.take : ∀ {ds : List D} {vs : List V} (n : Nat), RepL K α H ds vs → RepL K α H (ds.take n) (vs.take n)
  | _, _, 0, _ => .nil
  | _, _, _ + 1, .nil => .nil
  | _, _, n + 1, .cons r t => .cons r (RepL.take n t)
theorem RepL.drop : ∀ {ds : List D} {vs : List V} (n : Nat), RepL K α H ds vs → RepL K α H (ds.drop n) (vs.drop n)
  | _, _, 0, r => r
  | _, _, _ + 1, .nil => .nil
  | _, _, n + 1, .cons _ t => RepL.drop n t
theorem RepL.set {d : D} {v : V} (r : Rep K α H d v) : ∀ {ds : List D} {vs : List V} (i : Nat), RepL K α H ds vs → RepL K α H (ds.set i d) (vs.set i v)
  | _, _, _, .nil => .nil
  | _, _, 0, .cons _ t => .cons r t
  | _, _, i + 1, .cons q t => .cons q (RepL.set r i t)
/-- a dict's entries -/
inductive DL (K : PySem.W.Frag) (α : List Addr) (H : Hp) : List (Key × D) → List (Key × V) → Prop
  | nil : DL K α H [] []
  | cons {k : Key} {d : D} {v : V} {r : List (Key × D)} {s : List (Key × V)} : Rep K α H d v → DL K α H r s → DL K α H ((k, d) :: r) ((k, v) :: s)
theorem DL.step (s : Step α H α' H') : ∀ {r : List (Key × D)} {q : List (Key × V)}, DL K α H r q → DL K α' H' r q
  | _, _, .nil => .nil
  | _, _, .cons h t => .cons (Rep.step s _ _ h) (DL.step s t)
theorem DL.length : ∀ {r : List (Key × D)} {q : List (Key × V)}, DL K α H r q → r.length = q.length
  | _, _, .nil => rfl
  | _, _, .cons _ t => by rw [List.length_cons, List.length_cons, t.length]
/-- an object that changes, at its place -/
def ObR (K : PySem.W.Frag) (α : List Addr) (H : Hp) (a : Addr) : MO → Prop
  | .lst ds => ∃ vs, H a = some (.lst vs) ∧ RepL K α H ds vs
  | .ins C fs => ∃ dx vs, H a = some (.ins C dx ((fs.map (·.1)).zip vs)) ∧ RepL K α H (fs.map (·.2)) vs
  | .dct kvs => ∃ q, H a = some (.dK q) ∧ DL K α H kvs q
theorem ObR.there {m : MO} (h : ObR K α H a m) : ∃ o, H a = some o := by
  cases m with
  | lst ds => obtain ⟨vs, e, _⟩ := h; exact ⟨_, e⟩
  | ins C fs => obtain ⟨dx, vs, e, _⟩ := h; exact ⟨_, e⟩
  | dct kvs => obtain ⟨q, e, _⟩ := h; exact ⟨_, e⟩
structure Wd (K : PySem.W.Frag) (α : List Addr) (M : PM) (H : Hp) : Prop where
  nd : α.Nodup
  len : α.length = M.length
  ob : ∀ (i : Nat) (m : MO), M[i]? = some m → ∃ a, α[i]? = some a ∧ ObR K α H a m
theorem Wd.there {M : PM} (w : Wd K α M H) {b : Addr} (h : b ∈ α) : ∃ o, H b = some o := by
  obtain ⟨i, hi, e⟩ := List.mem_iff_getElem.mp h
  have hm : i < M.length := by rw [← w.len]; exact hi
  obtain ⟨a, e1, o1⟩ := w.ob i M[i] (List.getElem?_eq_getElem hm)
  have : α[i]? = some b := by rw [List.getElem?_eq_getElem hi, e]
  rw [this] at e1
  cases e1
  exact o1.there
theorem Step.tr {M' : PM} (s : Step α H α' H') (w : Wd K α' M' H') (t : Step α' H' α'' H'') : Step α H α'' H'' := s.trans t fun b hb _ => by
  obtain ⟨β, e, _⟩ := s.ext
  obtain ⟨o, ho⟩ := w.there (b := b) (by rw [e]; exact List.mem_append_left _ hb)
  rw [ho]
  exact fun q => nomatch q
/-- nothing but new objects -/
theorem Step.ex {α : List Addr} (h : ∀ a o, H a = some o → H' a = some o) : Step α H α H' := ⟨⟨[], by simp, fun _ h => by cases h⟩, fun a o e _ => h a o e⟩
theorem Wd.ex {M : PM} (w : Wd K α M H) (h : ∀ a o, H a = some o → H' a = some o) : Wd K α M H' := by
  refine ⟨w.nd, w.len, fun i m e => ?_⟩
  obtain ⟨a, e1, o1⟩ := w.ob i m e
  refine ⟨a, e1, ?_⟩
  cases m with
  | lst ds => obtain ⟨vs, q, r⟩ := o1; exact ⟨vs, h _ _ q, RepL.step (Step.ex h) _ _ r⟩
  | ins C fs => obtain ⟨dx, vs, q, r⟩ := o1; exact ⟨dx, vs, h _ _ q, RepL.step (Step.ex h) _ _ r⟩
  | dct kvs => obtain ⟨vs, q, r⟩ := o1; exact ⟨vs, h _ _ q, DL.step (Step.ex h) r⟩
theorem ex_new {o : HO} (h : H p = none) : ∀ a u, H a = some u → upd H p o a = some u := fun a u e => by
  rw [upd_ne (ne_of_none e h)]
  exact e
/-- the object i is stored anew -/
theorem Wd.put {M : PM} {i : Nat} {m : MO} {o : HO} (w : Wd K α M H) (ha : α[i]? = some a) (hi : i < M.length) (hr : ∀ H', Step α H α H' → H' a = some o → ObR K α H' a m) :
    Wd K α (M.set i m) (upd H a o) ∧ Step α H α (upd H a o) := by
  have hm : a ∈ α := List.mem_of_getElem? ha
  have st : Step α H α (upd H a o) := ⟨⟨[], by simp, fun _ h => by cases h⟩, fun b u e n => by rw [upd_ne (fun z => n (by rw [z]; exact hm))]; exact e⟩
  refine ⟨⟨w.nd, by rw [List.length_set]; exact w.len, fun j n e => ?_⟩, st⟩
  by_cases hij : i = j
  · subst hij
    rw [List.getElem?_set_self hi] at e
    cases e
    exact ⟨a, ha, hr _ st upd_same⟩
  · rw [List.getElem?_set_ne hij] at e
    obtain ⟨b, e1, o1⟩ := w.ob j n e
    have hb : b ≠ a := fun z => by
      subst z
      have h1 := (List.getElem?_eq_some_iff.mp ha)
      have h2 := (List.getElem?_eq_some_iff.mp e1)
      exact hij ((List.getElem_inj w.nd).mp (h1.2.trans h2.2.symm))
    refine ⟨b, e1, ?_⟩
    cases n with
    | lst ds => obtain ⟨vs, q, r⟩ := o1; exact ⟨vs, by rw [upd_ne hb]; exact q, RepL.step st _ _ r⟩
    | ins C fs => obtain ⟨dx, vs, q, r⟩ := o1; exact ⟨dx, vs, by rw [upd_ne hb]; exact q, RepL.step st _ _ r⟩
    | dct kvs => obtain ⟨vs, q, r⟩ := o1; exact ⟨vs, by rw [upd_ne hb]; exact q, DL.step st r⟩
/-- a new object that changes -/
theorem Wd.new {M : PM} {m : MO} {o : HO} (w : Wd K α M H) (hn : H a = none) (hr : ∀ H', Step α H (α ++ [a]) H' → H' a = some o → ObR K (α ++ [a]) H' a m) :
    Wd K (α ++ [a]) (M ++ [m]) (upd H a o) ∧ Step α H (α ++ [a]) (upd H a o) := by
  have st : Step α H (α ++ [a]) (upd H a o) := ⟨⟨[a], rfl, fun b h => by rw [List.mem_singleton.mp h]; exact hn⟩, fun b u e _ => ex_new hn b u e⟩
  have na : a ∉ α := fun h => by
    obtain ⟨o, e⟩ := w.there h
    rw [hn] at e
    cases e
  refine ⟨⟨List.nodup_append.mpr ⟨w.nd, by simp, fun x hx y hy z => na (by rw [List.mem_singleton.mp hy] at z; rw [← z]; exact hx)⟩, by simp [w.len], fun j n e => ?_⟩, st⟩
  by_cases hj : j < M.length
  · rw [List.getElem?_append_left hj] at e
    obtain ⟨b, e1, o1⟩ := w.ob j n e
    have hb : b ≠ a := fun z => na (by rw [← z]; exact List.mem_of_getElem? e1)
    refine ⟨b, by rw [List.getElem?_append_left (List.getElem?_eq_some_iff.mp e1).1]; exact e1, ?_⟩
    cases n with
    | lst ds => obtain ⟨vs, q, r⟩ := o1; exact ⟨vs, by rw [upd_ne hb]; exact q, RepL.step st _ _ r⟩
    | ins C fs => obtain ⟨dx, vs, q, r⟩ := o1; exact ⟨dx, vs, by rw [upd_ne hb]; exact q, RepL.step st _ _ r⟩
    | dct kvs => obtain ⟨vs, q, r⟩ := o1; exact ⟨vs, by rw [upd_ne hb]; exact q, DL.step st r⟩
  · have ej : j = M.length := by
      have := (List.getElem?_eq_some_iff.mp e).1
      rw [List.length_append] at this
      simp at this
      omega
    subst ej
    rw [List.getElem?_append_right (Nat.le_refl _), Nat.sub_self] at e
    have e2 : m = n := Option.some.inj e
    subst e2
    exact ⟨a, by rw [← w.len, List.getElem?_append_right (Nat.le_refl _), Nat.sub_self]; rfl, hr _ st upd_same⟩
/-- the names' values -/
def EnvR (K : PySem.W.Frag) (α : List Addr) (H : Hp) (ρ : Rho) (σ : St) : Prop := ρ.length = σ.length ∧ ∀ (i : Nat) (d : D), ρ[i]? = some (some d) → ∃ v, σ[i]? = some (some v) ∧ Rep K α H d v
theorem EnvR.step {ρ : Rho} {σ : St} (e : EnvR K α H ρ σ) (s : Step α H α' H') : EnvR K α' H' ρ σ := ⟨e.1, fun i d h => by
  obtain ⟨v, h1, h2⟩ := e.2 i d h
  exact ⟨v, h1, Rep.step s _ _ h2⟩⟩
theorem EnvR.set {ρ : Rho} {σ : St} {i : Nat} {d : D} {v : V} (e : EnvR K α H ρ σ) (r : Rep K α H d v) : EnvR K α H (ρ.set i (some d)) (σ.set i (some v)) := by
  refine ⟨by rw [List.length_set, List.length_set]; exact e.1, fun j d' h => ?_⟩
  by_cases hij : i = j
  · subst hij
    by_cases hl : i < ρ.length
    · rw [List.getElem?_set_self hl] at h
      have : d = d' := Option.some.inj (Option.some.inj h)
      subst this
      exact ⟨v, by rw [List.getElem?_set_self (by rw [← e.1]; exact hl)], r⟩
    · rw [List.set_eq_of_length_le (by omega)] at h
      exact absurd (List.getElem?_eq_some_iff.mp h).1 hl
  · rw [List.getElem?_set_ne hij] at h
    obtain ⟨v', h1, h2⟩ := e.2 j d' h
    exact ⟨v', by rw [List.getElem?_set_ne hij]; exact h1, h2⟩
/-- an exception's own dict -/
def XRep (K : PySem.W.Frag) (α : List Addr) (H : Hp) : Option (List (Str × D)) → Option Addr → Prop
  | none, od => od = none
  | some fs, od => ∃ (dd : Addr) (vs : List V), od = some dd ∧ H dd = some (.xd ((fs.map (·.1)).zip vs)) ∧ dd ∉ α ∧ RepL K α H (fs.map (·.2)) vs
/-- what is wanted behind a piece -/
def Post {A B : Type} (R : List Addr → Hp → A → B → Prop) (K : PySem.W.Frag) (α : List Addr) (H : Hp) (Q : B → Hp → Prop) (E : XK) : Out A → Prop
  | .ok a M' => ∀ b α' H', Step α H α' H' → Wd K α' M' H' → R α' H' a b → Q b H'
  | .exn c fs M' => ∀ od α' H', Step α H α' H' → Wd K α' M' H' → XRep K α' H' fs od → E c od H'
  | .bad => False
theorem Post.step {A B : Type} {R : List Addr → Hp → A → B → Prop} {Q : B → Hp → Prop} {E : XK} {M : PM} {o : Out A} (h : Post R K α H Q E o) (s : Step α H α' H') (w : Wd K α' M H') : Post R K α' H' Q E o := by
  cases o with
  | ok a M' => exact fun b β G t x r => h b β G (s.tr w t) x r
  | exn c fs M' => exact fun od β G t x r => h od β G (s.tr w t) x r
  | bad => exact h
def RX {A B : Type} (R : List Addr → Hp → A → B → Prop) (K : PySem.W.Frag) (E : XK) (t : St → Hp → (B → Hp → Prop) → Prop) (f : Rho → PM → Out A) : Prop :=
  ∀ ρ σ H α M Q, EnvR K α H ρ σ → Wd K α M H → Post R K α H Q E (f ρ M) → t σ H Q
abbrev RE (K : PySem.W.Frag) (E : XK) (t : TE) (f : Rho → PM → Out D) : Prop := RX (Rep K) K E t f
abbrev RT (K : PySem.W.Frag) (E : XK) (t : TT) (f : Rho → PM → Out Bool) : Prop := RX (fun _ _ a b => a = b) K E t f
abbrev RA (K : PySem.W.Frag) (E : XK) (t : TA) (f : Rho → PM → Out (List D)) : Prop := RX (RepL K) K E t f
/-- THE CHAIN: a piece, then what follows with its value -/
theorem bnd {A B A' B' : Type} {R : List Addr → Hp → A → B → Prop} {R' : List Addr → Hp → A' → B' → Prop} {Q : B' → Hp → Prop} {E : XK} {o : Out A} {g : A → PM → Out A'} {C : B → Hp → Prop}
    (hp : Post R' K α H Q E (o.bind g)) (k : ∀ a M' b α' H', o = .ok a M' → Step α H α' H' → Wd K α' M' H' → R α' H' a b → Post R' K α' H' Q E (g a M') → C b H') : Post R K α H C E o := by
  cases o with
  | ok a M' => exact fun b α' H' s w r => k a M' b α' H' rfl s w r (Post.step hp s w)
  | exn c fs M' => exact hp
  | bad => exact hp
end
end Pd

set_option Elab.async false
set_option linter.all false
set_option maxRecDepth 100000
set_option maxHeartbeats 1000000
namespace Pd
open PySem L2

/-! ### pieces as functions of plain values -/
abbrev FE := Rho → PM → Out D
abbrev FT := Rho → PM → Out Bool
abbrev FA := Rho → PM → Out (List D)
abbrev FO := Rho → PM → Out (Option Int)
inductive Fl where
  | nx (ρ : Rho) | rt (d : D) | bk (ρ : Rho) | ct (ρ : Rho)
abbrev FS := Rho → PM → Out Fl
abbrev FG := D → Rho → PM → Out Rho
abbrev FGs := List D → Rho → PM → Out Rho
def pVar (i : Nat) : FE := fun ρ M => match ρ[i]? with | some (some d) => .ok d M | _ => .bad
def pC (d : D) : FE := fun _ M => .ok d M
def pOp (g : PM → D → D → Out D) (fa fb : FE) : FE := fun ρ M => (fa ρ M).bind fun a M1 => (fb ρ M1).bind fun b M2 => g M2 a b
def pUn (g : PM → D → Out D) (fa : FE) : FE := fun ρ M => (fa ρ M).bind fun a M1 => g M1 a
def asB : D → PM → Out Bool
  | .bl b, M => .ok b M
  | _, _ => .bad
def pTest (fa : FE) : FT := fun ρ M => (fa ρ M).bind asB
def pAnd (f g : FT) : FT := fun ρ M => (f ρ M).bind fun b M1 => if b = true then g ρ M1 else .ok false M1
def pOr (f g : FT) : FT := fun ρ M => (f ρ M).bind fun b M1 => if b = true then .ok true M1 else g ρ M1
def pNot (f : FT) : FT := fun ρ M => (f ρ M).bind fun b M1 => .ok (!b) M1
def pIf (c : FT) (f g : FE) : FE := fun ρ M => (c ρ M).bind fun b M1 => if b = true then f ρ M1 else g ρ M1
def pAndV (f g : FE) : FE := fun ρ M => (f ρ M).bind fun a M1 => (asB a M1).bind fun b M1 => if b = true then g ρ M1 else .ok (.bl false) M1
def pOrV (f g : FE) : FE := fun ρ M => (f ρ M).bind fun a M1 => (asB a M1).bind fun b M1 => if b = true then .ok (.bl true) M1 else g ρ M1
def pNotV (f : FE) : FE := fun ρ M => (f ρ M).bind fun a M1 => (asB a M1).bind fun b M1 => .ok (.bl (!b)) M1
def aNil : FA := fun _ M => .ok [] M
def aCons (f : FE) (g : FA) : FA := fun ρ M => (f ρ M).bind fun a M1 => (g ρ M1).bind fun as M2 => .ok (a :: as) M2
/-- 16,777,216: the longest list, tuple or text -/
abbrev line : Nat := 16777216
def pTup (f : FA) : FE := fun ρ M => (f ρ M).bind fun as M1 => if as.length ≤ line then .ok (.tup as) M1 else .bad
def pLst (f : FA) : FE := fun ρ M => (f ρ M).bind fun as M1 => if as.length ≤ line then .ok (.lst as) M1 else .bad
/-- a list that is to change -/
def pNew (f : FA) : FE := fun ρ M => (f ρ M).bind fun as M1 => if as.length ≤ line then .ok (.adr M1.length) (M1 ++ [.lst as]) else .bad
def pCall (Φ : List D → PM → Out D) (f : FA) : FE := fun ρ M => (f ρ M).bind Φ
def pCB (g : PM → List D → Out D) (f : FA) : FE := fun ρ M => (f ρ M).bind fun as M1 => g M1 as
def oNone : FO := fun _ M => .ok none M
def oSome (f : FE) : FO := fun ρ M => (f ρ M).bind fun a M1 => match a with | .int i => .ok (some i) M1 | _ => .bad
def pSl (g : PM → D → Option Int → Option Int → Out D) (f : FE) (fl fh : FO) : FE := fun ρ M => (f ρ M).bind fun a M1 => (fl ρ M1).bind fun l M2 => (fh ρ M2).bind fun h M3 => g M3 a l h
def gor (g g' : PM → D → D → Out D) : PM → D → D → Out D := fun M a b => match g M a b with | .bad => g' M a b | o => o
/-! statements -/
def sNext : FS := fun ρ M => .ok (.nx ρ) M
def sSeq (f g : FS) : FS := fun ρ M => (f ρ M).bind fun fl M1 => match fl with | .nx ρ' => g ρ' M1 | fl => .ok fl M1
def sAsg (f : FE) (g : FG) : FS := fun ρ M => (f ρ M).bind fun d M1 => (g d ρ M1).bind fun ρ' M2 => .ok (.nx ρ') M2
def sDrop (f : FE) : FS := fun ρ M => (f ρ M).bind fun _ M1 => .ok (.nx ρ) M1
def sRet (f : FE) : FS := fun ρ M => (f ρ M).bind fun d M1 => .ok (.rt d) M1
def sRetN : FS := fun _ M => .ok (.rt .non) M
def sIf (c : FT) (f g : FS) : FS := fun ρ M => (c ρ M).bind fun b M1 => if b = true then f ρ M1 else g ρ M1
def sBreak : FS := fun ρ M => .ok (.bk ρ) M
def sCont : FS := fun ρ M => .ok (.ct ρ) M
def fName (i : Nat) : FG := fun d ρ M => .ok (ρ.set i (some d)) M
def fNil : FGs := fun ds ρ M => match ds with | [] => .ok ρ M | _ => .bad
def fCons (f : FG) (g : FGs) : FGs := fun ds ρ M => match ds with | d :: r => (f d ρ M).bind fun ρ1 M1 => g r ρ1 M1 | [] => .bad
def fTup (n : Nat) (g : FGs) : FG := fun d ρ M => match d with | .tup ds => if ds.length = n then g ds ρ M else .bad | _ => .bad
/-- what is stored at o[i] -/
def putL (M : PM) (o i v : D) : Out Unit := match o, i with
  | .adr k, .int j => match M[k]? with
    | some (.lst ds) => match ixN ds.length j with
      | some n => .ok () (M.set k (.lst (ds.set n v)))
      | none => .bad
    | _ => .bad
  | _, _ => .bad
def fSub (fo fi : FE) : FG := fun d ρ M => (fo ρ M).bind fun o M1 => (fi ρ M1).bind fun i M2 => (putL M2 o i d).bind fun _ M3 => .ok ρ M3
def sWhile (c : FT) (b : FS) : Nat → FS
  | 0, _, _ => .bad
  | n + 1, ρ, M => (c ρ M).bind fun k M1 => if k = true then (b ρ M1).bind fun fl M2 => match fl with
      | .nx ρ' => sWhile c b n ρ' M2
      | .ct ρ' => sWhile c b n ρ' M2
      | .bk ρ' => .ok (.nx ρ') M2
      | .rt d => .ok (.rt d) M2
    else .ok (.nx ρ) M1
def sEach (g : FG) (b : FS) : List D → FS
  | [], ρ, M => .ok (.nx ρ) M
  | d :: ds, ρ, M => (g d ρ M).bind fun ρ1 M1 => (b ρ1 M1).bind fun fl M2 => match fl with
      | .nx ρ' => sEach g b ds ρ' M2
      | .ct ρ' => sEach g b ds ρ' M2
      | .bk ρ' => .ok (.nx ρ') M2
      | .rt d => .ok (.rt d) M2
def sFor (w : FA) (g : FG) (b : FS) : FS := fun ρ M => (w ρ M).bind fun ds M1 => sEach g b ds ρ M1
def sAug (i : Nat) (f : FE) (g : PM → D → D → Out D) : FS := fun ρ M => match ρ[i]? with
  | some (some x) => (f ρ M).bind fun y M1 => (g M1 x y).bind fun z M2 => .ok (.nx (ρ.set i (some z))) M2
  | _ => .bad

/-! ### they are read so -/
inductive FlV where
  | nx (σ : St) | rt (v : V) | bk (σ : St) | ct (σ : St)
def FlR (K : PySem.W.Frag) (α : List Addr) (H : Hp) : Fl → FlV → Prop
  | .nx ρ, .nx σ => EnvR K α H ρ σ
  | .rt d, .rt v => Rep K α H d v
  | .bk ρ, .bk σ => EnvR K α H ρ σ
  | .ct ρ, .ct σ => EnvR K α H ρ σ
  | _, _ => False
def endQ (D : Ends) : FlV → Hp → Prop
  | .nx σ, H => D.nx σ H
  | .rt v, H => D.rt v H
  | .bk σ, H => D.bk σ H
  | .ct σ, H => D.ct σ H
def RS (K : PySem.W.Frag) (E : XK) (t : TS) (f : FS) : Prop :=
  ∀ ρ σ H α M D, EnvR K α H ρ σ → Wd K α M H → Post (FlR K) K α H (endQ D) E (f ρ M) → t D σ H
def RG (K : PySem.W.Frag) (E : XK) (g : TG) (f : FG) : Prop :=
  ∀ ρ σ H α M d v Q, EnvR K α H ρ σ → Wd K α M H → Rep K α H d v → Post (EnvR K) K α H Q E (f d ρ M) → g v σ H Q
def RGs (K : PySem.W.Frag) (E : XK) (g : TGs) (f : FGs) : Prop :=
  ∀ ρ σ H α M ds vs Q, EnvR K α H ρ σ → Wd K α M H → RepL K α H ds vs → Post (EnvR K) K α H Q E (f ds ρ M) → g vs σ H Q
abbrev RO (K : PySem.W.Frag) (E : XK) (t : TO) (f : FO) : Prop := RX (fun _ _ a b => a = b) K E t f
/-- what a for walks: the items as they come -/
def ItR (K : PySem.W.Frag) (α : List Addr) (H : Hp) (ds : List D) (J : It) : Prop :=
  ∀ α' H', Step α H α' H' → ∀ i : Nat, (∀ d, ds[i]? = some d → J.go i H' ∧ ∀ x H'', J.yld i H' x H'' → (∀ a o, H' a = some o → H'' a = some o) ∧ Rep K α' H'' d x) ∧ (ds.length ≤ i → J.stop i H')
abbrev RI (K : PySem.W.Frag) (E : XK) (t : TI) (f : FA) : Prop := RX (ItR K) K E t f
/-- a two-place operation by values; a built-in's call by values -/
def OpD (K : PySem.W.Frag) (E : XK) (r : R2) (g : PM → D → D → Out D) : Prop :=
  ∀ α H M a b x y Q, Wd K α M H → Rep K α H a x → Rep K α H b y → Post (Rep K) K α H Q E (g M a b) → r x y H Q
def UnD (K : PySem.W.Frag) (E : XK) (r : V → Hp → VK → Prop) (g : PM → D → Out D) : Prop :=
  ∀ α H M a x Q, Wd K α M H → Rep K α H a x → Post (Rep K) K α H Q E (g M a) → r x H Q
def CbD (K : PySem.W.Frag) (E : XK) (r : List V → Hp → VK → Prop) (g : PM → List D → Out D) : Prop :=
  ∀ α H M as xs Q, Wd K α M H → RepL K α H as xs → Post (Rep K) K α H Q E (g M as) → r xs H Q
def SlD (K : PySem.W.Frag) (E : XK) (r : V → Option Int → Option Int → Hp → VK → Prop) (g : PM → D → Option Int → Option Int → Out D) : Prop :=
  ∀ α H M a x lo hi Q, Wd K α M H → Rep K α H a x → Post (Rep K) K α H Q E (g M a lo hi) → r x lo hi H Q
section
variable {K : PySem.W.Frag} {E : XK} {ta tb te : TE} {fa fb fe : FE} {t u : TT} {f g : FT}
theorem line_eq : line = sizeLine := by rw [sizeLine_eq]
/-- the value itself, the heap as it was -/
theorem Post.now {A B : Type} {R : List Addr → Hp → A → B → Prop} {α : List Addr} {H : Hp} {Q : B → Hp → Prop} {a : A} {b : B} {M : PM} (h : Post R K α H Q E (.ok a M)) (w : Wd K α M H) (r : R α H a b) : Q b H := h b α H (Step.refl _ _) w r
/-- .. nothing but new objects -/
theorem Post.nowX {A B : Type} {R : List Addr → Hp → A → B → Prop} {α : List Addr} {H H' : Hp} {Q : B → Hp → Prop} {a : A} {b : B} {M : PM} (h : Post R K α H Q E (.ok a M)) (w : Wd K α M H) (x : ∀ a o, H a = some o → H' a = some o) (r : R α H' a b) : Q b H' := h b α H' (Step.ex x) (w.ex x) r
theorem r_var {i : Nat} : RE K E (tVar i) (pVar i) := by
  intro ρ σ H α M Q e w h
  unfold pVar at h
  split at h
  · rename_i d hd
    obtain ⟨v, h1, h2⟩ := e.2 i d hd
    exact ⟨v, h1, h.now w h2⟩
  · exact h.elim
theorem r_c {d : D} {v : V} (r : ∀ α H, Rep K α H d v) : RE K E (tC v) (pC d) := fun ρ σ H α M Q e w h => h.now w (r α H)
theorem r_op {r : R2} {g : PM → D → D → Out D} (ha : RE K E ta fa) (hb : RE K E tb fb) (ho : OpD K E r g) : RE K E (tOp r ta tb) (pOp g fa fb) := fun ρ σ H α M Q e w h =>
  ha ρ σ H α M _ e w (bnd h fun a M1 x α1 H1 _ s1 w1 r1 h1 => hb ρ σ H1 α1 M1 _ (e.step s1) w1 (bnd h1 fun b M2 y α2 H2 _ s2 w2 r2 h2 => ho α2 H2 M2 a b x y Q w2 (Rep.step s2 _ _ r1) r2 h2))
theorem r_un {r : V → Hp → VK → Prop} {g : PM → D → Out D} (ha : RE K E ta fa) (ho : UnD K E r g) : RE K E (tUn r ta) (pUn g fa) := fun ρ σ H α M Q e w h =>
  ha ρ σ H α M _ e w (bnd h fun a M1 x α1 H1 _ s1 w1 r1 h1 => ho α1 H1 M1 a x Q w1 r1 h1)
theorem asB_ok {α : List Addr} {H : Hp} {a : D} {x : V} {M : PM} {A B : Type} {R : List Addr → Hp → A → B → Prop} {Q : B → Hp → Prop} {g : Bool → PM → Out A} (r : Rep K α H a x) (h : Post R K α H Q E ((asB a M).bind g)) : ∃ b, a = .bl b ∧ x = .bl b ∧ Post R K α H Q E (g b M) := by
  cases a with
  | bl b => cases r; exact ⟨b, rfl, rfl, h⟩
  | _ => exact h.elim
theorem r_test (ha : RE K E te fe) : RT K E (tTest te) (pTest fe) := fun ρ σ H α M Q e w h =>
  ha ρ σ H α M _ e w (bnd h fun a M1 x α1 H1 _ s1 w1 r1 h1 => by
    cases a with
    | bl b => cases r1; exact ⟨b, rfl, h1.now w1 rfl⟩
    | _ => exact h1.elim)
theorem r_tB (ha : RE K E te fe) : RT K E (tB te) (pTest fe) := r_test ha
theorem r_and (h1 : RT K E t f) (h2 : RT K E u g) : RT K E (tAnd t u) (pAnd f g) := fun ρ σ H α M Q e w h =>
  h1 ρ σ H α M _ e w (bnd h fun b M1 x α1 H1 _ s1 w1 r1 q => by
    subst r1
    cases b with
    | true => rw [if_pos rfl] at q ⊢; exact h2 ρ σ H1 α1 M1 Q (e.step s1) w1 q
    | false => rw [if_neg Bool.false_ne_true] at q ⊢; exact q.now w1 rfl)
theorem r_or (h1 : RT K E t f) (h2 : RT K E u g) : RT K E (tOr t u) (pOr f g) := fun ρ σ H α M Q e w h =>
  h1 ρ σ H α M _ e w (bnd h fun b M1 x α1 H1 _ s1 w1 r1 q => by
    subst r1
    cases b with
    | true => rw [if_pos rfl] at q ⊢; exact q.now w1 rfl
    | false => rw [if_neg Bool.false_ne_true] at q ⊢; exact h2 ρ σ H1 α1 M1 Q (e.step s1) w1 q)
theorem r_not (h1 : RT K E t f) : RT K E (tNot t) (pNot f) := fun ρ σ H α M Q e w h =>
  h1 ρ σ H α M _ e w (bnd h fun b M1 x α1 H1 _ s1 w1 r1 q => by
    subst r1
    exact q.now w1 rfl)
theorem r_if (hc : RT K E t f) (h1 : RE K E ta fa) (h2 : RE K E tb fb) : RE K E (tIf t ta tb) (pIf f fa fb) := fun ρ σ H α M Q e w h =>
  hc ρ σ H α M _ e w (bnd h fun b M1 x α1 H1 _ s1 w1 r1 q => by
    subst r1
    cases b with
    | true => rw [if_pos rfl] at q ⊢; exact h1 ρ σ H1 α1 M1 Q (e.step s1) w1 q
    | false => rw [if_neg Bool.false_ne_true] at q ⊢; exact h2 ρ σ H1 α1 M1 Q (e.step s1) w1 q)
theorem r_andV (h1 : RE K E ta fa) (h2 : RE K E tb fb) : RE K E (tAndV ta tb) (pAndV fa fb) := fun ρ σ H α M Q e w h =>
  h1 ρ σ H α M _ e w (bnd h fun a M1 x α1 H1 _ s1 w1 r1 q => by
    obtain ⟨b, rfl, rfl, q⟩ := asB_ok r1 q
    refine ⟨b, rfl, ?_⟩
    cases b with
    | true => rw [if_pos rfl] at q ⊢; exact h2 ρ σ H1 α1 M1 Q (e.step s1) w1 q
    | false => rw [if_neg Bool.false_ne_true] at q ⊢; exact q.now w1 (.bl false))
theorem r_orV (h1 : RE K E ta fa) (h2 : RE K E tb fb) : RE K E (tOrV ta tb) (pOrV fa fb) := fun ρ σ H α M Q e w h =>
  h1 ρ σ H α M _ e w (bnd h fun a M1 x α1 H1 _ s1 w1 r1 q => by
    obtain ⟨b, rfl, rfl, q⟩ := asB_ok r1 q
    refine ⟨b, rfl, ?_⟩
    cases b with
    | true => rw [if_pos rfl] at q ⊢; exact q.now w1 (.bl true)
    | false => rw [if_neg Bool.false_ne_true] at q ⊢; exact h2 ρ σ H1 α1 M1 Q (e.step s1) w1 q)
theorem r_notV (h1 : RE K E ta fa) : RE K E (tNotV ta) (pNotV fa) := fun ρ σ H α M Q e w h =>
  h1 ρ σ H α M _ e w (bnd h fun a M1 x α1 H1 _ s1 w1 r1 q => by
    obtain ⟨b, rfl, rfl, q⟩ := asB_ok r1 q
    exact ⟨b, rfl, q.now w1 (.bl _)⟩)
theorem r_nil : RA K E tNil aNil := fun ρ σ H α M Q e w h => h.now w .nil
theorem r_cons {tr : TA} {fr : FA} (ha : RE K E ta fa) (hr : RA K E tr fr) : RA K E (tCons ta tr) (aCons fa fr) := fun ρ σ H α M Q e w h =>
  ha ρ σ H α M _ e w (bnd h fun a M1 x α1 H1 _ s1 w1 r1 h1 => hr ρ σ H1 α1 M1 _ (e.step s1) w1 (bnd h1 fun b M2 y α2 H2 _ s2 w2 r2 h2 => h2.now w2 (.cons (Rep.step s2 _ _ r1) r2)))
theorem new_tup {α : List Addr} {H : Hp} {p : Addr} {ds : List D} {xs : List V} {M : PM} (w : Wd K α M H) (hp : H p = none) (r : RepL K α H ds xs) : Rep K α (upd H p (.tup xs)) (.tup ds) (.ref p) :=
  .tup (.inl ⟨.inl upd_same, fun h => by
    obtain ⟨o, e⟩ := w.there h
    rw [hp] at e
    cases e⟩) (RepL.step (Step.ex (ex_new hp)) _ _ r)
theorem new_lst {α : List Addr} {H : Hp} {p : Addr} {ds : List D} {xs : List V} {M : PM} (w : Wd K α M H) (hp : H p = none) (r : RepL K α H ds xs) : Rep K α (upd H p (.lst xs)) (.lst ds) (.ref p) :=
  .lst ⟨upd_same, fun h => by
    obtain ⟨o, e⟩ := w.there h
    rw [hp] at e
    cases e⟩ (RepL.step (Step.ex (ex_new hp)) _ _ r)
theorem ifb {A B : Type} {R : List Addr → Hp → A → B → Prop} {α : List Addr} {H : Hp} {Q : B → Hp → Prop} {c : Prop} [Decidable c] {o : Out A} (h : Post R K α H Q E (if c then o else .bad)) : c ∧ Post R K α H Q E o := by
  by_cases hc : c
  · rw [if_pos hc] at h; exact ⟨hc, h⟩
  · rw [if_neg hc] at h; exact h.elim
theorem r_tup {ta : TA} {fa : FA} (ha : RA K E ta fa) : RE K E (tTup ta) (pTup fa) := fun ρ σ H α M Q e w h =>
  ha ρ σ H α M _ e w (bnd h fun as M1 xs α1 H1 _ s1 w1 r1 q => by
    obtain ⟨hl, q⟩ := ifb q
    rw [r1.length, line_eq] at hl
    exact ⟨hl, fun p hp => q.nowX w1 (ex_new hp) (new_tup w1 hp r1)⟩)
theorem r_lst {ta : TA} {fa : FA} (ha : RA K E ta fa) : RE K E (tLst ta) (pLst fa) := fun ρ σ H α M Q e w h =>
  ha ρ σ H α M _ e w (bnd h fun as M1 xs α1 H1 _ s1 w1 r1 q => by
    obtain ⟨hl, q⟩ := ifb q
    rw [r1.length, line_eq] at hl
    exact ⟨hl, fun p hp => q.nowX w1 (ex_new hp) (new_lst w1 hp r1)⟩)
theorem r_new {ta : TA} {fa : FA} (ha : RA K E ta fa) : RE K E (tLst ta) (pNew fa) := fun ρ σ H α M Q e w h =>
  ha ρ σ H α M _ e w (bnd h fun as M1 xs α1 H1 _ s1 w1 r1 q => by
    obtain ⟨hl, q⟩ := ifb q
    rw [r1.length, line_eq] at hl
    refine ⟨hl, fun p hp => ?_⟩
    obtain ⟨w2, s2⟩ := w1.new (m := .lst as) (o := .lst xs) hp fun H' st e => ⟨xs, e, RepL.step st _ _ r1⟩
    exact q _ _ _ s2 w2 (.adr (by rw [← w1.len, List.getElem?_append_right (Nat.le_refl _), Nat.sub_self]; rfl)))
/-- a def's promise -/
def spP (K : PySem.W.Frag) (Φ : List D → PM → Out D) : Sp := fun vs H Q E => ∃ ds α M, Wd K α M H ∧ RepL K α H ds vs ∧ Post (Rep K) K α H Q E (Φ ds M)
theorem r_call {ta : TA} {fa : FA} {Φ : List D → PM → Out D} (ha : RA K E ta fa) : RE K E (tCall (spP K Φ) [] E ta) (pCall Φ fa) := fun ρ σ H α M Q e w h =>
  ha ρ σ H α M _ e w (bnd h fun as M1 xs α1 H1 _ s1 w1 r1 q => by
    show spP K Φ (xs ++ []) H1 Q E
    rw [List.append_nil]
    exact ⟨as, α1, M1, w1, r1, q⟩)
theorem r_cb {ta : TA} {fa : FA} {r : List V → Hp → VK → Prop} {g : PM → List D → Out D} (ha : RA K E ta fa) (hc : CbD K E r g) : RE K E (tCB r ta) (pCB g fa) := fun ρ σ H α M Q e w h =>
  ha ρ σ H α M _ e w (bnd h fun as M1 xs α1 H1 _ s1 w1 r1 q => hc α1 H1 M1 as xs Q w1 r1 q)
theorem r_oNone : RO K E tNoPart oNone := fun ρ σ H α M Q e w h => h.now w rfl
theorem r_oSome (ha : RE K E te fe) : RO K E (tPart te) (oSome fe) := fun ρ σ H α M Q e w h =>
  ha ρ σ H α M _ e w (bnd h fun a M1 x α1 H1 _ s1 w1 r1 q => by
    cases a with
    | int i => cases r1; exact ⟨i, rfl, q.now w1 rfl⟩
    | _ => exact q.elim)
theorem r_sl {tl th : TO} {fl fh : FO} {r : V → Option Int → Option Int → Hp → VK → Prop} {g : PM → D → Option Int → Option Int → Out D} (he : RE K E te fe) (hl : RO K E tl fl) (hh : RO K E th fh) (hs : SlD K E r g) : RE K E (tSl r te tl th) (pSl g fe fl fh) := fun ρ σ H α M Q e w h =>
  he ρ σ H α M _ e w (bnd h fun a M1 x α1 H1 _ s1 w1 r1 h1 => hl ρ σ H1 α1 M1 _ (e.step s1) w1 (bnd h1 fun l M2 l' α2 H2 _ s2 w2 r2 h2 => by
    subst r2
    exact hh ρ σ H2 α2 M2 _ ((e.step s1).step s2) w2 (bnd h2 fun u M3 u' α3 H3 _ s3 w3 r3 h3 => by
      subst r3
      exact hs α3 H3 M3 a x l u Q w3 (Rep.step s3 _ _ (Rep.step s2 _ _ r1)) h3)))
theorem OpD.or {r r' : R2} {g g' : PM → D → D → Out D} (h : OpD K E r g) (h' : OpD K E r' g') : OpD K E (fun x y H Q => r x y H Q ∨ r' x y H Q) (gor g g') := fun α H M a b x y Q w ra rb q => by
  unfold gor at q
  split at q
  · exact .inr (h' α H M a b x y Q w ra rb q)
  · exact .inl (h α H M a b x y Q w ra rb q)
/-! statements -/
theorem s_next : RS K E tNext sNext := fun ρ σ H α M D e w h => h.now (b := FlV.nx σ) w e
theorem s_seq {t u : TS} {f g : FS} (h1 : RS K E t f) (h2 : RS K E u g) : RS K E (tSeq t u) (sSeq f g) := fun ρ σ H α M D e w h =>
  h1 ρ σ H α M { D with nx := u D } e w (bnd h fun fl M1 b α1 H1 _ s1 w1 r1 q => by
    cases fl with
    | nx ρ' =>
      cases b with
      | nx σ' => exact h2 ρ' σ' H1 α1 M1 D r1 w1 q
      | _ => exact r1.elim
    | rt d =>
      cases b with
      | rt v => exact q.now (b := FlV.rt v) w1 r1
      | _ => exact r1.elim
    | bk ρ' =>
      cases b with
      | bk σ' => exact q.now (b := FlV.bk σ') w1 r1
      | _ => exact r1.elim
    | ct ρ' =>
      cases b with
      | ct σ' => exact q.now (b := FlV.ct σ') w1 r1
      | _ => exact r1.elim)
theorem s_asg {g : TG} {fg : FG} (ha : RE K E te fe) (hg : RG K E g fg) : RS K E (tAsg te g) (sAsg fe fg) := fun ρ σ H α M D e w h =>
  ha ρ σ H α M _ e w (bnd h fun d M1 v α1 H1 _ s1 w1 r1 q => hg ρ σ H1 α1 M1 d v D.nx (e.step s1) w1 r1 (bnd q fun ρ' M2 σ' α2 H2 _ s2 w2 r2 q2 => q2.now (b := FlV.nx σ') w2 r2))
theorem s_drop (ha : RE K E te fe) : RS K E (tDrop te) (sDrop fe) := fun ρ σ H α M D e w h =>
  ha ρ σ H α M _ e w (bnd h fun d M1 v α1 H1 _ s1 w1 r1 q => q.now (b := FlV.nx σ) w1 (e.step s1))
theorem s_ret (ha : RE K E te fe) : RS K E (tRet te) (sRet fe) := fun ρ σ H α M D e w h =>
  ha ρ σ H α M _ e w (bnd h fun d M1 v α1 H1 _ s1 w1 r1 q => q.now (b := FlV.rt v) w1 r1)
theorem s_retN : RS K E tRetN sRetN := fun ρ σ H α M D e w h => h.now (b := FlV.rt V.non) w Rep.non
theorem s_break : RS K E tBreak sBreak := fun ρ σ H α M D e w h => h.now (b := FlV.bk σ) w e
theorem s_cont : RS K E tCont sCont := fun ρ σ H α M D e w h => h.now (b := FlV.ct σ) w e
theorem s_if {t u : TS} {c : TT} {fc : FT} {f g : FS} (hc : RT K E c fc) (h1 : RS K E t f) (h2 : RS K E u g) : RS K E (tIfS c t u) (sIf fc f g) := fun ρ σ H α M D e w h =>
  hc ρ σ H α M _ e w (bnd h fun b M1 x α1 H1 _ s1 w1 r1 q => by
    subst r1
    cases b with
    | true => rw [if_pos rfl] at q ⊢; exact h1 ρ σ H1 α1 M1 D (e.step s1) w1 q
    | false => rw [if_neg Bool.false_ne_true] at q ⊢; exact h2 ρ σ H1 α1 M1 D (e.step s1) w1 q)
theorem g_name {i : Nat} : RG K E (gName i) (fName i) := fun ρ σ H α M d v Q e w r h => h.now w (e.set r)
theorem g_nil : RGs K E gNil fNil := fun ρ σ H α M ds vs Q e w r h => by
  cases ds with
  | nil => cases r; exact ⟨rfl, h.now w e⟩
  | cons d ds => exact h.elim
theorem g_cons {g : TG} {gs : TGs} {f : FG} {fs : FGs} (h1 : RG K E g f) (h2 : RGs K E gs fs) : RGs K E (gCons g gs) (fCons f fs) := fun ρ σ H α M ds vs Q e w r h => by
  cases ds with
  | nil => exact h.elim
  | cons d ds =>
    cases r with
    | @cons _ _ v vs rd rs =>
      exact ⟨v, vs, rfl, h1 ρ σ H α M d v _ e w rd (bnd h fun ρ1 M1 σ1 α1 H1 _ s1 w1 r1 q => h2 ρ1 σ1 H1 α1 M1 ds vs Q r1 w1 (RepL.step s1 _ _ rs) q)⟩
theorem g_tup {n : Nat} {gs : TGs} {fs : FGs} (h : RGs K E gs fs) : RG K E (gTup K n gs) (fTup n fs) := fun ρ σ H α M d v Q e w r q => by
  cases d with
  | tup ds =>
    cases r with
    | tup t rs =>
      obtain ⟨hl, q⟩ := ifb q
      exact ⟨_, _, rfl, t.sq, by rw [← rs.length]; exact hl, h ρ σ H α M ds _ Q e w rs q⟩
  | _ => exact q.elim
theorem put_ok {α : List Addr} {H : Hp} {M : PM} {o i d : D} {x y v : V} {Q : Hp → Prop} (w : Wd K α M H) (ro : Rep K α H o x) (ri : Rep K α H i y) (rv : Rep K α H d v) {A B : Type} {R : List Addr → Hp → A → B → Prop} {C : B → Hp → Prop} {g : Unit → PM → Out A}
    (h : Post R K α H C E ((putL M o i d).bind g)) (k : ∀ M' H', Step α H α H' → Wd K α M' H' → Post R K α H' C E (g () M') → Q H') : rSetL x y v H Q := by
  unfold putL at h
  split at h
  · rename_i n j
    cases ro with
    | adr ha =>
      cases ri
      split at h
      · rename_i ds hm
        split at h
        · rename_i q hq
          obtain ⟨a', e1, vs, e2, e3⟩ := w.ob _ _ hm
          rw [ha] at e1
          cases e1
          refine ⟨_, vs, j, q, rfl, rfl, e2, by rw [← e3.length]; exact hq, ?_⟩
          obtain ⟨w2, s2⟩ := w.put (m := .lst (ds.set q d)) (o := .lst (vs.set q v)) ha (List.getElem?_eq_some_iff.mp hm).1 fun H' st e => ⟨_, e, RepL.step st _ _ (e3.set rv q)⟩
          exact k _ _ s2 w2 (Post.step h s2 w2)
        · exact h.elim
      · exact h.elim
  · exact h.elim
theorem g_sub {to ti : TE} {fo fi : FE} (ho : RE K E to fo) (hi : RE K E ti fi) : RG K E (gSub to ti rSetL) (fSub fo fi) := fun ρ σ H α M d v Q e w r h =>
  ho ρ σ H α M _ e w (bnd h fun o M1 x α1 H1 _ s1 w1 r1 h1 => hi ρ σ H1 α1 M1 _ (e.step s1) w1 (bnd h1 fun i M2 y α2 H2 _ s2 w2 r2 h2 =>
    put_ok w2 (Rep.step s2 _ _ r1) r2 (Rep.step s2 _ _ (Rep.step s1 _ _ r)) h2 fun M' H' s3 w3 q => q.now w3 (((e.step s1).step s2).step s3)))
theorem s_while {c : TT} {tb : TS} {fc : FT} {fb : FS} (n : Nat) (hc : RT K E c fc) (hb : RS K E tb fb) : RS K E (tWhile c tb) (sWhile fc fb n) := fun ρ σ H α M D e w h => by
  refine ⟨fun m σ H => ∃ ρ α M, EnvR K α H ρ σ ∧ Wd K α M H ∧ Post (FlR K) K α H (endQ D) E (sWhile fc fb m ρ M), ⟨n, ρ, α, M, e, w, h⟩, ?_⟩
  rintro m σ1 H1 ⟨ρ1, α1, M1, e1, w1, h1⟩
  cases m with
  | zero => exact h1.elim
  | succ m =>
    refine hc ρ1 σ1 H1 α1 M1 _ e1 w1 (bnd h1 fun b M2 b' α2 H2 _ s2 w2 r2 h2 => ?_)
    subst r2
    cases b with
    | false => rw [if_neg Bool.false_ne_true] at h2 ⊢; exact h2.now (b := FlV.nx σ1) w2 (e1.step s2)
    | true =>
      rw [if_pos rfl] at h2 ⊢
      refine ⟨_, fun σ' H' z => ⟨m, Nat.lt_succ_self m, z⟩, hb ρ1 σ1 H2 α2 M2 _ (e1.step s2) w2 (bnd h2 fun fl M3 b α3 H3 _ s3 w3 r3 h3 => ?_)⟩
      cases fl with
      | nx ρ' =>
        cases b with
        | nx σ' => exact ⟨ρ', α3, M3, r3, w3, h3⟩
        | _ => exact r3.elim
      | ct ρ' =>
        cases b with
        | ct σ' => exact ⟨ρ', α3, M3, r3, w3, h3⟩
        | _ => exact r3.elim
      | bk ρ' =>
        cases b with
        | bk σ' => exact h3.now (b := FlV.nx σ') w3 r3
        | _ => exact r3.elim
      | rt d =>
        cases b with
        | rt v => exact h3.now (b := FlV.rt v) w3 r3
        | _ => exact r3.elim
theorem s_for {wi : TI} {g : TG} {tb : TS} {fw : FA} {fg : FG} {fb : FS} (hi : RI K E wi fw) (hg : RG K E g fg) (hb : RS K E tb fb) : RS K E (tFor wi g tb) (sFor fw fg fb) := fun ρ σ H α M D e w h =>
  hi ρ σ H α M _ e w (bnd h fun ds M1 J α1 H1 _ s1 w1 r1 h1 => by
    refine ⟨fun i m σ H => m = ds.length - i ∧ ∃ ρ α M, EnvR K α H ρ σ ∧ Wd K α M H ∧ Step α1 H1 α H ∧ Post (FlR K) K α H (endQ D) E (sEach fg fb (ds.drop i) ρ M), ⟨ds.length, by simp, ρ, α1, M1, e.step s1, w1, Step.refl _ _, h1⟩, ?_⟩
    rintro i m σ2 H2 ⟨rfl, ρ2, α2, M2, e2, w2, s2, h2⟩
    obtain ⟨go, stop⟩ := r1 α2 H2 s2 i
    by_cases hi : i < ds.length
    · refine .inr ?_
      rw [List.drop_eq_getElem_cons hi] at h2
      obtain ⟨g1, y1⟩ := go ds[i] (List.getElem?_eq_getElem hi)
      refine ⟨g1, fun σ H => ∃ ρ α M, EnvR K α H ρ σ ∧ Wd K α M H ∧ Step α1 H1 α H ∧ Post (FlR K) K α H (endQ D) E (sEach fg fb (ds.drop (i + 1)) ρ M), fun σ' H' z => ⟨ds.length - (i + 1), by omega, rfl, z⟩, fun x H3 y => ?_⟩
      obtain ⟨x3, r3⟩ := y1 x H3 y
      have s3 : Step α2 H2 α2 H3 := Step.ex x3
      have w3 := w2.ex x3
      have st3 := s2.tr w2 s3
      refine hg ρ2 σ2 H3 α2 M2 _ x _ (e2.step s3) w3 r3 (bnd (Post.step h2 s3 w3) fun ρ4 M4 σ4 α4 H4 _ s4 w4 r4 h4 => ?_)
      refine hb ρ4 σ4 H4 α4 M4 _ r4 w4 (bnd h4 fun fl M5 b α5 H5 _ s5 w5 r5 h5 => ?_)
      have st5 := (st3.tr w3 s4).tr w4 s5
      cases fl with
      | nx ρ' =>
        cases b with
        | nx σ' => exact ⟨ρ', α5, M5, r5, w5, st5, h5⟩
        | _ => exact r5.elim
      | ct ρ' =>
        cases b with
        | ct σ' => exact ⟨ρ', α5, M5, r5, w5, st5, h5⟩
        | _ => exact r5.elim
      | bk ρ' =>
        cases b with
        | bk σ' => exact h5.now (b := FlV.nx σ') w5 r5
        | _ => exact r5.elim
      | rt d =>
        cases b with
        | rt v => exact h5.now (b := FlV.rt v) w5 r5
        | _ => exact r5.elim
    · rw [List.drop_eq_nil_of_le (by omega)] at h2
      exact .inl ⟨stop (by omega), h2.now (b := FlV.nx σ2) w2 e2⟩)
end
end Pd

set_option Elab.async false
set_option linter.all false
set_option maxRecDepth 100000
set_option maxHeartbeats 1000000
namespace Pd
open PySem L2

/-! ### operators on plain values -/
def gII (C : Int → Int → Bool) (h : Int → Int → D) : PM → D → D → Out D := fun M a b => match a, b with
  | .int i, .int j => if C i j = true then .ok (h i j) M else .bad
  | _, _ => .bad
def cTrue (_ _ : Int) : Bool := true
def cMul (i j : Int) : Bool := (decide (-18446744073709551616 < i) && decide (i < 18446744073709551616)) || (decide (-18446744073709551616 < j) && decide (j < 18446744073709551616))
def cDiv (_ j : Int) : Bool := decide (0 < j) && decide (j < 1073741824)
def cDivN (_ j : Int) : Bool := decide (j ≠ 0) && decide (j.natAbs < 1073741824)
def cPos (_ j : Int) : Bool := decide (0 < j)
def cNe (_ j : Int) : Bool := decide (j ≠ 0)
def cPow (i j : Int) : Bool := decide (0 ≤ j) && decide (j ≤ 1000000) && decide (i.natAbs < 18446744073709551616)
/-- what a list holds; what a list or a tuple holds -/
def lstOf (M : PM) : D → Option (List D)
  | .lst ds => some ds
  | .adr i => match M[i]? with | some (.lst ds) => some ds | _ => none
  | _ => none
def seqOf (M : PM) : D → Option (List D)
  | .lst ds => some ds
  | .rol ds => some ds
  | .tup ds => some ds
  | .adr i => match M[i]? with | some (.lst ds) => some ds | _ => none
  | _ => none
def gAddS : PM → D → D → Out D := fun M a b => match a, b with
  | .str x, .str y => if x.length + y.length ≤ line then .ok (.str (x ++ y)) M else .bad
  | _, _ => .bad
def gAddT : PM → D → D → Out D := fun M a b => match a, b with
  | .tup x, .tup y => if x.length + y.length ≤ line then .ok (.tup (x ++ y)) M else .bad
  | _, _ => .bad
def gAddL : PM → D → D → Out D := fun M a b => match lstOf M a, lstOf M b with
  | some x, some y => if x.length + y.length ≤ line then .ok (.lst (x ++ y)) M else .bad
  | _, _ => .bad
def gAdd : PM → D → D → Out D := gor (gII cTrue fun i j => .int (i + j)) (gor gAddS (gor gAddT gAddL))
def gSub : PM → D → D → Out D := gII cTrue fun i j => .int (i - j)
def gMul : PM → D → D → Out D := gII cMul fun i j => .int (i * j)
def gFdiv : PM → D → D → Out D := gor (gII cDiv fun i j => .int (i / j)) (gII cDivN fun i j => .int (i.fdiv j))
def gMod : PM → D → D → Out D := gor (gII cPos fun i j => .int (i % j)) (gII cNe fun i j => .int (i.fmod j))
def gPow : PM → D → D → Out D := gII cPow fun i j => .int (i ^ j.toNat)
def gLt : PM → D → D → Out D := gII cTrue fun i j => .bl (decide (i < j))
def gLe : PM → D → D → Out D := gII cTrue fun i j => .bl (decide (i ≤ j))
def gGt : PM → D → D → Out D := gII cTrue fun i j => .bl (decide (j < i))
def gGe : PM → D → D → Out D := gII cTrue fun i j => .bl (decide (j ≤ i))
/-- == of two plain scalars -/
def eqS : D → D → Option Bool
  | .int i, .int j => some (decide (i = j))
  | .str x, .str y => some (decide (x = y))
  | .bl b, .bl c => some (decide (b = c))
  | .non, .non => some true
  | .non, .int _ => some false | .int _, .non => some false
  | .non, .str _ => some false | .str _, .non => some false
  | .non, .bl _ => some false | .bl _, .non => some false
  | .int _, .str _ => some false | .str _, .int _ => some false
  | .bl _, .str _ => some false | .str _, .bl _ => some false
  | _, _ => none
def gEq : PM → D → D → Out D := fun M a b => match eqS a b with | some r => .ok (.bl r) M | none => .bad
def gNe : PM → D → D → Out D := fun M a b => match eqS a b with | some r => .ok (.bl (!r)) M | none => .bad
def isNonD : D → Bool
  | .non => true
  | _ => false
def gIs : PM → D → D → Out D := fun M a b => match b with | .non => .ok (.bl (isNonD a)) M | _ => .bad
def gIsNot : PM → D → D → Out D := fun M a b => match b with | .non => .ok (.bl (!isNonD a)) M | _ => .bad
def flatD : D → Bool
  | .non => true | .bl _ => true | .int _ => true | .str _ => true | _ => false
def eqF : D → D → Bool
  | .non, .non => true
  | .bl a, .bl b => a == b
  | .bl a, .int b => (if a then 1 else 0) == b
  | .int a, .bl b => a == (if b then 1 else 0)
  | .int a, .int b => a == b
  | .str a, .str b => a == b
  | _, _ => false
def inF (x : D) (xs : List D) : Bool := xs.any fun y => eqF y x
def gInS : PM → D → D → Out D := fun M a b => match a, b with
  | .str ⟨⟨[c]⟩⟩, .str z => .ok (.bl (decide (c ∈ z.cps.toList))) M
  | _, _ => .bad
def gInL : PM → D → D → Out D := fun M a b => match seqOf M b with
  | some ds => if (flatD a && ds.all flatD) = true then .ok (.bl (inF a ds)) M else .bad
  | none => .bad
def gIn : PM → D → D → Out D := gor gInS gInL
def gNotInS : PM → D → D → Out D := fun M a b => match a, b with
  | .str ⟨⟨[c]⟩⟩, .str z => .ok (.bl (!decide (c ∈ z.cps.toList))) M
  | _, _ => .bad
def gNotInL : PM → D → D → Out D := fun M a b => match seqOf M b with
  | some ds => if (flatD a && ds.all flatD) = true then .ok (.bl (!inF a ds)) M else .bad
  | none => .bad
def gNotIn : PM → D → D → Out D := gor gNotInS gNotInL
def gIx : PM → D → D → Out D := fun M a b => match b with
  | .int i => match a with
    | .str z => if z.length ≤ line then match atI z.cps.toList i with | some c => .ok (.str ⟨#[c]⟩) M | none => .bad else .bad
    | a => match seqOf M a with
      | some ds => match atI ds i with | some d => .ok d M | none => .bad
      | none => .bad
  | _ => .bad
def gNeg : PM → D → Out D := fun M a => match a with | .int i => .ok (.int (-i)) M | _ => .bad
def cutD (xs : List D) (lo hi : Option Int) : List D := (xs.drop (HT.sIx xs.length 0 lo)).take (HT.sIx xs.length xs.length hi - HT.sIx xs.length 0 lo)
def gSl : PM → D → Option Int → Option Int → Out D := fun M a lo hi => match a with
  | .str z => if z.length ≤ line then .ok (.str (cutS z lo hi)) M else .bad
  | .tup ds => .ok (.tup (cutD ds lo hi)) M
  | a => match seqOf M a with | some ds => .ok (.lst (cutD ds lo hi)) M | none => .bad
section
variable {K : PySem.W.Frag} {E : XK}
theorem od_II {C : Int → Int → Prop} {c : Int → Int → Bool} {h : Int → Int → V} {hD : Int → Int → D} (hc : ∀ i j, c i j = true → C i j) (hr : ∀ α H i j, Rep K α H (hD i j) (h i j)) : OpD K E (rI C h) (gII c hD) := fun α H M a b x y Q w ra rb q => by
  unfold gII at q
  split at q
  · cases ra
    cases rb
    obtain ⟨h1, q⟩ := ifb q
    exact ⟨_, _, rfl, rfl, hc _ _ h1, q.now w (hr α H _ _)⟩
  · exact q.elim
theorem od_II0 {h : Int → Int → V} {hD : Int → Int → D} (hr : ∀ α H i j, Rep K α H (hD i j) (h i j)) : OpD K E (rI0 h) (gII cTrue hD) := fun α H M a b x y Q w ra rb q => by
  unfold gII at q
  split at q
  · cases ra
    cases rb
    obtain ⟨h1, q⟩ := ifb q
    exact ⟨_, _, rfl, rfl, q.now w (hr α H _ _)⟩
  · exact q.elim
theorem lst_ok {α : List Addr} {H : Hp} {M : PM} {a : D} {x : V} {ds : List D} (w : Wd K α M H) (r : Rep K α H a x) (e : lstOf M a = some ds) : ∃ p xs, x = .ref p ∧ H p = some (.lst xs) ∧ RepL K α H ds xs := by
  cases a with
  | lst es =>
    cases e
    cases r with
    | lst t rs => exact ⟨_, _, rfl, t.1, rs⟩
  | adr i =>
    cases r with
    | adr ha =>
      have e' : (match M[i]? with | some (.lst ds) => some ds | _ => none) = some ds := e
      split at e'
      · rename_i ds' hm
        cases e'
        obtain ⟨a', e1, vs, e2, e3⟩ := w.ob _ _ hm
        rw [ha] at e1
        cases e1
        exact ⟨_, _, rfl, e2, e3⟩
      · cases e'
  | _ => cases e
theorem seq_ok {α : List Addr} {H : Hp} {M : PM} {a : D} {x : V} {ds : List D} (w : Wd K α M H) (r : Rep K α H a x) (e : seqOf M a = some ds) : ∃ p xs, x = .ref p ∧ (SqL K H p xs ∨ SqT K H p xs) ∧ RepL K α H ds xs := by
  cases a with
  | lst es =>
    cases e
    cases r with
    | lst t rs => exact ⟨_, _, rfl, .inl t.sq, rs⟩
  | rol es =>
    cases e
    cases r with
    | rol t rs => exact ⟨_, _, rfl, .inl t.sq, rs⟩
  | tup es =>
    cases e
    cases r with
    | tup t rs => exact ⟨_, _, rfl, .inr t.sq, rs⟩
  | adr i =>
    obtain ⟨p, xs, h1, h2, h3⟩ := lst_ok (K := K) (ds := ds) w r (by unfold seqOf at e; unfold lstOf; exact e)
    exact ⟨p, xs, h1, .inl (.of h2), h3⟩
  | _ => cases e
theorem od_addS : OpD K E (fun x y H Q => ∃ i j, x = .str i ∧ y = .str j ∧ i.length + j.length ≤ sizeLine ∧ Q (.str (i ++ j)) H) gAddS := fun α H M a b x y Q w ra rb q => by
  unfold gAddS at q
  split at q
  · cases ra
    cases rb
    obtain ⟨h1, q⟩ := ifb q
    rw [line_eq] at h1
    exact ⟨_, _, rfl, rfl, h1, q.now w (.str _)⟩
  · exact q.elim
theorem od_addT : OpD K E (rCatA K) gAddT := fun α H M a b x y Q w ra rb q => by
  unfold gAddT at q
  split at q
  · cases ra with
    | tup ta rsa =>
      cases rb with
      | tup tb rsb =>
        obtain ⟨h1, q⟩ := ifb q
        rw [line_eq, rsa.length, rsb.length] at h1
        refine ⟨_, _, _, _, rfl, rfl, ta.sq, tb.sq, h1, fun e => ?_, fun e1 e2 => ?_, fun e1 e2 p hp => ?_⟩
        · subst e
          cases rsa
          exact q.now w (.tup tb rsb)
        · subst e2
          cases rsb
          rw [List.append_nil] at q
          exact q.now w (.tup ta rsa)
        · exact q.nowX w (ex_new hp) (new_tup w hp (rsa.append rsb))
  · exact q.elim
theorem od_addL : OpD K E rCat gAddL := fun α H M a b x y Q w ra rb q => by
  unfold gAddL at q
  split at q
  · rename_i xs ys h1 h2
    obtain ⟨l, vs, rfl, e1, r1⟩ := lst_ok w ra h1
    obtain ⟨m, ws, rfl, e2, r2⟩ := lst_ok w rb h2
    obtain ⟨h1, q⟩ := ifb q
    rw [line_eq, r1.length, r2.length] at h1
    exact ⟨_, _, _, _, rfl, rfl, e1, e2, h1, fun p hp => q.nowX w (ex_new hp) (new_lst w hp (r1.append r2))⟩
  · exact q.elim
theorem od_eq : OpD K E rEq gEq := fun α H M a b x y Q w ra rb q => by
  have key : ∀ r : Bool, Post (Rep K) K α H Q E (.ok (.bl r) M) → scal x y = true → decide (x = y) = r → rEq x y H Q := fun r q h1 h2 => ⟨h1, by rw [h2]; exact q.now w (.bl r)⟩
  cases a <;> cases b <;> first
    | exact q.elim
    | (cases ra; cases rb; refine key _ q rfl ?_; simp)
theorem od_ne : OpD K E rNe gNe := fun α H M a b x y Q w ra rb q => by
  have key : ∀ r : Bool, Post (Rep K) K α H Q E (.ok (.bl (!r)) M) → scal x y = true → decide (x = y) = r → rNe x y H Q := fun r q h1 h2 => ⟨h1, by rw [h2]; exact q.now w (.bl _)⟩
  cases a <;> cases b <;> first
    | exact q.elim
    | (cases ra; cases rb; refine key _ q rfl ?_; simp)
theorem isNon_ok {α : List Addr} {H : Hp} {a : D} {x : V} (hx : ∀ v, a ≠ .raw v) (r : Rep K α H a x) : decide (x = .non) = isNonD a := by
  cases a with
  | raw v => exact absurd rfl (hx v)
  | _ => cases r <;> simp [isNonD]
def gIs' : PM → D → D → Out D := fun M a b => match a with | .raw _ => .bad | a => gIs M a b
def gIsNot' : PM → D → D → Out D := fun M a b => match a with | .raw _ => .bad | a => gIsNot M a b
theorem od_is : OpD K E rIsN gIs' := fun α H M a b x y Q w ra rb q => by
  unfold gIs' at q
  split at q
  · exact q.elim
  · rename_i hx
    unfold gIs at q
    split at q
    · cases rb
      exact ⟨rfl, by rw [isNon_ok (fun v => hx v) ra]; exact q.now w (.bl _)⟩
    · exact q.elim
theorem od_isNot : OpD K E rNotN gIsNot' := fun α H M a b x y Q w ra rb q => by
  unfold gIsNot' at q
  split at q
  · exact q.elim
  · rename_i hx
    unfold gIsNot at q
    split at q
    · cases rb
      exact ⟨rfl, by rw [isNon_ok (fun v => hx v) ra]; exact q.now w (.bl _)⟩
    · exact q.elim
theorem flat_ok {α : List Addr} {H : Hp} {a : D} {x : V} (r : Rep K α H a x) (f : flatD a = true) : flatV x = true := by
  cases a <;> first
    | exact absurd (show false = true from f) Bool.false_ne_true
    | (cases r; rfl)
theorem flats_ok {α : List Addr} {H : Hp} : ∀ {as : List D} {xs : List V}, RepL K α H as xs → as.all flatD = true → xs.all flatV = true
  | _, _, .nil, _ => rfl
  | _, _, .cons r t, f => by
    rw [List.all_cons, Bool.and_eq_true] at f
    rw [List.all_cons, flat_ok r f.1, flats_ok t f.2]
    rfl
theorem eqF_ok {α : List Addr} {H : Hp} {a b : D} {x y : V} (ra : Rep K α H a x) (rb : Rep K α H b y) (fa : flatD a = true) (fb : flatD b = true) : eqV x y = eqF a b := by
  cases a <;> first
    | exact absurd (show false = true from fa) Bool.false_ne_true
    | (cases ra; cases b <;> first
        | exact absurd (show false = true from fb) Bool.false_ne_true
        | (cases rb; rfl))
theorem inF_ok {α : List Addr} {H : Hp} {a : D} {x : V} (ra : Rep K α H a x) (fa : flatD a = true) : ∀ {as : List D} {xs : List V}, RepL K α H as xs → as.all flatD = true → inV x xs = inF a as
  | _, _, .nil, _ => rfl
  | _, _, .cons r t, f => by
    rw [List.all_cons, Bool.and_eq_true] at f
    unfold inV inF
    rw [List.any_cons, List.any_cons, eqF_ok r ra f.1 fa]
    have := inF_ok ra fa t f.2
    unfold inV inF at this
    rw [this]
theorem od_inS : OpD K E rInS gInS := fun α H M a b x y Q w ra rb q => by
  unfold gInS at q
  split at q
  · cases ra
    cases rb
    exact ⟨_, _, rfl, rfl, q.now w (.bl _)⟩
  · exact q.elim
theorem od_notInS : OpD K E rNotInS gNotInS := fun α H M a b x y Q w ra rb q => by
  unfold gNotInS at q
  split at q
  · cases ra
    cases rb
    exact ⟨_, _, rfl, rfl, q.now w (.bl _)⟩
  · exact q.elim
theorem od_inL : OpD K E (rIn K false) gInL := fun α H M a b x y Q w ra rb q => by
  unfold gInL at q
  split at q
  · rename_i ds hd
    obtain ⟨p, xs, rfl, hs, rs⟩ := seq_ok w rb hd
    obtain ⟨h1, q⟩ := ifb q
    rw [Bool.and_eq_true] at h1
    refine ⟨p, xs, rfl, hs, flat_ok ra h1.1, flats_ok rs h1.2, ?_⟩
    rw [if_neg Bool.false_ne_true, inF_ok ra h1.1 rs h1.2]
    exact q.now w (.bl _)
  · exact q.elim
theorem od_notInL : OpD K E (rIn K true) gNotInL := fun α H M a b x y Q w ra rb q => by
  unfold gNotInL at q
  split at q
  · rename_i ds hd
    obtain ⟨p, xs, rfl, hs, rs⟩ := seq_ok w rb hd
    obtain ⟨h1, q⟩ := ifb q
    rw [Bool.and_eq_true] at h1
    refine ⟨p, xs, rfl, hs, flat_ok ra h1.1, flats_ok rs h1.2, ?_⟩
    rw [if_pos rfl, inF_ok ra h1.1 rs h1.2]
    exact q.now w (.bl _)
  · exact q.elim
theorem atI_rep {α : List Addr} {H : Hp} {ds : List D} {xs : List V} {i : Int} {d : D} (r : RepL K α H ds xs) (e : atI ds i = some d) : ∃ v, atI xs i = some v ∧ Rep K α H d v := by
  unfold atI at e ⊢
  rw [r.length] at e
  cases hn : ixN xs.length i with
  | none => rw [hn] at e; cases e
  | some j =>
    rw [hn] at e
    exact r.get e
theorem od_ix : OpD K E (rIx K) gIx := fun α H M a b x y Q w ra rb q => by
  unfold gIx at q
  split at q
  · rename_i i
    cases rb
    split at q
    · rename_i z
      cases ra
      obtain ⟨hl, q⟩ := ifb q
      rw [line_eq] at hl
      split at q
      · rename_i c hc
        exact .inr (.inr ⟨z, i, c, rfl, rfl, hl, hc, q.now w (.str _)⟩)
      · exact q.elim
    · split at q
      · rename_i ds hd
        obtain ⟨p, xs, rfl, hs, rs⟩ := seq_ok w ra hd
        split at q
        · rename_i d hd
          obtain ⟨v, e1, e2⟩ := atI_rep rs hd
          rcases hs with hs | hs
          · exact .inl ⟨p, xs, i, v, rfl, rfl, hs, e1, q.now w e2⟩
          · exact .inr (.inl ⟨p, xs, i, v, rfl, rfl, hs, e1, q.now w e2⟩)
        · exact q.elim
      · exact q.elim
  · exact q.elim
theorem ud_neg : UnD K E (rU fun i => .int (-i)) gNeg := fun α H M a x Q w ra q => by
  unfold gNeg at q
  split at q
  · cases ra
    exact ⟨_, rfl, q.now w (.int _)⟩
  · exact q.elim
theorem cut_rep {α : List Addr} {H : Hp} {ds : List D} {xs : List V} {lo hi : Option Int} (r : RepL K α H ds xs) : RepL K α H (cutD ds lo hi) (cutV xs lo hi) := by
  unfold cutD cutV
  rw [r.length]
  exact (r.drop _).take _
def rSlD (K : PySem.W.Frag) : V → Option Int → Option Int → Hp → VK → Prop := fun x lo hi H Q => rSlS x lo hi H Q ∨ (rSlL K x lo hi H Q ∨ rSlA K x lo hi H Q)
theorem sl_D {X : Cx} : SlR X (rSlD X.K) := sl_str.or (sl_list.or sl_tupA)
theorem sd_sl : SlD K E (rSlD K) gSl := fun α H M a x lo hi Q w ra q => by
  unfold gSl at q
  split at q
  · cases ra
    obtain ⟨hl, q⟩ := ifb q
    rw [line_eq] at hl
    exact .inl ⟨_, rfl, hl, q.now w (.str _)⟩
  · cases ra with
    | tup t rs =>
      refine .inr (.inr ⟨_, _, rfl, t.sq, fun ⟨e1, e2⟩ => ?_, fun _ p hp => q.nowX w (ex_new hp) (new_tup w hp (cut_rep rs))⟩)
      refine q.now w ?_
      have : ∀ {ds : List D}, HT.sIx ds.length 0 lo = 0 → HT.sIx ds.length ds.length hi = ds.length → cutD ds lo hi = ds := fun {ds} e1 e2 => by
        unfold cutD
        rw [e1, e2, List.drop_zero, Nat.sub_zero, List.take_length]
      rw [this (by rw [rs.length]; exact e1) (by rw [rs.length]; exact e2)]
      exact .tup t rs
  · split at q
    · rename_i ds hd
      rename_i hs ht _
      obtain ⟨p, xs, rfl, hs', rs⟩ := seq_ok w ra hd
      rcases hs' with hs' | hs'
      · exact .inr (.inl ⟨p, xs, rfl, hs', fun l hl => q.nowX w (ex_new hl) (new_lst w hl (cut_rep rs))⟩)
      · cases a with
        | tup es => exact absurd rfl (ht es)
        | lst es =>
          cases hd
          cases ra with
          | lst t rs => exact .inr (.inl ⟨_, _, rfl, t.sq, fun l hl => q.nowX w (ex_new hl) (new_lst w hl (cut_rep rs))⟩)
        | rol es =>
          cases hd
          cases ra with
          | rol t rs => exact .inr (.inl ⟨_, _, rfl, t.sq, fun l hl => q.nowX w (ex_new hl) (new_lst w hl (cut_rep rs))⟩)
        | adr i =>
          obtain ⟨p', xs', e1, e2, e3⟩ := lst_ok (K := K) (ds := ds) w ra (by unfold seqOf at hd; unfold lstOf; exact hd)
          cases e1
          exact .inr (.inl ⟨_, _, rfl, .of e2, fun l hl => q.nowX w (ex_new hl) (new_lst w hl (cut_rep e3))⟩)
        | _ => cases hd
    · exact q.elim

/-! ### built-in calls on plain values -/
def bLen : PM → List D → Out D := fun M as => match as with
  | [.str z] => if z.length ≤ line then .ok (.int z.length) M else .bad
  | [a] => match seqOf M a with | some ds => .ok (.int ds.length) M | none => .bad
  | _ => .bad
def bAbs : PM → List D → Out D := fun M as => match as with
  | [.int i] => .ok (.int (if i < 0 then -i else i)) M
  | _ => .bad
def bInt : PM → List D → Out D := fun M as => match as with
  | [.int i] => .ok (.int i) M
  | [.bl k] => .ok (.int (if k then 1 else 0)) M
  | [.str z] => match PySem.intText? z with
    | some n => if z.length ≤ 640 then .ok (.int n) M else .bad
    | none => .bad
  | _ => .bad
def bStr : PM → List D → Out D := fun M as => match as with
  | [.int i] => if i.natAbs < 18446744073709551616 then .ok (.str (toString i)) M else .bad
  | [.str z] => .ok (.str z) M
  | _ => .bad
def bTuple : PM → List D → Out D := fun M as => match as with
  | [.tup ds] => .ok (.tup ds) M
  | [a] => match seqOf M a with | some ds => .ok (.tup ds) M | none => .bad
  | _ => .bad
def bList : PM → List D → Out D := fun M as => match as with
  | [a] => match seqOf M a with | some ds => .ok (.lst ds) M | none => .bad
  | _ => .bad
def bMax2 : PM → List D → Out D := fun M as => match as with
  | [.int i, .int j] => .ok (.int (if j > i then j else i)) M
  | _ => .bad
def bMin2 : PM → List D → Out D := fun M as => match as with
  | [.int i, .int j] => .ok (.int (if j < i then j else i)) M
  | _ => .bad
/-- the type's name -/
def tyD : D → Option String
  | .non => some "NoneType" | .bl _ => some "bool" | .int _ => some "int" | .str _ => some "str" | .tup _ => some "tuple" | .lst _ => some "list" | .rol _ => some "list" | _ => none
def isiB : String → String → Option Bool
  | "bool", "int" => some true
  | a, b => if a ∈ ["NoneType", "bool", "int", "str", "tuple", "list"] ∧ b ∈ ["bool", "int", "str", "tuple", "list", "dict"] then some (decide (a = b)) else none
def bIsi : PM → List D → Out D := fun M as => match as with
  | [a, .raw (.ty n)] => match tyD a with
    | some t => match isiB t n with | some r => .ok (.bl r) M | none => .bad
    | none => .bad
  | _ => .bad
theorem rep1 {α : List Addr} {H : Hp} {a : D} {xs : List V} (r : RepL K α H [a] xs) : ∃ x, xs = [x] ∧ Rep K α H a x := by
  cases r with
  | cons r1 r2 => cases r2; exact ⟨_, rfl, r1⟩
theorem rep2 {α : List Addr} {H : Hp} {a b : D} {xs : List V} (r : RepL K α H [a, b] xs) : ∃ x y, xs = [x, y] ∧ Rep K α H a x ∧ Rep K α H b y := by
  cases r with
  | cons r1 r2 =>
    obtain ⟨y, rfl, r3⟩ := rep1 r2
    exact ⟨_, y, rfl, r1, r3⟩
theorem cd_len : CbD K E (fun xs H Q => ∃ x n, xs = [x] ∧ LenV K x H n ∧ Q (.int n) H) bLen := fun α H M as xs Q w ra q => by
  unfold bLen at q
  split at q
  · obtain ⟨x, rfl, r⟩ := rep1 ra
    cases r
    obtain ⟨hl, q⟩ := ifb q
    rw [line_eq] at hl
    exact ⟨_, _, rfl, ⟨hl, rfl⟩, q.now w (.int _)⟩
  · obtain ⟨x, rfl, r⟩ := rep1 ra
    split at q
    · rename_i ds hd
      obtain ⟨p, xs, rfl, hs, rs⟩ := seq_ok w r hd
      refine ⟨_, ds.length, rfl, ?_, q.now w (.int _)⟩
      rcases hs with hs | hs
      · exact .inl ⟨xs, hs, rs.length⟩
      · exact .inr ⟨xs, hs, rs.length⟩
    · exact q.elim
  · exact q.elim
theorem cd_abs : CbD K E (fun xs H Q => ∃ i, xs = [.int i] ∧ Q (.int (if i < 0 then -i else i)) H) bAbs := fun α H M as xs Q w ra q => by
  unfold bAbs at q
  split at q
  · obtain ⟨x, rfl, r⟩ := rep1 ra
    cases r
    exact ⟨_, rfl, q.now w (.int _)⟩
  · exact q.elim
theorem cd_max2 : CbD K E (fun xs H Q => ∃ i j, xs = [.int i, .int j] ∧ Q (.int (if j > i then j else i)) H) bMax2 := fun α H M as xs Q w ra q => by
  unfold bMax2 at q
  split at q
  · obtain ⟨x, y, rfl, r, r'⟩ := rep2 ra
    cases r
    cases r'
    exact ⟨_, _, rfl, q.now w (.int _)⟩
  · exact q.elim
theorem cd_min2 : CbD K E (fun xs H Q => ∃ i j, xs = [.int i, .int j] ∧ Q (.int (if j < i then j else i)) H) bMin2 := fun α H M as xs Q w ra q => by
  unfold bMin2 at q
  split at q
  · obtain ⟨x, y, rfl, r, r'⟩ := rep2 ra
    cases r
    cases r'
    exact ⟨_, _, rfl, q.now w (.int _)⟩
  · exact q.elim
def rIntD : List V → Hp → VK → Prop := fun xs H Q => ((∃ i, xs = [.int i] ∧ Q (.int i) H) ∨ ∃ k, xs = [.bl k] ∧ Q (.int (if k then 1 else 0)) H) ∨ (∃ a n, xs = [.str a] ∧ PySem.intText? a = some n ∧ a.length ≤ 640 ∧ Q (.int n) H)
theorem cd_int : CbD K E rIntD bInt := fun α H M as xs Q w ra q => by
  unfold bInt at q
  split at q
  · obtain ⟨x, rfl, r⟩ := rep1 ra
    cases r
    exact .inl (.inl ⟨_, rfl, q.now w (.int _)⟩)
  · obtain ⟨x, rfl, r⟩ := rep1 ra
    cases r
    exact .inl (.inr ⟨_, rfl, q.now w (.int _)⟩)
  · obtain ⟨x, rfl, r⟩ := rep1 ra
    cases r
    split at q
    · rename_i n hn
      obtain ⟨hl, q⟩ := ifb q
      exact .inr ⟨_, n, rfl, hn, hl, q.now w (.int _)⟩
    · exact q.elim
  · exact q.elim
def rStrD : List V → Hp → VK → Prop := fun xs H Q => (∃ i, xs = [.int i] ∧ i.natAbs.log2 < 1920 ∧ Q (.str (toString i)) H) ∨ (∃ a, xs = [.str a] ∧ Q (.str a) H)
theorem cd_str : CbD K E rStrD bStr := fun α H M as xs Q w ra q => by
  unfold bStr at q
  split at q
  · obtain ⟨x, rfl, r⟩ := rep1 ra
    cases r
    obtain ⟨hl, q⟩ := ifb q
    exact .inl ⟨_, rfl, Nat.lt_of_lt_of_le (PySem.Flt.log2_lt_of (k := 64) (by decide) hl) (by decide), q.now w (.str _)⟩
  · obtain ⟨x, rfl, r⟩ := rep1 ra
    cases r
    exact .inr ⟨_, rfl, q.now w (.str _)⟩
  · exact q.elim
theorem cd_tuple : CbD K E (fun xs H Q => ∃ p ys, xs = [.ref p] ∧ ((SqL K H p ys ∧ ∀ l, H l = none → Q (.ref l) (upd H l (.tup ys))) ∨ (SqT K H p ys ∧ Q (.ref p) H))) bTuple := fun α H M as xs Q w ra q => by
  unfold bTuple at q
  split at q
  · obtain ⟨x, rfl, r⟩ := rep1 ra
    cases r with
    | tup t rs => exact ⟨_, _, rfl, .inr ⟨t.sq, q.now w (.tup t rs)⟩⟩
  · rename_i a ht
    obtain ⟨x, rfl, r⟩ := rep1 ra
    split at q
    · rename_i ds hd
      have key : ∀ {p : Addr} {xs : List V}, SqL K H p xs → RepL K α H ds xs → ∃ p' ys, ([V.ref p] : List V) = [.ref p'] ∧ ((SqL K H p' ys ∧ ∀ l, H l = none → Q (.ref l) (upd H l (.tup ys))) ∨ (SqT K H p' ys ∧ Q (.ref p') H)) :=
        fun h rs => ⟨_, _, rfl, .inl ⟨h, fun l hl => q.nowX w (ex_new hl) (new_tup w hl rs)⟩⟩
      cases a with
      | tup es => exact absurd rfl (ht es)
      | lst es => cases hd; cases r with | lst t rs => exact key t.sq rs
      | rol es => cases hd; cases r with | rol t rs => exact key t.sq rs
      | adr i =>
        obtain ⟨p', xs', e1, e2, e3⟩ := lst_ok (K := K) (ds := ds) w r (by unfold seqOf at hd; unfold lstOf; exact hd)
        cases e1
        exact key (.of e2) e3
      | _ => cases hd
    · exact q.elim
  · exact q.elim
theorem cd_list : CbD K E (fun xs H Q => ∃ p ys, xs = [.ref p] ∧ (SqL K H p ys ∨ SqT K H p ys) ∧ ∀ l, H l = none → Q (.ref l) (upd H l (.lst ys))) bList := fun α H M as xs Q w ra q => by
  unfold bList at q
  split at q
  · obtain ⟨x, rfl, r⟩ := rep1 ra
    split at q
    · rename_i ds hd
      obtain ⟨p, xs, rfl, hs, rs⟩ := seq_ok w r hd
      exact ⟨p, xs, rfl, hs, fun l hl => q.nowX w (ex_new hl) (new_lst w hl rs)⟩
    · exact q.elim
  · exact q.elim
theorem ty_ok {α : List Addr} {H : Hp} {a : D} {x : V} {t : String} (r : Rep K α H a x) (e : tyD a = some t) : TyX K H x (.type t) := by
  cases a with
  | non => cases e; cases r; exact .base .non
  | bl b => cases e; cases r; exact .base (.bl b)
  | int b => cases e; cases r; exact .base (.int b)
  | str b => cases e; cases r; exact .base (.str b)
  | tup ds =>
    cases e
    cases r with
    | tup t rs =>
      rcases t with ⟨h | ⟨o, h⟩, _⟩ | h
      · exact .base (.tup h)
      · exact .fTuple h
      · rcases h with h | ⟨o, its, n, h1, h2, _⟩
        · exact (rd0 h).elim
        · exact .kTuple h1 h2
  | lst ds =>
    cases e
    cases r with
    | lst t rs => exact .base (.lst t.1)
  | rol ds =>
    cases e
    cases r with
    | rol t rs =>
      rcases t with ⟨h | ⟨o, h⟩, _⟩ | h
      · exact .base (.lst h)
      · exact .base (.frz h)
      · rcases h with h | ⟨o, its, n, h1, h2, _⟩
        · exact (rd0 h).elim
        · exact .kList h1 h2
  | adr i => cases e
  | raw v => cases e
  | xcp => cases e
theorem isi_tab : (["NoneType", "bool", "int", "str", "tuple", "list"].all fun a => ["bool", "int", "str", "tuple", "list", "dict"].all fun b => decide (kitB a b = isiB a b)) = true := by decide +kernel
theorem isi_ok {a b : String} {r : Bool} (h : isiB a b = some r) : kitB a b = some r := by
  have hab : a ∈ ["NoneType", "bool", "int", "str", "tuple", "list"] ∧ b ∈ ["bool", "int", "str", "tuple", "list", "dict"] := by
    unfold isiB at h
    split at h
    · decide
    · split at h
      · assumption
      · cases h
  have e := of_decide_eq_true (List.all_eq_true.mp (List.all_eq_true.mp isi_tab a hab.1) b hab.2)
  rw [e]
  exact h
theorem cd_isi : CbD K E (rIsi K) bIsi := fun α H M as xs Q w ra q => by
  unfold bIsi at q
  split at q
  · obtain ⟨x, y, rfl, r, r'⟩ := rep2 ra
    cases r'
    split at q
    · rename_i t ht
      split at q
      · rename_i b hb
        exact ⟨x, _, _, _, b, rfl, .ty _, ty_ok r ht, kit_ty (isi_ok hb), q.now w (.bl _)⟩
      · exact q.elim
    · exact q.elim
  · exact q.elim
end
end Pd

set_option Elab.async false
set_option linter.all false
set_option maxRecDepth 100000
set_option maxHeartbeats 1000000
namespace Pd
open PySem L2 PyProof.Rows

/-! ### a piece of the text and its function -/
structure PD (X : Cx) (E : XK) (e : Expr) (f : FE) : Prop where
  ex : ∃ t, PE X e t ∧ RE X.K E t f
structure PDT (X : Cx) (E : XK) (e : Expr) (f : FT) : Prop where
  ex : ∃ t, PT X e t ∧ RT X.K E t f
structure PDW (X : Cx) (E : XK) (e : Expr) (f : FT) : Prop where
  ex : ∃ t, PW X e t ∧ RT X.K E t f
structure PDA (X : Cx) (E : XK) (es : List Expr) (f : FA) : Prop where
  ex : ∃ t, PA X es t ∧ RA X.K E t f
structure PDO (X : Cx) (E : XK) (e : Option Expr) (f : FO) : Prop where
  ex : ∃ t, PO X e t ∧ RO X.K E t f
structure PDS (X : Cx) (E : XK) (st : Stmt) (f : FS) : Prop where
  ex : ∃ t, PS X st t ∧ RS X.K E t f
structure PDB (X : Cx) (E : XK) (st : List Stmt) (f : FS) : Prop where
  ex : ∃ t, PSs X st t ∧ RS X.K E t f
structure PDG (X : Cx) (E : XK) (e : Expr) (f : FG) : Prop where
  ex : ∃ t, PG X e t ∧ RG X.K E t f
structure PDGs (X : Cx) (E : XK) (es : List Expr) (f : FGs) : Prop where
  ex : ∃ t, PGs X es t ∧ RGs X.K E t f
structure PDI (X : Cx) (E : XK) (tg iter : Expr) (f : FA) : Prop where
  ex : ∃ t, PI X tg iter t ∧ RI X.K E t f
/-- an operator; a built-in -/
structure Op2 (X : Cx) (E : XK) (f : Value → Value → Sem Value) (g : PM → D → D → Out D) : Prop where
  ex : ∃ r, OpR X f r ∧ OpD X.K E r g
structure Blt (X : Cx) (E : XK) (f : Value) (g : PM → List D → Out D) : Prop where
  ex : ∃ r, CallR X f r ∧ CbD X.K E r g
section
variable {X : Cx} {E : XK} {a b c e o : Expr} {es : List Expr} {fa fb fc fe : FE} {pos p apos : Pos} {x : Str}
theorem pv' (i : Nat) (h : PE X (.Name x pos) (tVar i)) : PD X E (.Name x pos) (pVar i) := ⟨_, h, r_var⟩
theorem pd_var (i : Nat) (hN : X.N[i]? = some x := by rfl) (hv : Vis X.env.scope x := by first | exact Or.inl rfl | exact Or.inr (Or.inl rfl) | exact Or.inr (Or.inr rfl)) (hd : (x == ("__debug__" : Str)) = false := by decide)
    (hcd : (x == ("__classdict__" : Str)) = false := by decide) : PD X E (.Name x pos) (pVar i) := ⟨_, pe_var hN hv hd hcd, r_var⟩
theorem pd_int {i : Int} {j} : PD X E (.Constant (.int i) j pos) (pC (.int i)) := ⟨_, pe_int, r_c fun _ _ => .int i⟩
theorem pd_str {z : Str} {j} : PD X E (.Constant (.str z) j pos) (pC (.str z)) := ⟨_, pe_str, r_c fun _ _ => .str z⟩
theorem pd_bl {k : Bool} {j} : PD X E (.Constant (.bool k) j pos) (pC (.bl k)) := ⟨_, pe_bl, r_c fun _ _ => .bl k⟩
theorem pd_non {j} : PD X E (.Constant .none j pos) (pC .non) := ⟨_, pe_non, r_c fun _ _ => .non⟩
/-- a module's constant -/
theorem pd_glob {d : D} {v : V} {u : Value} (hg : Gl X x) (hm : X.mg x = some u) (r : RelV v u) (hr : ∀ α H, Rep X.K α H d v) (hd : (x == ("__debug__" : Str)) = false := by decide) : PD X E (.Name x pos) (pC d) := ⟨_, pe_glob hg hm r hd, r_c hr⟩
/-- a built-in type's name -/
theorem pd_ty {n : String} (hg : Gl X x) (hm : X.mg x = none) (hv : bootBuiltins x = some (.type n)) (hn : x ≠ "__name__" := by decide) (hd : (x == ("__debug__" : Str)) = false := by decide) : PD X E (.Name x pos) (pC (.raw (.ty n))) :=
  ⟨_, pe_bltn (v := .ty n) hg hm hv rfl hn hd, r_c fun _ _ => .raw _⟩
theorem pd_op {op : Operator} {g : PM → D → D → Out D} (ho : Op2 X E (binaryOp op) g) (ha : PD X E a fa) (hb : PD X E b fb) : PD X E (.BinOp a op b pos) (pOp g fa fb) := by
  obtain ⟨r, h1, h2⟩ := ho
  obtain ⟨ta, ha, ra⟩ := ha
  obtain ⟨tb, hb, rb⟩ := hb
  exact ⟨_, pe_op h1 ha hb, r_op ra rb h2⟩
theorem pd_cmp {op : CmpOp} {g : PM → D → D → Out D} (ho : Op2 X E (compareOp op) g) (ha : PD X E a fa) (hb : PD X E b fb) (hm : behindInMarks op b = false) : PD X E (.Compare a [op] [b] pos) (pOp g fa fb) := by
  obtain ⟨r, h1, h2⟩ := ho
  obtain ⟨ta, ha, ra⟩ := ha
  obtain ⟨tb, hb, rb⟩ := hb
  exact ⟨_, pe_cmpR h1 ha hb hm, r_op ra rb h2⟩
theorem pdt_cmp {op : CmpOp} {g : PM → D → D → Out D} (ho : Op2 X E (compareOp op) g) (ha : PD X E a fa) (hb : PD X E b fb) (hm : behindInMarks op b = false) : PDT X E (.Compare a [op] [b] pos) (pTest (pOp g fa fb)) := by
  obtain ⟨r, h1, h2⟩ := ho
  obtain ⟨ta, ha, ra⟩ := ha
  obtain ⟨tb, hb, rb⟩ := hb
  exact ⟨_, pt_cmpR h1 ha hb hm, r_test (r_op ra rb h2)⟩
theorem pd_neg (ha : PD X E a fa) : PD X E (.UnaryOp .USub a pos) (pUn gNeg fa) := by
  obtain ⟨ta, ha, ra⟩ := ha
  exact ⟨_, pe_un un_neg ha, r_un ra ud_neg⟩
theorem pd_not (ha : PD X E a fa) : PD X E (.UnaryOp .Not a pos) (pNotV fa) := by
  obtain ⟨ta, ha, ra⟩ := ha
  exact ⟨_, pe_not ha, r_notV ra⟩
theorem pd_one {op} (ha : PD X E a fa) : PD X E (.BoolOp op [a] pos) fa := by
  obtain ⟨ta, ha, ra⟩ := ha
  exact ⟨_, pe_one ha, ra⟩
theorem pd_and (ha : PD X E a fa) (hb : PD X E (.BoolOp .And (b :: es) pos) fb) : PD X E (.BoolOp .And (a :: b :: es) pos) (pAndV fa fb) := by
  obtain ⟨ta, ha, ra⟩ := ha
  obtain ⟨tb, hb, rb⟩ := hb
  exact ⟨_, pe_and ha hb, r_andV ra rb⟩
theorem pd_or (ha : PD X E a fa) (hb : PD X E (.BoolOp .Or (b :: es) pos) fb) : PD X E (.BoolOp .Or (a :: b :: es) pos) (pOrV fa fb) := by
  obtain ⟨ta, ha, ra⟩ := ha
  obtain ⟨tb, hb, rb⟩ := hb
  exact ⟨_, pe_or ha hb, r_orV ra rb⟩
theorem pd_if {t : FT} (hc : PDT X E c t) (ha : PD X E a fa) (hb : PD X E b fb) : PD X E (.IfExp c a b pos) (pIf t fa fb) := by
  obtain ⟨tc, hc, rc⟩ := hc
  obtain ⟨ta, ha, ra⟩ := ha
  obtain ⟨tb, hb, rb⟩ := hb
  exact ⟨_, pe_ifExp hc ha hb, r_if rc ra rb⟩
/-! tests -/
theorem pdt_val (ha : PD X E e fe) (he : ∀ whole, isTrue e X.env whole = (do let v ← whole; standAt e.pos; holding [v] (truthy v)) := by intro _; rfl) : PDT X E e (pTest fe) := by
  obtain ⟨ta, ha, ra⟩ := ha
  exact ⟨_, pt_val ha he, r_tB ra⟩
theorem pdt_not {t : FT} (ha : PDT X E a t) : PDT X E (.UnaryOp .Not a pos) (pNot t) := by
  obtain ⟨ta, ha, ra⟩ := ha
  exact ⟨_, pt_not ha, r_not ra⟩
theorem pdt_w {t : FT} (h : PDW X E e t) : PDT X E e t := by
  obtain ⟨t', h, r⟩ := h
  exact ⟨_, h.pt, r⟩
theorem pdw_and1 {t : FT} (ha : PDT X E a t) : PDW X E (.BoolOp .And [a] pos) t := by
  obtain ⟨ta, ha, ra⟩ := ha
  exact ⟨_, pw_and1 ha, ra⟩
theorem pdw_or1 {t : FT} (ha : PDT X E a t) : PDW X E (.BoolOp .Or [a] pos) t := by
  obtain ⟨ta, ha, ra⟩ := ha
  exact ⟨_, pw_or1 ha, ra⟩
theorem pdw_and {t u : FT} (ha : PDT X E a t) (hb : PDW X E (.BoolOp .And (b :: es) pos) u) : PDW X E (.BoolOp .And (a :: b :: es) pos) (pAnd t u) := by
  obtain ⟨ta, ha, ra⟩ := ha
  obtain ⟨tb, hb, rb⟩ := hb
  exact ⟨_, pw_and ha hb, r_and ra rb⟩
theorem pdw_or {t u : FT} (ha : PDT X E a t) (hb : PDW X E (.BoolOp .Or (b :: es) pos) u) : PDW X E (.BoolOp .Or (a :: b :: es) pos) (pOr t u) := by
  obtain ⟨ta, ha, ra⟩ := ha
  obtain ⟨tb, hb, rb⟩ := hb
  exact ⟨_, pw_or ha hb, r_or ra rb⟩
/-! arguments, displays, parts -/
theorem pda_nil : PDA X E [] aNil := ⟨_, pa_nil, r_nil⟩
theorem pda_cons {f : FA} (ha : PD X E e fe) (hr : PDA X E es f) (h : starEach (e :: es) X.env = (false, eval e X.env) :: starEach es X.env := by rfl) : PDA X E (e :: es) (aCons fe f) := by
  obtain ⟨ta, ha, ra⟩ := ha
  obtain ⟨tr, hr, rr⟩ := hr
  exact ⟨_, pa_cons ha hr h, r_cons ra rr⟩
theorem pd_tup {f : FA} {x1} (h : PDA X E es f) : PD X E (.Tuple es x1 pos) (pTup f) := by
  obtain ⟨t, h, r⟩ := h
  exact ⟨_, pe_tup h, r_tup r⟩
theorem pd_lst {f : FA} (h : PDA X E es f) : PD X E (.List es pos) (pLst f) := by
  obtain ⟨t, h, r⟩ := h
  exact ⟨_, pe_lst h, r_lst r⟩
theorem pd_new {f : FA} (h : PDA X E es f) : PD X E (.List es pos) (pNew f) := by
  obtain ⟨t, h, r⟩ := h
  exact ⟨_, pe_lst h, r_new r⟩
theorem pd_ix (ha : PD X E a fa) (hb : PD X E b fb) (hs : PlainIx b := by exact fun _ _ => rfl) : PD X E (.Subscript a b pos) (pOp gIx fa fb) := by
  obtain ⟨ta, ha, ra⟩ := ha
  obtain ⟨tb, hb, rb⟩ := hb
  exact ⟨_, pe_ix ix_seq ha hb hs, r_op ra rb od_ix⟩
theorem pdo_none : PDO X E none oNone := ⟨_, po_none, r_oNone⟩
theorem pdo_some (h : PD X E e fe) : PDO X E (some e) (oSome fe) := by
  obtain ⟨t, h, r⟩ := h
  exact ⟨_, po_some h, r_oSome r⟩
theorem pd_sl {lo hi : Option Expr} {p2 : Pos} {fl fh : FO} (he : PD X E e fe) (hl : PDO X E lo fl) (hh : PDO X E hi fh) : PD X E (.Subscript e (.Slice lo hi none p2) pos) (pSl gSl fe fl fh) := by
  obtain ⟨t, he, r⟩ := he
  obtain ⟨tl, hl, rl⟩ := hl
  obtain ⟨th, hh, rh⟩ := hh
  exact ⟨_, pe_slice sl_D he hl hh, r_sl r rl rh sd_sl⟩
/-! calls -/
theorem pd_call {CX : CXT} {k : Nat} {f : Addr} {fd : FuncData} {ps : List Str} {Φ : List D → PM → Out D} {fargs : FA} (F : FnOk X.prog X.w X.K X.mg X.base CX k f fd ps (spP X.K Φ)) (hr : Room k X.A) (hg : Gl X x) (hm : X.mg x = some (.ref f)) (hk : PySem.W.keepIn X.K (.ref f) = true)
    (hb : Binds X.K fd ps []) (hx : Passes CX X E) (ha : PDA X E (e :: es) fargs) (hdb : (x == ("__debug__" : Str)) = false := by decide)
    (he : starEach (e :: es) X.env = (false, eval e X.env) :: starEach es X.env := by rfl) (hpl : (backTo pos (starEach es X.env)).any (·.1) = false := by rfl) : PD X E (.Call (.Name x p) (e :: es) [] pos) (pCall Φ fargs) := by
  obtain ⟨t, ha, r⟩ := ha
  exact ⟨_, pe_call F hr hg hm hk hb .nil hx ha hdb he hpl, r_call r⟩
theorem pd_callB {id : String} {g : PM → List D → Out D} {fargs : FA} (hc : Blt X E (.builtin id) g) (hg : Gl X x) (hm : X.mg x = none) (hv : bootBuiltins x = some (.builtin id)) (ha : PDA X E (e :: es) fargs) (hn : x ≠ "__name__" := by decide) (hdb : (x == ("__debug__" : Str)) = false := by decide)
    (he : starEach (e :: es) X.env = (false, eval e X.env) :: starEach es X.env := by rfl) (hpl : (backTo pos (starEach es X.env)).any (·.1) = false := by rfl) : PD X E (.Call (.Name x p) (e :: es) [] pos) (pCB g fargs) := by
  obtain ⟨r, h1, h2⟩ := hc
  obtain ⟨t, ha, rr⟩ := ha
  exact ⟨_, pe_callB h1 hg hm hv ha hn hdb he hpl, r_cb rr h2⟩
theorem pd_callT {T : String} {g : PM → List D → Out D} {fargs : FA} (hc : Blt X E (.type T) g) (hg : Gl X x) (hm : X.mg x = none) (hv : bootBuiltins x = some (.type T)) (ha : PDA X E (e :: es) fargs) (hn : x ≠ "__name__" := by decide) (hdb : (x == ("__debug__" : Str)) = false := by decide)
    (he : starEach (e :: es) X.env = (false, eval e X.env) :: starEach es X.env := by rfl) (hpl : (backTo pos (starEach es X.env)).any (·.1) = false := by rfl) : PD X E (.Call (.Name x p) (e :: es) [] pos) (pCB g fargs) := by
  obtain ⟨r, h1, h2⟩ := hc
  obtain ⟨t, ha, rr⟩ := ha
  exact ⟨_, pe_callTy h1 hg hm hv ha hn hdb he hpl, r_cb rr h2⟩
/-! the operators -/
theorem o_add : Op2 X E (binaryOp .Add) gAdd := ⟨_, op_add.or (op_add_str.or (op_catA.or op_cat)), (od_II0 fun _ _ _ _ => .int _).or (od_addS.or (od_addT.or od_addL))⟩
theorem o_sub : Op2 X E (binaryOp .Sub) gSub := ⟨_, op_sub, od_II0 fun _ _ _ _ => .int _⟩
theorem o_mul : Op2 X E (binaryOp .Mult) gMul := ⟨_, op_mul, od_II (fun i j h => by
  unfold cMul at h
  simp only [Bool.or_eq_true, Bool.and_eq_true, decide_eq_true_eq] at h
  exact h) fun _ _ _ _ => .int _⟩
theorem o_fdiv : Op2 X E (binaryOp .FloorDiv) gFdiv := ⟨_, op_fdiv.or op_fdivN, (od_II (fun i j h => by
  unfold cDiv at h
  simp only [Bool.and_eq_true, decide_eq_true_eq] at h
  exact h) fun _ _ _ _ => .int _).or (od_II (fun i j h => by
  unfold cDivN at h
  simp only [Bool.and_eq_true, decide_eq_true_eq] at h
  exact h) fun _ _ _ _ => .int _)⟩
theorem o_mod : Op2 X E (binaryOp .Mod) gMod := ⟨_, op_mod.or op_modN, (od_II (fun i j h => of_decide_eq_true h) fun _ _ _ _ => .int _).or (od_II (fun i j h => of_decide_eq_true h) fun _ _ _ _ => .int _)⟩
theorem o_pow : Op2 X E (binaryOp .Pow) gPow := ⟨_, op_pow, od_II (fun i j h => by
  unfold cPow at h
  simp only [Bool.and_eq_true, decide_eq_true_eq] at h
  exact ⟨h.1.1, h.1.2, h.2⟩) fun _ _ _ _ => .int _⟩
theorem o_lt : Op2 X E (compareOp .Lt) gLt := ⟨_, op_lt, od_II0 fun _ _ _ _ => .bl _⟩
theorem o_le : Op2 X E (compareOp .LtE) gLe := ⟨_, op_le, od_II0 fun _ _ _ _ => .bl _⟩
theorem o_gt : Op2 X E (compareOp .Gt) gGt := ⟨_, op_gt, od_II0 fun _ _ _ _ => .bl _⟩
theorem o_ge : Op2 X E (compareOp .GtE) gGe := ⟨_, op_ge, od_II0 fun _ _ _ _ => .bl _⟩
theorem o_eq : Op2 X E (compareOp .Eq) gEq := ⟨_, op_eq, od_eq⟩
theorem o_ne : Op2 X E (compareOp .NotEq) gNe := ⟨_, op_ne, od_ne⟩
theorem o_is : Op2 X E (compareOp .Is) gIs' := ⟨_, op_isN1, od_is⟩
theorem o_isNot : Op2 X E (compareOp .IsNot) gIsNot' := ⟨_, op_notN1, od_isNot⟩
theorem o_in : Op2 X E (compareOp .In) gIn := ⟨_, op_inS.or op_in_seq, od_inS.or od_inL⟩
theorem o_notIn : Op2 X E (compareOp .NotIn) gNotIn := ⟨_, op_notInS.or op_notIn_seq, od_notInS.or od_notInL⟩
theorem b_len : Blt X E (.builtin "len") bLen := ⟨_, call_len, cd_len⟩
theorem b_abs : Blt X E (.builtin "abs") bAbs := ⟨_, call_abs, cd_abs⟩
theorem b_int : Blt X E (.type "int") bInt := ⟨_, call_int1.or call_int_str, cd_int⟩
theorem b_str : Blt X E (.type "str") bStr := ⟨_, call_str_int.or SkE.call_str_str, cd_str⟩
theorem b_tuple : Blt X E (.type "tuple") bTuple := ⟨_, call_tuple_of, cd_tuple⟩
theorem b_list : Blt X E (.type "list") bList := ⟨_, call_list_of, cd_list⟩
theorem b_isi : Blt X E (.builtin "isinstance") bIsi := ⟨_, call_isi, cd_isi⟩
theorem b_max2 (hc : X.calm = true) : Blt X E (.builtin "max") bMax2 := ⟨_, call_max2 hc, cd_max2⟩
theorem b_min2 (hc : X.calm = true) : Blt X E (.builtin "min") bMin2 := ⟨_, call_min2 hc, cd_min2⟩
/-! statements -/
section
variable {st : Stmt} {sts body orelse : List Stmt} {f g : FS} {t : FT} {tg iter : Expr}
theorem pdb_nil : PDB X E [] sNext := ⟨_, pss_nil, s_next⟩
theorem pdb_cons (h1 : PDS X E st f) (h2 : PDB X E sts g) : PDB X E (st :: sts) (sSeq f g) := by
  obtain ⟨t1, h1, r1⟩ := h1
  obtain ⟨t2, h2, r2⟩ := h2
  exact ⟨_, pss_cons h1 h2, s_seq r1 r2⟩
theorem pdb_one (h1 : PDS X E st f) : PDB X E [st] f := by
  obtain ⟨t1, h1, r1⟩ := h1
  exact ⟨_, pss_one h1, r1⟩
theorem pds_set {pos' : Pos} (i : Nat) (he : PD X E e fe) (hN : X.N.Nodup) (hi : X.N[i]? = some x := by rfl) (hx : Loc X.env.scope x := by first | exact Or.inl rfl | exact Or.inr rfl) (hs : swapsWith e (some (.Name x pos')) pos.line X.env = pure false := by rfl)
    (hf : X.fn x = true ∨ X.env.scope.names.lookup x = some .local := by first | exact .inl rfl | exact .inr rfl | assumption) : PDS X E (.Assign [.Name x pos'] e pos) (sAsg fe (fName i)) := by
  obtain ⟨t, he, r⟩ := he
  exact ⟨_, ps_set hN hi hx he hs hf, s_asg r g_name⟩
theorem pds_asg {fg : FG} (he : PD X E e fe) (hg : PDG X E tg fg) (hs : swapsWithSole [tg] e pos.line X.env = pure false := by rfl) (hw : swappedStores [tg] e X.env = pure none := by rfl)
    (h1 : (assignEach [tg] X.env).map (·.2) = [assign tg X.env] := by rfl) : PDS X E (.Assign [tg] e pos) (sAsg fe fg) := by
  obtain ⟨t, he, r⟩ := he
  obtain ⟨tg', hg, rg⟩ := hg
  exact ⟨_, ps_asg he hg hs hw h1, s_asg r rg⟩
theorem pdg_name {i : Nat} (hN : X.N.Nodup) (hi : X.N[i]? = some x := by rfl) (hx : Loc X.env.scope x := by first | exact Or.inl rfl | exact Or.inr rfl) (hf : X.fn x = true ∨ X.env.scope.names.lookup x = some .local := by first | exact .inl rfl | exact .inr rfl | assumption) : PDG X E (.Name x pos) (fName i) :=
  ⟨_, pg_name hN hi hx hf, g_name⟩
theorem pdgs_nil : PDGs X E [] fNil := ⟨_, pgs_nil, g_nil⟩
theorem pdgs_cons {f : FG} {fs : FGs} (h1 : PDG X E e f) (h2 : PDGs X E es fs) (hs : (assignEach (e :: es) X.env).map (·.2) = assign e X.env :: (assignEach es X.env).map (·.2) := by rfl) : PDGs X E (e :: es) (fCons f fs) := by
  obtain ⟨t1, h1, r1⟩ := h1
  obtain ⟨t2, h2, r2⟩ := h2
  exact ⟨_, pgs_cons h1 h2 hs, g_cons r1 r2⟩
theorem pdg_tup {k : Nat} {n : Nat} {fs : FGs} (hc : X.calm = true) (h : PDGs X E es fs) (hn : (assignEach es X.env).length = n := by rfl) (hst : (assignEach es X.env).findIdx? (·.1) = none := by rfl) : PDG X E (.Tuple es k pos) (fTup n fs) := by
  obtain ⟨t, h, r⟩ := h
  exact ⟨_, pg_tup hc h hn hst, g_tup r⟩
theorem pdg_sub (ho : PD X E a fa) (hi : PD X E b fb) (ha : ∀ v, assign (.Subscript a b pos) X.env v = (do
      let ov ← holding [v] (eval a X.env)
      let iv ← holding [v, ov] (eval b X.env)
      standAt pos
      holding [v, ov, iv] (setItem ov iv v)
      release [v, ov, iv] []) := by intro v; rfl) : PDG X E (.Subscript a b pos) (fSub fa fb) := by
  obtain ⟨t1, h1, r1⟩ := ho
  obtain ⟨t2, h2, r2⟩ := hi
  exact ⟨_, pg_sub h1 h2 set_list ha, g_sub r1 r2⟩
theorem pds_expr (he : PD X E e fe) (hs : swapsWith e none pos.line X.env = pure false := by rfl) : PDS X E (.Expr e pos) (sDrop fe) := by
  obtain ⟨t, he, r⟩ := he
  exact ⟨_, ps_expr he hs, s_drop r⟩
theorem pds_ret (he : PD X E e fe) : PDS X E (.Return (some e) pos) (sRet fe) := by
  obtain ⟨t, he, r⟩ := he
  exact ⟨_, ps_ret he, s_ret r⟩
theorem pds_retN : PDS X E (.Return none pos) sRetN := ⟨_, ps_retN, s_retN⟩
theorem pds_brk : PDS X E (.Break pos) sBreak := ⟨_, ps_break, s_break⟩
theorem pds_cont : PDS X E (.Continue pos) sCont := ⟨_, ps_continue, s_cont⟩
theorem pds_pass : PDS X E (.Pass pos) sNext := ⟨_, ps_pass, s_next⟩
theorem pds_if (hc : PDT X E c t) (h1 : PDB X E body f) (h2 : PDB X E orelse g) : PDS X E (.If c body orelse pos) (sIf t f g) := by
  obtain ⟨tc, hc, rc⟩ := hc
  obtain ⟨t1, h1, r1⟩ := h1
  obtain ⟨t2, h2, r2⟩ := h2
  exact ⟨_, ps_if hc h1 h2, s_if rc r1 r2⟩
theorem pds_while (n : Nat) (hp : PassesOwn (model X.prog X.w) X.A X.env X.xe) (hc : PDT X E c t) (hb : PDB X E body f) : PDS X E (.While c body [] pos) (sWhile t f n) := by
  obtain ⟨tc, hc, rc⟩ := hc
  obtain ⟨tb, hb, rb⟩ := hb
  exact ⟨_, ps_while hp hc hb, s_while n rc rb⟩
theorem pds_for {fw : FA} {fg : FG} (hp : PassesOwn (model X.prog X.w) X.A X.env X.xe) (hc : X.calm = true) (hi : PDI X E tg iter fw) (hg : PDG X E tg fg) (hb : PDB X E body f) (hs : ∀ x, foldedSetIterable iter X.env x = pure x := by intro _; rfl) : PDS X E (.For tg iter body [] pos) (sFor fw fg f) := by
  obtain ⟨ti, hi, ri⟩ := hi
  obtain ⟨t1, hg, rg⟩ := hg
  obtain ⟨tb, hb, rb⟩ := hb
  exact ⟨_, ps_for hp hc hi hg hb hs, s_for ri rg rb⟩
end
end
end Pd

set_option Elab.async false
set_option linter.all false
set_option maxRecDepth 100000
set_option maxHeartbeats 1000000
namespace Pd
open PySem L2 PyProof.Rows

/-! ### values without the objects from n on -/
mutual
def clD (n : Nat) : D → Bool
  | .adr i => decide (i < n)
  | .tup ds => clL n ds
  | .lst ds => clL n ds
  | .rol ds => clL n ds
  | .xcp _ _ _ ds => clL n ds
  | .non => true
  | .bl _ => true
  | .int _ => true
  | .str _ => true
  | .raw _ => true
def clL (n : Nat) : List D → Bool
  | [] => true
  | d :: ds => clD n d && clL n ds
end
def clMO (n : Nat) : MO → Bool
  | .lst ds => clL n ds
  | .ins _ fs => clL n (fs.map (·.2))
  | .dct kvs => clL n (kvs.map (·.2))
theorem clL_append (n : Nat) : ∀ as bs : List D, clL n (as ++ bs) = (clL n as && clL n bs)
  | [], bs => by simp [clL]
  | a :: as, bs => by simp [clL, clL_append n as bs, Bool.and_assoc]
theorem clL_of (n : Nat) : ∀ {as : List D}, (∀ a ∈ as, clD n a = true) → clL n as = true
  | [], _ => rfl
  | a :: as, h => by
    simp only [clL, Bool.and_eq_true]
    exact ⟨h a (List.mem_cons_self ..), clL_of n fun b hb => h b (List.mem_cons_of_mem _ hb)⟩
section
variable {K : PySem.W.Frag} {α α' : List Addr} {H H' : Hp} {E : XK}
mutual
theorem Rep.cl : ∀ (d : D) (v : V), Rep K α H d v → clD α.length d = true
  | .adr i, _, h => by
    cases h with
    | adr e => simp only [clD, decide_eq_true_eq]; exact (List.getElem?_eq_some_iff.mp e).1
  | .tup ds, _, h => by cases h with | tup t r => simp only [clD]; exact RepL.cl ds _ r
  | .lst ds, _, h => by cases h with | lst t r => simp only [clD]; exact RepL.cl ds _ r
  | .rol ds, _, h => by cases h with | rol t r => simp only [clD]; exact RepL.cl ds _ r
  | .xcp _ _ _ ds, _, h => by cases h with | xcp e n r => simp only [clD]; exact RepL.cl ds _ r
  | .non, _, _ => by simp only [clD]
  | .bl _, _, _ => by simp only [clD]
  | .int _, _, _ => by simp only [clD]
  | .str _, _, _ => by simp only [clD]
  | .raw _, _, _ => by simp only [clD]
theorem RepL.cl : ∀ (ds : List D) (vs : List V), RepL K α H ds vs → clL α.length ds = true
  | [], _, _ => by simp only [clL]
  | d :: ds, _, h => by
    cases h with
    | cons r t => simp only [clL, Bool.and_eq_true]; exact ⟨Rep.cl d _ r, RepL.cl ds _ t⟩
end
mutual
theorem Rep.trim (n : Nat) : ∀ (d : D) (v : V), clD n d = true → Rep K α H d v → Rep K (α.take n) H d v
  | .adr i, _, c, h => by
    cases h with
    | adr e =>
      simp only [clD, decide_eq_true_eq] at c
      exact .adr (by rw [List.getElem?_take_of_lt c]; exact e)
  | .tup ds, _, c, h => by
    cases h with
    | tup t r =>
      simp only [clD] at c
      refine .tup ?_ (RepL.trim n ds _ c r)
      rcases t with ⟨t, q⟩ | t
      · exact .inl ⟨t, fun z => q (List.mem_of_mem_take z)⟩
      · exact .inr t
  | .lst ds, _, c, h => by
    cases h with
    | lst t r =>
      simp only [clD] at c
      exact .lst ⟨t.1, fun z => t.2 (List.mem_of_mem_take z)⟩ (RepL.trim n ds _ c r)
  | .rol ds, _, c, h => by
    cases h with
    | rol t r =>
      simp only [clD] at c
      refine .rol ?_ (RepL.trim n ds _ c r)
      rcases t with ⟨t, q⟩ | t
      · exact .inl ⟨t, fun z => q (List.mem_of_mem_take z)⟩
      · exact .inr t
  | .xcp a dd ns ds, _, c, h => by
    cases h with
    | xcp e q r =>
      simp only [clD] at c
      exact .xcp e (fun z => q (List.mem_of_mem_take z)) (RepL.trim n ds _ c r)
  | .non, _, _, h => by cases h; exact .non
  | .bl b, _, _, h => by cases h; exact .bl b
  | .int b, _, _, h => by cases h; exact .int b
  | .str b, _, _, h => by cases h; exact .str b
  | .raw b, _, _, h => by cases h; exact .raw b
theorem RepL.trim (n : Nat) : ∀ (ds : List D) (vs : List V), clL n ds = true → RepL K α H ds vs → RepL K (α.take n) H ds vs
  | [], _, _, h => by cases h; exact .nil
  | d :: ds, _, c, h => by
    cases h with
    | cons r t =>
      simp only [clL, Bool.and_eq_true] at c
      exact .cons (Rep.trim n d _ c.1 r) (RepL.trim n ds _ c.2 t)
end
theorem DL.cl : ∀ {r : List (Key × D)} {q : List (Key × V)}, DL K α H r q → clL α.length (r.map (·.2)) = true
  | _, _, .nil => rfl
  | _, _, .cons h t => by
    simp only [List.map_cons, clL, Bool.and_eq_true]
    exact ⟨Rep.cl _ _ h, DL.cl t⟩
theorem DL.trim (n : Nat) : ∀ {r : List (Key × D)} {q : List (Key × V)}, clL n (r.map (·.2)) = true → DL K α H r q → DL K (α.take n) H r q
  | _, _, _, .nil => .nil
  | _, _, c, .cons h t => by
    simp only [List.map_cons, clL, Bool.and_eq_true] at c
    exact .cons (Rep.trim n _ _ c.1 h) (DL.trim n c.2 t)
theorem ObR.cl {a : Addr} {m : MO} (h : ObR K α H a m) : clMO α.length m = true := by
  cases m with
  | lst ds => obtain ⟨vs, _, r⟩ := h; exact RepL.cl ds _ r
  | ins C fs => obtain ⟨dx, vs, _, r⟩ := h; exact RepL.cl _ _ r
  | dct kvs => obtain ⟨q, _, r⟩ := h; exact DL.cl r
theorem ObR.trim {a : Addr} {m : MO} (n : Nat) (c : clMO n m = true) (h : ObR K α H a m) : ObR K (α.take n) H a m := by
  cases m with
  | lst ds => obtain ⟨vs, e, r⟩ := h; exact ⟨vs, e, RepL.trim n ds _ c r⟩
  | ins C fs => obtain ⟨dx, vs, e, r⟩ := h; exact ⟨dx, vs, e, RepL.trim n _ _ c r⟩
  | dct kvs => obtain ⟨q, e, r⟩ := h; exact ⟨q, e, DL.trim n c r⟩
theorem Wd.cl {M : PM} (w : Wd K α M H) : ∀ m ∈ M, clMO M.length m = true := fun m hm => by
  obtain ⟨i, hi, e⟩ := List.mem_iff_getElem.mp hm
  obtain ⟨a, _, o⟩ := w.ob i m (by rw [List.getElem?_eq_getElem hi, e])
  rw [← w.len]
  exact o.cl
/-- the first n objects -/
theorem Wd.trim {M' junk : PM} (w : Wd K α (M' ++ junk) H) (c : ∀ m ∈ M', clMO M'.length m = true) : Wd K (α.take M'.length) M' H := by
  refine ⟨w.nd.sublist (List.take_sublist _ _), by rw [List.length_take, w.len, List.length_append]; omega, fun i m e => ?_⟩
  have hi := (List.getElem?_eq_some_iff.mp e).1
  obtain ⟨a, e1, o⟩ := w.ob i m (by rw [List.getElem?_append_left hi]; exact e)
  exact ⟨a, by rw [List.getElem?_take_of_lt hi]; exact e1, o.trim _ (c m (List.mem_of_getElem? e))⟩
theorem Step.trim {n : Nat} (s : Step α H α' H') (h : α.length ≤ n) : Step α H (α'.take n) H' := by
  obtain ⟨β, rfl, hb⟩ := s.ext
  refine ⟨⟨β.take (n - α.length), ?_, fun b hb' => hb b (List.mem_of_mem_take hb')⟩, s.pr⟩
  rw [List.take_append, List.take_of_length_le h]
/-- what is left when a def ends -/
def Shuts (M' M'' : PM) (d' d : D) : Prop := (M'' = M' ∧ d' = d) ∨
  ∃ junk, M'' = M' ++ junk ∧ (∀ m ∈ M', clMO M'.length m = true) ∧ ((d' = d ∧ clD M'.length d = true) ∨ ∃ i es, d' = .adr i ∧ M'.length ≤ i ∧ M''[i]? = some (.lst es) ∧ d = .lst es ∧ clL M'.length es = true)
theorem shut_ok {M' M'' : PM} {d' d : D} {v : V} (s : Shuts M' M'' d' d) (w : Wd K α M'' H) (r : Rep K α H d' v) : Wd K (α.take M'.length) M' H ∧ Rep K (α.take M'.length) H d v := by
  rcases s with ⟨rfl, rfl⟩ | ⟨junk, rfl, c, s⟩
  · rw [← w.len, List.take_length]
    exact ⟨w, r⟩
  · refine ⟨w.trim c, ?_⟩
    rcases s with ⟨rfl, cd⟩ | ⟨i, es, rfl, hi, e, rfl, ce⟩
    · exact Rep.trim _ _ _ cd r
    · cases r with
      | adr ha =>
        obtain ⟨a', e1, vs, e2, e3⟩ := w.ob _ _ e
        rw [ha] at e1
        cases e1
        refine .lst ⟨e2, fun z => ?_⟩ (RepL.trim _ _ _ ce e3)
        obtain ⟨j, hj, e4⟩ := List.mem_iff_getElem.mp z
        rw [List.getElem_take] at e4
        rw [List.length_take] at hj
        obtain ⟨hi', e5⟩ := List.getElem?_eq_some_iff.mp ha
        have := (List.getElem_inj w.nd).mp (e4.trans e5.symm)
        omega

/-! ### THE RULE for a def -/
def rho0 (N : List Str) (ds : List D) : Rho := ds.map some ++ List.replicate (N.length - ds.length) none
theorem env0 {N : List Str} {ds : List D} {vs : List V} (r : RepL K α H ds vs) : EnvR K α H (rho0 N ds) (L2.start N vs) := by
  unfold rho0 L2.start
  refine ⟨by simp [r.length], fun i d h => ?_⟩
  by_cases hi : i < ds.length
  · rw [List.getElem?_append_left (by simpa using hi), List.getElem?_map] at h
    cases e : ds[i]? with
    | none => rw [e] at h; cases h
    | some d' =>
      rw [e] at h
      cases h
      obtain ⟨v, e1, e2⟩ := r.get e
      refine ⟨v, ?_, e2⟩
      rw [List.getElem?_append_left (by rw [List.length_map, ← r.length]; exact hi), List.getElem?_map, e1]
      rfl
  · rw [List.getElem?_append_right (by simpa using hi), List.getElem?_replicate] at h
    split at h <;> cases h
def Fits (N : List Str) (g : FS) (Φ : List D → PM → Out D) (ds : List D) (M : PM) : Prop := match Φ ds M with
  | .ok d M' => M.length ≤ M'.length ∧ ∃ d' M'', (g (rho0 N ds) M = .ok (.rt d') M'' ∨ (∃ ρ, g (rho0 N ds) M = .ok (.nx ρ) M'' ∧ d' = .non)) ∧ Shuts M' M'' d' d
  | .exn _ _ _ => False
  | .bad => True
theorem fn_pd {P : Program} {w : World} {mg : Str → Option Value} {base : Heap} {x qual : Str} {st : Stmt} {f : Addr} {fd : FuncData} {N ps : List Str} {k : Nat} {Φ : List D → PM → Out D} {g : FS} (F : Fun K x qual st f fd) (S : FnScope N ps (defScope st))
    (hl : ∀ ds M, ds.length ≠ ps.length → Φ ds M = .bad)
    (body : ∀ (cdv : Value) (A : Around) (outer : List PySem.Env) (s : Shared) (H : Hp) (E : XK), Room k (A.deeper (envOfC qual (defScope st) s.heap.objs.size f cdv)) → PDB (cxOf CX0 P w K mg base N qual (defScope st) f cdv A outer s H E).nox E0 (defBody st) g)
    (fit : ∀ ds M, ds.length = ps.length → (∀ m ∈ M, clMO M.length m = true) → clL M.length ds = true → Fits N g Φ ds M) : FnOk P w K mg base CX0 (k + 1) f fd ps (spP K Φ) := by
  refine F.ok S (fun vs H Q E h => ?_) (fun cdv A outer s H vs Q E hr h => ?_)
  · obtain ⟨ds, α, M, hw, hr, hp⟩ := h
    by_cases e : ds.length = ps.length
    · rw [← hr.length]; exact e
    · rw [hl ds M e] at hp; exact hp.elim
  · obtain ⟨ds, α, M, hw, hrp, hp⟩ := h
    obtain ⟨t, h1, h2⟩ := body cdv A outer s H E hr
    refine ⟨t, h1, ?_⟩
    have hlen : ds.length = ps.length := by
      by_cases e : ds.length = ps.length
      · exact e
      · rw [hl ds M e] at hp; exact hp.elim
    have hf := fit ds M hlen hw.cl (by have := RepL.cl _ _ hrp; rw [hw.len] at this; exact this)
    unfold Fits at hf
    split at hf
    · rename_i d M' he
      rw [he] at hp
      obtain ⟨hM, d', M'', hg, hs⟩ := hf
      have hs' : Shuts M' M'' d' d := hs
      refine h2 (rho0 N ds) _ H α M _ (env0 hrp) hw ?_
      have key : ∀ v α' H', Step α H α' H' → Wd K α' M'' H' → Rep K α' H' d' v → Q v H' := fun v α' H' st w' r' => by
        obtain ⟨w2, r2⟩ := shut_ok hs' w' r'
        exact hp v _ H' (st.trim (by rw [hw.len]; exact hM)) w2 r2
      rcases hg with hg | ⟨ρ, hg, hd⟩
      · rw [hg]
        intro b α' H' st w' r'
        cases b with
        | rt v => exact key v α' H' st w' r'
        | _ => exact r'.elim
      · rw [hg]
        intro b α' H' st w' r'
        cases b with
        | nx σ => exact key .non α' H' st w' (by rw [hd]; exact .non)
        | _ => exact r'.elim
    · exact hf.elim
    · rename_i he
      rw [he] at hp
      exact hp.elim

/-! ### what a for walks -/
def pItems (f : FE) : FA := fun ρ M => (f ρ M).bind fun a M1 => match a with
  | .lst ds => .ok ds M1
  | .rol ds => .ok ds M1
  | .tup ds => .ok ds M1
  | .str z => .ok (z.cps.toList.map fun c => .str ⟨#[c]⟩) M1
  | _ => .bad
def iAny (K : PySem.W.Frag) (te : TE) : TI := fun σ H R => te σ H fun x H1 => (∃ a, x = .ref a ∧ (∃ xs, SqL K H1 a xs) ∧ R (Itl K a) H1) ∨ (∃ a, x = .ref a ∧ (∃ xs, SqT K H1 a xs) ∧ R (Itt K a) H1) ∨ ∃ z, x = .str z ∧ R (Its z) H1
theorem pi_any {X : Cx} {tg e : Expr} {te : TE} (he : PE X e te) : PI X tg e (iAny X.K te) := by
  refine ⟨fun pins s σ H R I h => ?_⟩
  refine thn (he.run pins s σ H _ I h) fun v s1 ⟨x, H1, I1, r1, q1⟩ => ?_
  rcases q1 with ⟨a, e, ⟨xs, hq⟩, q⟩ | ⟨a, e, ⟨xs, hq⟩, q⟩ | ⟨y, e, q⟩
  · subst e
    cases r1
    obtain ⟨its, rv, p, hz⟩ := I1.list hq
    refine wpAny_pyIter_list p.isList ?_
    exact pi_one (tk := s1.toks) I1 _ (turn_list a _) ⟨_, Heap.get?_push_size _ rfl, rfl, rfl⟩ q
  · subst e
    cases r1
    obtain ⟨its, rv, p, hz⟩ := I1.tuple hq
    refine wpAny_pyIter_tuple (show s1.heap.IsTuple a its.toArray from p) ?_
    exact pi_one (tk := s1.toks) I1 _ (turn_tuple a _) ⟨_, Heap.get?_push_size _ rfl, rfl, rfl⟩ q
  · subst e
    obtain ⟨t, rfl⟩ := r1
    cases ha : y.cps.all (· < 128)
    · exact wpAny_pyIter_wide ha (pi_one (tk := s1.toks) I1 _ (turn_str _ y t "str_iterator" (.inr rfl)) ⟨_, Heap.get?_push_size _ rfl, rfl, rfl⟩ q)
    · exact wpAny_pyIter_ascii ha (pi_one (tk := s1.toks) I1 _ (turn_str _ y t "str_ascii_iterator" (.inl rfl)) ⟨_, Heap.get?_push_size _ rfl, rfl, rfl⟩ q)
theorem itl_ok {p : Addr} {xs : List V} {ds : List D} (hs : ∀ α' H', Step α H α' H' → SqL K H' p xs) (r : RepL K α H ds xs) : ItR K α H ds (Itl K p) := fun α' H' st i => by
  have r' := RepL.step st _ _ r
  refine ⟨fun d hd => ?_, fun hl => ⟨xs, hs α' H' st, by rw [← r.length]; exact hl⟩⟩
  obtain ⟨v, hv, rv⟩ := r'.get hd
  refine ⟨⟨xs, v, hs α' H' st, hv⟩, fun x H'' y => ?_⟩
  obtain ⟨rfl, y⟩ := y
  have := y xs (hs α' _ st)
  rw [hv] at this
  cases this
  exact ⟨fun _ _ h => h, rv⟩
theorem itt_ok {p : Addr} {xs : List V} {ds : List D} (hs : ∀ α' H', Step α H α' H' → SqT K H' p xs) (r : RepL K α H ds xs) : ItR K α H ds (Itt K p) := fun α' H' st i => by
  have r' := RepL.step st _ _ r
  refine ⟨fun d hd => ?_, fun hl => ⟨xs, hs α' H' st, by rw [← r.length]; exact hl⟩⟩
  obtain ⟨v, hv, rv⟩ := r'.get hd
  refine ⟨⟨xs, v, hs α' H' st, hv⟩, fun x H'' y => ?_⟩
  obtain ⟨rfl, y⟩ := y
  have := y xs (hs α' _ st)
  rw [hv] at this
  cases this
  exact ⟨fun _ _ h => h, rv⟩
theorem its_ok {z : Str} : ItR K α H (z.cps.toList.map fun c => .str ⟨#[c]⟩) (Its z) := fun α' H' st i => by
  refine ⟨fun d hd => ?_, fun hl => by show z.cps.size ≤ i; simpa using hl⟩
  rw [List.getElem?_map] at hd
  cases e : z.cps.toList[i]? with
  | none => rw [e] at hd; cases hd
  | some c =>
    rw [e] at hd
    cases hd
    have hi : i < z.cps.size := by simpa using (List.getElem?_eq_some_iff.mp e).1
    refine ⟨hi, fun x H'' y => ?_⟩
    obtain ⟨rfl, c', h1, rfl⟩ := y
    have : z.cps[i]? = some c := by rw [← e]; simp
    rw [this] at h1
    cases h1
    exact ⟨fun _ _ h => h, .str _⟩
theorem r_items {te : TE} {fe : FE} (ha : RE K E te fe) : RI K E (iAny K te) (pItems fe) := fun ρ σ H α M Q e w h =>
  ha ρ σ H α M _ e w (bnd h fun a M1 x α1 H1 _ s1 w1 r1 q => by
    cases a with
    | lst ds =>
      cases r1 with
      | lst t r => exact .inl ⟨_, rfl, ⟨_, t.sq⟩, q.now w1 (itl_ok (fun α' H' st => (t.step st).sq) r)⟩
    | rol ds =>
      cases r1 with
      | rol t r => exact .inl ⟨_, rfl, ⟨_, t.sq⟩, q.now w1 (itl_ok (fun α' H' st => (t.step st).sq) r)⟩
    | tup ds =>
      cases r1 with
      | tup t r => exact .inr (.inl ⟨_, rfl, ⟨_, t.sq⟩, q.now w1 (itt_ok (fun α' H' st => (t.step st).sq) r)⟩)
    | str z =>
      cases r1
      exact .inr (.inr ⟨z, rfl, q.now w1 its_ok⟩)
    | _ => exact q.elim)
def rngD (lo : Int) (n : Nat) : List D := (List.range n).map fun (k : Nat) => .int (lo + (k : Int))
def rngOk (j : Int) : Bool := decide (-4611686018427387904 ≤ j) && decide (j < 4611686018427387904)
theorem rngOk_of {j : Int} (h : rngOk j = true) : -4611686018427387904 ≤ j ∧ j < 4611686018427387904 := by
  unfold rngOk at h
  rw [Bool.and_eq_true, decide_eq_true_eq, decide_eq_true_eq] at h
  exact h
def pRng1 (f : FA) : FA := fun ρ M => (f ρ M).bind fun as M1 => match as with
  | [.int j] => if rngOk j = true then .ok (rngD 0 j.toNat) M1 else .bad
  | _ => .bad
def pRng2 (f : FA) : FA := fun ρ M => (f ρ M).bind fun as M1 => match as with
  | [.int i, .int j] => if (rngOk i && rngOk j) = true then .ok (rngD i (j - i).toNat) M1 else .bad
  | _ => .bad
theorem itr_ok {lo : Int} {n : Nat} : ItR K α H (rngD lo n) (Itr lo n) := fun α' H' st i => by
  unfold rngD
  refine ⟨fun d hd => ?_, fun hl => by show n ≤ i; simpa using hl⟩
  rw [List.getElem?_map] at hd
  by_cases hi : i < n
  · rw [List.getElem?_range hi] at hd
    cases hd
    refine ⟨hi, fun x H'' y => ?_⟩
    obtain ⟨rfl, rfl⟩ := y
    exact ⟨fun _ _ h => h, .int _⟩
  · rw [List.getElem?_eq_none (by simpa using hi)] at hd
    cases hd
theorem r_rng1 {ta : TA} {fa : FA} (ha : RA K E ta fa) : RI K E (iRng1 ta) (pRng1 fa) := fun ρ σ H α M Q e w h =>
  ha ρ σ H α M _ e w (bnd h fun as M1 xs α1 H1 _ s1 w1 r1 q => by
    split at q
    · obtain ⟨x, rfl, r⟩ := rep1 r1
      cases r
      obtain ⟨hj, q⟩ := ifb q
      obtain ⟨h1, h2⟩ := rngOk_of hj
      exact ⟨_, rfl, h1, h2, q.now w1 itr_ok⟩
    · exact q.elim)
theorem r_rng2 {ta : TA} {fa : FA} (ha : RA K E ta fa) : RI K E (iRng2 ta) (pRng2 fa) := fun ρ σ H α M Q e w h =>
  ha ρ σ H α M _ e w (bnd h fun as M1 xs α1 H1 _ s1 w1 r1 q => by
    split at q
    · obtain ⟨x, y, rfl, r, r'⟩ := rep2 r1
      cases r
      cases r'
      obtain ⟨hj, q⟩ := ifb q
      rw [Bool.and_eq_true] at hj
      obtain ⟨h1, h2⟩ := rngOk_of hj.1
      obtain ⟨h3, h4⟩ := rngOk_of hj.2
      exact ⟨_, _, rfl, ⟨h1, h2, h3, h4⟩, q.now w1 itr_ok⟩
    · exact q.elim)
section
variable {X : Cx} {e a b tg : Expr} {fe : FE} {pos p : Pos}
theorem pdi_any (he : PD X E e fe) : PDI X E tg e (pItems fe) := by
  obtain ⟨t, h, r⟩ := he
  exact ⟨_, pi_any h, r_items r⟩
theorem pdi_rng1 {fa : FA} (hg : Gl X "range") (hm : X.mg "range" = none) (ha : PDA X E [a] fa) (hs : starEach [a] X.env = [(false, eval a X.env)] := by rfl) : PDI X E tg (.Call (.Name "range" p) [a] [] pos) (pRng1 fa) := by
  obtain ⟨t, h, r⟩ := ha
  exact ⟨_, pi_range1 hg hm h hs, r_rng1 r⟩
theorem pdi_rng2 {fa : FA} (hg : Gl X "range") (hm : X.mg "range" = none) (ha : PDA X E [a, b] fa) (hs : starEach [a, b] X.env = [(false, eval a X.env), (false, eval b X.env)] := by rfl) (hs2 : starEach [b] X.env = [(false, eval b X.env)] := by rfl) : PDI X E tg (.Call (.Name "range" p) [a, b] [] pos) (pRng2 fa) := by
  obtain ⟨t, h, r⟩ := ha
  exact ⟨_, pi_range2 hg hm h hs hs2, r_rng2 r⟩
end
end
end Pd

set_option Elab.async false
set_option linter.all false
set_option maxRecDepth 100000
set_option maxHeartbeats 1000000
namespace Pd
open PySem L2 PyProof.Rows

/-! ### the widest reading of a function -/
section
variable {K : PySem.W.Frag} {E : XK} {X : Cx}
def canE (K : PySem.W.Frag) (E : XK) (f : FE) : TE := fun σ H Q => ∃ ρ α M, EnvR K α H ρ σ ∧ Wd K α M H ∧ Post (Rep K) K α H Q E (f ρ M)
def canT (K : PySem.W.Frag) (E : XK) (f : FT) : TT := fun σ H Q => ∃ ρ α M, EnvR K α H ρ σ ∧ Wd K α M H ∧ Post (fun _ _ a b => a = b) K α H Q E (f ρ M)
theorem canE_r {f : FE} : RE K E (canE K E f) f := fun ρ σ H α M Q e w h => ⟨ρ, α, M, e, w, h⟩
theorem canT_r {f : FT} : RT K E (canT K E f) f := fun ρ σ H α M Q e w h => ⟨ρ, α, M, e, w, h⟩
theorem PD.can {e : Expr} {f : FE} (h : PD X E e f) : PE X e (canE X.K E f) := by
  obtain ⟨t, h, r⟩ := h
  exact ⟨fun pins s σ H Q I ⟨ρ, α, M, e, w, q⟩ => h.run pins s σ H Q I (r ρ σ H α M Q e w q)⟩
theorem PDT.can {e : Expr} {f : FT} (h : PDT X E e f) : PT X e (canT X.K E f) := by
  obtain ⟨t, h, r⟩ := h
  exact ⟨fun pins s σ H Q I ⟨ρ, α, M, e, w, q⟩ => h.run pins s σ H Q I (r ρ σ H α M Q e w q)⟩

/-! ### list comprehensions -/
def wipeR (ρ : Rho) : List Nat → Rho
  | [] => ρ
  | v :: vs => (wipeR ρ vs).set v none
theorem EnvR.wipe {α : List Addr} {H : Hp} {ρ : Rho} {σ : L2.St} (e : EnvR K α H ρ σ) : ∀ vs, EnvR K α H (wipeR ρ vs) (wipe σ vs)
  | [] => e
  | v :: vs => by
    have ih := EnvR.wipe e vs
    unfold wipeR L2.wipe
    refine ⟨by rw [List.length_set, List.length_set]; exact ih.1, fun j d h => ?_⟩
    by_cases hj : v = j
    · subst hj
      by_cases hl : v < (wipeR ρ vs).length
      · rw [List.getElem?_set_self hl] at h
        cases h
      · rw [List.set_eq_of_length_le (by omega)] at h
        exact absurd (List.getElem?_eq_some_iff.mp h).1 hl
    · rw [List.getElem?_set_ne hj] at h
      obtain ⟨w, h1, h2⟩ := ih.2 j d h
      exact ⟨w, by rw [List.getElem?_set_ne hj]; exact h1, h2⟩
theorem wipe_set {j : Nat} {v : Option V} : ∀ {vs : List Nat} {σ : L2.St}, j ∈ vs → wipe (σ.set j v) vs = wipe σ vs
  | [], _, h => by cases h
  | w :: vs, σ, h => by
    unfold wipe
    by_cases hm : j ∈ vs
    · rw [wipe_set hm]
    · have hw : j = w := by
        rcases List.mem_cons.mp h with e | e
        · exact e
        · exact absurd e hm
      subst hw
      have : ∀ {us : List Nat} {τ : L2.St}, j ∉ us → wipe (τ.set j v) us = (wipe τ us).set j v := by
        intro us
        induction us with
        | nil => intro τ _; rfl
        | cons u us ih =>
          intro τ hn
          unfold wipe
          rw [ih (fun z => hn (List.mem_cons_of_mem _ z)), List.set_comm _ _ (fun z => hn (by rw [z]; exact List.mem_cons_self ..))]
      rw [this hm, List.set_set]
theorem wipe_wipe (σ : L2.St) : ∀ vs us : List Nat, (∀ v ∈ us, v ∈ vs) → wipe (wipe σ us) vs = wipe σ vs
  | vs, [], _ => rfl
  | vs, u :: us, h => by
    show wipe ((wipe σ us).set u none) vs = _
    rw [wipe_set (h u (List.mem_cons_self ..)), wipe_wipe σ vs us fun v hv => h v (List.mem_cons_of_mem _ hv)]
def OnlyIn (vs : List Nat) (g : TG) : Prop := ∀ v σ H Q, g v σ H Q → g v σ H fun σ2 H2 => wipe σ2 vs = wipe σ vs ∧ Q σ2 H2
def gNames : List Nat → TGs
  | [] => gNil
  | j :: js => gCons (gName j) (gNames js)
def fNames : List Nat → FGs
  | [] => fNil
  | j :: js => fCons (fName j) (fNames js)
theorem only_name {vs : List Nat} {j : Nat} (h : j ∈ vs) : OnlyIn vs (gName j) := fun v σ H Q q => ⟨wipe_set h, q⟩
theorem only_names {vs : List Nat} : ∀ {js : List Nat}, (∀ j ∈ js, j ∈ vs) → ∀ xs σ H (Q : L2.St → Hp → Prop), gNames js xs σ H Q → gNames js xs σ H fun σ2 H2 => wipe σ2 vs = wipe σ vs ∧ Q σ2 H2
  | [], _, xs, σ, H, Q, ⟨e, q⟩ => ⟨e, rfl, q⟩
  | j :: js, h, xs, σ, H, Q, ⟨v, r, e, q⟩ => by
    refine ⟨v, r, e, ?_⟩
    have ih := only_names (js := js) (fun k hk => h k (List.mem_cons_of_mem _ hk)) r (σ.set j (some v)) H Q q
    rw [wipe_set (h j (List.mem_cons_self ..))] at ih
    exact ih
theorem only_tup {vs js : List Nat} {n : Nat} (h : ∀ j ∈ js, j ∈ vs) : OnlyIn vs (gTup K n (gNames js)) := fun v σ H Q ⟨a, xs, e, t, l, q⟩ => ⟨a, xs, e, t, l, only_names h xs σ H Q q⟩
theorem g_names : ∀ {js : List Nat}, RGs K E (gNames js) (fNames js)
  | [] => g_nil
  | _ :: _ => g_cons g_name g_names
def lcPut (n : Nat) (y : D) (M : PM) : Out Unit := match M[n]? with
  | some (.lst acc) => if acc.length < line then .ok () (M.set n (.lst (acc ++ [y]))) else .bad
  | _ => .bad
def lcEnd (n : Nat) (M : PM) : Out D := match M[n]? with
  | some (.lst acc) => if M.length = n + 1 ∧ clL n acc = true ∧ (M.take n).all (clMO n) = true then .ok (.lst acc) (M.take n) else .bad
  | _ => .bad
def lcFrom (n : Nat) (g : FG) (t : FT) (f : FE) (ρ0 : Rho) : List D → PM → Out D
  | [], M => lcEnd n M
  | d :: ds, M => (g d ρ0 M).bind fun ρ1 M1 => (t ρ1 M1).bind fun b M2 => if b = true then (f ρ1 M2).bind fun y M3 => (lcPut n y M3).bind fun _ M4 => lcFrom n g t f ρ0 ds M4 else lcFrom n g t f ρ0 ds M2
def pLc (w : FA) (g : FG) (t : FT) (f : FE) (vs : List Nat) : FE := fun ρ M => (w ρ M).bind fun ds M1 => lcFrom M1.length g t f (wipeR ρ vs) ds (M1 ++ [.lst []])
def pYes : FT := fun _ M => .ok true M
/-- the chain, what is wanted still told from an earlier moment -/
theorem bndB {A B A' B' : Type} {R : List Addr → Hp → A → B → Prop} {R' : List Addr → Hp → A' → B' → Prop} {α0 α : List Addr} {H0 H : Hp} {M : PM} {Q : B' → Hp → Prop} {o : Out A} {g : A → PM → Out A'} {C : B → Hp → Prop}
    (hp : Post R' K α0 H0 Q E (o.bind g)) (s0 : Step α0 H0 α H) (w0 : Wd K α M H) (k : ∀ a M' b α' H', o = .ok a M' → Step α H α' H' → Wd K α' M' H' → R α' H' a b → Post R' K α0 H0 Q E (g a M') → C b H') : Post R K α H C E o := by
  cases o with
  | ok a M' => exact fun b α' H' s w r => k a M' b α' H' rfl s w r hp
  | exn c fs M' => exact fun od α' H' s w r => hp od α' H' (s0.tr w0 s) w r
  | bad => exact hp
theorem r_lc {wi : TI} {g : TG} {tt : TT} {te : TE} {vs : List Nat} {fw : FA} {fg : FG} {ft : FT} {fe : FE} (hi : RI K E wi fw) (hg : RG K E g fg) (ho : OnlyIn vs g) (ht : RT K E tt ft) (he : RE K E te fe) : RE K E (tLc wi g tt te vs) (pLc fw fg ft fe vs) := fun ρ σ H α M Q e w h =>
  hi ρ σ H α M _ e w (bnd h fun ds M1 J α1 H1 _ s1 w1 r1 h1 => by
    intro D hD
    obtain ⟨wb, sb⟩ := w1.new (m := .lst []) (o := .lst []) hD fun H' st e => ⟨[], e, .nil⟩
    have e1 := (e.step s1).wipe vs
    have hDn : (α1 ++ [D])[M1.length]? = some D := by rw [← w1.len, List.getElem?_append_right (Nat.le_refl _), Nat.sub_self]; rfl
    refine ⟨fun i m H => m = ds.length - i ∧ ∃ α M, Wd K α M H ∧ Step α1 H1 α H ∧ α[M1.length]? = some D ∧ Post (Rep K) K α1 H1 Q E (lcFrom M1.length fg ft fe (wipeR ρ vs) (ds.drop i) M), ⟨ds.length, by simp, _, _, wb, sb, hDn, h1⟩, ?_⟩
    rintro i m H2 ⟨rfl, α2, M2, w2, s2, hn2, h2⟩
    obtain ⟨go, stop⟩ := r1 α2 H2 s2 i
    by_cases hi : i < ds.length
    · refine .inr ?_
      rw [List.drop_eq_getElem_cons hi] at h2
      obtain ⟨g1, y1⟩ := go ds[i] (List.getElem?_eq_getElem hi)
      refine ⟨g1, fun H => ∃ α M, Wd K α M H ∧ Step α1 H1 α H ∧ α[M1.length]? = some D ∧ Post (Rep K) K α1 H1 Q E (lcFrom M1.length fg ft fe (wipeR ρ vs) (ds.drop (i + 1)) M), fun H' z => ⟨ds.length - (i + 1), by omega, rfl, z⟩, fun x H3 y => ?_⟩
      obtain ⟨x3, r3⟩ := y1 x H3 y
      have s3 : Step α2 H2 α2 H3 := Step.ex x3
      have w3 := w2.ex x3
      have st3 := s2.tr w2 s3
      have go2 := ho x (wipe σ vs) H3 _ (hg (wipeR ρ vs) (wipe σ vs) H3 α2 M2 ds[i] x (fun σ2 H2 => tt σ2 H2 fun b H3 => if b = true then te σ2 H3 fun y H4 => ∃ acc, H4 D = some (.lst acc) ∧ acc.length < sizeLine ∧ (∃ α M, Wd K α M (upd H4 D (.lst (acc ++ [y]))) ∧ Step α1 H1 α (upd H4 D (.lst (acc ++ [y]))) ∧ α[M1.length]? = some D ∧ Post (Rep K) K α1 H1 Q E (lcFrom M1.length fg ft fe (wipeR ρ vs) (ds.drop (i + 1)) M)) else (∃ α M, Wd K α M H3 ∧ Step α1 H1 α H3 ∧ α[M1.length]? = some D ∧ Post (Rep K) K α1 H1 Q E (lcFrom M1.length fg ft fe (wipeR ρ vs) (ds.drop (i + 1)) M))) (e1.step st3) w3 r3 ?_)
      · rw [wipe_wipe σ vs vs fun _ h => h] at go2
        exact go2
      · have pf : ∀ {α α' : List Addr} {H H' : Hp}, α[M1.length]? = some D → Step α H α' H' → α'[M1.length]? = some D := fun {α α' H H'} h s => by
          obtain ⟨β, rfl, _⟩ := s.ext
          rw [List.getElem?_append_left (List.getElem?_eq_some_iff.mp h).1]
          exact h
        refine bndB (h2 : Post (Rep K) K α1 H1 Q E ((fg ds[i] (wipeR ρ vs) M2).bind _)) st3 w3 fun ρ4 M4 σ4 α4 H4 _ s4 w4 r4 h4 => ?_
        have st4 := st3.tr w3 s4
        have hn4 := pf hn2 s4
        refine ht ρ4 σ4 H4 α4 M4 _ r4 w4 (bndB h4 st4 w4 fun b M5 b' α5 H5 _ s5 w5 r5 h5 => ?_)
        subst r5
        have st5 := st4.tr w4 s5
        have hn5 := pf hn4 s5
        cases b with
        | false => rw [if_neg Bool.false_ne_true] at h5 ⊢; exact ⟨α5, M5, w5, st5, hn5, h5⟩
        | true =>
          rw [if_pos rfl] at h5 ⊢
          refine he ρ4 σ4 H5 α5 M5 _ (r4.step s5) w5 (bndB h5 st5 w5 fun y M6 v α6 H6 _ s6 w6 r6 h6 => ?_)
          have st6 := st5.tr w5 s6
          have hn6 := pf hn5 s6
          unfold lcPut at h6
          split at h6
          · rename_i acc hm
            obtain ⟨a', ea, vs', ev, rv⟩ := w6.ob _ _ hm
            rw [hn6] at ea
            cases ea
            split at h6
            · rename_i hl
              have hl' : acc.length < sizeLine := by rw [← line_eq]; exact hl
              obtain ⟨w7, s7⟩ := w6.put (m := .lst (acc ++ [y])) (o := .lst (vs' ++ [v])) hn6 (List.getElem?_eq_some_iff.mp hm).1 fun H' st e => ⟨_, e, RepL.step st _ _ (rv.append (.cons r6 .nil))⟩
              exact ⟨vs', ev, by rw [← rv.length]; exact hl', α6, _, w7, st6.tr w6 s7, hn6, h6⟩
            · exact h6.elim
          · exact h6.elim
    · rw [List.drop_eq_nil_of_le (by omega)] at h2
      refine .inl ⟨stop (by omega), ?_⟩
      have h2' : Post (Rep K) K α1 H1 Q E (lcEnd M1.length M2) := h2
      unfold lcEnd at h2'
      split at h2'
      · rename_i acc hm
        obtain ⟨⟨c1, c2, c3⟩, h3⟩ := ifb h2'
        obtain ⟨a', ea, vs', ev, rv⟩ := w2.ob _ _ hm
        rw [hn2] at ea
        cases ea
        have hlen : (M2.take M1.length).length = M1.length := by rw [List.length_take]; omega
        have eM : M2 = M2.take M1.length ++ M2.drop M1.length := (List.take_append_drop _ _).symm
        have wt : Wd K (α2.take (M2.take M1.length).length) (M2.take M1.length) H2 := by
          refine Wd.trim (junk := M2.drop M1.length) (by rw [← eM]; exact w2) fun m hmm => ?_
          rw [hlen]
          exact List.all_eq_true.mp c3 m hmm
        rw [hlen] at wt
        have stt : Step α1 H1 (α2.take M1.length) H2 := s2.trim (by rw [w1.len]; exact Nat.le_refl _)
        refine h3 _ _ _ stt wt (.lst ⟨ev, fun z => ?_⟩ (RepL.trim _ _ _ c2 rv))
        obtain ⟨j, hj, e4⟩ := List.mem_iff_getElem.mp z
        rw [List.getElem_take] at e4
        rw [List.length_take] at hj
        obtain ⟨hi', e5⟩ := List.getElem?_eq_some_iff.mp hn2
        have := (List.getElem_inj w2.nd).mp (e4.trans e5.symm)
        omega
      · exact h2'.elim)
end
section
variable {X : Cx} {E : XK} {elt iter c : Expr} {ifs : List Expr} {scope : Scope} {own : List (Str × Nat)} {pos px spos py : Pos} {x y : Str} {fw : FA} {ft : FT} {fe : FE} {i j : Nat}
/-- [elt for x in iter if c], a name the target; hx: the name's place -/
theorem pd_lc (hc : X.calm = true) (hN : X.N.Nodup) (hi : PDI X E (.Name x px) iter fw) (ok : BlkOk X.N X.env.scope scope own) (hj : j ∈ own.map (·.2))
    (hg : ∀ (s : Shared) (H : Hp) (C : Addr) (cl : List (Str × Addr)) (fp : List Addr), PG (X.blk s H scope (compEnvC scope cl C X.env) fp) (.Name x px) (gName j))
    (he : ∀ (s : Shared) (H : Hp) (C : Addr) (cl : List (Str × Addr)) (fp : List Addr), PD (X.blk s H scope (compEnvC scope cl C X.env) fp) E elt fe) (hs : ∀ x, foldedSetIterable iter X.env x = pure x := by intro _; rfl) :
    PD X E (.ListComp elt [⟨.Name x px, iter, [], 0⟩] scope pos) (pLc fw (fName j) pYes fe (own.map (·.2))) := by
  obtain ⟨ti, hi, ri⟩ := hi
  exact ⟨_, pe_lc (te := canE X.K E fe) hc hN hi ok hg (fun _ _ _ _ _ => pts_nil) (fun s H C cl fp => (he s H C cl fp).can) hs, r_lc ri g_name (only_name hj) (fun ρ σ H α M Q e w h => h.now w rfl) canE_r⟩
theorem pd_lcIf (hc : X.calm = true) (hN : X.N.Nodup) (hi : PDI X E (.Name x px) iter fw) (ok : BlkOk X.N X.env.scope scope own) (hj : j ∈ own.map (·.2))
    (hg : ∀ (s : Shared) (H : Hp) (C : Addr) (cl : List (Str × Addr)) (fp : List Addr), PG (X.blk s H scope (compEnvC scope cl C X.env) fp) (.Name x px) (gName j))
    (ht : ∀ (s : Shared) (H : Hp) (C : Addr) (cl : List (Str × Addr)) (fp : List Addr), PDT (X.blk s H scope (compEnvC scope cl C X.env) fp) E c ft)
    (he : ∀ (s : Shared) (H : Hp) (C : Addr) (cl : List (Str × Addr)) (fp : List Addr), PD (X.blk s H scope (compEnvC scope cl C X.env) fp) E elt fe) (hs : ∀ x, foldedSetIterable iter X.env x = pure x := by intro _; rfl) :
    PD X E (.ListComp elt [⟨.Name x px, iter, [c], 0⟩] scope pos) (pLc fw (fName j) ft fe (own.map (·.2))) := by
  obtain ⟨ti, hi, ri⟩ := hi
  exact ⟨_, pe_lc (te := canE X.K E fe) hc hN hi ok hg (fun s H C cl fp => pts_one (ht s H C cl fp).can) (fun s H C cl fp => (he s H C cl fp).can) hs, r_lc ri g_name (only_name hj) canT_r canE_r⟩
end

/-! ### methods -/
def pM1 (g : PM → D → D → Out D) (fo fe : FE) : FE := pOp g fo fe
def strL : List D → Option (List Str)
  | [] => some []
  | .str z :: r => (strL r).map (z :: ·)
  | _ => none
def mSplit : PM → D → D → Out D := fun M a b => match a, b with
  | .str x, .str y => if (y.length == 0) = false ∧ x.length + 2 ≤ line then .ok (.lst ((Txt.split x y).map .str)) M else .bad
  | _, _ => .bad
def mJoin : PM → D → D → Out D := fun M a b => match a, seqOf M b with
  | .str x, some ds => match strL ds with
    | some ys => if (ys.map (·.length)).sum + ys.length * x.length ≤ line then .ok (.str (Txt.join x ys)) M else .bad
    | none => .bad
  | _, _ => .bad
def isS : D → Bool
  | .str _ => true
  | _ => false
def gS (g : PM → D → D → Out D) : PM → D → D → Out D := fun M a b => if isS a = true then g M a b else .bad
def MtD (K : PySem.W.Frag) (E : XK) (r : V → List V → Hp → VK → Prop) (g : PM → D → D → Out D) : Prop :=
  ∀ α H M a b x y Q, Wd K α M H → Rep K α H a x → Rep K α H b y → Post (Rep K) K α H Q E (g M a b) → r x [y] H Q
section
variable {K : PySem.W.Frag} {E : XK} {to te : TE} {fo fe : FE}
/-- the receiver is a text -/
def pMS (g : PM → D → D → Out D) (fo fe : FE) : FE := fun ρ M => (fo ρ M).bind fun a M1 => if isS a = true then (fe ρ M1).bind fun b M2 => g M2 a b else .bad
theorem r_m1 {r : V → List V → Hp → VK → Prop} {g : PM → D → D → Out D} (ho : RE K E to fo) (he : RE K E te fe) (hm : MtD K E r g) : RE K E (tM1 r to te) (pMS g fo fe) := fun ρ σ H α M Q e w h =>
  ho ρ σ H α M _ e w (bnd h fun a M1 x α1 H1 _ s1 w1 r1 h1 => by
    obtain ⟨ha, h1⟩ := ifb h1
    cases a with
    | str z =>
      cases r1
      exact ⟨⟨z, rfl⟩, he ρ σ H1 α1 M1 _ (e.step s1) w1 (bnd h1 fun b M2 y α2 H2 _ s2 w2 r2 h2 => hm α2 H2 M2 _ b _ y Q w2 (.str z) r2 h2)⟩
    | _ => exact absurd (show false = true from ha) Bool.false_ne_true)
theorem repL_strs {α : List Addr} {H : Hp} : ∀ ys : List Str, RepL K α H (ys.map .str) (ys.map V.str)
  | [] => .nil
  | y :: ys => .cons (.str y) (repL_strs ys)
theorem strL_rep {α : List Addr} {H : Hp} : ∀ {ds : List D} {xs : List V} {ys : List Str}, RepL K α H ds xs → strL ds = some ys → xs = ys.map V.str
  | [], _, _, .nil, e => by cases e; rfl
  | d :: ds, _, ys, .cons r t, e => by
    cases d with
    | str z =>
      unfold strL at e
      cases q : strL ds with
      | none => rw [q] at e; cases e
      | some zs =>
        rw [q] at e
        cases e
        cases r
        rw [strL_rep t q]
        rfl
    | _ => cases e
theorem md_split : MtD K E (fun x xs H Q => ∃ a b, x = .str a ∧ xs = [.str b] ∧ (b.length == 0) = false ∧ a.length + 2 ≤ sizeLine ∧ rNewStrs (Txt.split a b) H Q) mSplit := fun α H M a b x y Q w ra rb q => by
  unfold mSplit at q
  split at q
  · cases ra
    cases rb
    obtain ⟨⟨h1, h2⟩, q⟩ := ifb q
    rw [line_eq] at h2
    exact ⟨_, _, rfl, rfl, h1, h2, fun p hp => q.nowX w (ex_new hp) (new_lst w hp (repL_strs _))⟩
  · exact q.elim
theorem md_join : MtD K E (fun x xs H Q => ∃ a p, ∃ ys : List Str, x = .str a ∧ xs = [.ref p] ∧ (SqL K H p (ys.map V.str) ∨ SqT K H p (ys.map V.str)) ∧ (ys.map (·.length)).sum + ys.length * a.length ≤ 16777216 ∧ Q (.str (Txt.join a ys)) H) mJoin := fun α H M a b x y Q w ra rb q => by
  unfold mJoin at q
  split at q
  · rename_i z ds hd
    cases ra
    obtain ⟨p, xs, rfl, hs, rs⟩ := seq_ok w rb hd
    split at q
    · rename_i ys hy
      obtain ⟨h1, q⟩ := ifb q
      have ex := strL_rep rs hy
      subst ex
      exact ⟨_, p, ys, rfl, rfl, hs, h1, q.now w (.str _)⟩
    · exact q.elim
  · exact q.elim
/-- xs.append(e), xs a list that changes -/
def isA (M : PM) : D → Bool
  | .adr k => match M[k]? with | some (.lst _) => true | _ => false
  | _ => false
def pApp (fo fe : FE) : FE := fun ρ M => (fo ρ M).bind fun o M1 => if isA M1 o = true then (fe ρ M1).bind fun d M2 => match o with
  | .adr k => match M2[k]? with
    | some (.lst ds) => if ds.length < line then .ok .non (M2.set k (.lst (ds ++ [d]))) else .bad
    | _ => .bad
  | _ => .bad else .bad
theorem r_app (ho : RE K E to fo) (he : RE K E te fe) : RE K E (tBM K "list" rAppend to (tCons te tNil)) (pApp fo fe) := fun ρ σ H α M Q e w h =>
  ho ρ σ H α M _ e w (bnd h fun o M1 x α1 H1 _ s1 w1 r1 h1 => by
    obtain ⟨ha, h1⟩ := ifb h1
    cases o with
    | adr k =>
      cases r1 with
      | @adr _ a ea =>
        have hty : tyV K "list" (.ref a) H1 := by
          have ha' : (match M1[k]? with | some (.lst _) => true | _ => false) = true := ha
          split at ha'
          · rename_i ds hm
            obtain ⟨a', e1, vs, e2, _⟩ := w1.ob _ _ hm
            rw [ea] at e1
            cases e1
            exact .inl ⟨rfl, _, .of e2⟩
          · exact absurd ha' Bool.false_ne_true
        refine ⟨hty, he ρ σ H1 α1 M1 _ (e.step s1) w1 (bnd h1 fun d M2 y α2 H2 _ s2 w2 r2 h2 => ?_)⟩
        have ea2 : α2[k]? = some a := by
          obtain ⟨β, rfl, _⟩ := s2.ext
          rw [List.getElem?_append_left (List.getElem?_eq_some_iff.mp ea).1]
          exact ea
        have h3 : Post (Rep K) K α2 H2 Q E (match M2[k]? with | some (.lst ds) => if ds.length < line then .ok .non (M2.set k (.lst (ds ++ [d]))) else .bad | _ => .bad) := h2
        split at h3
        · rename_i ds hm
          obtain ⟨hl, h4⟩ := ifb h3
          obtain ⟨a', e1, vs, e2, e3⟩ := w2.ob _ _ hm
          rw [ea2] at e1
          cases e1
          obtain ⟨w3, s3⟩ := w2.put (m := .lst (ds ++ [d])) (o := .lst (vs ++ [y])) ea2 (List.getElem?_eq_some_iff.mp hm).1 fun H' st e => ⟨_, e, RepL.step st _ _ (e3.append (.cons r2 .nil))⟩
          exact ⟨_, vs, y, rfl, rfl, e2, by rw [← e3.length, ← line_eq]; exact hl, h4 _ _ _ s3 w3 .non⟩
        · exact h3.elim
    | _ => exact absurd (show false = true from ha) Bool.false_ne_true)
end
section
variable {X : Cx} {E : XK} {o e : Expr} {fo fe : FE} {apos pos cpos : Pos}
theorem pd_split (ho : PD X E o fo) (he : PD X E e fe) (hs : starEach [e] X.env = [(false, eval e X.env)] := by rfl) (hbase : attributeBase o "split" X.env (eval o X.env) = eval o X.env := by rfl) (hline : (apos.endLine == pos.line) = true := by rfl) :
    PD X E (.Call (.Attribute o "split" apos) [e] [] pos) (pMS mSplit fo fe) := by
  obtain ⟨t, ho, r⟩ := ho
  obtain ⟨u, he, q⟩ := he
  exact ⟨_, pe_split ho he hs hbase hline, r_m1 r q md_split⟩
theorem pd_join (ho : PD X E o fo) (he : PD X E e fe) (hs : starEach [e] X.env = [(false, eval e X.env)] := by rfl) (hbase : attributeBase o "join" X.env (eval o X.env) = eval o X.env := by rfl) (hline : (apos.endLine == pos.line) = true := by rfl) :
    PD X E (.Call (.Attribute o "join" apos) [e] [] pos) (pMS mJoin fo fe) := by
  obtain ⟨t, ho, r⟩ := ho
  obtain ⟨u, he, q⟩ := he
  exact ⟨_, pe_join ho he hs hbase hline, r_m1 r q md_join⟩
theorem pd_append (ho : PD X E o fo) (he : PD X E e fe) (hbase : attributeBase o "append" X.env (eval o X.env) = eval o X.env := by rfl)
    (hfew : ((backTo cpos (starEach [e] X.env)).all (fun x => !x.1) && (backToKw cpos (keywordEach [] X.env)).all (fun x => x.1.isSome)
      && decide (([e] : List Expr).length + ([] : List Keyword).length + (if ([] : List Keyword).isEmpty then 0 else 1) < 30)) = true := by rfl)
    (hline : (apos.endLine == cpos.line) = true := by rfl) (hs : starEach [e] X.env = (false, eval e X.env) :: starEach [] X.env := by rfl) (hplain : (backTo cpos (starEach [] X.env)).any (·.1) = false := by rfl) :
    PD X E (.Call (.Attribute o "append" apos) [e] [] cpos) (pApp fo fe) := by
  obtain ⟨t, ho, r⟩ := ho
  obtain ⟨u, he, q⟩ := he
  exact ⟨_, pe_bm PySem.F.plainAttrs_list PySem.F.slot_list_append PySem.F.type_list_append mt_append ho (pa_cons he pa_nil hs) hbase hfew hline hs hplain, r_app r q⟩
end

/-! ### a += at a name; the law's end -/
section
variable {X : Cx} {E : XK} {x : Str} {e : Expr} {fe : FE} {pos pos' : Pos}
theorem r_aug {K : PySem.W.Frag} {i : Nat} {te : TE} {ti : TIp} {g : PM → D → D → Out D} (he : RE K E te fe) (hg : ∀ α H M a b x y Q, Wd K α M H → Rep K α H a x → Rep K α H b y → Post (Rep K) K α H Q E (g M a b) → ti x y H Q) : RS K E (tAug i te ti) (sAug i fe g) := fun ρ σ H α M D e w h => by
  unfold sAug at h
  split at h
  · rename_i a ha
    obtain ⟨x, h1, h2⟩ := e.2 i a ha
    refine ⟨x, h1, he ρ σ H α M _ e w (bnd h fun b M1 y α1 H1 _ s1 w1 r1 q => ?_)⟩
    exact hg α1 H1 M1 a b x y _ w1 (Rep.step s1 _ _ h2) r1 (bnd q fun z M2 v α2 H2 _ s2 w2 r2 q2 => q2.now (b := FlV.nx (σ.set i (some v))) w2 (((e.step s1).step s2).set r2))
  · exact h.elim
theorem pds_aug (i : Nat) {op : Operator} {f : Int → Int → Int} (ho : PIp X op (ipI f)) (he : PD X E e fe) (hN : X.N.Nodup) (hi : X.N[i]? = some x := by rfl) (hx : Loc X.env.scope x := by first | exact Or.inl rfl | exact Or.inr rfl)
    (hf : X.fn x = true ∨ X.env.scope.names.lookup x = some .local := by first | exact .inl rfl | exact .inr rfl | assumption) : PDS X E (.AugAssign (.Name x pos') op e pos) (sAug i fe (gII cTrue fun a b => .int (f a b))) := by
  obtain ⟨t, he, r⟩ := he
  refine ⟨_, ps_aug hN hi hx he ho hf, r_aug r fun α H M a b x y Q w ra rb q => ?_⟩
  unfold gII at q
  split at q
  · cases ra
    cases rb
    obtain ⟨_, q⟩ := ifb q
    exact ⟨_, _, rfl, rfl, q.now w (.int _)⟩
  · exact q.elim
end
theorem repL_ints {K : PySem.W.Frag} {α : List Addr} {H : Hp} : ∀ ns : List Int, RepL K α H (ns.map .int) (ns.map V.int)
  | [] => .nil
  | y :: ys => .cons (.int y) (repL_ints ys)
theorem law_sp {K : PySem.W.Frag} {Φ : List D → PM → Out D} {H : Hp} {a : Addr} {ns : List Int} (hS : SqL K H a (ns.map V.int)) (hΦ : ∃ M, Φ [.rol (ns.map .int)] [] = .ok (.bl true) M) : spP K Φ [.ref a] H (fun v _ => v = .bl true) fun _ _ _ => False := by
  obtain ⟨M, hM⟩ := hΦ
  refine ⟨_, [], [], ⟨List.nodup_nil, rfl, fun i m e => by simp at e⟩, .cons (.rol (ds := ns.map .int) ?_ (repL_ints ns)) .nil, ?_⟩
  · rcases hS with h | h
    · exact .inl ⟨h, by simp⟩
    · exact .inr (.inr h)
  · rw [hM]
    intro v α' H' _ _ r
    cases r
    rfl
theorem walk {l : PySem.W.OpenLaw} {k : Nat} {q : Program} {loose : List Str} {XP : (Str → Option Value) → Heap → Prop} {YP : World → Heap → Prop} {d : DefRec} {K : Params → PySem.W.Frag} {Φ : List D → PM → Out D} (hn : l.most = some 63) (hdf : d.params.defaults = []) (hr : Room k callerA)
    (hY : ∀ (w : World) (h : Heap), YP w h → (K w.params).In h) (hΦ : ∀ ns : List Int, ns.length ≤ 63 → ∃ M, Φ [.rol (ns.map .int)] [] = .ok (.bl true) M)
    (F : ∀ (w : World) (mg : Str → Option Value) (fa : Addr) (h : Heap), (K w.params).In h → h.Ns mainGlobals mg → mg d.name = some (.ref fa) →
      ∃ fd : FuncData, (∀ (s : Shared) (u : Value), BindsTo s fd ⟨[u], []⟩ [("script", u)]) ∧ ∀ base : Heap, (K w.params).In base → base.Ns mainGlobals mg → FnOk l.prog w (K w.params) mg base CX0 k fa fd ["script"] (spP (K w.params) Φ)) :
    PySem.W.WalkO q loose XP YP l.row.toRowW d [] (fun f vs => PySem.call f vs) :=
  L2.walk_of (n := 63) (k := k) (x := "script") (CX := fun _ => CX0) (sp := fun w => spP (K w.params) Φ) hn (by decide) hdf hr hY F (fun _ _ a ns hl _ hS => law_sp hS (hΦ ns hl)) fun _ _ _ _ _ z => z
end Pd
namespace Pd
open PySem L2 PyProof.Rows
/-! ### what the top has left, in short -/
/-- a def of the module as it stands behind the top -/
structure FunM (K : PySem.W.Frag) (mg : Str → Option Value) (x : Str) (st : Stmt) (ps : List Str) : Prop where
  ex : ∃ f fd, Fun K x x st f fd ∧ mg x = some (.ref f) ∧ ∀ us : List Value, us.length = ps.length → bindArgs fd ⟨us, []⟩ = pure (ps.zip us)
/-- .. keeps the promise Φ, by level k -/
structure Callee (P : Program) (w : World) (K : PySem.W.Frag) (mg : Str → Option Value) (base : Heap) (x : Str) (k : Nat) (Φ : List D → PM → Out D) : Prop where
  ex : ∃ f fd ps, FnOk P w K mg base CX0 k f fd ps (spP K Φ) ∧ mg x = some (.ref f) ∧ PySem.W.keepIn K (.ref f) = true ∧ Binds K fd ps []
/-- a constant of the module -/
structure GlobD (K : PySem.W.Frag) (mg : Str → Option Value) (x : Str) (d : D) : Prop where
  ex : ∃ u v, mg x = some u ∧ RelV v u ∧ ∀ α H, Rep K α H d v
section
variable {P : Program} {w : World} {K : PySem.W.Frag} {mg : Str → Option Value} {base : Heap} {x : Str} {st : Stmt} {N ps : List Str} {k : Nat} {Φ : List D → PM → Out D} {g : FS}
theorem Callee.mono {j : Nat} (c : Callee P w K mg base x k Φ) (h : k ≤ j) : Callee P w K mg base x j Φ := by
  obtain ⟨f, fd, ps, h1, h2⟩ := c.ex
  exact ⟨f, fd, ps, h1.mono h, h2⟩
theorem mk_callee (F : FunM K mg x st ps) (S : FnScope N ps (defScope st)) (hl : ∀ ds M, ds.length ≠ ps.length → Φ ds M = .bad)
    (body : ∀ (f : Addr) (cdv : Value) (A : Around) (outer : List PySem.Env) (s : Shared) (H : Hp) (E : XK), Room k (A.deeper (envOfC x (defScope st) s.heap.objs.size f cdv)) → PDB (cxOf CX0 P w K mg base N x (defScope st) f cdv A outer s H E).nox E0 (defBody st) g)
    (fit : ∀ ds M, ds.length = ps.length → (∀ m ∈ M, clMO M.length m = true) → clL M.length ds = true → Fits N g Φ ds M) : Callee P w K mg base x (k + 1) Φ := by
  obtain ⟨f, fd, h1, h2, h3⟩ := F.ex
  exact ⟨f, fd, ps, fn_pd h1 S hl (fun cdv A outer s H E hr => body f cdv A outer s H E hr) fit, h2, h1.kp, Binds.all h3⟩
end
section
variable {X : Cx} {E : XK} {e : Expr} {es : List Expr} {pos p : Pos} {x : Str}
theorem pd_callC {k : Nat} {Φ : List D → PM → Out D} {fargs : FA} (c : Callee X.prog X.w X.K X.mg X.base x k Φ) (hr : Room k X.A) (hg : Gl X x) (ha : PDA X E0 (e :: es) fargs) (hdb : (x == ("__debug__" : Str)) = false := by decide)
    (he : starEach (e :: es) X.env = (false, eval e X.env) :: starEach es X.env := by rfl) (hpl : (backTo pos (starEach es X.env)).any (·.1) = false := by rfl) : PD X E0 (.Call (.Name x p) (e :: es) [] pos) (pCall Φ fargs) := by
  obtain ⟨f, fd, ps, h1, h2, h3, h4⟩ := c.ex
  exact pd_call h1 hr hg h2 h3 h4 pass0 ha hdb he hpl
theorem pd_globC {d : D} (c : GlobD X.K X.mg x d) (hg : Gl X x) (hd : (x == ("__debug__" : Str)) = false := by decide) : PD X E (.Name x pos) (pC d) := by
  obtain ⟨u, v, h1, h2, h3⟩ := c.ex
  exact pd_glob hg h1 h2 h3 hd
end
section
variable {K : PySem.W.Frag} {mg : Str → Option Value} {x : Str}
theorem glob_int {n : Int} {t : Tok} (h : mg x = some (.int n t)) : GlobD K mg x (.int n) := ⟨_, .int n, h, ⟨t, rfl⟩, fun _ _ => .int n⟩
theorem glob_str {z : Str} {t : Tok} (h : mg x = some (.str z t)) : GlobD K mg x (.str z) := ⟨_, .str z, h, ⟨t, rfl⟩, fun _ _ => .str z⟩
theorem glob_bl {z : Bool} (h : mg x = some (.bool z)) : GlobD K mg x (.bl z) := ⟨_, .bl z, h, rfl, fun _ _ => .bl z⟩
theorem strs_vals {K : PySem.W.Frag} : ∀ {zs : List Str} {us : List Value}, Paired (fun (z : Str) u => ∃ t, u = Value.str z t) zs us → Vals (zs.map V.str) us
  | _, _, .nil => .nil
  | _, _, .cons r t => .cons r (strs_vals (K := K) t)
/-- a module's tuple of texts -/
theorem glob_strs {zs : List Str} {a : Addr} {o : Obj} {us : List Value} {n : Nat} (h : mg x = some (.ref a)) (hk : K.lookup a = some o) (hc : o.cls = .type "tuple") (hd : o.data = .seq us.toArray n) (hz : us.length ≤ sizeLine) (hv : Paired (fun (z : Str) u => ∃ t, u = Value.str z t) zs us) :
    GlobD K mg x (.tup (zs.map .str)) := by
  refine ⟨_, .ref a, h, rfl, fun α H => .tup (xs := zs.map V.str) (.inr (.inr ⟨o, us.toArray, n, hk, hc, hd, by simpa using hz, ?_⟩)) (repL_strs zs)⟩
  simpa using strs_vals (K := K) hv
end
/-- y = [..], a comprehension's list, on one line -/
theorem pds_setLc {X : Cx} {E : XK} {elt iter : Expr} {scope : Scope} {own : List (Str × Nat)} {pos px spos py : Pos} {x y : Str} {fw : FA} {fe : FE} {j : Nat} (i : Nat) (hc : X.calm = true) (hN : X.N.Nodup) (hyl : X.env.scope.names.lookup y = some .local)
    (hsw : swapsWith (.ListComp elt [⟨.Name x px, iter, [], 0⟩] scope pos) (some (.Name y py)) spos.line X.env = pure true) (hi : PDI X E (.Name x px) iter fw) (ok : BlkOk X.N X.env.scope scope own) (hj : j ∈ own.map (·.2))
    (hg : ∀ (s : Shared) (H : Hp) (C : Addr) (cl : List (Str × Addr)) (fp : List Addr), PG (X.blk s H scope (compEnvC scope cl C X.env) fp) (.Name x px) (gName j))
    (he : ∀ (s : Shared) (H : Hp) (C : Addr) (cl : List (Str × Addr)) (fp : List Addr), PD (X.blk s H scope (compEnvC scope cl C X.env) fp) E elt fe) (hs : ∀ x, foldedSetIterable iter X.env x = pure x := by intro _; rfl) (hy : X.N[i]? = some y := by rfl) :
    PDS X E (.Assign [.Name y py] (.ListComp elt [⟨.Name x px, iter, [], 0⟩] scope pos) spos) (sAsg (pLc fw (fName j) pYes fe (own.map (·.2))) (fName i)) := by
  obtain ⟨ti, hi, ri⟩ := hi
  exact ⟨_, ps_setLc (te := canE X.K E fe) hc hN hy hyl hsw hi ok hg (fun _ _ _ _ _ => pts_nil) (fun s H C cl fp => (he s H C cl fp).can) hs, s_asg (r_lc ri g_name (only_name hj) (fun ρ σ H α M Q e w h => h.now w rfl) canE_r) g_name⟩
theorem pds_setLcIf {X : Cx} {E : XK} {elt iter c : Expr} {scope : Scope} {own : List (Str × Nat)} {pos px spos py : Pos} {x y : Str} {fw : FA} {fe : FE} {ft : FT} {j : Nat} (i : Nat) (hc : X.calm = true) (hN : X.N.Nodup) (hyl : X.env.scope.names.lookup y = some .local)
    (hsw : swapsWith (.ListComp elt [⟨.Name x px, iter, [c], 0⟩] scope pos) (some (.Name y py)) spos.line X.env = pure true) (hi : PDI X E (.Name x px) iter fw) (ok : BlkOk X.N X.env.scope scope own) (hj : j ∈ own.map (·.2))
    (hg : ∀ (s : Shared) (H : Hp) (C : Addr) (cl : List (Str × Addr)) (fp : List Addr), PG (X.blk s H scope (compEnvC scope cl C X.env) fp) (.Name x px) (gName j))
    (ht : ∀ (s : Shared) (H : Hp) (C : Addr) (cl : List (Str × Addr)) (fp : List Addr), PDT (X.blk s H scope (compEnvC scope cl C X.env) fp) E c ft)
    (he : ∀ (s : Shared) (H : Hp) (C : Addr) (cl : List (Str × Addr)) (fp : List Addr), PD (X.blk s H scope (compEnvC scope cl C X.env) fp) E elt fe) (hs : ∀ x, foldedSetIterable iter X.env x = pure x := by intro _; rfl) (hy : X.N[i]? = some y := by rfl) :
    PDS X E (.Assign [.Name y py] (.ListComp elt [⟨.Name x px, iter, [c], 0⟩] scope pos) spos) (sAsg (pLc fw (fName j) ft fe (own.map (·.2))) (fName i)) := by
  obtain ⟨ti, hi, ri⟩ := hi
  exact ⟨_, ps_setLc (te := canE X.K E fe) hc hN hy hyl hsw hi ok hg (fun s H C cl fp => pts_one (ht s H C cl fp).can) (fun s H C cl fp => (he s H C cl fp).can) hs, s_asg (r_lc ri g_name (only_name hj) canT_r canE_r) g_name⟩
end Pd

set_option Elab.async false
set_option linter.all false
set_option maxRecDepth 100000
set_option maxHeartbeats 1000000
namespace Pd
open PySem L2 PyProof.Rows

/-! ### a def's function is its body's: what comes back, the callee's own objects thrown away -/
def fin (n : Nat) (d : D) (M' : PM) : Out D :=
  if n ≤ M'.length ∧ (M'.take n).all (clMO n) = true then
    (if clD n d = true then .ok d (M'.take n) else match d with
      | .adr i => match M'[i]? with
        | some (.lst es) => if clL n es = true then .ok (.lst es) (M'.take n) else .bad
        | _ => .bad
      | _ => .bad)
  else .bad
def run (ar : Nat) (N : List Str) (g : FS) : List D → PM → Out D := fun ds M => if ds.length = ar then (match g (rho0 N ds) M with
  | .ok (.rt d) M' => fin M.length d M'
  | .ok (.nx _) M' => fin M.length .non M'
  | _ => .bad) else .bad
theorem fin_ok {n : Nat} {d r : D} {M' M1 : PM} (h : fin n d M' = .ok r M1) : n ≤ M1.length ∧ Shuts M1 M' d r := by
  unfold fin at h
  split at h
  · rename_i hc
    obtain ⟨h1, h2⟩ := hc
    have hl : (M'.take n).length = n := by rw [List.length_take]; omega
    have hc : ∀ m ∈ M'.take n, clMO (M'.take n).length m = true := fun m hm => by rw [hl]; exact List.all_eq_true.mp h2 m hm
    split at h
    · rename_i hd
      cases h
      exact ⟨by omega, .inr ⟨M'.drop n, (List.take_append_drop _ _).symm, hc, .inl ⟨rfl, by rw [hl]; exact hd⟩⟩⟩
    · rename_i hd
      split at h
      · rename_i i
        split at h
        · rename_i es he
          split at h
          · rename_i hes
            cases h
            refine ⟨by omega, .inr ⟨M'.drop n, (List.take_append_drop _ _).symm, hc, .inr ⟨i, es, rfl, ?_, he, rfl, by rw [hl]; exact hes⟩⟩⟩
            rw [hl]
            simp only [clD, decide_eq_true_eq] at hd
            omega
          · cases h
        · cases h
      · cases h
  · cases h
theorem fin_no {n : Nat} {d : D} {M' M1 : PM} {c : Value} {fs : Option (List (Str × D))} (h : fin n d M' = .exn c fs M1) : False := by
  unfold fin at h
  split at h
  · split at h
    · cases h
    · split at h
      · split at h
        · split at h <;> cases h
        · cases h
      · cases h
  · cases h
theorem fits_run {ar : Nat} {N : List Str} {g : FS} {ds : List D} {M : PM} (hl : ds.length = ar) : Fits N g (run ar N g) ds M := by
  unfold Fits
  cases hr : run ar N g ds M with
  | bad => trivial
  | exn c fs M1 =>
    unfold run at hr
    rw [if_pos hl] at hr
    split at hr
    · exact fin_no hr
    · exact fin_no hr
    · cases hr
  | ok d M1 =>
    unfold run at hr
    rw [if_pos hl] at hr
    split at hr
    · rename_i d' M' he
      obtain ⟨h1, h2⟩ := fin_ok hr
      exact ⟨h1, d', M', .inl he, h2⟩
    · rename_i ρ M' he
      obtain ⟨h1, h2⟩ := fin_ok hr
      exact ⟨h1, .non, M', .inr ⟨ρ, he, rfl⟩, h2⟩
    · cases hr
theorem run_ar {ar : Nat} {N : List Str} {g : FS} {ds : List D} {M : PM} (h : ds.length ≠ ar) : run ar N g ds M = .bad := by
  unfold run
  rw [if_neg h]
/-- nothing is told of a def -/
def phi0 : List D → PM → Out D := fun _ _ => .bad
section
variable {P : Program} {w : World} {K : PySem.W.Frag} {mg : Str → Option Value} {base : Heap} {x : Str} {st : Stmt} {N ps : List Str} {k : Nat} {Φ : List D → PM → Out D} {g : FS}
theorem callee0 (F : FunM K mg x st ps) : Callee P w K mg base x k phi0 := by
  obtain ⟨f, fd, h1, h2, h3⟩ := F.ex
  exact ⟨f, fd, ps, ⟨fun vs H Q E ⟨_, _, _, _, _, h⟩ => h.elim, fun A outer s H args us vs Q E _ _ _ _ ⟨_, _, _, _, _, h⟩ => h.elim⟩, h2, h1.kp, Binds.all h3⟩
theorem callee_run {ar : Nat} (F : FunM K mg x st ps) (S : FnScope N ps (defScope st)) (ha : ps.length = ar)
    (body : ∀ (f : Addr) (cdv : Value) (A : Around) (outer : List PySem.Env) (s : Shared) (H : Hp) (E : XK), Room k (A.deeper (envOfC x (defScope st) s.heap.objs.size f cdv)) → PDB (cxOf CX0 P w K mg base N x (defScope st) f cdv A outer s H E).nox E0 (defBody st) g) : Callee P w K mg base x (k + 1) (run ar N g) :=
  mk_callee F S (fun ds M h => run_ar (by rw [← ha]; exact h)) body fun ds M h _ _ => fits_run (by rw [← ha]; exact h)
/-- the law's own def -/
theorem law_run {ar : Nat} {f : Addr} {fd : FuncData} (F : Fun K x x st f fd) (S : FnScope N ps (defScope st)) (ha : ps.length = ar)
    (body : ∀ (f : Addr) (cdv : Value) (A : Around) (outer : List PySem.Env) (s : Shared) (H : Hp) (E : XK), Room k (A.deeper (envOfC x (defScope st) s.heap.objs.size f cdv)) → PDB (cxOf CX0 P w K mg base N x (defScope st) f cdv A outer s H E).nox E0 (defBody st) g) : FnOk P w K mg base CX0 (k + 1) f fd ps (spP K (run ar N g)) :=
  fn_pd F S (fun ds M h => run_ar (by rw [← ha]; exact h)) (fun cdv A outer s H E hr => body f cdv A outer s H E hr) fun ds M h _ _ => fits_run (by rw [← ha]; exact h)
/-- a def, by what the kernel finds behind the top -/
theorem funM_of {h : Heap} (X : K.In h) (G : h.Ns mainGlobals mg) {f : Addr} {oc kV doc pm cdv ct : Value} {od an : Option Addr} {osl : Array (Option Value)} (a : PySem.W.nsIn K mainGlobals x = some (some (.ref f)))
    (l : K.lookup f = some ⟨oc, od, .func (PySem.W.fnOf x x (defArgs st) (defBody st) (defScope st) .none kV doc pm an cdv ct), osl⟩) (c : PySem.W.codeIn K cdv x = true) (kp : PySem.W.keepIn K (.ref f) = true)
    (hb : ∀ us : List Value, us.length = ps.length → bindArgs (PySem.W.fnOf x x (defArgs st) (defBody st) (defScope st) .none kV doc pm an cdv ct) ⟨us, []⟩ = pure (ps.zip us)) : FunM K mg x st ps :=
  ⟨f, _, fun_mk l c kp, PySem.W.mg_of X G a, hb⟩
theorem law_of {F : FunM K mg "law" st ["script"]} {fa : Addr} (ha : mg "law" = some (.ref fa)) (h : ∀ fd, Fun K "law" "law" st fa fd → ∀ base : Heap, K.In base → base.Ns mainGlobals mg → FnOk P w K mg base CX0 k fa fd ["script"] (spP K Φ)) :
    ∃ fd : FuncData, (∀ (s : Shared) (u : Value), BindsTo s fd ⟨[u], []⟩ [("script", u)]) ∧ ∀ base : Heap, K.In base → base.Ns mainGlobals mg → FnOk P w K mg base CX0 k fa fd ["script"] (spP K Φ) := by
  obtain ⟨f, fd, h1, h2, h3⟩ := F.ex
  rw [ha] at h2
  cases h2
  exact ⟨fd, fun s u => .of_eq (h3 [u] rfl), h fd h1⟩
end
end Pd

set_option Elab.async false
set_option linter.all false
set_option maxRecDepth 100000
set_option maxHeartbeats 1000000
namespace Pd
open PySem L2

/-! ### texts by their signs -/
def T (l : List Nat) : Str := ⟨l.toArray⟩
@[simp] theorem T_list (l : List Nat) : (T l).cps.toList = l := rfl
@[simp] theorem T_len (l : List Nat) : (T l).length = l.length := by simp [T, Str.length]
theorem T_eta (z : Str) : T z.cps.toList = z := rfl
theorem T_inj {l m : List Nat} (h : T l = T m) : l = m := by
  have := congrArg (fun z : Str => z.cps.toList) h
  exact this
@[simp] theorem T_eq {l m : List Nat} : (T l = T m) ↔ l = m := ⟨T_inj, fun h => by rw [h]⟩
theorem T_app (l m : List Nat) : T l ++ T m = T (l ++ m) := TL.ext_tl (by rw [TL.tl_append]; rfl)
theorem T_one (c : Nat) : (⟨#[c]⟩ : Str) = T [c] := rfl

/-! ### the functions at plain values -/
section
variable {M : PM}
theorem gII_ok {C : Int → Int → Bool} {h : Int → Int → D} {i j : Int} (hc : C i j = true) : gII C h M (.int i) (.int j) = .ok (h i j) M := by
  show (if C i j = true then Out.ok (h i j) M else Out.bad) = _
  rw [if_pos hc]
theorem gor_ok {g g' : PM → D → D → Out D} {a b d : D} {M' : PM} (h : g M a b = .ok d M') : gor g g' M a b = .ok d M' := by
  unfold gor
  rw [h]
theorem gor_bad {g g' : PM → D → D → Out D} {a b : D} (h : g M a b = .bad) : gor g g' M a b = g' M a b := by
  unfold gor
  rw [h]
@[simp] theorem e_add (i j : Int) : gAdd M (.int i) (.int j) = .ok (.int (i + j)) M := gor_ok (gII_ok rfl)
@[simp] theorem e_sub (i j : Int) : gSub M (.int i) (.int j) = .ok (.int (i - j)) M := gII_ok rfl
@[simp] theorem e_augAdd (i j : Int) : gII cTrue (fun i j => .int (i + j)) M (.int i) (.int j) = .ok (.int (i + j)) M := gII_ok rfl
theorem e_mul {i j : Int} (h : cMul i j = true) : gMul M (.int i) (.int j) = .ok (.int (i * j)) M := gII_ok h
theorem e_fdiv {i j : Int} (h : 0 < j ∧ j < 1073741824) : gFdiv M (.int i) (.int j) = .ok (.int (i / j)) M := gor_ok (gII_ok (by unfold cDiv; simp [h.1, h.2]))
theorem e_mod {i j : Int} (h : 0 < j) : gMod M (.int i) (.int j) = .ok (.int (i % j)) M := gor_ok (gII_ok (by unfold cPos; simp [h]))
@[simp] theorem e_lt (i j : Int) : gLt M (.int i) (.int j) = .ok (.bl (decide (i < j))) M := gII_ok rfl
@[simp] theorem e_le (i j : Int) : gLe M (.int i) (.int j) = .ok (.bl (decide (i ≤ j))) M := gII_ok rfl
@[simp] theorem e_gt (i j : Int) : gGt M (.int i) (.int j) = .ok (.bl (decide (j < i))) M := gII_ok rfl
@[simp] theorem e_ge (i j : Int) : gGe M (.int i) (.int j) = .ok (.bl (decide (j ≤ i))) M := gII_ok rfl
@[simp] theorem e_eqI (i j : Int) : gEq M (.int i) (.int j) = .ok (.bl (decide (i = j))) M := rfl
@[simp] theorem e_eqS (x y : Str) : gEq M (.str x) (.str y) = .ok (.bl (decide (x = y))) M := rfl
@[simp] theorem e_eqB (x y : Bool) : gEq M (.bl x) (.bl y) = .ok (.bl (decide (x = y))) M := rfl
@[simp] theorem e_neI (i j : Int) : gNe M (.int i) (.int j) = .ok (.bl (!decide (i = j))) M := rfl
@[simp] theorem e_neS (x y : Str) : gNe M (.str x) (.str y) = .ok (.bl (!decide (x = y))) M := rfl
theorem e_addS {x y : Str} (h : x.length + y.length ≤ 16777216) : gAdd M (.str x) (.str y) = .ok (.str (x ++ y)) M := by
  unfold gAdd
  rw [gor_bad rfl]
  refine gor_ok ?_
  show (if x.length + y.length ≤ line then Out.ok (D.str (x ++ y)) M else Out.bad) = _
  rw [if_pos h]
theorem e_addT {x y : List D} (h : x.length + y.length ≤ 16777216) : gAdd M (.tup x) (.tup y) = .ok (.tup (x ++ y)) M := by
  unfold gAdd
  rw [gor_bad rfl, gor_bad rfl]
  refine gor_ok ?_
  show (if x.length + y.length ≤ line then Out.ok (D.tup (x ++ y)) M else Out.bad) = _
  rw [if_pos h]
theorem e_addL {a b : D} {x y : List D} (ha : lstOf M a = some x) (hb : lstOf M b = some y) (h : x.length + y.length ≤ 16777216) : gAdd M a b = .ok (.lst (x ++ y)) M := by
  have h1 : gII cTrue (fun i j => .int (i + j)) M a b = .bad := by
    cases a <;> first | rfl | cases ha
  have h2 : gAddS M a b = .bad := by
    cases a <;> first | rfl | cases ha
  have h3 : gAddT M a b = .bad := by
    cases a <;> first | rfl | cases ha
  unfold gAdd
  rw [gor_bad h1, gor_bad h2, gor_bad h3]
  unfold gAddL
  rw [ha, hb]
  show (if x.length + y.length ≤ line then Out.ok (D.lst (x ++ y)) M else Out.bad) = _
  rw [if_pos h]
/-! places -/
theorem ixN_nat {n k : Nat} (h : k < n) : ixN n (k : Int) = some k := by
  unfold ixN
  rw [if_pos (by omega), if_pos (by omega)]
  simp
theorem atI_ok {α : Type} {xs : List α} {k : Nat} (h : k < xs.length) : atI xs (k : Int) = some xs[k] := by
  unfold atI
  rw [ixN_nat h]
  simp [h]
theorem atI_neg1 {α : Type} {xs : List α} {x : α} : atI (xs ++ [x]) (-1) = some x := atI_last xs x
theorem e_ixS {l : List Nat} {k : Nat} (h : k < l.length) (hl : l.length ≤ 16777216) : gIx M (.str (T l)) (.int (k : Int)) = .ok (.str (T [l[k]])) M := by
  show (if (T l).length ≤ line then (match atI (T l).cps.toList (k : Int) with | some c => Out.ok (D.str ⟨#[c]⟩) M | none => .bad) else Out.bad) = _
  rw [T_len, if_pos hl, T_list, atI_ok h]
  rfl
theorem gIx_seq {a d : D} {ds : List D} {i : Int} (ha : seqOf M a = some ds) (hd : atI ds i = some d) : gIx M a (.int i) = .ok d M := by
  have : gIx M a (.int i) = (match seqOf M a with | some ds => (match atI ds i with | some d => Out.ok d M | none => .bad) | none => .bad) := by
    cases a <;> first | rfl | cases ha
  rw [this, ha]
  show (match atI ds i with | some d => Out.ok d M | none => .bad) = _
  rw [hd]
theorem e_inS (c : Nat) (z : Str) : gIn M (.str (T [c])) (.str z) = .ok (.bl (decide (c ∈ z.cps.toList))) M := gor_ok rfl
theorem e_notInS (c : Nat) (z : Str) : gNotIn M (.str (T [c])) (.str z) = .ok (.bl (!decide (c ∈ z.cps.toList))) M := gor_ok rfl
theorem inS_bad {a b : D} (hb : ∀ z, b ≠ .str z) : gInS M a b = .bad := by
  unfold gInS
  split
  · rename_i z
    exact absurd rfl (hb z)
  · rfl
theorem notInS_bad {a b : D} (hb : ∀ z, b ≠ .str z) : gNotInS M a b = .bad := by
  unfold gNotInS
  split
  · rename_i z
    exact absurd rfl (hb z)
  · rfl
theorem e_inL {a b : D} {ds : List D} (hs : seqOf M b = some ds) (ha : flatD a = true) (hd : ds.all flatD = true) : gIn M a b = .ok (.bl (inF a ds)) M := by
  unfold gIn
  rw [gor_bad (inS_bad fun z e => by rw [e] at hs; cases hs)]
  unfold gInL
  rw [hs]
  show (if (flatD a && ds.all flatD) = true then Out.ok (D.bl (inF a ds)) M else .bad) = _
  rw [ha, hd]
  rfl
theorem e_notInL {a b : D} {ds : List D} (hs : seqOf M b = some ds) (ha : flatD a = true) (hd : ds.all flatD = true) : gNotIn M a b = .ok (.bl (!inF a ds)) M := by
  unfold gNotIn
  rw [gor_bad (notInS_bad fun z e => by rw [e] at hs; cases hs)]
  unfold gNotInL
  rw [hs]
  show (if (flatD a && ds.all flatD) = true then Out.ok (D.bl (!inF a ds)) M else .bad) = _
  rw [ha, hd]
  rfl
@[simp] theorem seq_tup (ds : List D) : seqOf M (.tup ds) = some ds := rfl
@[simp] theorem seq_lst (ds : List D) : seqOf M (.lst ds) = some ds := rfl
@[simp] theorem seq_rol (ds : List D) : seqOf M (.rol ds) = some ds := rfl
theorem seq_adr {i : Nat} {ds : List D} (h : M[i]? = some (.lst ds)) : seqOf M (.adr i) = some ds := by
  unfold seqOf
  simp only [h]
theorem lst_adr {i : Nat} {ds : List D} (h : M[i]? = some (.lst ds)) : lstOf M (.adr i) = some ds := by
  unfold lstOf
  simp only [h]
/-! slices of texts -/
def cut (l : List Nat) (a b : Nat) : List Nat := (l.drop (min a l.length)).take (min b l.length - min a l.length)
theorem cutS_nat (l : List Nat) (a b : Nat) : cutS (T l) (some (a : Int)) (some (b : Int)) = T (cut l a b) := by
  unfold cutS cut
  rw [HT.sIx_nat, HT.sIx_nat, T_len, T_list]
  rfl
theorem cutS_from (l : List Nat) (a : Nat) : cutS (T l) (some (a : Int)) none = T (l.drop a) := by
  unfold cutS
  rw [HT.sIx_nat, HT.sIx_none, T_len, T_list]
  by_cases h : a ≤ l.length
  · rw [Nat.min_eq_left h, List.take_of_length_le (by rw [List.length_drop]; exact Nat.le_refl _)]
    rfl
  · rw [Nat.min_eq_right (by omega), List.drop_length, List.drop_eq_nil_of_le (by omega)]
    simp [T]
theorem cutS_to (l : List Nat) (b : Nat) : cutS (T l) none (some (b : Int)) = T (l.take b) := by
  unfold cutS
  rw [HT.sIx_nat, HT.sIx_none, T_len, T_list, List.drop_zero, Nat.sub_zero]
  by_cases h : b ≤ l.length
  · rw [Nat.min_eq_left h]
    rfl
  · rw [Nat.min_eq_right (by omega), List.take_length, List.take_of_length_le (by omega)]
    rfl
theorem e_slS {z : Str} {lo hi : Option Int} (h : z.length ≤ 16777216) : gSl M (.str z) lo hi = .ok (.str (cutS z lo hi)) M := by
  show (if z.length ≤ line then Out.ok (D.str (cutS z lo hi)) M else .bad) = _
  rw [if_pos h]
/-! built-ins -/
theorem e_lenS {l : List Nat} (h : l.length ≤ 16777216) : bLen M [.str (T l)] = .ok (.int (l.length : Int)) M := by
  show (if (T l).length ≤ line then Out.ok (D.int ((T l).length : Nat)) M else .bad) = _
  rw [T_len, if_pos h]
theorem e_len {a : D} {ds : List D} (h : seqOf M a = some ds) : bLen M [a] = .ok (.int (ds.length : Int)) M := by
  have : bLen M [a] = (match seqOf M a with | some ds => Out.ok (D.int ds.length) M | none => .bad) := by
    cases a <;> first | rfl | cases h
  rw [this, h]
@[simp] theorem e_abs (i : Int) : bAbs M [.int i] = .ok (.int (if i < 0 then -i else i)) M := rfl
@[simp] theorem e_intI (i : Int) : bInt M [.int i] = .ok (.int i) M := rfl
@[simp] theorem e_tupT (ds : List D) : bTuple M [.tup ds] = .ok (.tup ds) M := rfl
theorem e_tup {a : D} {ds : List D} (h : seqOf M a = some ds) : bTuple M [a] = .ok (.tup ds) M := by
  cases a with
  | tup es => cases h; rfl
  | lst es => cases h; rfl
  | rol es => cases h; rfl
  | adr i =>
    show (match seqOf M (.adr i) with | some ds => Out.ok (D.tup ds) M | none => .bad) = _
    rw [h]
  | _ => cases h
@[simp] theorem i_tup_bool (ds : List D) : bIsi M [.tup ds, .raw (.ty "bool")] = .ok (.bl false) M := rfl
@[simp] theorem i_tup_int (ds : List D) : bIsi M [.tup ds, .raw (.ty "int")] = .ok (.bl false) M := rfl
@[simp] theorem i_tup_str (ds : List D) : bIsi M [.tup ds, .raw (.ty "str")] = .ok (.bl false) M := rfl
@[simp] theorem i_tup_tuple (ds : List D) : bIsi M [.tup ds, .raw (.ty "tuple")] = .ok (.bl true) M := rfl
@[simp] theorem i_tup_list (ds : List D) : bIsi M [.tup ds, .raw (.ty "list")] = .ok (.bl false) M := rfl
@[simp] theorem i_tup_dict (ds : List D) : bIsi M [.tup ds, .raw (.ty "dict")] = .ok (.bl false) M := rfl
@[simp] theorem is_tup (ds : List D) : gIs' M (.tup ds) .non = .ok (.bl false) M := rfl
@[simp] theorem isNot_tup (ds : List D) : gIsNot' M (.tup ds) .non = .ok (.bl true) M := rfl
@[simp] theorem i_lst_bool (ds : List D) : bIsi M [.lst ds, .raw (.ty "bool")] = .ok (.bl false) M := rfl
@[simp] theorem i_lst_int (ds : List D) : bIsi M [.lst ds, .raw (.ty "int")] = .ok (.bl false) M := rfl
@[simp] theorem i_lst_str (ds : List D) : bIsi M [.lst ds, .raw (.ty "str")] = .ok (.bl false) M := rfl
@[simp] theorem i_lst_tuple (ds : List D) : bIsi M [.lst ds, .raw (.ty "tuple")] = .ok (.bl false) M := rfl
@[simp] theorem i_lst_list (ds : List D) : bIsi M [.lst ds, .raw (.ty "list")] = .ok (.bl true) M := rfl
@[simp] theorem i_lst_dict (ds : List D) : bIsi M [.lst ds, .raw (.ty "dict")] = .ok (.bl false) M := rfl
@[simp] theorem is_lst (ds : List D) : gIs' M (.lst ds) .non = .ok (.bl false) M := rfl
@[simp] theorem isNot_lst (ds : List D) : gIsNot' M (.lst ds) .non = .ok (.bl true) M := rfl
@[simp] theorem i_rol_bool (ds : List D) : bIsi M [.rol ds, .raw (.ty "bool")] = .ok (.bl false) M := rfl
@[simp] theorem i_rol_int (ds : List D) : bIsi M [.rol ds, .raw (.ty "int")] = .ok (.bl false) M := rfl
@[simp] theorem i_rol_str (ds : List D) : bIsi M [.rol ds, .raw (.ty "str")] = .ok (.bl false) M := rfl
@[simp] theorem i_rol_tuple (ds : List D) : bIsi M [.rol ds, .raw (.ty "tuple")] = .ok (.bl false) M := rfl
@[simp] theorem i_rol_list (ds : List D) : bIsi M [.rol ds, .raw (.ty "list")] = .ok (.bl true) M := rfl
@[simp] theorem i_rol_dict (ds : List D) : bIsi M [.rol ds, .raw (.ty "dict")] = .ok (.bl false) M := rfl
@[simp] theorem is_rol (ds : List D) : gIs' M (.rol ds) .non = .ok (.bl false) M := rfl
@[simp] theorem isNot_rol (ds : List D) : gIsNot' M (.rol ds) .non = .ok (.bl true) M := rfl
@[simp] theorem i_bl_bool (x : Bool) : bIsi M [.bl x, .raw (.ty "bool")] = .ok (.bl true) M := rfl
@[simp] theorem i_bl_int (x : Bool) : bIsi M [.bl x, .raw (.ty "int")] = .ok (.bl true) M := rfl
@[simp] theorem i_bl_str (x : Bool) : bIsi M [.bl x, .raw (.ty "str")] = .ok (.bl false) M := rfl
@[simp] theorem i_bl_tuple (x : Bool) : bIsi M [.bl x, .raw (.ty "tuple")] = .ok (.bl false) M := rfl
@[simp] theorem i_bl_list (x : Bool) : bIsi M [.bl x, .raw (.ty "list")] = .ok (.bl false) M := rfl
@[simp] theorem i_bl_dict (x : Bool) : bIsi M [.bl x, .raw (.ty "dict")] = .ok (.bl false) M := rfl
@[simp] theorem is_bl (x : Bool) : gIs' M (.bl x) .non = .ok (.bl false) M := rfl
@[simp] theorem isNot_bl (x : Bool) : gIsNot' M (.bl x) .non = .ok (.bl true) M := rfl
@[simp] theorem i_int_bool (x : Int) : bIsi M [.int x, .raw (.ty "bool")] = .ok (.bl false) M := rfl
@[simp] theorem i_int_int (x : Int) : bIsi M [.int x, .raw (.ty "int")] = .ok (.bl true) M := rfl
@[simp] theorem i_int_str (x : Int) : bIsi M [.int x, .raw (.ty "str")] = .ok (.bl false) M := rfl
@[simp] theorem i_int_tuple (x : Int) : bIsi M [.int x, .raw (.ty "tuple")] = .ok (.bl false) M := rfl
@[simp] theorem i_int_list (x : Int) : bIsi M [.int x, .raw (.ty "list")] = .ok (.bl false) M := rfl
@[simp] theorem i_int_dict (x : Int) : bIsi M [.int x, .raw (.ty "dict")] = .ok (.bl false) M := rfl
@[simp] theorem is_int (x : Int) : gIs' M (.int x) .non = .ok (.bl false) M := rfl
@[simp] theorem isNot_int (x : Int) : gIsNot' M (.int x) .non = .ok (.bl true) M := rfl
@[simp] theorem i_str_bool (x : Str) : bIsi M [.str x, .raw (.ty "bool")] = .ok (.bl false) M := rfl
@[simp] theorem i_str_int (x : Str) : bIsi M [.str x, .raw (.ty "int")] = .ok (.bl false) M := rfl
@[simp] theorem i_str_str (x : Str) : bIsi M [.str x, .raw (.ty "str")] = .ok (.bl true) M := rfl
@[simp] theorem i_str_tuple (x : Str) : bIsi M [.str x, .raw (.ty "tuple")] = .ok (.bl false) M := rfl
@[simp] theorem i_str_list (x : Str) : bIsi M [.str x, .raw (.ty "list")] = .ok (.bl false) M := rfl
@[simp] theorem i_str_dict (x : Str) : bIsi M [.str x, .raw (.ty "dict")] = .ok (.bl false) M := rfl
@[simp] theorem is_str (x : Str) : gIs' M (.str x) .non = .ok (.bl false) M := rfl
@[simp] theorem isNot_str (x : Str) : gIsNot' M (.str x) .non = .ok (.bl true) M := rfl
@[simp] theorem i_non_bool  : bIsi M [.non, .raw (.ty "bool")] = .ok (.bl false) M := rfl
@[simp] theorem i_non_int  : bIsi M [.non, .raw (.ty "int")] = .ok (.bl false) M := rfl
@[simp] theorem i_non_str  : bIsi M [.non, .raw (.ty "str")] = .ok (.bl false) M := rfl
@[simp] theorem i_non_tuple  : bIsi M [.non, .raw (.ty "tuple")] = .ok (.bl false) M := rfl
@[simp] theorem i_non_list  : bIsi M [.non, .raw (.ty "list")] = .ok (.bl false) M := rfl
@[simp] theorem i_non_dict  : bIsi M [.non, .raw (.ty "dict")] = .ok (.bl false) M := rfl
@[simp] theorem is_non : gIs' M .non .non = .ok (.bl true) M := rfl
@[simp] theorem isNot_non : gIsNot' M .non .non = .ok (.bl false) M := rfl
theorem rngOk_nat {n : Nat} (h : n ≤ 1000000000) : rngOk (n : Int) = true := by
  unfold rngOk
  rw [Bool.and_eq_true, decide_eq_true_eq, decide_eq_true_eq]
  constructor <;> omega
theorem pr2 {f : FA} {ρ : Rho} {M M1 : PM} {j : Int} (h : f ρ M = .ok [.int j] M1) (hj : rngOk j = true) : pRng1 f ρ M = .ok (rngD 0 j.toNat) M1 := by
  have e : pRng1 f ρ M = (f ρ M).bind (fun as M1 => match as with | [.int j] => if rngOk j = true then .ok (rngD 0 j.toNat) M1 else .bad | _ => .bad) := rfl
  rw [e, h]
  show (if rngOk j = true then Out.ok (rngD 0 j.toNat) M1 else Out.bad) = _
  exact if_pos hj
theorem e_rng1 {f : FA} {ρ : Rho} {M M1 : PM} {n : Nat} (h : f ρ M = .ok [.int (n : Int)] M1) (hn : n ≤ 1000000000) : pRng1 f ρ M = .ok (rngD 0 n) M1 := by
  have h2 := pr2 h (rngOk_nat hn)
  rw [Int.toNat_natCast] at h2
  exact h2
/-! an object that changes, the last one -/
theorem get_last (M : PM) (m : MO) : (M ++ [m])[M.length]? = some m := by simp
theorem set_last (M : PM) (m m' : MO) : (M ++ [m]).set M.length m' = M ++ [m'] := by
  rw [List.set_append_right _ _ (Nat.le_refl _), Nat.sub_self]
  rfl
mutual
theorem clD_mono {n m : Nat} (h : n ≤ m) : ∀ d : D, clD n d = true → clD m d = true
  | .adr i, c => by simp only [clD, decide_eq_true_eq] at c ⊢; omega
  | .tup ds, c => by simp only [clD] at c ⊢; exact clL_mono h ds c
  | .lst ds, c => by simp only [clD] at c ⊢; exact clL_mono h ds c
  | .rol ds, c => by simp only [clD] at c ⊢; exact clL_mono h ds c
  | .xcp _ _ _ ds, c => by simp only [clD] at c ⊢; exact clL_mono h ds c
  | .non, _ => by simp only [clD]
  | .bl _, _ => by simp only [clD]
  | .int _, _ => by simp only [clD]
  | .str _, _ => by simp only [clD]
  | .raw _, _ => by simp only [clD]
theorem clL_mono {n m : Nat} (h : n ≤ m) : ∀ ds : List D, clL n ds = true → clL m ds = true
  | [], _ => by simp only [clL]
  | d :: ds, c => by
    simp only [clL, Bool.and_eq_true] at c ⊢
    exact ⟨clD_mono h d c.1, clL_mono h ds c.2⟩
end
theorem clMO_mono {n m : Nat} (h : n ≤ m) (o : MO) (c : clMO n o = true) : clMO m o = true := by
  cases o with
  | lst ds => exact clL_mono h ds c
  | ins C fs => exact clL_mono h _ c
  | dct kvs => exact clL_mono h _ c
/-! a def's end -/
def WfM (M : PM) : Prop := M.all (clMO M.length) = true
theorem WfM.snoc {M : PM} (w : WfM M) {m : MO} (h : clMO (M.length + 1) m = true) : WfM (M ++ [m]) := by
  unfold WfM at w ⊢
  rw [List.all_append, List.length_append]
  simp only [List.length_cons, List.length_nil, List.all_cons, List.all_nil, Bool.and_true, Bool.and_eq_true]
  refine ⟨List.all_eq_true.mpr fun x hx => clMO_mono (by omega) x (List.all_eq_true.mp w x hx), ?_⟩
  simpa using h
theorem WfM.set {M : PM} (w : WfM M) {i : Nat} {m : MO} (h : clMO M.length m = true) : WfM (M.set i m) := by
  unfold WfM at w ⊢
  rw [List.length_set]
  refine List.all_eq_true.mpr fun x hx => ?_
  rcases List.mem_or_eq_of_mem_set hx with e | e
  · exact List.all_eq_true.mp w x e
  · rw [e]; exact h
theorem fin_ok' {n : Nat} {d : D} {M1 J : PM} (hl : M1.length = n) (hM : M1.all (clMO n) = true) (hd : clD n d = true) : fin n d (M1 ++ J) = .ok d M1 := by
  unfold fin
  have e : (M1 ++ J).take n = M1 := by rw [← hl]; simp
  rw [e, if_pos ⟨by rw [List.length_append]; omega, hM⟩, if_pos hd]
theorem run_rt {ar : Nat} {N : List Str} {g : FS} {ds : List D} {M M1 J : PM} {d : D} (ha : ds.length = ar) (hg : g (rho0 N ds) M = .ok (.rt d) (M1 ++ J)) (hl : M1.length = M.length) (hM : M1.all (clMO M.length) = true) (hd : clD M.length d = true) : run ar N g ds M = .ok d M1 := by
  unfold run
  rw [if_pos ha, hg]
  exact fin_ok' hl hM hd
/-- .. that left all objects as they were -/
theorem run_pure {ar : Nat} {N : List Str} {g : FS} {ds : List D} {M J : PM} {d : D} (ha : ds.length = ar) (w : WfM M) (hg : g (rho0 N ds) M = .ok (.rt d) (M ++ J)) (hd : clD M.length d = true) : run ar N g ds M = .ok d M := run_rt ha hg rfl w hd
theorem run_pure0 {ar : Nat} {N : List Str} {g : FS} {ds : List D} {M : PM} {d : D} (ha : ds.length = ar) (w : WfM M) (hg : g (rho0 N ds) M = .ok (.rt d) M) (hd : clD M.length d = true) : run ar N g ds M = .ok d M := run_rt (J := []) ha (by rw [hg, List.append_nil]) rfl w hd
end
end Pd

set_option Elab.async false
set_option linter.all false
set_option maxRecDepth 100000
set_option maxHeartbeats 2000000
namespace Pd
open PySem L2

/-! ### reading on, step by step -/
section
variable {ρ ρ' ρ2 : Rho} {M M1 M2 M3 : PM} {a b d x : D}
theorem v_op {g : PM → D → D → Out D} {f h : FE} (h1 : f ρ M = .ok a M1) (h2 : h ρ M1 = .ok b M2) (h3 : g M2 a b = .ok d M3) : pOp g f h ρ M = .ok d M3 := by
  unfold pOp
  rw [h1, Out.bind_ok, h2, Out.bind_ok, h3]
theorem v_var {i : Nat} (h : ρ[i]? = some (some d)) : pVar i ρ M = .ok d M := by
  unfold pVar
  rw [h]
theorem v_a1 {f : FE} (h1 : f ρ M = .ok a M1) : aCons f aNil ρ M = .ok [a] M1 := by
  unfold aCons
  rw [h1]
  rfl
theorem v_ac {f : FE} {fs : FA} {ds : List D} (h1 : f ρ M = .ok a M1) (h2 : fs ρ M1 = .ok ds M2) : aCons f fs ρ M = .ok (a :: ds) M2 := by
  unfold aCons
  rw [h1, Out.bind_ok, h2, Out.bind_ok]
theorem v_cb {g : PM → List D → Out D} {f : FA} {ds : List D} (h1 : f ρ M = .ok ds M1) (h2 : g M1 ds = .ok d M2) : pCB g f ρ M = .ok d M2 := by
  unfold pCB
  rw [h1, Out.bind_ok, h2]
theorem v_call {Φ : List D → PM → Out D} {f : FA} {ds : List D} (h1 : f ρ M = .ok ds M1) (h2 : Φ ds M1 = .ok d M2) : pCall Φ f ρ M = .ok d M2 := by
  unfold pCall
  rw [h1, Out.bind_ok, h2]
theorem v_test {f : FE} {k : Bool} (h1 : f ρ M = .ok (.bl k) M1) : pTest f ρ M = .ok k M1 := by
  unfold pTest
  rw [h1]
  rfl
theorem v_and_f {f g : FT} (h1 : f ρ M = .ok false M1) : pAnd f g ρ M = .ok false M1 := by
  unfold pAnd
  rw [h1]
  rfl
theorem v_and_t {f g : FT} {k : Bool} (h1 : f ρ M = .ok true M1) (h2 : g ρ M1 = .ok k M2) : pAnd f g ρ M = .ok k M2 := by
  unfold pAnd
  rw [h1, Out.bind_ok, if_pos rfl, h2]
theorem v_not {f : FT} {k : Bool} (h1 : f ρ M = .ok k M1) : pNot f ρ M = .ok (!k) M1 := by
  unfold pNot
  rw [h1]
  rfl
theorem v_sq {f g : FS} (h : f ρ M = .ok (.nx ρ') M1) : sSeq f g ρ M = g ρ' M1 := by
  unfold sSeq
  rw [h]
  rfl
theorem v_sqr {f g : FS} (h : f ρ M = .ok (.rt d) M1) : sSeq f g ρ M = .ok (.rt d) M1 := by
  unfold sSeq
  rw [h]
  rfl
theorem v_ag {f : FE} {j : Nat} (h : f ρ M = .ok d M1) : sAsg f (fName j) ρ M = .ok (.nx (ρ.set j (some d))) M1 := by
  unfold sAsg
  rw [h]
  rfl
theorem v_ret {f : FE} (h : f ρ M = .ok d M1) : sRet f ρ M = .ok (.rt d) M1 := by
  unfold sRet
  rw [h]
  rfl
theorem v_if_t {c : FT} {f g : FS} (h : c ρ M = .ok true M1) : sIf c f g ρ M = f ρ M1 := by
  unfold sIf
  rw [h]
  rfl
theorem v_if_f {c : FT} {f g : FS} (h : c ρ M = .ok false M1) : sIf c f g ρ M = g ρ M1 := by
  unfold sIf
  rw [h]
  rfl
theorem v_lst {f : FA} {ds : List D} (h : f ρ M = .ok ds M1) (hl : ds.length ≤ 16777216) : pLst f ρ M = .ok (.lst ds) M1 := by
  unfold pLst
  rw [h, Out.bind_ok]
  exact if_pos hl
theorem v_for {w : FA} {g : FG} {b : FS} {ds : List D} (h : w ρ M = .ok ds M1) : sFor w g b ρ M = sEach g b ds ρ M1 := by
  unfold sFor
  rw [h]
  rfl
end
/-! ### the numbers that a law draws: its own little machine -/
def gNext2 : FS :=
    sSeq (sAsg (pOp gAdd (pOp gIx (pVar 0) (pC (.int 0))) (pC (.int 1))) (fSub (pVar 0) (pC (.int 0))))
    (sSeq (sIf (pTest (pOp gGe (pVar 3) (pOp gPow (pC (.int 10)) (pC (.int 18))))) (sSeq (sAsg (pOp gFdiv (pVar 3) (pVar 2)) (fSub (pVar 0) (pC (.int 1))))
      (sRet (pOp gMod (pCB bInt (aCons (pVar 3) (aNil))) (pVar 2)))) (sNext))
    (sSeq (sAsg (pOp gMod (pCB bInt (aCons (pOp gAdd (pOp gAdd (pOp gMul (pOp gIx (pVar 0) (pC (.int 2))) (pC (.int 48271))) (pOp gMul (pVar 3) (pC (.int 69621)))) (pC (.int 12345))) (aNil))) (pC (.int 2147483647))) (fSub (pVar 0) (pC (.int 2))))
    (sRet (pOp gMod (pCB bInt (aCons (pOp gAdd (pOp gFdiv (pOp gIx (pVar 0) (pC (.int 2))) (pC (.int 7))) (pOp gFdiv (pOp gMul (pOp gIx (pVar 0) (pC (.int 2))) (pOp gIx (pVar 0) (pC (.int 2)))) (pC (.int 65537)))) (aNil))) (pVar 2)))))
def gNext : FS :=
    sSeq (sIf (pTest (pOp gGt (pOp gIx (pVar 0) (pC (.int 1))) (pC (.int 0)))) (sSeq (sAsg (pOp gMod (pCB bInt (aCons (pOp gIx (pVar 0) (pC (.int 1))) (aNil))) (pVar 2)) (fName 4))
      (sSeq (sAsg (pOp gFdiv (pCB bInt (aCons (pOp gIx (pVar 0) (pC (.int 1))) (aNil))) (pVar 2)) (fSub (pVar 0) (pC (.int 1))))
      (sRet (pVar 4)))) (sNext))
    (sSeq (sAsg (pC (.int 0)) (fName 3))
    (sSeq (sIf (pTest (pOp gLt (pOp gIx (pVar 0) (pC (.int 0))) (pCB bLen (aCons (pVar 1) (aNil))))) (sAsg (pCB bAbs (aCons (pCB bInt (aCons (pOp gIx (pVar 1) (pOp gIx (pVar 0) (pC (.int 0)))) (aNil))) (aNil))) (fName 3)) (sNext))
    gNext2))
/-- what its list holds -/
def Rst (m : MO) : Prop := ∃ a b c e : Int, m = .lst [.int a, .int b, .int c, .int e] ∧ 0 ≤ a ∧ 0 ≤ c ∧ c < 2147483647
theorem Rst.cl {m : MO} (h : Rst m) (n : Nat) : clMO n m = true := by
  obtain ⟨a, b, c, e, rfl, _⟩ := h
  rfl
theorem Rst.start : Rst (.lst [.int 0, .int 0, .int 1, .int 0]) := ⟨0, 0, 1, 0, rfl, by omega, by omega, by omega⟩
section
variable {M : PM} {i : Nat}
theorem set_get (hi : i < M.length) (m : MO) : (M.set i m)[i]? = some m := by simp [hi]
theorem put_at {ds : List D} (hi : i < M.length) {n : Nat} (hn : n < ds.length) (v : D) : putL (M.set i (.lst ds)) (.adr i) (.int (n : Int)) v = .ok () (M.set i (.lst (ds.set n v))) := by
  unfold putL
  simp only [set_get hi, ixN_nat hn, List.set_set]
theorem st_ix {ds : List D} (hi : i < M.length) {n : Nat} (hn : n < ds.length) : gIx (M.set i (.lst ds)) (.adr i) (.int (n : Int)) = .ok ds[n] (M.set i (.lst ds)) :=
  gIx_seq (seq_adr (set_get hi _)) (atI_ok hn)
theorem p18 : gPow M (.int 10) (.int 18) = .ok (.int 1000000000000000000) M := gII_ok (C := cPow) (h := fun i j => .int (i ^ j.toNat)) (i := 10) (j := 18) (by decide)
theorem mulR {x k : Int} (h1 : -18446744073709551616 < k) (h2 : k < 18446744073709551616) : gMul M (.int x) (.int k) = .ok (.int (x * k)) M := e_mul (by
  unfold cMul
  rw [decide_eq_true h1, decide_eq_true h2]
  exact Bool.or_true _)
theorem next1 {ns : List Int} {many a b c e : Int} (hi : i < M.length) (hm : 0 < many ∧ many < 1073741824) (hb : 0 < b) :
    gNext [some (.adr i), some (.rol (ns.map .int)), some (.int many), none, none] (M.set i (.lst [.int a, .int b, .int c, .int e])) = .ok (.rt (.int (b % many))) (M.set i (.lst [.int a, .int (b / many), .int c, .int e])) := by
  have h1 : gIx (M.set i (.lst [.int a, .int b, .int c, .int e])) (.adr i) (.int 1) = .ok (.int b) _ := st_ix (n := 1) hi (by simp)
  have h2 := e_mod (M := M.set i (.lst [.int a, .int b, .int c, .int e])) (i := b) hm.1
  have h3 := e_fdiv (M := M.set i (.lst [.int a, .int b, .int c, .int e])) (i := b) hm
  have h4 : putL (M.set i (.lst [.int a, .int b, .int c, .int e])) (.adr i) (.int 1) (.int (b / many)) = .ok () (M.set i (.lst [.int a, .int (b / many), .int c, .int e])) := put_at (n := 1) hi (by simp) _
  unfold gNext
  simp -implicitDefEqProofs [sSeq, sIf, sAsg, sRet, sNext, fName, fSub, pVar, pC, pOp, pTest, pCB, aCons, aNil, asB, h1, h2, h3, h4, hb]
theorem next2 {x1 x2 x4 : Option D} {many a b c e v : Int} (hi : i < M.length) (hm : 0 < many ∧ many < 1073741824) (hc : 0 ≤ c ∧ c < 2147483647) :
    ∃ (r a' b' c' : Int), gNext2 [some (.adr i), x1, some (.int many), some (.int v), x4] (M.set i (.lst [.int a, .int b, .int c, .int e])) = .ok (.rt (.int r)) (M.set i (.lst [.int a', .int b', .int c', .int e])) ∧ a' = a + 1 ∧ 0 ≤ c' ∧ c' < 2147483647 ∧ 0 ≤ r ∧ r < many := by
  have h1 : gIx (M.set i (.lst [.int a, .int b, .int c, .int e])) (.adr i) (.int 0) = .ok (.int a) _ := st_ix (n := 0) hi (by simp)
  have h2 : putL (M.set i (.lst [.int a, .int b, .int c, .int e])) (.adr i) (.int 0) (.int (a + 1)) = .ok () (M.set i (.lst [.int (a + 1), .int b, .int c, .int e])) := put_at (n := 0) hi (by simp) _
  have h3 : ∀ M : PM, gPow M (.int 10) (.int 18) = .ok (.int 1000000000000000000) M := fun M => p18
  have h4 : gFdiv (M.set i (.lst [.int (a + 1), .int b, .int c, .int e])) (.int v) (.int many) = .ok (.int (v / many)) _ := e_fdiv hm
  have h5 : putL (M.set i (.lst [.int (a + 1), .int b, .int c, .int e])) (.adr i) (.int 1) (.int (v / many)) = .ok () (M.set i (.lst [.int (a + 1), .int (v / many), .int c, .int e])) := put_at (n := 1) hi (by simp) _
  have h6 : ∀ (M : PM) (x : Int), gMod M (.int x) (.int many) = .ok (.int (x % many)) M := fun M x => e_mod hm.1
  by_cases hv : 1000000000000000000 ≤ v
  · refine ⟨v % many, a + 1, v / many, c, ?_, rfl, hc.1, hc.2, Int.emod_nonneg _ (by omega), Int.emod_lt_of_pos _ hm.1⟩
    unfold gNext2
    simp -implicitDefEqProofs only [sSeq, sIf, sAsg, sRet, sNext, fName, fSub, pVar, pC, pOp, pTest, pCB, aCons, aNil, asB, h1, h2, h3, h4, h5, h6, Out.bind_ok, List.getElem?_cons_zero, List.getElem?_cons_succ, e_add, e_ge, e_intI, decide_eq_true hv, if_true]
  · have h7 : gIx (M.set i (.lst [.int (a + 1), .int b, .int c, .int e])) (.adr i) (.int 2) = .ok (.int c) _ := st_ix (n := 2) hi (by simp)
    have h8 : ∀ (M : PM) (x : Int), gMul M (.int x) (.int 48271) = .ok (.int (x * 48271)) M := fun M x => mulR (by decide) (by decide)
    have h9 : ∀ (M : PM) (x : Int), gMul M (.int x) (.int 69621) = .ok (.int (x * 69621)) M := fun M x => mulR (by decide) (by decide)
    have h10 : ∀ (M : PM) (x : Int), gMod M (.int x) (.int 2147483647) = .ok (.int (x % 2147483647)) M := fun M x => e_mod (by decide)
    obtain ⟨c', hc'⟩ : ∃ c', c' = (c * 48271 + v * 69621 + 12345) % 2147483647 := ⟨_, rfl⟩
    have q1 : 0 ≤ c' := by rw [hc']; exact Int.emod_nonneg _ (by decide)
    have q2 : c' < 2147483647 := by rw [hc']; exact Int.emod_lt_of_pos _ (by decide)
    have h11 : putL (M.set i (.lst [.int (a + 1), .int b, .int c, .int e])) (.adr i) (.int 2) (.int c') = .ok () (M.set i (.lst [.int (a + 1), .int b, .int c', .int e])) := put_at (n := 2) hi (by simp) _
    have h12 : gIx (M.set i (.lst [.int (a + 1), .int b, .int c', .int e])) (.adr i) (.int 2) = .ok (.int c') _ := st_ix (n := 2) hi (by simp)
    have h13 : ∀ (M : PM), gMul M (.int c') (.int c') = .ok (.int (c' * c')) M := fun M => mulR (by omega) (by omega)
    have h14 : ∀ (M : PM) (x : Int), gFdiv M (.int x) (.int 7) = .ok (.int (x / 7)) M := fun M x => e_fdiv (by decide)
    have h15 : ∀ (M : PM) (x : Int), gFdiv M (.int x) (.int 65537) = .ok (.int (x / 65537)) M := fun M x => e_fdiv (by decide)
    refine ⟨(c' / 7 + c' * c' / 65537) % many, a + 1, b, c', ?_, rfl, q1, q2, Int.emod_nonneg _ (by omega), Int.emod_lt_of_pos _ hm.1⟩
    unfold gNext2
    simp -implicitDefEqProofs only [sSeq, sIf, sAsg, sRet, sNext, fName, fSub, pVar, pC, pOp, pTest, pCB, aCons, aNil, asB, h1, h2, h3, h6, h7, h8, h9, h10, ← hc', h11, h12, h13, h14, h15, Out.bind_ok, List.getElem?_cons_zero, List.getElem?_cons_succ, e_add, e_ge, e_intI, decide_eq_false hv, Bool.false_eq_true, if_false]
theorem next3 {ns : List Int} {many a b c e : Int} (hi : i < M.length) (hm : 0 < many ∧ many < 1073741824) (ha : 0 ≤ a) (hc : 0 ≤ c ∧ c < 2147483647) (hb : ¬ 0 < b) :
    ∃ (r a' b' c' : Int), gNext [some (.adr i), some (.rol (ns.map .int)), some (.int many), none, none] (M.set i (.lst [.int a, .int b, .int c, .int e])) = .ok (.rt (.int r)) (M.set i (.lst [.int a', .int b', .int c', .int e])) ∧ a' = a + 1 ∧ 0 ≤ c' ∧ c' < 2147483647 ∧ 0 ≤ r ∧ r < many := by
  have h1 : gIx (M.set i (.lst [.int a, .int b, .int c, .int e])) (.adr i) (.int 1) = .ok (.int b) _ := st_ix (n := 1) hi (by simp)
  have h2 : gIx (M.set i (.lst [.int a, .int b, .int c, .int e])) (.adr i) (.int 0) = .ok (.int a) _ := st_ix (n := 0) hi (by simp)
  have h3 : bLen (M.set i (.lst [.int a, .int b, .int c, .int e])) [.rol (ns.map .int)] = .ok (.int (ns.length : Int)) (M.set i (.lst [.int a, .int b, .int c, .int e])) := by
    rw [e_len (ds := ns.map .int) rfl, List.length_map]
  obtain ⟨v, hv⟩ : ∃ v : Int, (sIf (pTest (pOp gLt (pOp gIx (pVar 0) (pC (.int 0))) (pCB bLen (aCons (pVar 1) (aNil))))) (sAsg (pCB bAbs (aCons (pCB bInt (aCons (pOp gIx (pVar 1) (pOp gIx (pVar 0) (pC (.int 0)))) (aNil))) (aNil))) (fName 3)) (sNext)) [some (.adr i), some (.rol (ns.map .int)), some (.int many), some (.int 0), none] (M.set i (.lst [.int a, .int b, .int c, .int e])) = .ok (.nx [some (.adr i), some (.rol (ns.map .int)), some (.int many), some (.int v), none]) (M.set i (.lst [.int a, .int b, .int c, .int e])) := by
    by_cases hl : a < ns.length
    · obtain ⟨n, rfl⟩ := Int.eq_ofNat_of_zero_le ha
      have hn : n < ns.length := by omega
      have h4 : gIx (M.set i (.lst [.int (n : Int), .int b, .int c, .int e])) (.rol (ns.map .int)) (.int (n : Int)) = .ok (.int ns[n]) _ := gIx_seq (seq_rol _) (by rw [atI_ok (by simpa using hn)]; simp)
      refine ⟨if ns[n] < 0 then -ns[n] else ns[n], ?_⟩
      simp -implicitDefEqProofs only [sIf, sAsg, fName, pVar, pC, pOp, pTest, pCB, aCons, aNil, asB, h2, h3, h4, Out.bind_ok, List.getElem?_cons_zero, List.getElem?_cons_succ, e_lt, e_abs, e_intI, decide_eq_true hl, if_true, List.set_cons_zero, List.set_cons_succ]
    · refine ⟨0, ?_⟩
      simp -implicitDefEqProofs only [sIf, sNext, fName, pVar, pC, pOp, pTest, pCB, aCons, aNil, asB, h2, h3, Out.bind_ok, List.getElem?_cons_zero, List.getElem?_cons_succ, e_lt, decide_eq_false hl, Bool.false_eq_true, if_false]
  obtain ⟨r, a', b', c', h5, h6⟩ := next2 (M := M) (i := i) (x1 := some (.rol (ns.map .int))) (x2 := none) (x4 := none) (a := a) (b := b) (e := e) (v := v) hi hm hc
  refine ⟨r, a', b', c', ?_, h6⟩
  unfold gNext
  rw [show sSeq = sSeq from rfl]
  have h7 : sIf (pTest (pOp gGt (pOp gIx (pVar 0) (pC (.int 1))) (pC (.int 0)))) (sSeq (sAsg (pOp gMod (pCB bInt (aCons (pOp gIx (pVar 0) (pC (.int 1))) (aNil))) (pVar 2)) (fName 4))
      (sSeq (sAsg (pOp gFdiv (pCB bInt (aCons (pOp gIx (pVar 0) (pC (.int 1))) (aNil))) (pVar 2)) (fSub (pVar 0) (pC (.int 1))))
      (sRet (pVar 4)))) (sNext) [some (.adr i), some (.rol (ns.map .int)), some (.int many), none, none] (M.set i (.lst [.int a, .int b, .int c, .int e])) = .ok (.nx [some (.adr i), some (.rol (ns.map .int)), some (.int many), none, none]) (M.set i (.lst [.int a, .int b, .int c, .int e])) := by
    simp -implicitDefEqProofs only [sIf, sNext, pVar, pC, pOp, pTest, asB, h1, Out.bind_ok, List.getElem?_cons_zero, List.getElem?_cons_succ, e_gt, decide_eq_false hb, Bool.false_eq_true, if_false]
  have sq : ∀ {f g : FS} {ρ ρ' : Rho} {M M' : PM}, f ρ M = .ok (.nx ρ') M' → sSeq f g ρ M = g ρ' M' := fun h => by unfold sSeq; rw [h]; rfl
  rw [sq h7]
  have h8 : sAsg (pC (.int 0)) (fName 3) [some (.adr i), some (.rol (ns.map .int)), some (.int many), none, none] (M.set i (.lst [.int a, .int b, .int c, .int e])) = .ok (.nx [some (.adr i), some (.rol (ns.map .int)), some (.int many), some (.int 0), none]) (M.set i (.lst [.int a, .int b, .int c, .int e])) := rfl
  rw [sq h8, sq hv, h5]
theorem next_ok {N : List Str} (hN : N.length = 5) {ns : List Int} {many : Int} {m : MO} (w : WfM M) (hi : i < M.length) (hm : 0 < many ∧ many < 1073741824) (hs : Rst m) :
    ∃ (r : Int) (m' : MO), run 3 N gNext [.adr i, .rol (ns.map .int), .int many] (M.set i m) = .ok (.int r) (M.set i m') ∧ 0 ≤ r ∧ r < many ∧ Rst m' := by
  obtain ⟨a, b, c, e, rfl, ha, hc⟩ := hs
  have e0 : rho0 N [.adr i, .rol (ns.map .int), .int many] = [some (.adr i), some (.rol (ns.map .int)), some (.int many), none, none] := by
    unfold rho0
    rw [hN]
    rfl
  have fin : ∀ (r : Int) (m' : MO), Rst m' → gNext [some (.adr i), some (.rol (ns.map .int)), some (.int many), none, none] (M.set i (.lst [.int a, .int b, .int c, .int e])) = .ok (.rt (.int r)) (M.set i m') → run 3 N gNext [.adr i, .rol (ns.map .int), .int many] (M.set i (.lst [.int a, .int b, .int c, .int e])) = .ok (.int r) (M.set i m') := fun r m' hm' h => by
    refine run_rt (J := []) rfl (by rw [e0, List.append_nil, h]) (by simp) ?_ rfl
    have := WfM.set (i := i) w (hm'.cl M.length)
    unfold WfM at this
    simpa using this
  by_cases hb : 0 < b
  · exact ⟨b % many, .lst [.int a, .int (b / many), .int c, .int e], fin _ _ ⟨a, b / many, c, e, rfl, ha, hc⟩ (next1 hi hm hb), Int.emod_nonneg _ (by omega), Int.emod_lt_of_pos _ hm.1, a, b / many, c, e, rfl, ha, hc⟩
  · obtain ⟨r, a', b', c', h1, h2, h3, h4, h5, h6⟩ := next3 (M := M) (e := e) hi hm ha hc hb (ns := ns)
    have hr : Rst (.lst [.int a', .int b', .int c', .int e]) := ⟨a', b', c', e, rfl, by omega, h3, h4⟩
    exact ⟨r, _, fin _ _ hr h1, h5, h6, hr⟩
end
end Pd

set_option Elab.async false
set_option linter.all false
set_option maxRecDepth 100000
set_option maxHeartbeats 2000000
namespace Pd
open PySem L2

/-! ### a < b < c -/
def pCh (g g' : PM → D → D → Out D) (fa fb fc : FE) : FE := fun ρ M => (fa ρ M).bind fun a M1 => (fb ρ M1).bind fun b M2 => (g M2 a b).bind fun z M3 => match z with
  | .bl k => if k = true then (fc ρ M3).bind fun c M4 => g' M4 b c else .ok (.bl false) M3
  | _ => .bad
section
variable {K : PySem.W.Frag} {E : XK} {ta tb tc te : TE} {fa fb fc fe : FE} {r r' : R2} {g g' : PM → D → D → Out D}
theorem r_chain (ha : RE K E ta fa) (hb : RE K E tb fb) (hc : RE K E tc fc) (h : OpD K E r g) (h' : OpD K E r' g') : RE K E (tChain r r' ta tb tc) (pCh g g' fa fb fc) := fun ρ σ H α M Q e w h0 =>
  ha ρ σ H α M _ e w (bnd h0 fun a M1 x α1 H1 _ s1 w1 r1 h1 =>
    hb ρ σ H1 α1 M1 _ (e.step s1) w1 (bnd h1 fun b M2 y α2 H2 _ s2 w2 r2 h2 =>
      h α2 H2 M2 a b x y _ w2 (Rep.step s2 _ _ r1) r2 (bnd h2 fun z M3 v α3 H3 _ s3 w3 r3 h3 => by
        cases z with
        | bl k =>
          cases r3
          refine ⟨k, rfl, ?_⟩
          cases k with
          | true =>
            have h3 : Post (Rep K) K α3 H3 Q E ((fc ρ M3).bind fun c M4 => g' M4 b c) := h3
            rw [if_pos rfl]
            exact hc ρ σ H3 α3 M3 _ (((e.step s1).step s2).step s3) w3 (bnd h3 fun c M4 u α4 H4 _ s4 w4 r4 h4 => h' α4 H4 M4 b c y u Q w4 (Rep.step s4 _ _ (Rep.step s3 _ _ r2)) r4 h4)
          | false =>
            rw [if_neg Bool.false_ne_true]
            have h3 : Post (Rep K) K α3 H3 Q E (.ok (.bl false) M3) := h3
            exact h3.now w3 (.bl _)
        | _ => exact h3.elim)))
end
section
variable {X : Cx} {E : XK} {a b c e o : Expr} {fa fb fc fe fo : FE} {pos apos cpos p : Pos} {op op' : CmpOp} {g g' : PM → D → D → Out D}
theorem pd_chain (ho : Op2 X E (compareOp op) g) (ho' : Op2 X E (compareOp op') g') (ha : PD X E a fa) (hb : PD X E b fb) (hc : PD X E c fc) (hm : lastMarks [op, op'] [b, c] = false := by rfl) : PD X E (.Compare a [op, op'] [b, c] pos) (pCh g g' fa fb fc) := by
  obtain ⟨r, h1, h2⟩ := ho
  obtain ⟨r', h1', h2'⟩ := ho'
  obtain ⟨ta, ha, ra⟩ := ha
  obtain ⟨tb, hb, rb⟩ := hb
  obtain ⟨tc, hc, rc⟩ := hc
  exact ⟨_, pe_chain h1 h1' ha hb hc hm, r_chain ra rb rc h2 h2'⟩
theorem pdt_chain (ho : Op2 X E (compareOp op) g) (ho' : Op2 X E (compareOp op') g') (ha : PD X E a fa) (hb : PD X E b fb) (hc : PD X E c fc) (hm : lastMarks [op, op'] [b, c] = false := by rfl) : PDT X E (.Compare a [op, op'] [b, c] pos) (pTest (pCh g g' fa fb fc)) := by
  obtain ⟨r, h1, h2⟩ := ho
  obtain ⟨r', h1', h2'⟩ := ho'
  obtain ⟨ta, ha, ra⟩ := ha
  obtain ⟨tb, hb, rb⟩ := hb
  obtain ⟨tc, hc, rc⟩ := hc
  exact ⟨_, pt_chain h1 h1' ha hb hc hm, r_test (r_chain ra rb rc h2 h2')⟩
end
/-! ### x, y = a, b -/
def sPar (i j : Nat) (f : FA) : FS := fun ρ M => (f ρ M).bind fun as M1 => match as with
  | [a, b] => .ok (.nx ((ρ.set i (some a)).set j (some b))) M1
  | _ => .bad
section
variable {X : Cx} {E : XK} {a b : Expr} {f : FA} {pos px py pt pt2 : Pos} {x y : Str} {kt k2 : Nat}
theorem s_par {K : PySem.W.Frag} {ta : TA} (i j : Nat) (ha : RA K E ta f) : RS K E (tPar i j ta) (sPar i j f) := fun ρ σ H α M D e w h =>
  ha ρ σ H α M _ e w (bnd h fun as M1 xs α1 H1 _ s1 w1 r1 q => by
    split at q
    · obtain ⟨v, u, rfl, r2, r3⟩ := rep2 r1
      exact ⟨v, u, rfl, q.now (b := FlV.nx ((σ.set i (some v)).set j (some u))) w1 (((e.step s1).set r2).set r3)⟩
    · exact q.elim)
theorem pds_par (i j : Nat) (hc : X.calm = true) (hN : X.N.Nodup) (ha : PDA X E [a, b] f) (hij : i ≠ j) (hw : swappedStores [.Tuple [.Name x px, .Name y py] kt pt] (.Tuple [a, b] k2 pt2) X.env = pure (some [x, y]))
    (hi : X.N[i]? = some x := by rfl) (hj : X.N[j]? = some y := by rfl) (hx : X.env.scope.names.lookup x = some .local := by rfl) (hy : X.env.scope.names.lookup y = some .local := by rfl)
    (hs : swapsWithSole [.Tuple [.Name x px, .Name y py] kt pt] (.Tuple [a, b] k2 pt2) pos.line X.env = pure false := by rfl) :
    PDS X E (.Assign [.Tuple [.Name x px, .Name y py] kt pt] (.Tuple [a, b] k2 pt2) pos) (sPar i j f) := by
  obtain ⟨t, ha, r⟩ := ha
  exact ⟨_, ps_par hc hN hi hj hij hx hy ha hw hs, s_par i j r⟩
end
/-! ### lists of numbers: the least, the greatest, the sum, in order -/
def intL : List D → Option (List Int)
  | [] => some []
  | .int z :: r => (intL r).map (z :: ·)
  | _ => none
theorem intL_rep {K : PySem.W.Frag} {α : List Addr} {H : Hp} : ∀ {ds : List D} {xs : List V} {ys : List Int}, RepL K α H ds xs → intL ds = some ys → xs = ys.map V.int
  | [], _, _, .nil, e => by cases e; rfl
  | d :: ds, _, ys, .cons r t, e => by
    cases d with
    | int z =>
      unfold intL at e
      cases q : intL ds with
      | none => rw [q] at e; cases e
      | some zs =>
        rw [q] at e
        cases e
        cases r
        rw [intL_rep t q]
        rfl
    | _ => cases e
@[simp] theorem intL_map : ∀ ns : List Int, intL (ns.map .int) = some ns
  | [] => rfl
  | n :: ns => by simp [intL, intL_map ns]
@[simp] theorem strL_map : ∀ ns : List Str, strL (ns.map .str) = some ns
  | [] => rfl
  | n :: ns => by simp [strL, strL_map ns]
/-- a list, not a tuple -/
def listOf (M : PM) : D → Option (List D)
  | .lst ds => some ds
  | .rol ds => some ds
  | .adr i => match M[i]? with | some (.lst ds) => some ds | _ => none
  | _ => none
theorem list_ok {K : PySem.W.Frag} {α : List Addr} {H : Hp} {M : PM} {a : D} {x : V} {ds : List D} (w : Wd K α M H) (r : Rep K α H a x) (e : listOf M a = some ds) : ∃ p xs, x = .ref p ∧ SqL K H p xs ∧ RepL K α H ds xs := by
  cases a with
  | lst es => cases e; cases r with | lst t rs => exact ⟨_, _, rfl, t.sq, rs⟩
  | rol es => cases e; cases r with | rol t rs => exact ⟨_, _, rfl, t.sq, rs⟩
  | adr i =>
    obtain ⟨p', xs', e1, e2, e3⟩ := lst_ok (K := K) (ds := ds) w r (by unfold listOf at e; unfold lstOf; exact e)
    exact ⟨p', xs', e1, .of e2, e3⟩
  | _ => cases e
def maxI : List Int → Int
  | [] => 0
  | [n] => n
  | n :: r => if maxI r > n then maxI r else n
def minI : List Int → Int
  | [] => 0
  | [n] => n
  | n :: r => if minI r < n then minI r else n
theorem maxI_ge : ∀ (ns : List Int), ∀ y ∈ ns, y ≤ maxI ns
  | [n], y, h => by rw [List.mem_singleton.mp h]; exact Int.le_refl _
  | n :: m :: r, y, h => by
    have ih := maxI_ge (m :: r)
    rcases List.mem_cons.mp h with e | e
    · subst e
      unfold maxI
      split <;> omega
    · have := ih y e
      unfold maxI
      split <;> omega
theorem minI_le : ∀ (ns : List Int), ∀ y ∈ ns, minI ns ≤ y
  | [n], y, h => by rw [List.mem_singleton.mp h]; exact Int.le_refl _
  | n :: m :: r, y, h => by
    have ih := minI_le (m :: r)
    rcases List.mem_cons.mp h with e | e
    · subst e
      unfold minI
      split <;> omega
    · have := ih y e
      unfold minI
      split <;> omega
theorem maxI_mem : ∀ (ns : List Int), ns ≠ [] → maxI ns ∈ ns
  | [n], _ => List.mem_singleton.mpr rfl
  | n :: m :: r, _ => by
    have ih := maxI_mem (m :: r) (by simp)
    unfold maxI
    split
    · exact List.mem_cons_of_mem _ ih
    · exact List.mem_cons_self ..
theorem minI_mem : ∀ (ns : List Int), ns ≠ [] → minI ns ∈ ns
  | [n], _ => List.mem_singleton.mpr rfl
  | n :: m :: r, _ => by
    have ih := minI_mem (m :: r) (by simp)
    unfold minI
    split
    · exact List.mem_cons_of_mem _ ih
    · exact List.mem_cons_self ..
def bInts (c : List Int → Bool) (k : List Int → D) : PM → List D → Out D := fun M as => match as with
  | [a] => match listOf M a with
    | some ds => match intL ds with
      | some ns => if c ns = true then .ok (k ns) M else .bad
      | none => .bad
    | none => .bad
  | _ => .bad
def bMaxL : PM → List D → Out D := bInts (fun ns => !ns.isEmpty) fun ns => .int (maxI ns)
def bMinL : PM → List D → Out D := bInts (fun ns => !ns.isEmpty) fun ns => .int (minI ns)
def bSum : PM → List D → Out D := bInts (fun _ => true) fun ns => .int ns.sum
def sortI (ns : List Int) : List Int := ns.mergeSort fun a b => decide (a ≤ b)
def bSortI : PM → List D → Out D := bInts (fun _ => true) fun ns => .lst ((sortI ns).map .int)
section
variable {K : PySem.W.Frag} {E : XK} {X : Cx}
theorem bInts_ok {α : List Addr} {H : Hp} {M : PM} {as : List D} {xs : List V} {Q : V → Hp → Prop} {c : List Int → Bool} {k : List Int → D} (w : Wd K α M H) (ra : RepL K α H as xs) (q : Post (Rep K) K α H Q E (bInts c k M as)) :
    ∃ (p : Addr) (ns : List Int), xs = [V.ref p] ∧ SqL K H p (ns.map V.int) ∧ c ns = true ∧ Post (Rep K) K α H Q E (.ok (k ns) M) := by
  unfold bInts at q
  split at q
  · obtain ⟨x, rfl, r⟩ := rep1 ra
    split at q
    · rename_i ds hd
      obtain ⟨p, xs, rfl, hs, rs⟩ := list_ok w r hd
      split at q
      · rename_i ns hn
        obtain ⟨hc, q⟩ := ifb q
        have ex := intL_rep rs hn
        subst ex
        exact ⟨p, ns, rfl, hs, hc, q⟩
      · exact q.elim
    · exact q.elim
  · exact q.elim
theorem ne_of_c {ns : List Int} (h : (!ns.isEmpty) = true) : ns ≠ [] := by
  cases ns with
  | nil => cases h
  | cons => simp
theorem b_maxL (hc : X.calm = true) : Blt X E (.builtin "max") bMaxL := ⟨_, cr_max hc, fun α H M as xs Q w ra q => by
  obtain ⟨p, ns, rfl, h1, h2, q⟩ := bInts_ok w ra q
  have hn := ne_of_c h2
  refine ⟨p, ns, rfl, h1, List.length_pos_iff.mpr hn, fun m hm hy => ?_⟩
  have e : m = maxI ns := Int.le_antisymm (maxI_ge ns m hm) (hy _ (maxI_mem ns hn))
  rw [e]
  exact q.now w (.int _)⟩
theorem b_minL (hc : X.calm = true) : Blt X E (.builtin "min") bMinL := ⟨_, cr_min hc, fun α H M as xs Q w ra q => by
  obtain ⟨p, ns, rfl, h1, h2, q⟩ := bInts_ok w ra q
  have hn := ne_of_c h2
  refine ⟨p, ns, rfl, h1, List.length_pos_iff.mpr hn, fun m hm hy => ?_⟩
  have e : m = minI ns := Int.le_antisymm (hy _ (minI_mem ns hn)) (minI_le ns m hm)
  rw [e]
  exact q.now w (.int _)⟩
theorem b_sum (hc : X.calm = true) : Blt X E (.builtin "sum") bSum := ⟨_, cr_sum hc, fun α H M as xs Q w ra q => by
  obtain ⟨p, ns, rfl, h1, h2, q⟩ := bInts_ok w ra q
  exact ⟨p, ns, rfl, h1, q.now w (.int _)⟩⟩
theorem sortI_only {ns ms : List Int} (h : ms.Perm ns) (s : ms.Pairwise (· ≤ ·)) : ms = sortI ns := by
  have h1 : (sortI ns).Perm ns := List.mergeSort_perm _ _
  have h2 : (sortI ns).Pairwise (fun a b => (decide (a ≤ b)) = true) := List.pairwise_mergeSort (fun a b c h1 h2 => by simp at *; omega) (fun a b => by simp; omega) ns
  refine List.Perm.eq_of_pairwise (le := fun a b : Int => a ≤ b) (fun a b _ _ h1 h2 => Int.le_antisymm h1 h2) s (h2.imp fun h => by simpa using h) (h.trans h1.symm)
theorem b_sortI : Blt X E (.builtin "sorted") bSortI := ⟨_, cr_sortedI, fun α H M as xs Q w ra q => by
  obtain ⟨p, ns, rfl, h1, h2, q⟩ := bInts_ok w ra q
  refine ⟨p, ns, rfl, h1, fun ms p' hp hs hn => ?_⟩
  rw [sortI_only hp hs]
  exact q.nowX w (ex_new hn) (new_lst w hn (repL_ints _))⟩
end
end Pd

set_option Elab.async false
set_option linter.all false
set_option maxRecDepth 100000
set_option maxHeartbeats 2000000
namespace Pd
open PySem L2

/-! ### xs.extend(ys), both lists -/
def pExt (fo fe : FE) : FE := fun ρ M => (fo ρ M).bind fun o M1 => if isA M1 o = true then (fe ρ M1).bind fun d M2 => match o with
  | .adr k => match M2[k]?, lstOf M2 d with
    | some (.lst ds), some es => if ds.length + es.length ≤ line then .ok .non (M2.set k (.lst (ds ++ es))) else .bad
    | _, _ => .bad
  | _ => .bad else .bad
section
variable {K : PySem.W.Frag} {E : XK} {to te : TE} {fo fe : FE}
theorem r_ext (ho : RE K E to fo) (he : RE K E te fe) : RE K E (tBM K "list" rExtend to (tCons te tNil)) (pExt fo fe) := fun ρ σ H α M Q e w h =>
  ho ρ σ H α M _ e w (bnd h fun o M1 x α1 H1 _ s1 w1 r1 h1 => by
    obtain ⟨ha, h1⟩ := ifb h1
    cases o with
    | adr k =>
      cases r1 with
      | @adr _ a ea =>
        have hty : tyV K "list" (.ref a) H1 := by
          have ha' : (match M1[k]? with | some (.lst _) => true | _ => false) = true := ha
          split at ha'
          · rename_i ds hm
            obtain ⟨a', e1, vs, e2, _⟩ := w1.ob _ _ hm
            rw [ea] at e1
            cases e1
            exact .inl ⟨rfl, _, .of e2⟩
          · exact absurd ha' Bool.false_ne_true
        refine ⟨hty, he ρ σ H1 α1 M1 _ (e.step s1) w1 (bnd h1 fun d M2 y α2 H2 _ s2 w2 r2 h2 => ?_)⟩
        have ea2 : α2[k]? = some a := by
          obtain ⟨β, rfl, _⟩ := s2.ext
          rw [List.getElem?_append_left (List.getElem?_eq_some_iff.mp ea).1]
          exact ea
        have h3 : Post (Rep K) K α2 H2 Q E (match M2[k]?, lstOf M2 d with | some (.lst ds), some es => if ds.length + es.length ≤ line then .ok .non (M2.set k (.lst (ds ++ es))) else .bad | _, _ => .bad) := h2
        split at h3
        · rename_i ds es hm hz
          obtain ⟨b, zs, rfl, ez, rz⟩ := lst_ok w2 r2 hz
          obtain ⟨hl, h4⟩ := ifb h3
          obtain ⟨a', e1, vs, e2, e3⟩ := w2.ob _ _ hm
          rw [ea2] at e1
          cases e1
          obtain ⟨w3, s3⟩ := w2.put (m := .lst (ds ++ es)) (o := .lst (vs ++ zs)) ea2 (List.getElem?_eq_some_iff.mp hm).1 fun H' st e => ⟨_, e, RepL.step st _ _ (e3.append rz)⟩
          exact ⟨_, b, vs, zs, rfl, rfl, e2, ez, by rw [← e3.length, ← rz.length, ← line_eq]; exact hl, h4 _ _ _ s3 w3 .non⟩
        · exact h3.elim
    | _ => exact absurd (show false = true from ha) Bool.false_ne_true)
end
section
variable {X : Cx} {E : XK} {o e : Expr} {fo fe : FE} {apos pos cpos : Pos}
theorem pd_extend (ho : PD X E o fo) (he : PD X E e fe) (hbase : attributeBase o "extend" X.env (eval o X.env) = eval o X.env := by rfl)
    (hfew : ((backTo cpos (starEach [e] X.env)).all (fun x => !x.1) && (backToKw cpos (keywordEach [] X.env)).all (fun x => x.1.isSome)
      && decide (([e] : List Expr).length + ([] : List Keyword).length + (if ([] : List Keyword).isEmpty then 0 else 1) < 30)) = true := by rfl)
    (hline : (apos.endLine == cpos.line) = true := by rfl) (hs : starEach [e] X.env = (false, eval e X.env) :: starEach [] X.env := by rfl) (hplain : (backTo cpos (starEach [] X.env)).any (·.1) = false := by rfl) :
    PD X E (.Call (.Attribute o "extend" apos) [e] [] cpos) (pExt fo fe) := by
  obtain ⟨t, ho, r⟩ := ho
  obtain ⟨u, he, q⟩ := he
  exact ⟨_, pe_bm PySem.F.plainAttrs_list PySem.F.slot_list_extend PySem.F.type_list_extend mt_extend ho (pa_cons he pa_nil hs) hbase hfew hline hs hplain, r_ext r q⟩
end
/-! ### a + b, a new list that is to change -/
def gAddN : PM → D → D → Out D := fun M a b => match lstOf M a, lstOf M b with
  | some x, some y => if x.length + y.length ≤ line then .ok (.adr M.length) (M ++ [.lst (x ++ y)]) else .bad
  | _, _ => .bad
theorem od_addN {K : PySem.W.Frag} {E : XK} : OpD K E rCat gAddN := fun α H M a b x y Q w ra rb q => by
  unfold gAddN at q
  split at q
  · rename_i xs ys h1 h2
    obtain ⟨l, vs, rfl, e1, r1⟩ := lst_ok w ra h1
    obtain ⟨m, ws, rfl, e2, r2⟩ := lst_ok w rb h2
    obtain ⟨h1, q⟩ := ifb q
    rw [line_eq, r1.length, r2.length] at h1
    refine ⟨_, _, _, _, rfl, rfl, e1, e2, h1, fun p hp => ?_⟩
    obtain ⟨w2, s2⟩ := w.new (m := .lst (xs ++ ys)) (o := .lst (vs ++ ws)) hp fun H' st e => ⟨_, e, RepL.step st _ _ (r1.append r2)⟩
    exact q _ _ _ s2 w2 (.adr (by rw [← w.len, List.getElem?_append_right (Nat.le_refl _), Nat.sub_self]; rfl))
  · exact q.elim
theorem o_addN {X : Cx} {E : XK} : Op2 X E (binaryOp .Add) gAddN := ⟨_, op_cat, od_addN⟩
/-! ### xs[::-1] of a list -/
def gRevL : PM → D → Out D := fun M a => match listOf M a with
  | some ds => .ok (.lst ds.reverse) M
  | none => .bad
theorem repL_rev {K : PySem.W.Frag} {α : List Addr} {H : Hp} : ∀ {ds : List D} {xs : List V}, RepL K α H ds xs → RepL K α H ds.reverse xs.reverse
  | _, _, .nil => .nil
  | _, _, .cons r t => by
    rw [List.reverse_cons, List.reverse_cons]
    exact (repL_rev t).append (.cons r .nil)
theorem r_revL {K : PySem.W.Frag} {E : XK} {te : TE} {fe : FE} (he : RE K E te fe) : RE K E (tRevL K te) (pUn gRevL fe) := fun ρ σ H α M Q e w h =>
  he ρ σ H α M _ e w (bnd h fun a M1 x α1 H1 _ s1 w1 r1 q => by
    unfold gRevL at q
    split at q
    · rename_i ds hd
      obtain ⟨p, xs, rfl, hs, rs⟩ := list_ok w1 r1 hd
      exact ⟨p, xs, rfl, hs, fun p' hp => q.nowX w1 (ex_new hp) (new_lst w1 hp (repL_rev rs))⟩
    · exact q.elim)
theorem pd_revL {X : Cx} {E : XK} {e : Expr} {fe : FE} {k : Nat} {p1 p2 p3 pos : Pos} (he : PD X E e fe) : PD X E (.Subscript e (.Slice none none (some (.UnaryOp .USub (.Constant (.int 1) k p1) p2)) p3) pos) (pUn gRevL fe) := by
  obtain ⟨t, he, r⟩ := he
  exact ⟨_, pe_revL he, r_revL r⟩
/-! ### range(a, b, c) -/
def rngC (lo c : Int) (n : Nat) : List D := (List.range n).map fun (k : Nat) => .int (lo + (k : Int) * c)
def pRng3 (f : FA) : FA := fun ρ M => (f ρ M).bind fun as M1 => match as with
  | [.int i, .int j, .int c] => if (decide (c ≠ 0) && decide (c.natAbs < 1073741824) && PySem.Builtin.Range.small i j c && decide (0 ≤ PySem.Builtin.Range.rangeSize i j c)) = true then .ok (rngC i c (PySem.Builtin.Range.rangeSize i j c).toNat) M1 else .bad
  | _ => .bad
section
variable {K : PySem.W.Frag} {E : XK} {α : List Addr} {H : Hp}
theorem itc_ok {lo c : Int} {n : Nat} : ItR K α H (rngC lo c n) (Itc lo c n) := fun α' H' st i => by
  unfold rngC
  refine ⟨fun d hd => ?_, fun hl => by show n ≤ i; simpa using hl⟩
  rw [List.getElem?_map] at hd
  by_cases hi : i < n
  · rw [List.getElem?_range hi] at hd
    cases hd
    refine ⟨hi, fun x H'' y => ?_⟩
    obtain ⟨rfl, rfl⟩ := y
    exact ⟨fun _ _ h => h, .int _⟩
  · rw [List.getElem?_eq_none (by simpa using hi)] at hd
    cases hd
theorem rep3 {a b c : D} {xs : List V} (r : RepL K α H [a, b, c] xs) : ∃ x y z, xs = [x, y, z] ∧ Rep K α H a x ∧ Rep K α H b y ∧ Rep K α H c z := by
  cases r with
  | cons r1 r2 =>
    obtain ⟨y, z, rfl, r3, r4⟩ := rep2 r2
    exact ⟨_, y, z, rfl, r1, r3, r4⟩
theorem r_rng3 {ta : TA} {fa : FA} (ha : RA K E ta fa) : RI K E (iRng3 ta) (pRng3 fa) := fun ρ σ H α M Q e w h =>
  ha ρ σ H α M _ e w (bnd h fun as M1 xs α1 H1 _ s1 w1 r1 q => by
    split at q
    · obtain ⟨x, y, z, rfl, r, r', r''⟩ := rep3 r1
      cases r
      cases r'
      cases r''
      obtain ⟨hj, q⟩ := ifb q
      simp only [Bool.and_eq_true, decide_eq_true_eq] at hj
      exact ⟨_, _, _, _, rfl, ⟨hj.1.1.1, hj.1.1.2, hj.1.2, (Int.toNat_of_nonneg hj.2).symm⟩, q.now w1 itc_ok⟩
    · exact q.elim)
end
theorem pdi_rng3 {X : Cx} {E : XK} {a b c tg : Expr} {p pos : Pos} {fa : FA} (hg : Gl X "range") (hm : X.mg "range" = none) (ha : PDA X E [a, b, c] fa) (hs : starEach [a, b, c] X.env = (false, eval a X.env) :: starEach [b, c] X.env := by rfl) (hs2 : (backTo pos (starEach [b, c] X.env)).any (·.1) = false := by rfl) : PDI X E tg (.Call (.Name "range" p) [a, b, c] [] pos) (pRng3 fa) := by
  obtain ⟨t, h, r⟩ := ha
  exact ⟨_, pi_range3 hg hm h hs hs2, r_rng3 r⟩
end Pd

set_option Elab.async false
set_option linter.all false
set_option maxRecDepth 100000
set_option maxHeartbeats 2000000
namespace Pd
open PySem L2

/-! ### sorted texts -/
theorem lt_anti : ∀ a b : List Nat, PySem.Spec.ltCps a b = false → PySem.Spec.ltCps b a = false → a = b
  | [], [], _, _ => rfl
  | [], _ :: _, h, _ => by simp [PySem.Spec.ltCps] at h
  | _ :: _, [], _, h => by simp [PySem.Spec.ltCps] at h
  | x :: a, y :: b, h, k => by
    simp only [PySem.Spec.ltCps] at h k
    by_cases e : x = y
    · subst e
      simp at h k
      rw [lt_anti a b h k]
    · have e' : y ≠ x := fun z => e z.symm
      simp [e, e'] at h k
      omega
theorem lt_tot : ∀ a b : List Nat, PySem.Spec.ltCps a b = true → PySem.Spec.ltCps b a = false
  | [], [], h => by simp [PySem.Spec.ltCps] at h
  | [], _ :: _, _ => by simp [PySem.Spec.ltCps]
  | _ :: _, [], h => by simp [PySem.Spec.ltCps] at h
  | x :: a, y :: b, h => by
    simp only [PySem.Spec.ltCps] at h ⊢
    by_cases e : x = y
    · subst e
      simp at h ⊢
      exact lt_tot a b h
    · have e' : y ≠ x := fun z => e z.symm
      simp [e, e'] at h ⊢
      omega
theorem lt_tr : ∀ a b c : List Nat, PySem.Spec.ltCps b a = false → PySem.Spec.ltCps c b = false → PySem.Spec.ltCps c a = false
  | [], _, [], _, _ => by simp [PySem.Spec.ltCps]
  | [], _, _ :: _, _, _ => by simp [PySem.Spec.ltCps]
  | x :: a, [], c, h, _ => by simp [PySem.Spec.ltCps] at h
  | x :: a, y :: b, [], _, h => by simp [PySem.Spec.ltCps] at h
  | x :: a, y :: b, z :: c, h, k => by
    simp only [PySem.Spec.ltCps] at h k ⊢
    by_cases e : y = x <;> by_cases e' : z = y
    · subst e
      subst e'
      simp at h k ⊢
      exact lt_tr a b c h k
    · subst e
      simp [e'] at h k ⊢
      omega
    · subst e'
      simp [e] at h k ⊢
      omega
    · simp [e, e'] at h k ⊢
      by_cases e2 : z = x
      · omega
      · simp [e2]
        omega
def leS (a b : Str) : Bool := !PySem.Spec.ltCps b.cps.toList a.cps.toList
theorem rising_pw : ∀ (l : List Str) (x : Str), PyProof.Rows.risingS x l = true → (x :: l).Pairwise (fun a b => leS a b = true)
  | [], x, _ => List.pairwise_cons.mpr ⟨fun _ h => (by cases h), List.Pairwise.nil⟩
  | y :: l, x, h => by
    rw [PyProof.Rows.risingS.eq_2, Bool.and_eq_true] at h
    have ih := rising_pw l y h.2
    refine List.pairwise_cons.mpr ⟨fun z hz => ?_, ih⟩
    rcases List.mem_cons.mp hz with e | e
    · rw [e]
      exact h.1
    · have h2 := (List.pairwise_cons.mp ih).1 z e
      have h1 : leS x y = true := h.1
      unfold leS at h1 h2 ⊢
      rw [Bool.not_eq_true'] at h1 h2 ⊢
      exact lt_tr _ _ _ h1 h2
theorem sorted_pw (l : List Str) (h : PyProof.Rows.sortedS l = true) : l.Pairwise (fun a b => leS a b = true) := by
  cases l with
  | nil => exact .nil
  | cons x l => exact rising_pw l x h
def sortS (l : List Str) : List Str := l.mergeSort leS
theorem sortS_only {ns ms : List Str} (h : ms.Perm ns) (s : PyProof.Rows.sortedS ms = true) : ms = sortS ns := by
  have h1 : (sortS ns).Perm ns := List.mergeSort_perm _ _
  have h2 : (sortS ns).Pairwise (fun a b => leS a b = true) := List.pairwise_mergeSort (fun a b c h1 h2 => by
    unfold leS at *
    rw [Bool.not_eq_true'] at *
    exact lt_tr _ _ _ h1 h2) (fun a b => by
    unfold leS
    cases q : PySem.Spec.ltCps b.cps.toList a.cps.toList with
    | false => rfl
    | true => rw [lt_tot _ _ q]; rfl) ns
  refine List.Perm.eq_of_pairwise (le := fun a b : Str => leS a b = true) (fun a b _ _ h1 h2 => ?_) (sorted_pw _ s) h2 (h.trans h1.symm)
  unfold leS at h1 h2
  rw [Bool.not_eq_true'] at h1 h2
  have := lt_anti _ _ h2 h1
  exact TL.ext_tl this
def bSortS : PM → List D → Out D := fun M as => match as with
  | [a] => match listOf M a with
    | some ds => match strL ds with
      | some ns => if ns.length < 64 then .ok (.lst ((sortS ns).map .str)) M else .bad
      | none => .bad
    | none => .bad
  | _ => .bad
def bSort : PM → List D → Out D := fun M as => match bSortI M as with
  | .ok d M' => .ok d M'
  | _ => bSortS M as
theorem bInts_notexn {c : List Int → Bool} {k : List Int → D} {M : PM} {as : List D} {cl : Value} {fs : Option (List (Str × D))} {M' : PM} (h : bInts c k M as = .exn cl fs M') : False := by
  unfold bInts at h
  split at h
  · split at h
    · split at h
      · split at h <;> cases h
      · cases h
    · cases h
  · cases h
section
variable {E : XK} {X : Cx}
theorem b_sort : Blt X E (.builtin "sorted") bSort := ⟨_, cr_sortedI.or cr_sortedS, fun α H M as xs Q w ra q => by
  unfold bSort at q
  split at q
  · rename_i d M' hd
    left
    have q' : Post (Rep X.K) X.K α H Q E (bSortI M as) := by rw [hd]; exact q
    obtain ⟨p, ns, rfl, h1, h2, q⟩ := bInts_ok w ra q'
    refine ⟨p, ns, rfl, h1, fun ms p' hp hs hn => ?_⟩
    rw [sortI_only hp hs]
    exact q.nowX w (ex_new hn) (new_lst w hn (repL_ints _))
  · right
    unfold bSortS at q
    split at q
    · obtain ⟨x, rfl, r⟩ := rep1 ra
      split at q
      · rename_i ds hd
        obtain ⟨p, xs, rfl, hs, rs⟩ := list_ok w r hd
        split at q
        · rename_i ns hn
          obtain ⟨hc, q⟩ := ifb q
          have ex := strL_rep rs hn
          subst ex
          refine ⟨p, ns, rfl, hs, hc, fun ms p' hp hs hn => ?_⟩
          rw [sortS_only hp hs]
          exact q.nowX w (ex_new hn) (new_lst w hn (repL_strs _))
        · exact q.elim
      · exact q.elim
    · exact q.elim⟩
end
end Pd

set_option Elab.async false
set_option linter.all false
set_option maxRecDepth 100000
set_option maxHeartbeats 2000000
namespace Pd
open PySem L2

/-! ### dicts that change, keys numbers or texts -/
def keyOf : D → Option Key
  | .int i => some (.inl i)
  | .str z => some (.inr z)
  | _ => none
def getK : List (Key × D) → Key → Option D
  | [], _ => none
  | (j, d) :: r, k => if j = k then some d else getK r k
def setK (kvs : List (Key × D)) (k : Key) (d : D) : List (Key × D) := if (kvs.any fun kv => decide (kv.1 = k)) = true then kvs.map (fun kv => if kv.1 = k then (kv.1, d) else kv) else kvs ++ [(k, d)]
def dctOf (M : PM) : D → Option (List (Key × D))
  | .adr i => match M[i]? with | some (.dct kvs) => some kvs | _ => none
  | _ => none
def pNewD : FE := fun _ M => .ok (.adr M.length) (M ++ [.dct []])
def gDGet : PM → D → D → Out D := fun M a b => match dctOf M a, keyOf b with
  | some kvs, some k => match getK kvs k with | some d => .ok d M | none => .bad
  | _, _ => .bad
def gDIn : PM → D → D → Out D := fun M b a => match dctOf M a, keyOf b with
  | some kvs, some k => .ok (.bl (getK kvs k).isSome) M
  | _, _ => .bad
def gDNotIn : PM → D → D → Out D := fun M b a => match dctOf M a, keyOf b with
  | some kvs, some k => .ok (.bl (!(getK kvs k).isSome)) M
  | _, _ => .bad
def putD (M : PM) (o i v : D) : Out Unit := match o, dctOf M o, keyOf i with
  | .adr n, some kvs, some k => if kvs.length < line then .ok () (M.set n (.dct (setK kvs k v))) else .bad
  | _, _, _ => .bad
/-- d[k] = e -/
def sPut (fo fi fe : FE) : FS := fun ρ M => (fe ρ M).bind fun v M1 => (fo ρ M1).bind fun o M2 => (fi ρ M2).bind fun i M3 => (putD M3 o i v).bind fun _ M4 => .ok (.nx ρ) M4
section
variable {K : PySem.W.Frag} {E : XK} {α : List Addr} {H : Hp}
theorem key_ok {b : D} {y : V} {k : Key} (r : Rep K α H b y) (e : keyOf b = some k) : y = kV k := by
  cases b with
  | int i => cases e; cases r; rfl
  | str z => cases e; cases r; rfl
  | _ => cases e
theorem dct_ok {M : PM} {a : D} {x : V} {kvs : List (Key × D)} (w : Wd K α M H) (r : Rep K α H a x) (e : dctOf M a = some kvs) : ∃ n p q, a = .adr n ∧ x = .ref p ∧ α[n]? = some p ∧ M[n]? = some (.dct kvs) ∧ H p = some (.dK q) ∧ DL K α H kvs q := by
  cases a with
  | adr n =>
    cases r with
    | @adr _ p ea =>
      have e' : (match M[n]? with | some (.dct kvs) => some kvs | _ => none) = some kvs := e
      split at e'
      · rename_i kv hm
        cases e'
        obtain ⟨p', e1, q, e2, e3⟩ := w.ob _ _ hm
        rw [ea] at e1
        cases e1
        exact ⟨n, p, q, rfl, rfl, ea, hm, e2, e3⟩
      · cases e'
  | _ => cases e
theorem get_ok : ∀ {kvs : List (Key × D)} {q : List (Key × V)} {k : Key}, DL K α H kvs q → (∀ d, getK kvs k = some d → ∃ v, valV q k = some v ∧ Rep K α H d v) ∧ (getK kvs k = none → valV q k = none)
  | _, _, k, .nil => ⟨fun d h => (by cases h), fun _ => rfl⟩
  | _, _, k, .cons (k := j) (d := d) (v := v) (r := r) (s := s) h t => by
    have ih := get_ok (k := k) t
    by_cases e : j = k
    · rw [valV_pos (p := (j, v)) e]
      unfold getK
      rw [if_pos e]
      exact ⟨fun d' h' => (by cases h'; exact ⟨_, rfl, h⟩), fun h' => (by cases h')⟩
    · rw [valV_neg (p := (j, v)) e]
      unfold getK
      rw [if_neg e]
      exact ih
theorem any_ok {k : Key} : ∀ {kvs : List (Key × D)} {q : List (Key × V)}, DL K α H kvs q → (kvs.any fun kv => decide (kv.1 = k)) = (q.any fun kv => decide (kv.1 = k))
  | _, _, .nil => rfl
  | _, _, .cons _ t => by rw [List.any_cons, List.any_cons, any_ok t]
theorem map_ok {k : Key} {d : D} {v : V} (r : Rep K α H d v) : ∀ {kvs : List (Key × D)} {q : List (Key × V)}, DL K α H kvs q → DL K α H (kvs.map fun kv => if kv.1 = k then (kv.1, d) else kv) (q.map fun kv => if kv.1 = k then (kv.1, v) else kv)
  | _, _, .nil => .nil
  | _, _, .cons (k := j) h t => by
    rw [List.map_cons, List.map_cons]
    by_cases e : j = k
    · simp only [e, if_true]
      exact .cons r (map_ok r t)
    · simp only [e, if_false]
      exact .cons h (map_ok r t)
theorem snoc_ok {k : Key} {d : D} {v : V} (r : Rep K α H d v) : ∀ {kvs : List (Key × D)} {q : List (Key × V)}, DL K α H kvs q → DL K α H (kvs ++ [(k, d)]) (q ++ [(k, v)])
  | _, _, .nil => .cons r .nil
  | _, _, .cons h t => .cons h (snoc_ok r t)
theorem dput_ok {k : Key} {d : D} {v : V} (r : Rep K α H d v) {kvs : List (Key × D)} {q : List (Key × V)} (h : DL K α H kvs q) : DL K α H (setK kvs k d) (putK q k v) := by
  unfold setK putK
  rw [any_ok h]
  by_cases e : (q.any fun kv => decide (kv.1 = k)) = true
  · rw [if_pos e, if_pos e]
    exact map_ok r h
  · rw [if_neg e, if_neg e]
    exact snoc_ok r h
theorem r_newD : RE K E tDNewK pNewD := fun ρ σ H α M Q e w h p hp => by
  obtain ⟨w2, s2⟩ := w.new (m := .dct []) (o := .dK []) hp fun H' st e => ⟨_, e, .nil⟩
  exact h _ _ _ s2 w2 (.adr (by rw [← w.len, List.getElem?_append_right (Nat.le_refl _), Nat.sub_self]; rfl))
variable {to ti te : TE} {fo fi fe : FE}
theorem r_dget (ho : RE K E to fo) (hi : RE K E ti fi) : RE K E (tDGet to ti) (pOp gDGet fo fi) := fun ρ σ H α M Q e w h0 =>
  ho ρ σ H α M _ e w (bnd h0 fun a M1 x α1 H1 _ s1 w1 r1 h1 =>
    hi ρ σ H1 α1 M1 _ (e.step s1) w1 (bnd h1 fun b M2 y α2 H2 _ s2 w2 r2 q => by
      unfold gDGet at q
      split at q
      · rename_i kvs k hd hk
        obtain ⟨n, p, qq, rfl, rfl, ea, hm, e2, e3⟩ := dct_ok w2 (Rep.step s2 _ _ r1) hd
        split at q
        · rename_i d hg
          obtain ⟨v, hv, rv⟩ := (get_ok (k := k) e3).1 d hg
          exact ⟨p, v, rfl, .inl ⟨qq, k, .inl e2, key_ok r2 hk, hv.symm⟩, q.now w2 rv⟩
        · exact q.elim
      · exact q.elim))
theorem r_din (hi : RE K E ti fi) (ho : RE K E to fo) : RE K E (tDIn ti to) (pOp gDIn fi fo) := fun ρ σ H α M Q e w h0 =>
  hi ρ σ H α M _ e w (bnd h0 fun b M1 y α1 H1 _ s1 w1 r1 h1 =>
    ho ρ σ H1 α1 M1 _ (e.step s1) w1 (bnd h1 fun a M2 x α2 H2 _ s2 w2 r2 q => by
      unfold gDIn at q
      split at q
      · rename_i kvs k hd hk
        obtain ⟨n, p, qq, rfl, rfl, ea, hm, e2, e3⟩ := dct_ok w2 r2 hd
        refine ⟨p, valV qq k, rfl, .inl ⟨qq, k, .inl e2, key_ok (Rep.step s2 _ _ r1) hk, rfl⟩, ?_⟩
        have : (valV qq k).isSome = (getK kvs k).isSome := by
          cases hg : getK kvs k with
          | none => rw [(get_ok (k := k) e3).2 hg]; rfl
          | some d => obtain ⟨v, hv, _⟩ := (get_ok (k := k) e3).1 d hg; rw [hv]; rfl
        rw [this]
        exact q.now w2 (.bl _)
      · exact q.elim))
theorem r_dnotin (hi : RE K E ti fi) (ho : RE K E to fo) : RE K E (tDNotIn ti to) (pOp gDNotIn fi fo) := fun ρ σ H α M Q e w h0 =>
  hi ρ σ H α M _ e w (bnd h0 fun b M1 y α1 H1 _ s1 w1 r1 h1 =>
    ho ρ σ H1 α1 M1 _ (e.step s1) w1 (bnd h1 fun a M2 x α2 H2 _ s2 w2 r2 q => by
      unfold gDNotIn at q
      split at q
      · rename_i kvs k hd hk
        obtain ⟨n, p, qq, rfl, rfl, ea, hm, e2, e3⟩ := dct_ok w2 r2 hd
        refine ⟨p, valV qq k, rfl, .inl ⟨qq, k, .inl e2, key_ok (Rep.step s2 _ _ r1) hk, rfl⟩, ?_⟩
        have : (valV qq k).isSome = (getK kvs k).isSome := by
          cases hg : getK kvs k with
          | none => rw [(get_ok (k := k) e3).2 hg]; rfl
          | some d => obtain ⟨v, hv, _⟩ := (get_ok (k := k) e3).1 d hg; rw [hv]; rfl
        rw [this]
        exact q.now w2 (.bl _)
      · exact q.elim))
theorem s_put (ho : RE K E to fo) (hi : RE K E ti fi) (he : RE K E te fe) : RS K E (sDPut to ti te) (sPut fo fi fe) := fun ρ σ H α M D e w h0 =>
  he ρ σ H α M _ e w (bnd h0 fun v M1 x α1 H1 _ s1 w1 r1 h1 =>
    ho ρ σ H1 α1 M1 _ (e.step s1) w1 (bnd h1 fun a M2 y α2 H2 _ s2 w2 r2 h2 =>
      hi ρ σ H2 α2 M2 _ ((e.step s1).step s2) w2 (bnd h2 fun b M3 z α3 H3 _ s3 w3 r3 q => by
        unfold putD at q
        split at q
        · rename_i n kvs k hk hfo hd
          obtain ⟨n', p, qq, e0, rfl, ea, hm, e2, e3⟩ := dct_ok w3 (Rep.step s3 _ _ r2) hd
          cases e0
          obtain ⟨hl, q⟩ : kvs.length < line ∧ Post (FlR K) K α3 H3 (endQ D) E ((Out.ok () (M3.set n (.dct (setK kvs k v)))).bind fun _ M4 => .ok (.nx ρ) M4) := by
            by_cases hl : kvs.length < line
            · rw [if_pos hl] at q; exact ⟨hl, q⟩
            · rw [if_neg hl] at q; exact q.elim
          obtain ⟨w4, s4⟩ := w3.put (m := .dct (setK kvs k v)) (o := .dK (putK qq k x)) ea (List.getElem?_eq_some_iff.mp hm).1 fun H' st e => ⟨_, e, dput_ok (Rep.step st _ _ (Rep.step s3 _ _ (Rep.step s2 _ _ r1))) (DL.step st e3)⟩
          refine ⟨p, _, rfl, .inl ⟨qq, k, e2, key_ok r3 hk, by rw [← e3.length, ← line_eq]; exact hl, rfl⟩, ?_⟩
          exact q (FlV.nx σ) _ _ s4 w4 ((((e.step s1).step s2).step s3).step s4)
        · exact q.elim)))
end
section
variable {X : Cx} {E : XK} {o i e : Expr} {fo fi fe : FE} {pos pos' : Pos}
theorem pd_newD : PD X E (.Dict [] [] pos) pNewD := ⟨_, pe_dnewK, r_newD⟩
theorem pd_dget (hu : X.A.units + 1 < cLine) (ho : PD X E o fo) (hi : PD X E i fi) (hs : NoSl i := by exact fun _ _ => rfl) : PD X E (.Subscript o i pos) (pOp gDGet fo fi) := by
  obtain ⟨t, ho, r⟩ := ho
  obtain ⟨u, hi, q⟩ := hi
  exact ⟨_, pe_dget hu ho hi hs, r_dget r q⟩
theorem pd_din (hu : X.A.units + 1 < cLine) (hi : PD X E i fi) (ho : PD X E o fo) (hm : behindInMarks .In o = false := by rfl) : PD X E (.Compare i [.In] [o] pos) (pOp gDIn fi fo) := by
  obtain ⟨t, ho, r⟩ := ho
  obtain ⟨u, hi, q⟩ := hi
  exact ⟨_, pe_cmp (pc_din hu hi ho) hm, r_din q r⟩
theorem pd_dnotin (hu : X.A.units + 1 < cLine) (hi : PD X E i fi) (ho : PD X E o fo) (hm : behindInMarks .NotIn o = false := by rfl) : PD X E (.Compare i [.NotIn] [o] pos) (pOp gDNotIn fi fo) := by
  obtain ⟨t, ho, r⟩ := ho
  obtain ⟨u, hi, q⟩ := hi
  exact ⟨_, pe_cmp (pc_dnotin hu hi ho) hm, r_dnotin q r⟩
theorem pdt_din (hu : X.A.units + 1 < cLine) (hi : PD X E i fi) (ho : PD X E o fo) (hm : behindInMarks .In o = false := by rfl) : PDT X E (.Compare i [.In] [o] pos) (pTest (pOp gDIn fi fo)) := by
  obtain ⟨t, ho, r⟩ := ho
  obtain ⟨u, hi, q⟩ := hi
  exact ⟨_, pt_cmp (pc_din hu hi ho) hm, r_tB (r_din q r)⟩
theorem pdt_dnotin (hu : X.A.units + 1 < cLine) (hi : PD X E i fi) (ho : PD X E o fo) (hm : behindInMarks .NotIn o = false := by rfl) : PDT X E (.Compare i [.NotIn] [o] pos) (pTest (pOp gDNotIn fi fo)) := by
  obtain ⟨t, ho, r⟩ := ho
  obtain ⟨u, hi, q⟩ := hi
  exact ⟨_, pt_cmp (pc_dnotin hu hi ho) hm, r_tB (r_dnotin q r)⟩
theorem pds_put (hu : X.A.units + 1 < cLine) (ho : PD X E o fo) (hi : PD X E i fi) (he : PD X E e fe) (hs : swapsWith e (some (.Subscript o i pos')) pos.line X.env = pure false := by rfl) : PDS X E (.Assign [.Subscript o i pos'] e pos) (sPut fo fi fe) := by
  obtain ⟨t, ho, r⟩ := ho
  obtain ⟨u, hi, q⟩ := hi
  obtain ⟨v, he, z⟩ := he
  exact ⟨_, ps_dput hu ho hi he hs, s_put r q z⟩
theorem units_of {k : Nat} (h : Room k X.A) : X.A.units + 1 < cLine := by
  have := h.un
  omega
end
end Pd

set_option Elab.async false
set_option linter.all false
set_option maxRecDepth 100000
set_option maxHeartbeats 2000000
namespace Pd
open PySem L2 PyProof.Rows

/-! ### defs that raise -/
def clF (n : Nat) : Option (List (Str × D)) → Bool
  | none => true
  | some fs => clL n (fs.map (·.2))
def finX (n : Nat) (c : Value) (fs : Option (List (Str × D))) (M' : PM) : Out D :=
  if n ≤ M'.length ∧ (M'.take n).all (clMO n) = true ∧ clF n fs = true then .exn c fs (M'.take n) else .bad
/-- as run, and what is raised goes on -/
def runX (ar : Nat) (N : List Str) (g : FS) : List D → PM → Out D := fun ds M => if ds.length = ar then (match g (rho0 N ds) M with
  | .ok (.rt d) M' => fin M.length d M'
  | .ok (.nx _) M' => fin M.length .non M'
  | .exn c fs M' => finX M.length c fs M'
  | _ => .bad) else .bad
section
variable {K : PySem.W.Frag} {E : XK} {α : List Addr} {H : Hp}
theorem xrep_trim (n : Nat) {fs : Option (List (Str × D))} {od : Option Addr} (c : clF n fs = true) (h : XRep K α H fs od) : XRep K (α.take n) H fs od := by
  cases fs with
  | none => exact h
  | some fs =>
    obtain ⟨dd, vs, h1, h2, h4, h3⟩ := h
    exact ⟨dd, vs, h1, h2, fun z => h4 (List.mem_of_mem_take z), RepL.trim n _ _ c h3⟩
theorem run_post {Q : V → Hp → Prop} {d : D} {M M'' : PM} (hw : Wd K α M H) (hp : Post (Rep K) K α H Q E (fin M.length d M'')) : ∀ v α' H', Step α H α' H' → Wd K α' M'' H' → Rep K α' H' d v → Q v H' := by
  cases hf : fin M.length d M'' with
  | ok r M1 =>
    rw [hf] at hp
    obtain ⟨hM, hs⟩ := fin_ok hf
    intro v α' H' st w' r'
    obtain ⟨w2, r2⟩ := shut_ok hs w' r'
    exact hp v _ H' (st.trim (by rw [hw.len]; exact hM)) w2 r2
  | exn c fs M1 => exact (fin_no hf).elim
  | bad => rw [hf] at hp; exact hp.elim
theorem runX_post {ar : Nat} {N : List Str} {g : FS} {ds : List D} {M : PM} {Q : V → Hp → Prop} (hw : Wd K α M H) (hl : ds.length = ar) (hp : Post (Rep K) K α H Q E (runX ar N g ds M)) :
    Post (FlR K) K α H (endQ { nx := fun _ H' => Q .non H', rt := Q }) E (g (rho0 N ds) M) := by
  unfold runX at hp
  rw [if_pos hl] at hp
  cases hg : g (rho0 N ds) M with
  | ok fl M' =>
    rw [hg] at hp
    cases fl with
    | rt d =>
      have key := run_post hw hp
      intro b α' H' st w' r'
      cases b with
      | rt v => exact key v α' H' st w' r'
      | _ => exact r'.elim
    | nx ρ =>
      have key := run_post (d := .non) hw hp
      intro b α' H' st w' r'
      cases b with
      | nx σ => exact key .non α' H' st w' .non
      | _ => exact r'.elim
    | _ => exact hp.elim
  | exn c fs M' =>
    rw [hg] at hp
    have hp' : Post (Rep K) K α H Q E (finX M.length c fs M') := hp
    unfold finX at hp'
    obtain ⟨⟨h1, h2, h3⟩, hp'⟩ := ifb hp'
    intro od α' H' st w' x'
    have hl' : (M'.take M.length).length = M.length := by rw [List.length_take]; omega
    have w2 : Wd K (α'.take M.length) (M'.take M.length) H' := by
      have := Wd.trim (M' := M'.take M.length) (junk := M'.drop M.length) (by rw [List.take_append_drop]; exact w') (fun m hm => by rw [hl']; exact List.all_eq_true.mp h2 m hm)
      rw [hl'] at this
      exact this
    exact hp' od _ H' (st.trim (by rw [hw.len]; exact Nat.le_refl _)) w2 (xrep_trim _ h3 x')
  | bad =>
    rw [hg] at hp
    exact hp.elim
end
/-- .. keeps the promise Φ, and may raise -/
structure CalleeX (P : Program) (w : World) (K : PySem.W.Frag) (mg : Str → Option Value) (base : Heap) (x : Str) (k : Nat) (Φ : List D → PM → Out D) : Prop where
  ex : ∃ f fd ps, FnOk P w K mg base (CX P w) k f fd ps (spP K Φ) ∧ mg x = some (.ref f) ∧ PySem.W.keepIn K (.ref f) = true ∧ Binds K fd ps []
section
variable {P : Program} {w : World} {K : PySem.W.Frag} {mg : Str → Option Value} {base : Heap} {x : Str} {st : Stmt} {N ps : List Str} {k : Nat} {g : FS}
theorem callee_runX {ar : Nat} (F : FunM K mg x st ps) (S : FnScope N ps (defScope st)) (ha : ps.length = ar)
    (body : ∀ (f : Addr) (cdv : Value) (A : Around) (outer : List PySem.Env) (s : Shared) (H : Hp) (E : XK), Room k (A.deeper (envOfC x (defScope st) s.heap.objs.size f cdv)) → PDB (cxOf (CX P w) P w K mg base N x (defScope st) f cdv A outer s H E) E (defBody st) g) : CalleeX P w K mg base x (k + 1) (runX ar N g) := by
  obtain ⟨f, fd, h1, h2, h3⟩ := F.ex
  refine ⟨f, fd, ps, h1.okX S (fun vs H Q E h => ?_) (fun cdv A outer s H vs Q E hr h => ?_), h2, h1.kp, Binds.all h3⟩
  · obtain ⟨ds, α, M, hw, hr, hp⟩ := h
    by_cases e : ds.length = ar
    · rw [← hr.length, ha]; exact e
    · unfold runX at hp
      rw [if_neg e] at hp
      exact hp.elim
  · obtain ⟨ds, α, M, hw, hrp, hp⟩ := h
    obtain ⟨t, t1, t2⟩ := body f cdv A outer s H E hr
    have hlen : ds.length = ar := by
      by_cases e : ds.length = ar
      · exact e
      · unfold runX at hp
        rw [if_neg e] at hp
        exact hp.elim
    exact ⟨t, t1, t2 (rho0 N ds) _ H α M _ (env0 hrp) hw (runX_post hw hlen hp)⟩
end
section
variable {X : Cx} {E : XK} {e : Expr} {es : List Expr} {pos p : Pos} {x : Str}
/-- a call of a def that raises nothing, anywhere -/
theorem pd_callN {k : Nat} {Φ : List D → PM → Out D} {fargs : FA} (c : Callee X.prog X.w X.K X.mg X.base x k Φ) (hr : Room k X.A) (hg : Gl X x) (ha : PDA X E (e :: es) fargs) (hdb : (x == ("__debug__" : Str)) = false := by decide)
    (he : starEach (e :: es) X.env = (false, eval e X.env) :: starEach es X.env := by rfl) (hpl : (backTo pos (starEach es X.env)).any (·.1) = false := by rfl) : PD X E (.Call (.Name x p) (e :: es) [] pos) (pCall Φ fargs) := by
  obtain ⟨f, fd, ps, h1, h2, h3, h4⟩ := c.ex
  exact pd_call h1 hr hg h2 h3 h4 (fun _ _ _ _ _ _ _ z => z.elim) ha hdb he hpl
/-- a call of a def that may raise: what it raises leaves this def, too -/
theorem pd_callX {k : Nat} {Φ : List D → PM → Out D} {fargs : FA} (c : CalleeX X.prog X.w X.K X.mg X.base x k Φ) (tk : Takes X fun cls d _ H => E cls d H) (hr : Room k X.A) (hg : Gl X x) (ha : PDA X E (e :: es) fargs) (hdb : (x == ("__debug__" : Str)) = false := by decide)
    (he : starEach (e :: es) X.env = (false, eval e X.env) :: starEach es X.env := by rfl) (hpl : (backTo pos (starEach es X.env)).any (·.1) = false := by rfl) : PD X E (.Call (.Name x p) (e :: es) [] pos) (pCall Φ fargs) := by
  obtain ⟨f, fd, ps, h1, h2, h3, h4⟩ := c.ex
  exact pd_call h1 hr hg h2 h3 h4 (passes_call tk fun _ _ _ _ h => h) ha hdb he hpl
end
/-! ### an own error -/
def okV : V → Prop
  | .int i => 0 ≤ i ∧ i.natAbs < 18446744073709551616
  | .str z => z.length ≤ 1000
  | _ => False
def okD : D → Bool
  | .int i => decide (0 ≤ i ∧ i.natAbs < 18446744073709551616)
  | .str z => decide (z.length ≤ 1000)
  | _ => false
/-- what an own error's __init__ leaves: its fields, the last one stored first -/
def spErr (C : Addr) (nr : List Str) : Sp := fun vs H Q _ => ∃ a ws, vs = .ref a :: ws ∧ ws.length = nr.length ∧ (∀ x ∈ ws, okV x) ∧ H a = some (exo a C none) ∧
  ∀ d H2, H d = none → d ≠ a → H2 a = some (exo a C (some d)) → H2 d = some (exd d (nr.zip ws.reverse)) → (∀ b, b ≠ a → b ≠ d → H2 b = H b) → Q .non H2
structure ErrK (P : Program) (w : World) (K : PySem.W.Frag) (mg : Str → Option Value) (base : Heap) (x : Str) (k : Nat) (C : Addr) (nr : List Str) : Prop where
  ex : ∃ fI fd ps, OexC K C ∧ PySem.W.findIn K (.ref C) "__init__" = some (some (.ref fI)) ∧ PySem.W.typeIn K (.ref fI) = some (.type "function") ∧ FnOk P w K mg base CX0 k fI fd ps (spErr C nr) ∧ Binds K fd ps [] ∧ mg x = some (.ref C)
def sRaise (C : Addr) (nr : List Str) (fa : FA) : FS := fun ρ M => (fa ρ M).bind fun ds M1 => if ds.length = nr.length ∧ nr.length ≤ 1000 ∧ ds.all okD = true then .exn (.ref C) (some (nr.zip ds.reverse)) M1 else .bad
section
variable {K : PySem.W.Frag} {E : XK} {α : List Addr} {H : Hp}
theorem okD_ok : ∀ {ds : List D} {xs : List V}, RepL K α H ds xs → ds.all okD = true → ∀ x ∈ xs, okV x
  | _, _, .nil, _, x, h => by cases h
  | d :: ds, _, .cons (v := v) r t, c, x, h => by
    rw [List.all_cons, Bool.and_eq_true] at c
    rcases List.mem_cons.mp h with e | e
    · subst e
      cases d with
      | int i => cases r; exact of_decide_eq_true (p := 0 ≤ i ∧ i.natAbs < 18446744073709551616) c.1
      | str z => cases r; exact of_decide_eq_true (p := z.length ≤ 1000) c.1
      | _ => exact absurd c.1 Bool.false_ne_true
    · exact okD_ok t c.2 x e
theorem repL_rev2 {ds : List D} {xs : List V} (r : RepL K α H ds xs) : RepL K α H ds.reverse xs.reverse := repL_rev r
theorem s_raise {C : Addr} {nr : List Str} {ta : TA} {fa : FA} (ha : RA K E ta fa) : RS K E (fun _ σ H => tMkO C (spErr C nr) [] ta σ H fun cls d H' => E cls d H') (sRaise C nr fa) := fun ρ σ H α M D e w h =>
  ha ρ σ H α M _ e w (bnd h fun as M1 xs α1 H1 _ s1 w1 r1 q => by
    obtain ⟨⟨h1, h2, h3⟩, q⟩ := ifb q
    refine ⟨by rw [← r1.length, h1]; exact h2, fun a hna => ?_⟩
    rw [List.append_nil]
    refine ⟨a, xs, rfl, by rw [← r1.length, h1], okD_ok r1 h3, upd_same, fun d H2 hd hda e1 e2 e3 => ⟨rfl, d, _, e1, e2, ?_, ?_⟩⟩
    · rw [upd_ne hda] at hd
      exact hd
    · have hd1 : H1 d = none := by rw [upd_ne hda] at hd; exact hd
      have e4 : upd (del H2 a) d (.xd (nr.zip xs.reverse)) = upd H1 d (.xd (nr.zip xs.reverse)) := by
        funext b
        by_cases hb : b = d
        · subst hb
          rw [upd_same, upd_same]
        · rw [upd_ne hb, upd_ne hb]
          by_cases hba : b = a
          · subst hba
            rw [hna]
            unfold del
            simp
          · have : del H2 a b = H2 b := by
              unfold del
              simp [hba]
            rw [this, e3 b hba hb, upd_ne hba]
      rw [e4]
      have st : Step α1 H1 α1 (upd H1 d (.xd (nr.zip xs.reverse))) := Step.ex (ex_new hd1)
      refine q (some d) α1 _ st (w1.ex (ex_new hd1)) ?_
      have l1 : (nr.zip as.reverse).map (·.1) = nr := List.map_fst_zip (by rw [List.length_reverse, h1]; exact Nat.le_refl _)
      have l2 : (nr.zip as.reverse).map (·.2) = as.reverse := List.map_snd_zip (by rw [List.length_reverse, h1]; exact Nat.le_refl _)
      refine ⟨d, xs.reverse, rfl, ?_, fun z => ?_, ?_⟩
      · rw [l1]
        exact upd_same
      · obtain ⟨o, eo⟩ := w1.there z
        rw [hd1] at eo
        cases eo
      · rw [l2]
        exact RepL.step st _ _ (repL_rev r1))
end
section
variable {X : Cx} {E : XK} {e : Expr} {es : List Expr} {pos p rpos : Pos} {x : Str}
theorem pds_raise {k : Nat} {C : Addr} {nr : List Str} {fargs : FA} (c : ErrK X.prog X.w X.K X.mg X.base x k C nr) (hc : X.calm = true) (tk : Takes X fun cls d _ H => E cls d H) (hr : Room (k + 1) X.A) (hg : Gl X x) (ha : PDA X E (e :: es) fargs) (hdb : (x == ("__debug__" : Str)) = false := by decide)
    (he : starEach (e :: es) X.env = (false, eval e X.env) :: starEach es X.env := by rfl) (hpl : (backTo pos (starEach es X.env)).any (·.1) = false := by rfl) : PDS X E (.Raise (some (.Call (.Name x p) (e :: es) [] pos)) none rpos) (sRaise C nr fargs) := by
  obtain ⟨fI, fd, ps, h1, h2, h3, h4, h5, h6⟩ := c.ex
  obtain ⟨t, ha, r⟩ := ha
  exact ⟨_, ps_raise hc tk (pmk_oex h1 h2 h3 h4 hr h5 .nil (fun _ _ _ _ _ _ _ z => z.elim) hg h6 ha hdb he hpl), s_raise r⟩
end
end Pd

set_option Elab.async false
set_option linter.all false
set_option maxRecDepth 100000
set_option maxHeartbeats 1000000
namespace Pd
open PySem L2 PyProof.Rows

/-! ### math.gcd of two or three numbers -/
theorem run_gcd3 (a : Int) (t : Tok) (b : Int) (u : Tok) (c : Int) (v : Tok) :
    Gives (Builtin.«math.gcd» ⟨[.int a t, .int b u, .int c v], []⟩) (.int (((((Nat.gcd 0 a.natAbs).gcd b.natAbs).gcd c.natAbs : Nat) : Int))) :=
  .of_wp fun M A E s Q h => by obtain ⟨hp, g, d, tk, os⟩ := s; wp_walk; exact ⟨_, rfl, h⟩
theorem args_gcd3 (a b c : Value) : argsOk "math.gcd" ⟨[a, b, c], []⟩ := by unfold argsOk; kernel_rfl
def gcdI (a b : Int) : Int := ((Nat.gcd a.natAbs b.natAbs : Nat) : Int)
def bGcd : PM → List D → Out D := fun M as => match as with
  | [.int a, .int b] => .ok (.int (gcdI a b)) M
  | [.int a, .int b, .int c] => .ok (.int (gcdI (gcdI a b) c)) M
  | _ => .bad
def rGcdD : List V → Hp → VK → Prop := fun vs H Q => (∃ a b : Int, vs = [.int a, .int b] ∧ Q (.int (gcdI a b)) H) ∨ ∃ a b c : Int, vs = [.int a, .int b, .int c] ∧ Q (.int (gcdI (gcdI a b) c)) H
section
variable {X : Cx} {E : XK}
theorem cr_gcdD : CallR X (.builtin "math.gcd") rGcdD := by
  intro pins s σ H vs us Q I r h
  rcases h with ⟨a, b, rfl, q⟩ | ⟨a, b, c, rfl, q⟩
  · obtain ⟨t, u, rfl⟩ := Vals.int2 r
    exact PySem.W.mg_gcd fun _ => ⟨.int _, H, I.tok _, ⟨_, rfl⟩, q⟩
  · obtain ⟨t, u, v, rfl⟩ : ∃ t u v, us = [Value.int a t, Value.int b u, Value.int c v] := by
      cases r with
      | cons r tl =>
        obtain ⟨t, rfl⟩ := r
        obtain ⟨u, v, rfl⟩ := Vals.int2 tl
        exact ⟨t, u, v, rfl⟩
    have g := run_gcd3 a t b u c v
    rw [Nat.gcd_zero_left] at g
    exact call_function_meets PySem.W.MGF.kind_gcd PySem.W.MGF.plain_gcd PySem.W.MGF.entry_gcd (args_gcd3 _ _ _) g.meets ⟨.int _, H, I.tok _, ⟨_, rfl⟩, q⟩
theorem b_gcd : Blt X E (.builtin "math.gcd") bGcd := ⟨_, cr_gcdD, fun α H M as xs Q w ra q => by
  unfold bGcd at q
  split at q
  · obtain ⟨x, y, rfl, r1, r2⟩ := rep2 ra
    cases r1
    cases r2
    exact .inl ⟨_, _, rfl, q.now w (.int _)⟩
  · rename_i a b c
    cases ra with
    | cons r1 t =>
      obtain ⟨x, y, rfl, r2, r3⟩ := rep2 t
      cases r1
      cases r2
      cases r3
      exact .inr ⟨_, _, _, rfl, q.now w (.int _)⟩
  · exact q.elim⟩
theorem pd_callBf {x : Str} {e : Expr} {es : List Expr} {p pos : Pos} {id : String} {g : PM → List D → Out D} {fargs : FA} (hc : Blt X E (.builtin id) g) (hg : Gl X x) (hm : X.mg x = some (.builtin id)) (ha : PDA X E (e :: es) fargs) (hdb : (x == ("__debug__" : Str)) = false := by decide)
    (he : starEach (e :: es) X.env = (false, eval e X.env) :: starEach es X.env := by rfl) (hpl : (backTo pos (starEach es X.env)).any (·.1) = false := by rfl) : PD X E (.Call (.Name x p) (e :: es) [] pos) (pCB g fargs) := by
  obtain ⟨r, h1, h2⟩ := hc
  obtain ⟨t, ha, rr⟩ := ha
  exact ⟨_, pe_callBfun h1 hg hm ha hdb he hpl, r_cb rr h2⟩
end
end Pd

set_option Elab.async false
set_option linter.all false
set_option maxRecDepth 100000
set_option maxHeartbeats 1000000
namespace Pd
open PySem L2

/-! ### is True, is False -/
def gIsB : PM → D → D → Out D := fun M a b => match a, b with
  | .bl x, .bl y => .ok (.bl (decide (x = y))) M
  | _, _ => .bad
def gIsNotB : PM → D → D → Out D := fun M a b => match a, b with
  | .bl x, .bl y => .ok (.bl (!decide (x = y))) M
  | _, _ => .bad
def gIs2 : PM → D → D → Out D := gor gIs' gIsB
def gIsNot2 : PM → D → D → Out D := gor gIsNot' gIsNotB
section
variable {K : PySem.W.Frag} {E : XK} {X : Cx}
theorem od_isB : OpD K E rIsB gIsB := fun α H M a b x y Q w ra rb q => by
  unfold gIsB at q
  split at q
  · cases ra
    cases rb
    exact ⟨_, _, rfl, rfl, q.now w (.bl _)⟩
  · exact q.elim
theorem od_isNotB : OpD K E rNotB gIsNotB := fun α H M a b x y Q w ra rb q => by
  unfold gIsNotB at q
  split at q
  · cases ra
    cases rb
    exact ⟨_, _, rfl, rfl, q.now w (.bl _)⟩
  · exact q.elim
theorem o_is2 : Op2 X E (compareOp .Is) gIs2 := ⟨_, op_isN1.or op_isBl, od_is.or od_isB⟩
theorem o_isNot2 : Op2 X E (compareOp .IsNot) gIsNot2 := ⟨_, op_notN1.or op_notBl, od_isNot.or od_isNotB⟩
end
section
variable {M : PM}
theorem e_is_tup (ds : List D) : gIs2 M (.tup ds) .non = .ok (.bl false) M := rfl
theorem e_is_lst (ds : List D) : gIs2 M (.lst ds) .non = .ok (.bl false) M := rfl
theorem e_is_int (i : Int) : gIs2 M (.int i) .non = .ok (.bl false) M := rfl
theorem e_is_str (x : Str) : gIs2 M (.str x) .non = .ok (.bl false) M := rfl
theorem e_is_bl (x : Bool) : gIs2 M (.bl x) .non = .ok (.bl false) M := rfl
theorem e_is_non : gIs2 M .non .non = .ok (.bl true) M := rfl
theorem e_is_adr (i : Nat) : gIs2 M (.adr i) .non = .ok (.bl false) M := rfl
theorem e_isNot_tup (ds : List D) : gIsNot2 M (.tup ds) .non = .ok (.bl true) M := rfl
theorem e_isNot_lst (ds : List D) : gIsNot2 M (.lst ds) .non = .ok (.bl true) M := rfl
theorem e_isNot_int (i : Int) : gIsNot2 M (.int i) .non = .ok (.bl true) M := rfl
theorem e_isNot_str (x : Str) : gIsNot2 M (.str x) .non = .ok (.bl true) M := rfl
theorem e_isNot_bl (x : Bool) : gIsNot2 M (.bl x) .non = .ok (.bl true) M := rfl
theorem e_isNot_non : gIsNot2 M .non .non = .ok (.bl false) M := rfl
theorem e_isNot_adr (i : Nat) : gIsNot2 M (.adr i) .non = .ok (.bl true) M := rfl
theorem e_isB (x y : Bool) : gIs2 M (.bl x) (.bl y) = .ok (.bl (decide (x = y))) M := rfl
theorem e_isNotB (x y : Bool) : gIsNot2 M (.bl x) (.bl y) = .ok (.bl (!decide (x = y))) M := rfl
theorem e_neg (i : Int) : gNeg M (.int i) = .ok (.int (-i)) M := rfl
theorem e_eqNN : gEq M .non .non = .ok (.bl true) M := rfl
theorem e_eqSN (x : Str) : gEq M (.str x) .non = .ok (.bl false) M := rfl
theorem e_eqNS (x : Str) : gEq M .non (.str x) = .ok (.bl false) M := rfl
theorem e_neB (x y : Bool) : gNe M (.bl x) (.bl y) = .ok (.bl (!decide (x = y))) M := rfl
theorem e_intB (x : Bool) : bInt M [.bl x] = .ok (.int (if x then 1 else 0)) M := rfl
theorem e_max2 (i j : Int) : bMax2 M [.int i, .int j] = .ok (.int (max i j)) M := by
  show Out.ok (D.int (if j > i then j else i)) M = _
  congr 2
  split <;> omega
theorem e_min2 (i j : Int) : bMin2 M [.int i, .int j] = .ok (.int (min i j)) M := by
  show Out.ok (D.int (if j < i then j else i)) M = _
  congr 2
  split <;> omega
theorem e_gcd2 (i j : Int) : bGcd M [.int i, .int j] = .ok (.int (gcdI i j)) M := rfl
theorem e_gcd3 (i j k : Int) : bGcd M [.int i, .int j, .int k] = .ok (.int (gcdI (gcdI i j) k)) M := rfl
theorem e_lenT (ds : List D) : bLen M [.tup ds] = .ok (.int (ds.length : Int)) M := rfl
theorem e_lenL (ds : List D) : bLen M [.lst ds] = .ok (.int (ds.length : Int)) M := rfl
theorem e_lenR (ds : List D) : bLen M [.rol ds] = .ok (.int (ds.length : Int)) M := rfl
theorem e_tupL (ds : List D) : bTuple M [.lst ds] = .ok (.tup ds) M := rfl
theorem e_listT (ds : List D) : bList M [.tup ds] = .ok (.lst ds) M := rfl
theorem e_listL (ds : List D) : bList M [.lst ds] = .ok (.lst ds) M := rfl
theorem e_strS (x : Str) : bStr M [.str x] = .ok (.str x) M := rfl
theorem e_slT (ds : List D) (lo hi : Option Int) : gSl M (.tup ds) lo hi = .ok (.tup (cutD ds lo hi)) M := rfl
theorem e_slL (ds : List D) (lo hi : Option Int) : gSl M (.lst ds) lo hi = .ok (.lst (cutD ds lo hi)) M := rfl

theorem e_ix_tup0 (a0 : D) (l : List D) : gIx M (.tup (a0 :: l)) (.int 0) = .ok a0 M := gIx_seq (seq_tup _) (by unfold atI; rw [show ((0 : Int)) = ((0 : Nat) : Int) from rfl, ixN_nat (by simp only [List.length_cons]; omega)]; rfl)
theorem e_ix_tup1 (a0 a1 : D) (l : List D) : gIx M (.tup (a0 :: a1 :: l)) (.int 1) = .ok a1 M := gIx_seq (seq_tup _) (by unfold atI; rw [show ((1 : Int)) = ((1 : Nat) : Int) from rfl, ixN_nat (by simp only [List.length_cons]; omega)]; rfl)
theorem e_ix_tup2 (a0 a1 a2 : D) (l : List D) : gIx M (.tup (a0 :: a1 :: a2 :: l)) (.int 2) = .ok a2 M := gIx_seq (seq_tup _) (by unfold atI; rw [show ((2 : Int)) = ((2 : Nat) : Int) from rfl, ixN_nat (by simp only [List.length_cons]; omega)]; rfl)
theorem e_ix_tup3 (a0 a1 a2 a3 : D) (l : List D) : gIx M (.tup (a0 :: a1 :: a2 :: a3 :: l)) (.int 3) = .ok a3 M := gIx_seq (seq_tup _) (by unfold atI; rw [show ((3 : Int)) = ((3 : Nat) : Int) from rfl, ixN_nat (by simp only [List.length_cons]; omega)]; rfl)
theorem e_ix_tup4 (a0 a1 a2 a3 a4 : D) (l : List D) : gIx M (.tup (a0 :: a1 :: a2 :: a3 :: a4 :: l)) (.int 4) = .ok a4 M := gIx_seq (seq_tup _) (by unfold atI; rw [show ((4 : Int)) = ((4 : Nat) : Int) from rfl, ixN_nat (by simp only [List.length_cons]; omega)]; rfl)
theorem e_ix_tup5 (a0 a1 a2 a3 a4 a5 : D) (l : List D) : gIx M (.tup (a0 :: a1 :: a2 :: a3 :: a4 :: a5 :: l)) (.int 5) = .ok a5 M := gIx_seq (seq_tup _) (by unfold atI; rw [show ((5 : Int)) = ((5 : Nat) : Int) from rfl, ixN_nat (by simp only [List.length_cons]; omega)]; rfl)
theorem e_ix_lst0 (a0 : D) (l : List D) : gIx M (.lst (a0 :: l)) (.int 0) = .ok a0 M := gIx_seq (seq_lst _) (by unfold atI; rw [show ((0 : Int)) = ((0 : Nat) : Int) from rfl, ixN_nat (by simp only [List.length_cons]; omega)]; rfl)
theorem e_ix_lst1 (a0 a1 : D) (l : List D) : gIx M (.lst (a0 :: a1 :: l)) (.int 1) = .ok a1 M := gIx_seq (seq_lst _) (by unfold atI; rw [show ((1 : Int)) = ((1 : Nat) : Int) from rfl, ixN_nat (by simp only [List.length_cons]; omega)]; rfl)
theorem e_ix_lst2 (a0 a1 a2 : D) (l : List D) : gIx M (.lst (a0 :: a1 :: a2 :: l)) (.int 2) = .ok a2 M := gIx_seq (seq_lst _) (by unfold atI; rw [show ((2 : Int)) = ((2 : Nat) : Int) from rfl, ixN_nat (by simp only [List.length_cons]; omega)]; rfl)
theorem e_ix_lst3 (a0 a1 a2 a3 : D) (l : List D) : gIx M (.lst (a0 :: a1 :: a2 :: a3 :: l)) (.int 3) = .ok a3 M := gIx_seq (seq_lst _) (by unfold atI; rw [show ((3 : Int)) = ((3 : Nat) : Int) from rfl, ixN_nat (by simp only [List.length_cons]; omega)]; rfl)
theorem e_ix_lst4 (a0 a1 a2 a3 a4 : D) (l : List D) : gIx M (.lst (a0 :: a1 :: a2 :: a3 :: a4 :: l)) (.int 4) = .ok a4 M := gIx_seq (seq_lst _) (by unfold atI; rw [show ((4 : Int)) = ((4 : Nat) : Int) from rfl, ixN_nat (by simp only [List.length_cons]; omega)]; rfl)
theorem e_ix_lst5 (a0 a1 a2 a3 a4 a5 : D) (l : List D) : gIx M (.lst (a0 :: a1 :: a2 :: a3 :: a4 :: a5 :: l)) (.int 5) = .ok a5 M := gIx_seq (seq_lst _) (by unfold atI; rw [show ((5 : Int)) = ((5 : Nat) : Int) from rfl, ixN_nat (by simp only [List.length_cons]; omega)]; rfl)
theorem e_ix_rol0 (a0 : D) (l : List D) : gIx M (.rol (a0 :: l)) (.int 0) = .ok a0 M := gIx_seq (seq_rol _) (by unfold atI; rw [show ((0 : Int)) = ((0 : Nat) : Int) from rfl, ixN_nat (by simp only [List.length_cons]; omega)]; rfl)
theorem e_ix_rol1 (a0 a1 : D) (l : List D) : gIx M (.rol (a0 :: a1 :: l)) (.int 1) = .ok a1 M := gIx_seq (seq_rol _) (by unfold atI; rw [show ((1 : Int)) = ((1 : Nat) : Int) from rfl, ixN_nat (by simp only [List.length_cons]; omega)]; rfl)
theorem e_ix_rol2 (a0 a1 a2 : D) (l : List D) : gIx M (.rol (a0 :: a1 :: a2 :: l)) (.int 2) = .ok a2 M := gIx_seq (seq_rol _) (by unfold atI; rw [show ((2 : Int)) = ((2 : Nat) : Int) from rfl, ixN_nat (by simp only [List.length_cons]; omega)]; rfl)
theorem e_ix_rol3 (a0 a1 a2 a3 : D) (l : List D) : gIx M (.rol (a0 :: a1 :: a2 :: a3 :: l)) (.int 3) = .ok a3 M := gIx_seq (seq_rol _) (by unfold atI; rw [show ((3 : Int)) = ((3 : Nat) : Int) from rfl, ixN_nat (by simp only [List.length_cons]; omega)]; rfl)
theorem e_ix_rol4 (a0 a1 a2 a3 a4 : D) (l : List D) : gIx M (.rol (a0 :: a1 :: a2 :: a3 :: a4 :: l)) (.int 4) = .ok a4 M := gIx_seq (seq_rol _) (by unfold atI; rw [show ((4 : Int)) = ((4 : Nat) : Int) from rfl, ixN_nat (by simp only [List.length_cons]; omega)]; rfl)
theorem e_ix_rol5 (a0 a1 a2 a3 a4 a5 : D) (l : List D) : gIx M (.rol (a0 :: a1 :: a2 :: a3 :: a4 :: a5 :: l)) (.int 5) = .ok a5 M := gIx_seq (seq_rol _) (by unfold atI; rw [show ((5 : Int)) = ((5 : Nat) : Int) from rfl, ixN_nat (by simp only [List.length_cons]; omega)]; rfl)
end
/-! ### what is wanted of a piece -/
@[irreducible] def Wp {A : Type} (o : Out A) (Q : A → PM → Prop) (N : Value → Option (List (Str × D)) → PM → Prop) : Prop := match o with
  | .ok a M => Q a M
  | .exn c fs M => N c fs M
  | .bad => False
def NX : Value → Option (List (Str × D)) → PM → Prop := fun _ _ _ => False
@[irreducible] def Wif (b : Bool) (P R : Unit → Prop) : Prop := if b = true then P () else R ()
@[irreducible] def kW {A : Type} (f : Rho → PM → Out A) (ρ : Rho) (M : PM) (Q : A → PM → Prop) (N : Value → Option (List (Str × D)) → PM → Prop) : Unit → Prop := fun _ => Wp (f ρ M) Q N
@[irreducible] def kV {A : Type} (Q : A → PM → Prop) (a : A) (M : PM) : Unit → Prop := fun _ => Q a M
theorem kW_eq {A : Type} {f : Rho → PM → Out A} {ρ : Rho} {M : PM} {Q : A → PM → Prop} {N : Value → Option (List (Str × D)) → PM → Prop} : kW f ρ M Q N () = Wp (f ρ M) Q N := by with_unfolding_all rfl
theorem kV_eq {A : Type} {Q : A → PM → Prop} {a : A} {M : PM} : kV Q a M () = Q a M := by with_unfolding_all rfl
section
variable {A B : Type} {o o' : Out A} {Q : A → PM → Prop} {N : Value → Option (List (Str × D)) → PM → Prop} {P R : Unit → Prop} {b c : Bool}
theorem wp_ok {a : A} {M : PM} : Wp (.ok a M) Q N = Q a M := by with_unfolding_all rfl
theorem wp_exn {c : Value} {fs : Option (List (Str × D))} {M : PM} : Wp (.exn c fs M) Q N = N c fs M := by with_unfolding_all rfl
theorem wp_bad : Wp .bad Q N = False := by with_unfolding_all rfl
theorem wp_bind {g : B → PM → Out A} {o : Out B} : Wp (o.bind g) Q N = Wp o (fun a M => Wp (g a M) Q N) N := by
  cases o <;> with_unfolding_all rfl
theorem wp_of {d : A} {M' : PM} (h : o = .ok d M') (q : Q d M') : Wp o Q N := by rw [h]; with_unfolding_all exact q
theorem wp_get (h : Wp o Q NX) : ∃ d M', o = .ok d M' ∧ Q d M' := by
  cases o with
  | ok a M => with_unfolding_all exact ⟨a, M, rfl, h⟩
  | exn => with_unfolding_all exact h.elim
  | bad => with_unfolding_all exact h.elim
theorem wp_mono {Q' : A → PM → Prop} (h : Wp o Q N) (k : ∀ a M, Q a M → Q' a M) : Wp o Q' N := by
  cases o with
  | ok a M => with_unfolding_all exact k a M h
  | exn => with_unfolding_all exact h
  | bad => with_unfolding_all exact h.elim
theorem wif_true : Wif true P R = P () := by simp [Wif]
theorem wif_false : Wif false P R = R () := by simp [Wif]
theorem wif_not : Wif (!b) P R = Wif b R P := by cases b <;> simp [Wif]
theorem wif_t (h : b = true) (p : P ()) : Wif b P R := by rw [h, wif_true]; with_unfolding_all exact p
theorem wif_f (h : b = false) (r : R ()) : Wif b P R := by rw [h, wif_false]; with_unfolding_all exact r
theorem wif_b (h1 : b = true → P ()) (h2 : b = false → R ()) : Wif b P R := by
  cases b with
  | true => rw [wif_true]; with_unfolding_all exact h1 rfl
  | false => rw [wif_false]; with_unfolding_all exact h2 rfl
theorem wif_d {p : Prop} [Decidable p] (h1 : p → P ()) (h2 : ¬ p → R ()) : Wif (decide p) P R := wif_b (fun h => h1 (of_decide_eq_true h)) fun h => h2 (of_decide_eq_false h)
end
/-! ### lengths -/
@[irreducible] def Wlen (as : List D) (P : Prop) : Prop := as.length ≤ line ∧ P
theorem wlen_of {as : List D} {P : Prop} (h : as.length ≤ 16777216) (p : P) : Wlen as P := by unfold Wlen; with_unfolding_all exact ⟨h, p⟩
theorem wlen0 {P : Prop} : Wlen [] P = P := by simp [Wlen, line]
theorem wlen1 {a0 : D} {P : Prop} : Wlen [a0] P = P := by simp [Wlen, line]
theorem wlen2 {a0 a1 : D} {P : Prop} : Wlen [a0, a1] P = P := by simp [Wlen, line]
theorem wlen3 {a0 a1 a2 : D} {P : Prop} : Wlen [a0, a1, a2] P = P := by simp [Wlen, line]
theorem wlen4 {a0 a1 a2 a3 : D} {P : Prop} : Wlen [a0, a1, a2, a3] P = P := by simp [Wlen, line]
theorem wlen5 {a0 a1 a2 a3 a4 : D} {P : Prop} : Wlen [a0, a1, a2, a3, a4] P = P := by simp [Wlen, line]
theorem wlen6 {a0 a1 a2 a3 a4 a5 : D} {P : Prop} : Wlen [a0, a1, a2, a3, a4, a5] P = P := by simp [Wlen, line]
theorem wlen7 {a0 a1 a2 a3 a4 a5 a6 : D} {P : Prop} : Wlen [a0, a1, a2, a3, a4, a5, a6] P = P := by simp [Wlen, line]
theorem wlen8 {a0 a1 a2 a3 a4 a5 a6 a7 : D} {P : Prop} : Wlen [a0, a1, a2, a3, a4, a5, a6, a7] P = P := by simp [Wlen, line]
theorem wlen9 {a0 a1 a2 a3 a4 a5 a6 a7 a8 : D} {P : Prop} : Wlen [a0, a1, a2, a3, a4, a5, a6, a7, a8] P = P := by simp [Wlen, line]
theorem wlen10 {a0 a1 a2 a3 a4 a5 a6 a7 a8 a9 : D} {P : Prop} : Wlen [a0, a1, a2, a3, a4, a5, a6, a7, a8, a9] P = P := by simp [Wlen, line]
theorem wlen11 {a0 a1 a2 a3 a4 a5 a6 a7 a8 a9 a10 : D} {P : Prop} : Wlen [a0, a1, a2, a3, a4, a5, a6, a7, a8, a9, a10] P = P := by simp [Wlen, line]
theorem wlen12 {a0 a1 a2 a3 a4 a5 a6 a7 a8 a9 a10 a11 : D} {P : Prop} : Wlen [a0, a1, a2, a3, a4, a5, a6, a7, a8, a9, a10, a11] P = P := by simp [Wlen, line]
theorem wlen13 {a0 a1 a2 a3 a4 a5 a6 a7 a8 a9 a10 a11 a12 : D} {P : Prop} : Wlen [a0, a1, a2, a3, a4, a5, a6, a7, a8, a9, a10, a11, a12] P = P := by simp [Wlen, line]
theorem wlen14 {a0 a1 a2 a3 a4 a5 a6 a7 a8 a9 a10 a11 a12 a13 : D} {P : Prop} : Wlen [a0, a1, a2, a3, a4, a5, a6, a7, a8, a9, a10, a11, a12, a13] P = P := by simp [Wlen, line]
theorem wlen15 {a0 a1 a2 a3 a4 a5 a6 a7 a8 a9 a10 a11 a12 a13 a14 : D} {P : Prop} : Wlen [a0, a1, a2, a3, a4, a5, a6, a7, a8, a9, a10, a11, a12, a13, a14] P = P := by simp [Wlen, line]
theorem wlen16 {a0 a1 a2 a3 a4 a5 a6 a7 a8 a9 a10 a11 a12 a13 a14 a15 : D} {P : Prop} : Wlen [a0, a1, a2, a3, a4, a5, a6, a7, a8, a9, a10, a11, a12, a13, a14, a15] P = P := by simp [Wlen, line]
/-! ### the pieces, step by step -/
section
abbrev KX := Value → Option (List (Str × D)) → PM → Prop
@[irreducible] def kSeq (g : FS) (Q : Fl → PM → Prop) (N : KX) : Fl → PM → Prop
  | .nx ρ, M => Wp (g ρ M) Q N
  | fl, M => Q fl M
def asI : D → PM → Out (Option Int)
  | .int i, M => .ok (some i) M
  | _, _ => .bad
def itemsOf : D → PM → Out (List D)
  | .lst ds, M => .ok ds M
  | .rol ds, M => .ok ds M
  | .tup ds, M => .ok ds M
  | .str z, M => .ok (z.cps.toList.map fun c => .str ⟨#[c]⟩) M
  | _, _ => .bad
def appL (M : PM) (o d : D) : Out D := match o with
  | .adr k => match M[k]? with
    | some (.lst ds) => if ds.length < line then .ok .non (M.set k (.lst (ds ++ [d]))) else .bad
    | _ => .bad
  | _ => .bad
def extL (M : PM) (o d : D) : Out D := match o with
  | .adr k => match M[k]?, lstOf M d with
    | some (.lst ds), some es => if ds.length + es.length ≤ line then .ok .non (M.set k (.lst (ds ++ es))) else .bad
    | _, _ => .bad
  | _ => .bad
def rng1 (as : List D) (M : PM) : Out (List D) := match as with
  | [.int j] => if rngOk j = true then .ok (rngD 0 j.toNat) M else .bad
  | _ => .bad
def rng2 (as : List D) (M : PM) : Out (List D) := match as with
  | [.int i, .int j] => if (rngOk i && rngOk j) = true then .ok (rngD i (j - i).toNat) M else .bad
  | _ => .bad
@[irreducible] def kPar (i j : Nat) (ρ : Rho) (Q : Fl → PM → Prop) : List D → PM → Prop
  | [a, b], M => Q (.nx ((ρ.set i (some a)).set j (some b))) M
  | _, _ => False
@[irreducible] def kEach (Qn : Rho → PM → Prop) (Q : Fl → PM → Prop) : Fl → PM → Prop
  | .nx ρ, M => Qn ρ M
  | .ct ρ, M => Qn ρ M
  | .bk ρ, M => Q (.nx ρ) M
  | .rt d, M => Q (.rt d) M
end
section
variable {Q : D → PM → Prop} {QB : Bool → PM → Prop} {QA : List D → PM → Prop} {QO : Option Int → PM → Prop} {QF : Fl → PM → Prop} {QR : Rho → PM → Prop} {N : KX} {ρ : Rho} {M : PM} {fa fb fe : FE} {t u : FT} {w : FA} {s s2 : FS}
@[irreducible] def kOp2 (g : PM → D → D → Out D) (a : D) (Q : D → PM → Prop) (N : KX) : D → PM → Prop := fun b M => Wp (g M a b) Q N
theorem kOp2_eq {g : PM → D → D → Out D} {a : D} {Q : D → PM → Prop} {N : KX} {b : D} : kOp2 g a Q N b M = (Wp (g M a b) Q N) := by with_unfolding_all rfl
@[irreducible] def kOp1 (g : PM → D → D → Out D) (fb : FE) (ρ : Rho) (Q : D → PM → Prop) (N : KX) : D → PM → Prop := fun a M => Wp (fb ρ M) (kOp2 g a Q N) N
theorem kOp1_eq {g : PM → D → D → Out D} {fb : FE} {ρ : Rho} {Q : D → PM → Prop} {N : KX} {a : D} : kOp1 g fb ρ Q N a M = (Wp (fb ρ M) (kOp2 g a Q N) N) := by with_unfolding_all rfl
@[irreducible] def kUn (g : PM → D → Out D) (Q : D → PM → Prop) (N : KX) : D → PM → Prop := fun a M => Wp (g M a) Q N
theorem kUn_eq {g : PM → D → Out D} {Q : D → PM → Prop} {N : KX} {a : D} : kUn g Q N a M = (Wp (g M a) Q N) := by with_unfolding_all rfl
@[irreducible] def kTest (Q : Bool → PM → Prop) (N : KX) : D → PM → Prop := fun a M => Wp (asB a M) Q N
theorem kTest_eq {Q : Bool → PM → Prop} {N : KX} {a : D} : kTest Q N a M = (Wp (asB a M) Q N) := by with_unfolding_all rfl
@[irreducible] def kIf (fa : FE) (fb : FE) (ρ : Rho) (Q : D → PM → Prop) (N : KX) : Bool → PM → Prop := fun b M => Wif b (kW fa ρ M Q N) (kW fb ρ M Q N)
theorem kIf_eq {fa : FE} {fb : FE} {ρ : Rho} {Q : D → PM → Prop} {N : KX} {b : Bool} : kIf fa fb ρ Q N b M = (Wif b (kW fa ρ M Q N) (kW fb ρ M Q N)) := by with_unfolding_all rfl
@[irreducible] def kAnd (u : FT) (ρ : Rho) (Q : Bool → PM → Prop) (N : KX) : Bool → PM → Prop := fun b M => Wif b (kW u ρ M Q N) (kV Q false M)
theorem kAnd_eq {u : FT} {ρ : Rho} {Q : Bool → PM → Prop} {N : KX} {b : Bool} : kAnd u ρ Q N b M = (Wif b (kW u ρ M Q N) (kV Q false M)) := by with_unfolding_all rfl
@[irreducible] def kOr (u : FT) (ρ : Rho) (Q : Bool → PM → Prop) (N : KX) : Bool → PM → Prop := fun b M => Wif b (kV Q true M) (kW u ρ M Q N)
theorem kOr_eq {u : FT} {ρ : Rho} {Q : Bool → PM → Prop} {N : KX} {b : Bool} : kOr u ρ Q N b M = (Wif b (kV Q true M) (kW u ρ M Q N)) := by with_unfolding_all rfl
@[irreducible] def kNot (Q : Bool → PM → Prop) : Bool → PM → Prop := fun b M => Q (!b) M
theorem kNot_eq {Q : Bool → PM → Prop} {b : Bool} : kNot Q b M = (Q (!b) M) := by with_unfolding_all rfl
@[irreducible] def kAndV (fb : FE) (ρ : Rho) (Q : D → PM → Prop) (N : KX) : Bool → PM → Prop := fun b M => Wif b (kW fb ρ M Q N) (kV Q (.bl false) M)
theorem kAndV_eq {fb : FE} {ρ : Rho} {Q : D → PM → Prop} {N : KX} {b : Bool} : kAndV fb ρ Q N b M = (Wif b (kW fb ρ M Q N) (kV Q (.bl false) M)) := by with_unfolding_all rfl
@[irreducible] def kOrV (fb : FE) (ρ : Rho) (Q : D → PM → Prop) (N : KX) : Bool → PM → Prop := fun b M => Wif b (kV Q (.bl true) M) (kW fb ρ M Q N)
theorem kOrV_eq {fb : FE} {ρ : Rho} {Q : D → PM → Prop} {N : KX} {b : Bool} : kOrV fb ρ Q N b M = (Wif b (kV Q (.bl true) M) (kW fb ρ M Q N)) := by with_unfolding_all rfl
@[irreducible] def kNotV (Q : D → PM → Prop) : Bool → PM → Prop := fun b M => Q (.bl (!b)) M
theorem kNotV_eq {Q : D → PM → Prop} {b : Bool} : kNotV Q b M = (Q (.bl (!b)) M) := by with_unfolding_all rfl
@[irreducible] def kCons2 (a : D) (Q : List D → PM → Prop) : List D → PM → Prop := fun as M => Q (a :: as) M
theorem kCons2_eq {a : D} {Q : List D → PM → Prop} {as : List D} : kCons2 a Q as M = (Q (a :: as) M) := by with_unfolding_all rfl
@[irreducible] def kCons1 (w : FA) (ρ : Rho) (Q : List D → PM → Prop) (N : KX) : D → PM → Prop := fun a M => Wp (w ρ M) (kCons2 a Q) N
theorem kCons1_eq {w : FA} {ρ : Rho} {Q : List D → PM → Prop} {N : KX} {a : D} : kCons1 w ρ Q N a M = (Wp (w ρ M) (kCons2 a Q) N) := by with_unfolding_all rfl
@[irreducible] def kTup (Q : D → PM → Prop) : List D → PM → Prop := fun as M => Wlen as (Q (.tup as) M)
theorem kTup_eq {Q : D → PM → Prop} {as : List D} : kTup Q as M = (Wlen as (Q (.tup as) M)) := by with_unfolding_all rfl
@[irreducible] def kLst (Q : D → PM → Prop) : List D → PM → Prop := fun as M => Wlen as (Q (.lst as) M)
theorem kLst_eq {Q : D → PM → Prop} {as : List D} : kLst Q as M = (Wlen as (Q (.lst as) M)) := by with_unfolding_all rfl
@[irreducible] def kNew (Q : D → PM → Prop) : List D → PM → Prop := fun as M => Wlen as (Q (.adr M.length) (M ++ [.lst as]))
theorem kNew_eq {Q : D → PM → Prop} {as : List D} : kNew Q as M = (Wlen as (Q (.adr M.length) (M ++ [.lst as]))) := by with_unfolding_all rfl
@[irreducible] def kCall (Φ : List D → PM → Out D) (Q : D → PM → Prop) (N : KX) : List D → PM → Prop := fun as M => Wp (Φ as M) Q N
theorem kCall_eq {Φ : List D → PM → Out D} {Q : D → PM → Prop} {N : KX} {as : List D} : kCall Φ Q N as M = (Wp (Φ as M) Q N) := by with_unfolding_all rfl
@[irreducible] def kCB (g : PM → List D → Out D) (Q : D → PM → Prop) (N : KX) : List D → PM → Prop := fun as M => Wp (g M as) Q N
theorem kCB_eq {g : PM → List D → Out D} {Q : D → PM → Prop} {N : KX} {as : List D} : kCB g Q N as M = (Wp (g M as) Q N) := by with_unfolding_all rfl
@[irreducible] def kAsI (Q : Option Int → PM → Prop) (N : KX) : D → PM → Prop := fun a M => Wp (asI a M) Q N
theorem kAsI_eq {Q : Option Int → PM → Prop} {N : KX} {a : D} : kAsI Q N a M = (Wp (asI a M) Q N) := by with_unfolding_all rfl
@[irreducible] def kSl3 (g : PM → D → Option Int → Option Int → Out D) (a : D) (l : Option Int) (Q : D → PM → Prop) (N : KX) : Option Int → PM → Prop := fun h M => Wp (g M a l h) Q N
theorem kSl3_eq {g : PM → D → Option Int → Option Int → Out D} {a : D} {l : Option Int} {Q : D → PM → Prop} {N : KX} {h : Option Int} : kSl3 g a l Q N h M = (Wp (g M a l h) Q N) := by with_unfolding_all rfl
@[irreducible] def kSl2 (g : PM → D → Option Int → Option Int → Out D) (fh : FO) (ρ : Rho) (a : D) (Q : D → PM → Prop) (N : KX) : Option Int → PM → Prop := fun l M => Wp (fh ρ M) (kSl3 g a l Q N) N
theorem kSl2_eq {g : PM → D → Option Int → Option Int → Out D} {fh : FO} {ρ : Rho} {a : D} {Q : D → PM → Prop} {N : KX} {l : Option Int} : kSl2 g fh ρ a Q N l M = (Wp (fh ρ M) (kSl3 g a l Q N) N) := by with_unfolding_all rfl
@[irreducible] def kSl1 (g : PM → D → Option Int → Option Int → Out D) (fl : FO) (fh : FO) (ρ : Rho) (Q : D → PM → Prop) (N : KX) : D → PM → Prop := fun a M => Wp (fl ρ M) (kSl2 g fh ρ a Q N) N
theorem kSl1_eq {g : PM → D → Option Int → Option Int → Out D} {fl : FO} {fh : FO} {ρ : Rho} {Q : D → PM → Prop} {N : KX} {a : D} : kSl1 g fl fh ρ Q N a M = (Wp (fl ρ M) (kSl2 g fh ρ a Q N) N) := by with_unfolding_all rfl
@[irreducible] def kNx (Q : Fl → PM → Prop) : Rho → PM → Prop := fun ρ M => Q (.nx ρ) M
theorem kNx_eq {Q : Fl → PM → Prop} {ρ : Rho} : kNx Q ρ M = (Q (.nx ρ) M) := by with_unfolding_all rfl
@[irreducible] def kAsg (g : FG) (ρ : Rho) (Q : Fl → PM → Prop) (N : KX) : D → PM → Prop := fun d M => Wp (g d ρ M) (kNx Q) N
theorem kAsg_eq {g : FG} {ρ : Rho} {Q : Fl → PM → Prop} {N : KX} {d : D} : kAsg g ρ Q N d M = (Wp (g d ρ M) (kNx Q) N) := by with_unfolding_all rfl
@[irreducible] def kDrop (ρ : Rho) (Q : Fl → PM → Prop) : D → PM → Prop := fun d M => Q (.nx ρ) M
theorem kDrop_eq {ρ : Rho} {Q : Fl → PM → Prop} {d : D} : kDrop ρ Q d M = (Q (.nx ρ) M) := by with_unfolding_all rfl
@[irreducible] def kRet (Q : Fl → PM → Prop) : D → PM → Prop := fun d M => Q (.rt d) M
theorem kRet_eq {Q : Fl → PM → Prop} {d : D} : kRet Q d M = (Q (.rt d) M) := by with_unfolding_all rfl
@[irreducible] def kSIf (s : FS) (s2 : FS) (ρ : Rho) (Q : Fl → PM → Prop) (N : KX) : Bool → PM → Prop := fun b M => Wif b (kW s ρ M Q N) (kW s2 ρ M Q N)
theorem kSIf_eq {s : FS} {s2 : FS} {ρ : Rho} {Q : Fl → PM → Prop} {N : KX} {b : Bool} : kSIf s s2 ρ Q N b M = (Wif b (kW s ρ M Q N) (kW s2 ρ M Q N)) := by with_unfolding_all rfl
@[irreducible] def kFC (gs : FGs) (ds : List D) (Q : Rho → PM → Prop) (N : KX) : Rho → PM → Prop := fun ρ M => Wp (gs ds ρ M) Q N
theorem kFC_eq {gs : FGs} {ds : List D} {Q : Rho → PM → Prop} {N : KX} {ρ : Rho} : kFC gs ds Q N ρ M = (Wp (gs ds ρ M) Q N) := by with_unfolding_all rfl
@[irreducible] def kSub3 (ρ : Rho) (Q : Rho → PM → Prop) : Unit → PM → Prop := fun x M => Q ρ M
theorem kSub3_eq {ρ : Rho} {Q : Rho → PM → Prop} {x : Unit} : kSub3 ρ Q x M = (Q ρ M) := by with_unfolding_all rfl
@[irreducible] def kSub2 (ρ : Rho) (o : D) (d : D) (Q : Rho → PM → Prop) (N : KX) : D → PM → Prop := fun i M => Wp (putL M o i d) (kSub3 ρ Q) N
theorem kSub2_eq {ρ : Rho} {o : D} {d : D} {Q : Rho → PM → Prop} {N : KX} {i : D} : kSub2 ρ o d Q N i M = (Wp (putL M o i d) (kSub3 ρ Q) N) := by with_unfolding_all rfl
@[irreducible] def kSub1 (fb : FE) (ρ : Rho) (d : D) (Q : Rho → PM → Prop) (N : KX) : D → PM → Prop := fun o M => Wp (fb ρ M) (kSub2 ρ o d Q N) N
theorem kSub1_eq {fb : FE} {ρ : Rho} {d : D} {Q : Rho → PM → Prop} {N : KX} {o : D} : kSub1 fb ρ d Q N o M = (Wp (fb ρ M) (kSub2 ρ o d Q N) N) := by with_unfolding_all rfl
@[irreducible] def kPut4 (ρ : Rho) (Q : Fl → PM → Prop) : Unit → PM → Prop := fun x M => Q (.nx ρ) M
theorem kPut4_eq {ρ : Rho} {Q : Fl → PM → Prop} {x : Unit} : kPut4 ρ Q x M = (Q (.nx ρ) M) := by with_unfolding_all rfl
@[irreducible] def kPut3 (ρ : Rho) (v : D) (o : D) (Q : Fl → PM → Prop) (N : KX) : D → PM → Prop := fun i M => Wp (putD M o i v) (kPut4 ρ Q) N
theorem kPut3_eq {ρ : Rho} {v : D} {o : D} {Q : Fl → PM → Prop} {N : KX} {i : D} : kPut3 ρ v o Q N i M = (Wp (putD M o i v) (kPut4 ρ Q) N) := by with_unfolding_all rfl
@[irreducible] def kPut2 (fi : FE) (ρ : Rho) (v : D) (Q : Fl → PM → Prop) (N : KX) : D → PM → Prop := fun o M => Wp (fi ρ M) (kPut3 ρ v o Q N) N
theorem kPut2_eq {fi : FE} {ρ : Rho} {v : D} {Q : Fl → PM → Prop} {N : KX} {o : D} : kPut2 fi ρ v Q N o M = (Wp (fi ρ M) (kPut3 ρ v o Q N) N) := by with_unfolding_all rfl
@[irreducible] def kPut1 (fo : FE) (fi : FE) (ρ : Rho) (Q : Fl → PM → Prop) (N : KX) : D → PM → Prop := fun v M => Wp (fo ρ M) (kPut2 fi ρ v Q N) N
theorem kPut1_eq {fo : FE} {fi : FE} {ρ : Rho} {Q : Fl → PM → Prop} {N : KX} {v : D} : kPut1 fo fi ρ Q N v M = (Wp (fo ρ M) (kPut2 fi ρ v Q N) N) := by with_unfolding_all rfl
@[irreducible] def kFor (g : FG) (s : FS) (ρ : Rho) (Q : Fl → PM → Prop) (N : KX) : List D → PM → Prop := fun ds M => Wp (sEach g s ds ρ M) Q N
theorem kFor_eq {g : FG} {s : FS} {ρ : Rho} {Q : Fl → PM → Prop} {N : KX} {ds : List D} : kFor g s ρ Q N ds M = (Wp (sEach g s ds ρ M) Q N) := by with_unfolding_all rfl
@[irreducible] def kE2 (g : FG) (s : FS) (ds : List D) (Q : Fl → PM → Prop) (N : KX) : Rho → PM → Prop := fun ρ M => Wp (sEach g s ds ρ M) Q N
theorem kE2_eq {g : FG} {s : FS} {ds : List D} {Q : Fl → PM → Prop} {N : KX} {ρ : Rho} : kE2 g s ds Q N ρ M = (Wp (sEach g s ds ρ M) Q N) := by with_unfolding_all rfl
@[irreducible] def kE1 (g : FG) (s : FS) (ds : List D) (Q : Fl → PM → Prop) (N : KX) : Rho → PM → Prop := fun ρ M => Wp (s ρ M) (kEach (kE2 g s ds Q N) Q) N
theorem kE1_eq {g : FG} {s : FS} {ds : List D} {Q : Fl → PM → Prop} {N : KX} {ρ : Rho} : kE1 g s ds Q N ρ M = (Wp (s ρ M) (kEach (kE2 g s ds Q N) Q) N) := by with_unfolding_all rfl
@[irreducible] def kLc (g : FG) (t : FT) (fa : FE) (ρ : Rho) (vs : List Nat) (Q : D → PM → Prop) (N : KX) : List D → PM → Prop := fun ds M => Wp (lcFrom M.length g t fa (wipeR ρ vs) ds (M ++ [.lst []])) Q N
theorem kLc_eq {g : FG} {t : FT} {fa : FE} {ρ : Rho} {vs : List Nat} {Q : D → PM → Prop} {N : KX} {ds : List D} : kLc g t fa ρ vs Q N ds M = (Wp (lcFrom M.length g t fa (wipeR ρ vs) ds (M ++ [.lst []])) Q N) := by with_unfolding_all rfl
@[irreducible] def kItems (Q : List D → PM → Prop) (N : KX) : D → PM → Prop := fun a M => Wp (itemsOf a M) Q N
theorem kItems_eq {Q : List D → PM → Prop} {N : KX} {a : D} : kItems Q N a M = (Wp (itemsOf a M) Q N) := by with_unfolding_all rfl
@[irreducible] def kRng1 (Q : List D → PM → Prop) (N : KX) : List D → PM → Prop := fun as M => Wp (rng1 as M) Q N
theorem kRng1_eq {Q : List D → PM → Prop} {N : KX} {as : List D} : kRng1 Q N as M = (Wp (rng1 as M) Q N) := by with_unfolding_all rfl
@[irreducible] def kRng2 (Q : List D → PM → Prop) (N : KX) : List D → PM → Prop := fun as M => Wp (rng2 as M) Q N
theorem kRng2_eq {Q : List D → PM → Prop} {N : KX} {as : List D} : kRng2 Q N as M = (Wp (rng2 as M) Q N) := by with_unfolding_all rfl
@[irreducible] def kApp2 (o : D) (Q : D → PM → Prop) (N : KX) : D → PM → Prop := fun d M => Wp (appL M o d) Q N
theorem kApp2_eq {o : D} {Q : D → PM → Prop} {N : KX} {d : D} : kApp2 o Q N d M = (Wp (appL M o d) Q N) := by with_unfolding_all rfl
@[irreducible] def kApp1 (fb : FE) (ρ : Rho) (Q : D → PM → Prop) (N : KX) : D → PM → Prop := fun o M => isA M o = true ∧ Wp (fb ρ M) (kApp2 o Q N) N
theorem kApp1_eq {fb : FE} {ρ : Rho} {Q : D → PM → Prop} {N : KX} {o : D} : kApp1 fb ρ Q N o M = (isA M o = true ∧ Wp (fb ρ M) (kApp2 o Q N) N) := by with_unfolding_all rfl
@[irreducible] def kExt2 (o : D) (Q : D → PM → Prop) (N : KX) : D → PM → Prop := fun d M => Wp (extL M o d) Q N
theorem kExt2_eq {o : D} {Q : D → PM → Prop} {N : KX} {d : D} : kExt2 o Q N d M = (Wp (extL M o d) Q N) := by with_unfolding_all rfl
@[irreducible] def kExt1 (fb : FE) (ρ : Rho) (Q : D → PM → Prop) (N : KX) : D → PM → Prop := fun o M => isA M o = true ∧ Wp (fb ρ M) (kExt2 o Q N) N
theorem kExt1_eq {fb : FE} {ρ : Rho} {Q : D → PM → Prop} {N : KX} {o : D} : kExt1 fb ρ Q N o M = (isA M o = true ∧ Wp (fb ρ M) (kExt2 o Q N) N) := by with_unfolding_all rfl
@[irreducible] def kAug2 (i : Nat) (ρ : Rho) (Q : Fl → PM → Prop) : D → PM → Prop := fun z M => Q (.nx (ρ.set i (some z))) M
theorem kAug2_eq {i : Nat} {ρ : Rho} {Q : Fl → PM → Prop} {z : D} : kAug2 i ρ Q z M = (Q (.nx (ρ.set i (some z))) M) := by with_unfolding_all rfl
@[irreducible] def kAug1 (i : Nat) (g : PM → D → D → Out D) (d : D) (ρ : Rho) (Q : Fl → PM → Prop) (N : KX) : D → PM → Prop := fun y M => Wp (g M d y) (kAug2 i ρ Q) N
theorem kAug1_eq {i : Nat} {g : PM → D → D → Out D} {d : D} {ρ : Rho} {Q : Fl → PM → Prop} {N : KX} {y : D} : kAug1 i g d ρ Q N y M = (Wp (g M d y) (kAug2 i ρ Q) N) := by with_unfolding_all rfl
@[irreducible] def kCh3 (g : PM → D → D → Out D) (fe : FE) (ρ : Rho) (b : D) (Q : D → PM → Prop) (N : KX) : Bool → PM → Prop := fun k M => Wif k (kW (fun ρ M => (fe ρ M).bind fun c M4 => g M4 b c) ρ M Q N) (kV Q (.bl false) M)
theorem kCh3_eq {g : PM → D → D → Out D} {fe : FE} {ρ : Rho} {b : D} {Q : D → PM → Prop} {N : KX} {k : Bool} : kCh3 g fe ρ b Q N k M = (Wif k (kW (fun ρ M => (fe ρ M).bind fun c M4 => g M4 b c) ρ M Q N) (kV Q (.bl false) M)) := by with_unfolding_all rfl
@[irreducible] def kCh2 (g : PM → D → D → Out D) (g' : PM → D → D → Out D) (fe : FE) (ρ : Rho) (a : D) (Q : D → PM → Prop) (N : KX) : D → PM → Prop := fun b M => Wp (g M a b) (kTest (kCh3 g' fe ρ b Q N) N) N
theorem kCh2_eq {g : PM → D → D → Out D} {g' : PM → D → D → Out D} {fe : FE} {ρ : Rho} {a : D} {Q : D → PM → Prop} {N : KX} {b : D} : kCh2 g g' fe ρ a Q N b M = (Wp (g M a b) (kTest (kCh3 g' fe ρ b Q N) N) N) := by with_unfolding_all rfl
@[irreducible] def kCh1 (g : PM → D → D → Out D) (g' : PM → D → D → Out D) (fb : FE) (fe : FE) (ρ : Rho) (Q : D → PM → Prop) (N : KX) : D → PM → Prop := fun a M => Wp (fb ρ M) (kCh2 g g' fe ρ a Q N) N
theorem kCh1_eq {g : PM → D → D → Out D} {g' : PM → D → D → Out D} {fb : FE} {fe : FE} {ρ : Rho} {Q : D → PM → Prop} {N : KX} {a : D} : kCh1 g g' fb fe ρ Q N a M = (Wp (fb ρ M) (kCh2 g g' fe ρ a Q N) N) := by with_unfolding_all rfl
@[irreducible] def kMS2 (g : PM → D → D → Out D) (a : D) (Q : D → PM → Prop) (N : KX) : D → PM → Prop := fun b M => Wp (g M a b) Q N
theorem kMS2_eq {g : PM → D → D → Out D} {a : D} {Q : D → PM → Prop} {N : KX} {b : D} : kMS2 g a Q N b M = (Wp (g M a b) Q N) := by with_unfolding_all rfl
@[irreducible] def kMS1 (g : PM → D → D → Out D) (fb : FE) (ρ : Rho) (Q : D → PM → Prop) (N : KX) : D → PM → Prop := fun a M => isS a = true ∧ Wp (fb ρ M) (kMS2 g a Q N) N
theorem kMS1_eq {g : PM → D → D → Out D} {fb : FE} {ρ : Rho} {Q : D → PM → Prop} {N : KX} {a : D} : kMS1 g fb ρ Q N a M = (isS a = true ∧ Wp (fb ρ M) (kMS2 g a Q N) N) := by with_unfolding_all rfl
theorem wp_bindk {A B : Type} {o : Out B} {g : B → PM → Out A} {Q : A → PM → Prop} : Wp (o.bind g) Q N = Wp o (fun a M => Wp (g a M) Q N) N := by cases o <;> with_unfolding_all rfl
theorem wp_C {d : D} : Wp (pC d ρ M) Q N = Q d M := by with_unfolding_all rfl
theorem wp_op {g : PM → D → D → Out D} : Wp (pOp g fa fb ρ M) Q N = Wp (fa ρ M) (kOp1 g fb ρ Q N) N := by
  unfold pOp; rw [wp_bind]; congr 1; funext a M1; rw [wp_bind]; with_unfolding_all rfl
theorem wp_un {g : PM → D → Out D} : Wp (pUn g fa ρ M) Q N = Wp (fa ρ M) (kUn g Q N) N := by
  unfold pUn; rw [wp_bind]; with_unfolding_all rfl
theorem wp_asB {b : Bool} : Wp (asB (.bl b) M) QB N = QB b M := by with_unfolding_all rfl
theorem wp_test : Wp (pTest fa ρ M) QB N = Wp (fa ρ M) (kTest QB N) N := by
  unfold pTest; rw [wp_bind]; with_unfolding_all rfl
theorem wp_ite {A : Type} {o o' : Out A} {Q : A → PM → Prop} {b : Bool} : Wp (if b = true then o else o') Q N = if b = true then Wp o Q N else Wp o' Q N := by cases b <;> with_unfolding_all rfl
theorem wp_if : Wp (pIf t fa fb ρ M) Q N = Wp (t ρ M) (kIf fa fb ρ Q N) N := by
  unfold pIf; rw [wp_bind]; congr 1; funext b M1; rw [wp_ite]; with_unfolding_all rfl
theorem wp_and : Wp (pAnd t u ρ M) QB N = Wp (t ρ M) (kAnd u ρ QB N) N := by
  unfold pAnd; rw [wp_bind]; congr 1; funext b M1; rw [wp_ite]; with_unfolding_all rfl
theorem wp_or : Wp (pOr t u ρ M) QB N = Wp (t ρ M) (kOr u ρ QB N) N := by
  unfold pOr; rw [wp_bind]; congr 1; funext b M1; rw [wp_ite]; with_unfolding_all rfl
theorem wp_not : Wp (pNot t ρ M) QB N = Wp (t ρ M) (kNot QB) N := by
  unfold pNot; rw [wp_bind]; with_unfolding_all rfl
theorem wp_andV : Wp (pAndV fa fb ρ M) Q N = Wp (fa ρ M) (kTest (kAndV fb ρ Q N) N) N := by
  unfold pAndV; rw [wp_bind]; congr 1; funext a M1; rw [wp_bind]
  with_unfolding_all show Wp _ _ _ = Wp _ _ _
  congr 1; funext b M2; rw [wp_ite]; with_unfolding_all rfl
theorem wp_orV : Wp (pOrV fa fb ρ M) Q N = Wp (fa ρ M) (kTest (kOrV fb ρ Q N) N) N := by
  unfold pOrV; rw [wp_bind]; congr 1; funext a M1; rw [wp_bind]
  with_unfolding_all show Wp _ _ _ = Wp _ _ _
  congr 1; funext b M2; rw [wp_ite]; with_unfolding_all rfl
theorem wp_notV : Wp (pNotV fa ρ M) Q N = Wp (fa ρ M) (kTest (kNotV Q) N) N := by
  unfold pNotV; rw [wp_bind]; congr 1; funext a M1; rw [wp_bind]; with_unfolding_all rfl
theorem wp_aNil : Wp (aNil ρ M) QA N = QA [] M := by with_unfolding_all rfl
theorem wp_aCons : Wp (aCons fa w ρ M) QA N = Wp (fa ρ M) (kCons1 w ρ QA N) N := by
  unfold aCons; rw [wp_bind]; congr 1; funext a M1; rw [wp_bind]; with_unfolding_all rfl
theorem wlen_ite {as : List D} {o : Out D} : Wp (if as.length ≤ line then o else .bad) Q N = Wlen as (Wp o Q N) := by
  unfold Wlen
  by_cases h : as.length ≤ line
  · rw [if_pos h]; simp [h]
  · rw [if_neg h]; simp [h, wp_bad]
theorem wp_tup : Wp (pTup w ρ M) Q N = Wp (w ρ M) (kTup Q) N := by
  unfold pTup; rw [wp_bind]; congr 1; funext a M1; rw [wlen_ite]; with_unfolding_all rfl
theorem wp_lst : Wp (pLst w ρ M) Q N = Wp (w ρ M) (kLst Q) N := by
  unfold pLst; rw [wp_bind]; congr 1; funext a M1; rw [wlen_ite]; with_unfolding_all rfl
theorem wp_new : Wp (pNew w ρ M) Q N = Wp (w ρ M) (kNew Q) N := by
  unfold pNew; rw [wp_bind]; congr 1; funext a M1; rw [wlen_ite]; with_unfolding_all rfl
theorem wp_call {Φ : List D → PM → Out D} : Wp (pCall Φ w ρ M) Q N = Wp (w ρ M) (kCall Φ Q N) N := by
  unfold pCall; rw [wp_bind]; with_unfolding_all rfl
theorem wp_cb {g : PM → List D → Out D} : Wp (pCB g w ρ M) Q N = Wp (w ρ M) (kCB g Q N) N := by
  unfold pCB; rw [wp_bind]; with_unfolding_all rfl
theorem wp_oNone : Wp (oNone ρ M) QO N = QO none M := by with_unfolding_all rfl
theorem wp_asI {i : Int} : Wp (asI (.int i) M) QO N = QO (some i) M := by with_unfolding_all rfl
theorem wp_oSome : Wp (oSome fa ρ M) QO N = Wp (fa ρ M) (kAsI QO N) N := by
  unfold oSome; rw [wp_bind]; congr 1; funext a M1; cases a <;> with_unfolding_all rfl
theorem wp_sl {g : PM → D → Option Int → Option Int → Out D} {fl fh : FO} : Wp (pSl g fa fl fh ρ M) Q N = Wp (fa ρ M) (kSl1 g fl fh ρ Q N) N := by
  unfold pSl; rw [wp_bind]; congr 1; funext a M1; rw [wp_bind]
  with_unfolding_all show Wp _ _ _ = Wp _ _ _
  congr 1; funext l M2; rw [wp_bind]; with_unfolding_all rfl
theorem wp_next : Wp (sNext ρ M) QF N = QF (.nx ρ) M := by with_unfolding_all rfl
theorem wp_break : Wp (sBreak ρ M) QF N = QF (.bk ρ) M := by with_unfolding_all rfl
theorem wp_cont : Wp (sCont ρ M) QF N = QF (.ct ρ) M := by with_unfolding_all rfl
theorem wp_retN : Wp (sRetN ρ M) QF N = QF (.rt .non) M := by with_unfolding_all rfl
theorem kSeq_nx : kSeq s QF N (.nx ρ) M = Wp (s ρ M) QF N := by with_unfolding_all rfl
theorem kSeq_rt {d : D} : kSeq s QF N (.rt d) M = QF (.rt d) M := by with_unfolding_all rfl
theorem kSeq_bk : kSeq s QF N (.bk ρ) M = QF (.bk ρ) M := by with_unfolding_all rfl
theorem kSeq_ct : kSeq s QF N (.ct ρ) M = QF (.ct ρ) M := by with_unfolding_all rfl
theorem wp_seq : Wp (sSeq s s2 ρ M) QF N = Wp (s ρ M) (kSeq s2 QF N) N := by
  unfold sSeq; rw [wp_bind]; congr 1; funext fl M1; cases fl <;> with_unfolding_all rfl
theorem wp_asg {g : FG} : Wp (sAsg fa g ρ M) QF N = Wp (fa ρ M) (kAsg g ρ QF N) N := by
  unfold sAsg; rw [wp_bind]; congr 1; funext a M1; rw [wp_bind]; with_unfolding_all rfl
theorem wp_drop : Wp (sDrop fa ρ M) QF N = Wp (fa ρ M) (kDrop ρ QF) N := by
  unfold sDrop; rw [wp_bind]; with_unfolding_all rfl
theorem wp_ret : Wp (sRet fa ρ M) QF N = Wp (fa ρ M) (kRet QF) N := by
  unfold sRet; rw [wp_bind]; with_unfolding_all rfl
theorem wp_sif : Wp (sIf t s s2 ρ M) QF N = Wp (t ρ M) (kSIf s s2 ρ QF N) N := by
  unfold sIf; rw [wp_bind]; congr 1; funext b M1; rw [wp_ite]; with_unfolding_all rfl
theorem wp_fNil : Wp (fNil [] ρ M) QR N = QR ρ M := by with_unfolding_all rfl
theorem wp_fCons {g : FG} {gs : FGs} {d : D} {ds : List D} : Wp (fCons g gs (d :: ds) ρ M) QR N = Wp (g d ρ M) (kFC gs ds QR N) N := by
  with_unfolding_all show Wp ((g d ρ M).bind fun ρ1 M1 => gs ds ρ1 M1) QR N = _
  rw [wp_bind]; with_unfolding_all rfl
theorem wp_fTup1 {gs : FGs} {a : D} : Wp (fTup 1 gs (.tup [a]) ρ M) QR N = Wp (gs [a] ρ M) QR N := by with_unfolding_all rfl
theorem wp_fTup2 {gs : FGs} {a b : D} : Wp (fTup 2 gs (.tup [a, b]) ρ M) QR N = Wp (gs [a, b] ρ M) QR N := by with_unfolding_all rfl
theorem wp_fTup3 {gs : FGs} {a b c : D} : Wp (fTup 3 gs (.tup [a, b, c]) ρ M) QR N = Wp (gs [a, b, c] ρ M) QR N := by with_unfolding_all rfl
theorem wp_fTup4 {gs : FGs} {a b c d : D} : Wp (fTup 4 gs (.tup [a, b, c, d]) ρ M) QR N = Wp (gs [a, b, c, d] ρ M) QR N := by with_unfolding_all rfl
theorem wp_fTup5 {gs : FGs} {a b c d e : D} : Wp (fTup 5 gs (.tup [a, b, c, d, e]) ρ M) QR N = Wp (gs [a, b, c, d, e] ρ M) QR N := by with_unfolding_all rfl
theorem wp_fSub {d : D} : Wp (fSub fa fb d ρ M) QR N = Wp (fa ρ M) (kSub1 fb ρ d QR N) N := by
  unfold fSub; rw [wp_bind]; congr 1; funext o M1; rw [wp_bind]
  with_unfolding_all show Wp _ _ _ = Wp _ _ _
  congr 1; funext i M2; rw [wp_bind]; with_unfolding_all rfl
theorem wp_put {fo fi : FE} : Wp (sPut fo fi fe ρ M) QF N = Wp (fe ρ M) (kPut1 fo fi ρ QF N) N := by
  unfold sPut; rw [wp_bind]; congr 1; funext v M1; rw [wp_bind]
  with_unfolding_all show Wp _ _ _ = Wp _ _ _
  congr 1; funext o M2; rw [wp_bind]
  with_unfolding_all show Wp _ _ _ = Wp _ _ _
  congr 1; funext i M3; rw [wp_bind]; with_unfolding_all rfl
theorem kPar_ok {i j : Nat} {a b : D} : kPar i j ρ QF [a, b] M = QF (.nx ((ρ.set i (some a)).set j (some b))) M := by with_unfolding_all rfl
theorem wp_par {i j : Nat} : Wp (sPar i j w ρ M) QF N = Wp (w ρ M) (kPar i j ρ QF) N := by
  unfold sPar
  rw [wp_bind]
  congr 1
  funext as M1
  match as with
  | [] => with_unfolding_all rfl
  | [a] => with_unfolding_all rfl
  | [a, b] => with_unfolding_all rfl
  | a :: b :: c :: l => with_unfolding_all rfl
theorem wp_for {g : FG} : Wp (sFor w g s ρ M) QF N = Wp (w ρ M) (kFor g s ρ QF N) N := by
  unfold sFor; rw [wp_bind]; with_unfolding_all rfl
theorem wp_each0 {g : FG} : Wp (sEach g s [] ρ M) QF N = QF (.nx ρ) M := by with_unfolding_all rfl
theorem kEach_nx {Qn : Rho → PM → Prop} : kEach Qn QF (.nx ρ) M = Qn ρ M := by with_unfolding_all rfl
theorem kEach_ct {Qn : Rho → PM → Prop} : kEach Qn QF (.ct ρ) M = Qn ρ M := by with_unfolding_all rfl
theorem kEach_bk {Qn : Rho → PM → Prop} : kEach Qn QF (.bk ρ) M = QF (.nx ρ) M := by with_unfolding_all rfl
theorem kEach_rt {Qn : Rho → PM → Prop} {d : D} : kEach Qn QF (.rt d) M = QF (.rt d) M := by with_unfolding_all rfl
theorem wp_each1 {g : FG} {d : D} {ds : List D} : Wp (sEach g s (d :: ds) ρ M) QF N = Wp (g d ρ M) (kE1 g s ds QF N) N := by
  with_unfolding_all show Wp ((g d ρ M).bind _) QF N = _
  rw [wp_bind]
  congr 1
  funext ρ1 M1
  rw [wp_bind]
  with_unfolding_all show Wp _ _ _ = Wp _ _ _
  congr 1
  funext fl M2
  cases fl <;> with_unfolding_all rfl
theorem wp_lc {g : FG} {vs : List Nat} : Wp (pLc w g t fa vs ρ M) Q N = Wp (w ρ M) (kLc g t fa ρ vs Q N) N := by
  unfold pLc; rw [wp_bind]; with_unfolding_all rfl
theorem wp_yes : Wp (pYes ρ M) QB N = QB true M := by with_unfolding_all rfl
theorem wp_items : Wp (pItems fa ρ M) QA N = Wp (fa ρ M) (kItems QA N) N := by
  unfold pItems; rw [wp_bind]; congr 1; funext a M1; cases a <;> with_unfolding_all rfl
theorem wp_itemsL {ds : List D} : Wp (itemsOf (.lst ds) M) QA N = QA ds M := by with_unfolding_all rfl
theorem wp_itemsR {ds : List D} : Wp (itemsOf (.rol ds) M) QA N = QA ds M := by with_unfolding_all rfl
theorem wp_itemsT {ds : List D} : Wp (itemsOf (.tup ds) M) QA N = QA ds M := by with_unfolding_all rfl
theorem wp_pRng1 : Wp (pRng1 w ρ M) QA N = Wp (w ρ M) (kRng1 QA N) N := by
  unfold pRng1; rw [wp_bind]; with_unfolding_all rfl
theorem wp_pRng2 : Wp (pRng2 w ρ M) QA N = Wp (w ρ M) (kRng2 QA N) N := by
  unfold pRng2; rw [wp_bind]; with_unfolding_all rfl
theorem wp_rng1 {j : Int} (h : -4611686018427387904 ≤ j ∧ j < 4611686018427387904) (q : QA (rngD 0 j.toNat) M) : Wp (rng1 [.int j] M) QA N := by
  with_unfolding_all show Wp (if rngOk j = true then .ok (rngD 0 j.toNat) M else .bad) QA N
  rw [if_pos (by unfold rngOk; simp [h.1, h.2])]
  with_unfolding_all exact q
theorem wp_rng2 {i j : Int} (h : -4611686018427387904 ≤ i ∧ i < 4611686018427387904) (h' : -4611686018427387904 ≤ j ∧ j < 4611686018427387904) (q : QA (rngD i (j - i).toNat) M) : Wp (rng2 [.int i, .int j] M) QA N := by
  with_unfolding_all show Wp (if (rngOk i && rngOk j) = true then .ok (rngD i (j - i).toNat) M else .bad) QA N
  rw [if_pos (by unfold rngOk; simp [h.1, h.2, h'.1, h'.2])]
  with_unfolding_all exact q
theorem wp_app : Wp (pApp fa fb ρ M) Q N = Wp (fa ρ M) (kApp1 fb ρ Q N) N := by
  unfold pApp
  rw [wp_bind]
  congr 1
  funext o M1
  rw [kApp1_eq]
  by_cases h : isA M1 o = true
  · rw [if_pos h, wp_bind]
    simp only [h, true_and]
    with_unfolding_all rfl
  · rw [if_neg h]
    simp [h, wp_bad]
theorem wp_ext : Wp (pExt fa fb ρ M) Q N = Wp (fa ρ M) (kExt1 fb ρ Q N) N := by
  unfold pExt
  rw [wp_bind]
  congr 1
  funext o M1
  rw [kExt1_eq]
  by_cases h : isA M1 o = true
  · rw [if_pos h, wp_bind]
    simp only [h, true_and]
    with_unfolding_all rfl
  · rw [if_neg h]
    simp [h, wp_bad]
theorem wp_ms {g : PM → D → D → Out D} : Wp (pMS g fa fb ρ M) Q N = Wp (fa ρ M) (kMS1 g fb ρ Q N) N := by
  unfold pMS
  rw [wp_bind]
  congr 1
  funext o M1
  rw [kMS1_eq]
  by_cases h : isS o = true
  · rw [if_pos h, wp_bind]
    simp only [h, true_and]
    with_unfolding_all rfl
  · rw [if_neg h]
    simp [h, wp_bad]
theorem isS_str {z : Str} : (isS (.str z) = true) = True := by simp [isS]
theorem wp_appL {k : Nat} {ds : List D} {d : D} (h : M[k]? = some (.lst ds)) (hl : ds.length < 16777216) (q : Q .non (M.set k (.lst (ds ++ [d])))) : Wp (appL M (.adr k) d) Q N := by
  unfold appL
  simp only [h]
  rw [if_pos hl]
  with_unfolding_all exact q
theorem wp_extL {k : Nat} {ds es : List D} {d : D} (h : M[k]? = some (.lst ds)) (h2 : lstOf M d = some es) (hl : ds.length + es.length ≤ 16777216) (q : Q .non (M.set k (.lst (ds ++ es)))) : Wp (extL M (.adr k) d) Q N := by
  unfold extL
  simp only [h, h2]
  rw [if_pos hl]
  with_unfolding_all exact q
theorem isA_of {k : Nat} {ds : List D} (h : M[k]? = some (.lst ds)) : isA M (.adr k) = true := by
  unfold isA
  simp only [h]
theorem wp_mod {i j : Int} (h : 0 < j) : Wp (gMod M (.int i) (.int j)) Q N = Q (.int (i % j)) M := by rw [e_mod h]; with_unfolding_all rfl
theorem wp_fdiv {i j : Int} (h : 0 < j) (h' : j < 1073741824) : Wp (gFdiv M (.int i) (.int j)) Q N = Q (.int (i / j)) M := by rw [e_fdiv ⟨h, h'⟩]; with_unfolding_all rfl
theorem wp_mul {i j : Int} (h : (-18446744073709551616 < i ∧ i < 18446744073709551616) ∨ (-18446744073709551616 < j ∧ j < 18446744073709551616)) (q : Q (.int (i * j)) M) : Wp (gMul M (.int i) (.int j)) Q N := by
  rw [e_mul (by unfold cMul; simpa using h)]
  with_unfolding_all exact q
theorem wp_mod' {i j : Int} (h : 0 < j) (q : Q (.int (i % j)) M) : Wp (gMod M (.int i) (.int j)) Q N := by rw [wp_mod h]; with_unfolding_all exact q
theorem wp_fdiv' {i j : Int} (h : 0 < j) (h' : j < 1073741824) (q : Q (.int (i / j)) M) : Wp (gFdiv M (.int i) (.int j)) Q N := by rw [wp_fdiv h h']; with_unfolding_all exact q
theorem wp_ch {g g' : PM → D → D → Out D} : Wp (pCh g g' fa fb fe ρ M) Q N = Wp (fa ρ M) (kCh1 g g' fb fe ρ Q N) N := by
  unfold pCh
  rw [wp_bind]; congr 1; funext a M1
  rw [wp_bind]
  with_unfolding_all show Wp _ _ _ = Wp _ _ _
  congr 1; funext b M2
  rw [wp_bind]
  with_unfolding_all show Wp _ _ _ = Wp _ _ _
  congr 1; funext z M3
  cases z with
  | bl k => 
    with_unfolding_all show Wp (if k = true then _ else _) Q N = _
    rw [wp_ite]
    with_unfolding_all rfl
  | _ => with_unfolding_all rfl
theorem kCh_eq {g : PM → D → D → Out D} {b : D} : kW (fun ρ M => (fe ρ M).bind fun c M4 => g M4 b c) ρ M Q N () = Wp (fe ρ M) (kOp2 g b Q N) N := by
  rw [kW_eq, wp_bind]; with_unfolding_all rfl
/-- a place in a list of known things -/
theorem wp_ix {a : D} {i : Int} {ds : List D} {n : Nat} {d : D} (hs : seqOf M a = some ds) (hi : i = (n : Int)) (hd : ds[n]? = some d) (q : Q d M) : Wp (gIx M a (.int i)) Q N := by
  obtain ⟨hn, e⟩ := List.getElem?_eq_some_iff.mp hd
  rw [gIx_seq hs (by rw [hi, atI_ok hn, e])]
  with_unfolding_all exact q
/-- .. drawn: any of them -/
theorem wp_ixD {a : D} {i : Int} {ds : List D} (hs : seqOf M a = some ds) (h0 : 0 ≤ i) (h1 : i < (ds.length : Int)) (q : ∀ d, d ∈ ds → Q d M) : Wp (gIx M a (.int i)) Q N := by
  obtain ⟨n, rfl⟩ := Int.eq_ofNat_of_zero_le h0
  have hn : n < ds.length := by omega
  with_unfolding_all exact wp_ix hs rfl (List.getElem?_eq_getElem hn) (q _ (List.getElem_mem hn))
end
/-! ### variables by their places -/
section
variable {Q : D → PM → Prop} {QR : Rho → PM → Prop} {QF : Fl → PM → Prop} {N : Value → Option (List (Str × D)) → PM → Prop} {M : PM}
theorem wp_var0 {d : D} {l : Rho} : Wp (pVar 0 (some d :: l) M) Q N = Q d M := by with_unfolding_all rfl
theorem wp_name0 {y : Option D} {d : D} {l : Rho} : Wp (fName 0 d (y :: l) M) QR N = QR (some d :: l) M := by with_unfolding_all rfl
theorem wp_aug0 {d : D} {l : Rho} {f : FE} {g : PM → D → D → Out D} : Wp (sAug 0 f g (some d :: l) M) QF N = Wp (f (some d :: l) M) (kAug1 0 g d (some d :: l) QF N) N := by
  with_unfolding_all show Wp ((f (some d :: l) M).bind fun y M1 => (g M1 d y).bind fun z M2 => .ok (.nx (some z :: l)) M2) QF N = _
  rw [wp_bind]; congr 1; funext y M1; rw [wp_bind]; with_unfolding_all rfl
theorem wp_var1 {x0 : Option D} {d : D} {l : Rho} : Wp (pVar 1 (x0 :: some d :: l) M) Q N = Q d M := by with_unfolding_all rfl
theorem wp_name1 {x0 : Option D} {y : Option D} {d : D} {l : Rho} : Wp (fName 1 d (x0 :: y :: l) M) QR N = QR (x0 :: some d :: l) M := by with_unfolding_all rfl
theorem wp_aug1 {x0 : Option D} {d : D} {l : Rho} {f : FE} {g : PM → D → D → Out D} : Wp (sAug 1 f g (x0 :: some d :: l) M) QF N = Wp (f (x0 :: some d :: l) M) (kAug1 1 g d (x0 :: some d :: l) QF N) N := by
  with_unfolding_all show Wp ((f (x0 :: some d :: l) M).bind fun y M1 => (g M1 d y).bind fun z M2 => .ok (.nx (x0 :: some z :: l)) M2) QF N = _
  rw [wp_bind]; congr 1; funext y M1; rw [wp_bind]; with_unfolding_all rfl
theorem wp_var2 {x0 x1 : Option D} {d : D} {l : Rho} : Wp (pVar 2 (x0 :: x1 :: some d :: l) M) Q N = Q d M := by with_unfolding_all rfl
theorem wp_name2 {x0 x1 : Option D} {y : Option D} {d : D} {l : Rho} : Wp (fName 2 d (x0 :: x1 :: y :: l) M) QR N = QR (x0 :: x1 :: some d :: l) M := by with_unfolding_all rfl
theorem wp_aug2 {x0 x1 : Option D} {d : D} {l : Rho} {f : FE} {g : PM → D → D → Out D} : Wp (sAug 2 f g (x0 :: x1 :: some d :: l) M) QF N = Wp (f (x0 :: x1 :: some d :: l) M) (kAug1 2 g d (x0 :: x1 :: some d :: l) QF N) N := by
  with_unfolding_all show Wp ((f (x0 :: x1 :: some d :: l) M).bind fun y M1 => (g M1 d y).bind fun z M2 => .ok (.nx (x0 :: x1 :: some z :: l)) M2) QF N = _
  rw [wp_bind]; congr 1; funext y M1; rw [wp_bind]; with_unfolding_all rfl
theorem wp_var3 {x0 x1 x2 : Option D} {d : D} {l : Rho} : Wp (pVar 3 (x0 :: x1 :: x2 :: some d :: l) M) Q N = Q d M := by with_unfolding_all rfl
theorem wp_name3 {x0 x1 x2 : Option D} {y : Option D} {d : D} {l : Rho} : Wp (fName 3 d (x0 :: x1 :: x2 :: y :: l) M) QR N = QR (x0 :: x1 :: x2 :: some d :: l) M := by with_unfolding_all rfl
theorem wp_aug3 {x0 x1 x2 : Option D} {d : D} {l : Rho} {f : FE} {g : PM → D → D → Out D} : Wp (sAug 3 f g (x0 :: x1 :: x2 :: some d :: l) M) QF N = Wp (f (x0 :: x1 :: x2 :: some d :: l) M) (kAug1 3 g d (x0 :: x1 :: x2 :: some d :: l) QF N) N := by
  with_unfolding_all show Wp ((f (x0 :: x1 :: x2 :: some d :: l) M).bind fun y M1 => (g M1 d y).bind fun z M2 => .ok (.nx (x0 :: x1 :: x2 :: some z :: l)) M2) QF N = _
  rw [wp_bind]; congr 1; funext y M1; rw [wp_bind]; with_unfolding_all rfl
theorem wp_var4 {x0 x1 x2 x3 : Option D} {d : D} {l : Rho} : Wp (pVar 4 (x0 :: x1 :: x2 :: x3 :: some d :: l) M) Q N = Q d M := by with_unfolding_all rfl
theorem wp_name4 {x0 x1 x2 x3 : Option D} {y : Option D} {d : D} {l : Rho} : Wp (fName 4 d (x0 :: x1 :: x2 :: x3 :: y :: l) M) QR N = QR (x0 :: x1 :: x2 :: x3 :: some d :: l) M := by with_unfolding_all rfl
theorem wp_aug4 {x0 x1 x2 x3 : Option D} {d : D} {l : Rho} {f : FE} {g : PM → D → D → Out D} : Wp (sAug 4 f g (x0 :: x1 :: x2 :: x3 :: some d :: l) M) QF N = Wp (f (x0 :: x1 :: x2 :: x3 :: some d :: l) M) (kAug1 4 g d (x0 :: x1 :: x2 :: x3 :: some d :: l) QF N) N := by
  with_unfolding_all show Wp ((f (x0 :: x1 :: x2 :: x3 :: some d :: l) M).bind fun y M1 => (g M1 d y).bind fun z M2 => .ok (.nx (x0 :: x1 :: x2 :: x3 :: some z :: l)) M2) QF N = _
  rw [wp_bind]; congr 1; funext y M1; rw [wp_bind]; with_unfolding_all rfl
theorem wp_var5 {x0 x1 x2 x3 x4 : Option D} {d : D} {l : Rho} : Wp (pVar 5 (x0 :: x1 :: x2 :: x3 :: x4 :: some d :: l) M) Q N = Q d M := by with_unfolding_all rfl
theorem wp_name5 {x0 x1 x2 x3 x4 : Option D} {y : Option D} {d : D} {l : Rho} : Wp (fName 5 d (x0 :: x1 :: x2 :: x3 :: x4 :: y :: l) M) QR N = QR (x0 :: x1 :: x2 :: x3 :: x4 :: some d :: l) M := by with_unfolding_all rfl
theorem wp_aug5 {x0 x1 x2 x3 x4 : Option D} {d : D} {l : Rho} {f : FE} {g : PM → D → D → Out D} : Wp (sAug 5 f g (x0 :: x1 :: x2 :: x3 :: x4 :: some d :: l) M) QF N = Wp (f (x0 :: x1 :: x2 :: x3 :: x4 :: some d :: l) M) (kAug1 5 g d (x0 :: x1 :: x2 :: x3 :: x4 :: some d :: l) QF N) N := by
  with_unfolding_all show Wp ((f (x0 :: x1 :: x2 :: x3 :: x4 :: some d :: l) M).bind fun y M1 => (g M1 d y).bind fun z M2 => .ok (.nx (x0 :: x1 :: x2 :: x3 :: x4 :: some z :: l)) M2) QF N = _
  rw [wp_bind]; congr 1; funext y M1; rw [wp_bind]; with_unfolding_all rfl
theorem wp_var6 {x0 x1 x2 x3 x4 x5 : Option D} {d : D} {l : Rho} : Wp (pVar 6 (x0 :: x1 :: x2 :: x3 :: x4 :: x5 :: some d :: l) M) Q N = Q d M := by with_unfolding_all rfl
theorem wp_name6 {x0 x1 x2 x3 x4 x5 : Option D} {y : Option D} {d : D} {l : Rho} : Wp (fName 6 d (x0 :: x1 :: x2 :: x3 :: x4 :: x5 :: y :: l) M) QR N = QR (x0 :: x1 :: x2 :: x3 :: x4 :: x5 :: some d :: l) M := by with_unfolding_all rfl
theorem wp_aug6 {x0 x1 x2 x3 x4 x5 : Option D} {d : D} {l : Rho} {f : FE} {g : PM → D → D → Out D} : Wp (sAug 6 f g (x0 :: x1 :: x2 :: x3 :: x4 :: x5 :: some d :: l) M) QF N = Wp (f (x0 :: x1 :: x2 :: x3 :: x4 :: x5 :: some d :: l) M) (kAug1 6 g d (x0 :: x1 :: x2 :: x3 :: x4 :: x5 :: some d :: l) QF N) N := by
  with_unfolding_all show Wp ((f (x0 :: x1 :: x2 :: x3 :: x4 :: x5 :: some d :: l) M).bind fun y M1 => (g M1 d y).bind fun z M2 => .ok (.nx (x0 :: x1 :: x2 :: x3 :: x4 :: x5 :: some z :: l)) M2) QF N = _
  rw [wp_bind]; congr 1; funext y M1; rw [wp_bind]; with_unfolding_all rfl
theorem wp_var7 {x0 x1 x2 x3 x4 x5 x6 : Option D} {d : D} {l : Rho} : Wp (pVar 7 (x0 :: x1 :: x2 :: x3 :: x4 :: x5 :: x6 :: some d :: l) M) Q N = Q d M := by with_unfolding_all rfl
theorem wp_name7 {x0 x1 x2 x3 x4 x5 x6 : Option D} {y : Option D} {d : D} {l : Rho} : Wp (fName 7 d (x0 :: x1 :: x2 :: x3 :: x4 :: x5 :: x6 :: y :: l) M) QR N = QR (x0 :: x1 :: x2 :: x3 :: x4 :: x5 :: x6 :: some d :: l) M := by with_unfolding_all rfl
theorem wp_aug7 {x0 x1 x2 x3 x4 x5 x6 : Option D} {d : D} {l : Rho} {f : FE} {g : PM → D → D → Out D} : Wp (sAug 7 f g (x0 :: x1 :: x2 :: x3 :: x4 :: x5 :: x6 :: some d :: l) M) QF N = Wp (f (x0 :: x1 :: x2 :: x3 :: x4 :: x5 :: x6 :: some d :: l) M) (kAug1 7 g d (x0 :: x1 :: x2 :: x3 :: x4 :: x5 :: x6 :: some d :: l) QF N) N := by
  with_unfolding_all show Wp ((f (x0 :: x1 :: x2 :: x3 :: x4 :: x5 :: x6 :: some d :: l) M).bind fun y M1 => (g M1 d y).bind fun z M2 => .ok (.nx (x0 :: x1 :: x2 :: x3 :: x4 :: x5 :: x6 :: some z :: l)) M2) QF N = _
  rw [wp_bind]; congr 1; funext y M1; rw [wp_bind]; with_unfolding_all rfl
theorem wp_var8 {x0 x1 x2 x3 x4 x5 x6 x7 : Option D} {d : D} {l : Rho} : Wp (pVar 8 (x0 :: x1 :: x2 :: x3 :: x4 :: x5 :: x6 :: x7 :: some d :: l) M) Q N = Q d M := by with_unfolding_all rfl
theorem wp_name8 {x0 x1 x2 x3 x4 x5 x6 x7 : Option D} {y : Option D} {d : D} {l : Rho} : Wp (fName 8 d (x0 :: x1 :: x2 :: x3 :: x4 :: x5 :: x6 :: x7 :: y :: l) M) QR N = QR (x0 :: x1 :: x2 :: x3 :: x4 :: x5 :: x6 :: x7 :: some d :: l) M := by with_unfolding_all rfl
theorem wp_aug8 {x0 x1 x2 x3 x4 x5 x6 x7 : Option D} {d : D} {l : Rho} {f : FE} {g : PM → D → D → Out D} : Wp (sAug 8 f g (x0 :: x1 :: x2 :: x3 :: x4 :: x5 :: x6 :: x7 :: some d :: l) M) QF N = Wp (f (x0 :: x1 :: x2 :: x3 :: x4 :: x5 :: x6 :: x7 :: some d :: l) M) (kAug1 8 g d (x0 :: x1 :: x2 :: x3 :: x4 :: x5 :: x6 :: x7 :: some d :: l) QF N) N := by
  with_unfolding_all show Wp ((f (x0 :: x1 :: x2 :: x3 :: x4 :: x5 :: x6 :: x7 :: some d :: l) M).bind fun y M1 => (g M1 d y).bind fun z M2 => .ok (.nx (x0 :: x1 :: x2 :: x3 :: x4 :: x5 :: x6 :: x7 :: some z :: l)) M2) QF N = _
  rw [wp_bind]; congr 1; funext y M1; rw [wp_bind]; with_unfolding_all rfl
theorem wp_var9 {x0 x1 x2 x3 x4 x5 x6 x7 x8 : Option D} {d : D} {l : Rho} : Wp (pVar 9 (x0 :: x1 :: x2 :: x3 :: x4 :: x5 :: x6 :: x7 :: x8 :: some d :: l) M) Q N = Q d M := by with_unfolding_all rfl
theorem wp_name9 {x0 x1 x2 x3 x4 x5 x6 x7 x8 : Option D} {y : Option D} {d : D} {l : Rho} : Wp (fName 9 d (x0 :: x1 :: x2 :: x3 :: x4 :: x5 :: x6 :: x7 :: x8 :: y :: l) M) QR N = QR (x0 :: x1 :: x2 :: x3 :: x4 :: x5 :: x6 :: x7 :: x8 :: some d :: l) M := by with_unfolding_all rfl
theorem wp_aug9 {x0 x1 x2 x3 x4 x5 x6 x7 x8 : Option D} {d : D} {l : Rho} {f : FE} {g : PM → D → D → Out D} : Wp (sAug 9 f g (x0 :: x1 :: x2 :: x3 :: x4 :: x5 :: x6 :: x7 :: x8 :: some d :: l) M) QF N = Wp (f (x0 :: x1 :: x2 :: x3 :: x4 :: x5 :: x6 :: x7 :: x8 :: some d :: l) M) (kAug1 9 g d (x0 :: x1 :: x2 :: x3 :: x4 :: x5 :: x6 :: x7 :: x8 :: some d :: l) QF N) N := by
  with_unfolding_all show Wp ((f (x0 :: x1 :: x2 :: x3 :: x4 :: x5 :: x6 :: x7 :: x8 :: some d :: l) M).bind fun y M1 => (g M1 d y).bind fun z M2 => .ok (.nx (x0 :: x1 :: x2 :: x3 :: x4 :: x5 :: x6 :: x7 :: x8 :: some z :: l)) M2) QF N = _
  rw [wp_bind]; congr 1; funext y M1; rw [wp_bind]; with_unfolding_all rfl
theorem wp_var10 {x0 x1 x2 x3 x4 x5 x6 x7 x8 x9 : Option D} {d : D} {l : Rho} : Wp (pVar 10 (x0 :: x1 :: x2 :: x3 :: x4 :: x5 :: x6 :: x7 :: x8 :: x9 :: some d :: l) M) Q N = Q d M := by with_unfolding_all rfl
theorem wp_name10 {x0 x1 x2 x3 x4 x5 x6 x7 x8 x9 : Option D} {y : Option D} {d : D} {l : Rho} : Wp (fName 10 d (x0 :: x1 :: x2 :: x3 :: x4 :: x5 :: x6 :: x7 :: x8 :: x9 :: y :: l) M) QR N = QR (x0 :: x1 :: x2 :: x3 :: x4 :: x5 :: x6 :: x7 :: x8 :: x9 :: some d :: l) M := by with_unfolding_all rfl
theorem wp_aug10 {x0 x1 x2 x3 x4 x5 x6 x7 x8 x9 : Option D} {d : D} {l : Rho} {f : FE} {g : PM → D → D → Out D} : Wp (sAug 10 f g (x0 :: x1 :: x2 :: x3 :: x4 :: x5 :: x6 :: x7 :: x8 :: x9 :: some d :: l) M) QF N = Wp (f (x0 :: x1 :: x2 :: x3 :: x4 :: x5 :: x6 :: x7 :: x8 :: x9 :: some d :: l) M) (kAug1 10 g d (x0 :: x1 :: x2 :: x3 :: x4 :: x5 :: x6 :: x7 :: x8 :: x9 :: some d :: l) QF N) N := by
  with_unfolding_all show Wp ((f (x0 :: x1 :: x2 :: x3 :: x4 :: x5 :: x6 :: x7 :: x8 :: x9 :: some d :: l) M).bind fun y M1 => (g M1 d y).bind fun z M2 => .ok (.nx (x0 :: x1 :: x2 :: x3 :: x4 :: x5 :: x6 :: x7 :: x8 :: x9 :: some z :: l)) M2) QF N = _
  rw [wp_bind]; congr 1; funext y M1; rw [wp_bind]; with_unfolding_all rfl
theorem wp_var11 {x0 x1 x2 x3 x4 x5 x6 x7 x8 x9 x10 : Option D} {d : D} {l : Rho} : Wp (pVar 11 (x0 :: x1 :: x2 :: x3 :: x4 :: x5 :: x6 :: x7 :: x8 :: x9 :: x10 :: some d :: l) M) Q N = Q d M := by with_unfolding_all rfl
theorem wp_name11 {x0 x1 x2 x3 x4 x5 x6 x7 x8 x9 x10 : Option D} {y : Option D} {d : D} {l : Rho} : Wp (fName 11 d (x0 :: x1 :: x2 :: x3 :: x4 :: x5 :: x6 :: x7 :: x8 :: x9 :: x10 :: y :: l) M) QR N = QR (x0 :: x1 :: x2 :: x3 :: x4 :: x5 :: x6 :: x7 :: x8 :: x9 :: x10 :: some d :: l) M := by with_unfolding_all rfl
theorem wp_aug11 {x0 x1 x2 x3 x4 x5 x6 x7 x8 x9 x10 : Option D} {d : D} {l : Rho} {f : FE} {g : PM → D → D → Out D} : Wp (sAug 11 f g (x0 :: x1 :: x2 :: x3 :: x4 :: x5 :: x6 :: x7 :: x8 :: x9 :: x10 :: some d :: l) M) QF N = Wp (f (x0 :: x1 :: x2 :: x3 :: x4 :: x5 :: x6 :: x7 :: x8 :: x9 :: x10 :: some d :: l) M) (kAug1 11 g d (x0 :: x1 :: x2 :: x3 :: x4 :: x5 :: x6 :: x7 :: x8 :: x9 :: x10 :: some d :: l) QF N) N := by
  with_unfolding_all show Wp ((f (x0 :: x1 :: x2 :: x3 :: x4 :: x5 :: x6 :: x7 :: x8 :: x9 :: x10 :: some d :: l) M).bind fun y M1 => (g M1 d y).bind fun z M2 => .ok (.nx (x0 :: x1 :: x2 :: x3 :: x4 :: x5 :: x6 :: x7 :: x8 :: x9 :: x10 :: some z :: l)) M2) QF N = _
  rw [wp_bind]; congr 1; funext y M1; rw [wp_bind]; with_unfolding_all rfl
theorem wp_var12 {x0 x1 x2 x3 x4 x5 x6 x7 x8 x9 x10 x11 : Option D} {d : D} {l : Rho} : Wp (pVar 12 (x0 :: x1 :: x2 :: x3 :: x4 :: x5 :: x6 :: x7 :: x8 :: x9 :: x10 :: x11 :: some d :: l) M) Q N = Q d M := by with_unfolding_all rfl
theorem wp_name12 {x0 x1 x2 x3 x4 x5 x6 x7 x8 x9 x10 x11 : Option D} {y : Option D} {d : D} {l : Rho} : Wp (fName 12 d (x0 :: x1 :: x2 :: x3 :: x4 :: x5 :: x6 :: x7 :: x8 :: x9 :: x10 :: x11 :: y :: l) M) QR N = QR (x0 :: x1 :: x2 :: x3 :: x4 :: x5 :: x6 :: x7 :: x8 :: x9 :: x10 :: x11 :: some d :: l) M := by with_unfolding_all rfl
theorem wp_aug12 {x0 x1 x2 x3 x4 x5 x6 x7 x8 x9 x10 x11 : Option D} {d : D} {l : Rho} {f : FE} {g : PM → D → D → Out D} : Wp (sAug 12 f g (x0 :: x1 :: x2 :: x3 :: x4 :: x5 :: x6 :: x7 :: x8 :: x9 :: x10 :: x11 :: some d :: l) M) QF N = Wp (f (x0 :: x1 :: x2 :: x3 :: x4 :: x5 :: x6 :: x7 :: x8 :: x9 :: x10 :: x11 :: some d :: l) M) (kAug1 12 g d (x0 :: x1 :: x2 :: x3 :: x4 :: x5 :: x6 :: x7 :: x8 :: x9 :: x10 :: x11 :: some d :: l) QF N) N := by
  with_unfolding_all show Wp ((f (x0 :: x1 :: x2 :: x3 :: x4 :: x5 :: x6 :: x7 :: x8 :: x9 :: x10 :: x11 :: some d :: l) M).bind fun y M1 => (g M1 d y).bind fun z M2 => .ok (.nx (x0 :: x1 :: x2 :: x3 :: x4 :: x5 :: x6 :: x7 :: x8 :: x9 :: x10 :: x11 :: some z :: l)) M2) QF N = _
  rw [wp_bind]; congr 1; funext y M1; rw [wp_bind]; with_unfolding_all rfl
theorem wp_var13 {x0 x1 x2 x3 x4 x5 x6 x7 x8 x9 x10 x11 x12 : Option D} {d : D} {l : Rho} : Wp (pVar 13 (x0 :: x1 :: x2 :: x3 :: x4 :: x5 :: x6 :: x7 :: x8 :: x9 :: x10 :: x11 :: x12 :: some d :: l) M) Q N = Q d M := by with_unfolding_all rfl
theorem wp_name13 {x0 x1 x2 x3 x4 x5 x6 x7 x8 x9 x10 x11 x12 : Option D} {y : Option D} {d : D} {l : Rho} : Wp (fName 13 d (x0 :: x1 :: x2 :: x3 :: x4 :: x5 :: x6 :: x7 :: x8 :: x9 :: x10 :: x11 :: x12 :: y :: l) M) QR N = QR (x0 :: x1 :: x2 :: x3 :: x4 :: x5 :: x6 :: x7 :: x8 :: x9 :: x10 :: x11 :: x12 :: some d :: l) M := by with_unfolding_all rfl
theorem wp_aug13 {x0 x1 x2 x3 x4 x5 x6 x7 x8 x9 x10 x11 x12 : Option D} {d : D} {l : Rho} {f : FE} {g : PM → D → D → Out D} : Wp (sAug 13 f g (x0 :: x1 :: x2 :: x3 :: x4 :: x5 :: x6 :: x7 :: x8 :: x9 :: x10 :: x11 :: x12 :: some d :: l) M) QF N = Wp (f (x0 :: x1 :: x2 :: x3 :: x4 :: x5 :: x6 :: x7 :: x8 :: x9 :: x10 :: x11 :: x12 :: some d :: l) M) (kAug1 13 g d (x0 :: x1 :: x2 :: x3 :: x4 :: x5 :: x6 :: x7 :: x8 :: x9 :: x10 :: x11 :: x12 :: some d :: l) QF N) N := by
  with_unfolding_all show Wp ((f (x0 :: x1 :: x2 :: x3 :: x4 :: x5 :: x6 :: x7 :: x8 :: x9 :: x10 :: x11 :: x12 :: some d :: l) M).bind fun y M1 => (g M1 d y).bind fun z M2 => .ok (.nx (x0 :: x1 :: x2 :: x3 :: x4 :: x5 :: x6 :: x7 :: x8 :: x9 :: x10 :: x11 :: x12 :: some z :: l)) M2) QF N = _
  rw [wp_bind]; congr 1; funext y M1; rw [wp_bind]; with_unfolding_all rfl
theorem wp_var14 {x0 x1 x2 x3 x4 x5 x6 x7 x8 x9 x10 x11 x12 x13 : Option D} {d : D} {l : Rho} : Wp (pVar 14 (x0 :: x1 :: x2 :: x3 :: x4 :: x5 :: x6 :: x7 :: x8 :: x9 :: x10 :: x11 :: x12 :: x13 :: some d :: l) M) Q N = Q d M := by with_unfolding_all rfl
theorem wp_name14 {x0 x1 x2 x3 x4 x5 x6 x7 x8 x9 x10 x11 x12 x13 : Option D} {y : Option D} {d : D} {l : Rho} : Wp (fName 14 d (x0 :: x1 :: x2 :: x3 :: x4 :: x5 :: x6 :: x7 :: x8 :: x9 :: x10 :: x11 :: x12 :: x13 :: y :: l) M) QR N = QR (x0 :: x1 :: x2 :: x3 :: x4 :: x5 :: x6 :: x7 :: x8 :: x9 :: x10 :: x11 :: x12 :: x13 :: some d :: l) M := by with_unfolding_all rfl
theorem wp_aug14 {x0 x1 x2 x3 x4 x5 x6 x7 x8 x9 x10 x11 x12 x13 : Option D} {d : D} {l : Rho} {f : FE} {g : PM → D → D → Out D} : Wp (sAug 14 f g (x0 :: x1 :: x2 :: x3 :: x4 :: x5 :: x6 :: x7 :: x8 :: x9 :: x10 :: x11 :: x12 :: x13 :: some d :: l) M) QF N = Wp (f (x0 :: x1 :: x2 :: x3 :: x4 :: x5 :: x6 :: x7 :: x8 :: x9 :: x10 :: x11 :: x12 :: x13 :: some d :: l) M) (kAug1 14 g d (x0 :: x1 :: x2 :: x3 :: x4 :: x5 :: x6 :: x7 :: x8 :: x9 :: x10 :: x11 :: x12 :: x13 :: some d :: l) QF N) N := by
  with_unfolding_all show Wp ((f (x0 :: x1 :: x2 :: x3 :: x4 :: x5 :: x6 :: x7 :: x8 :: x9 :: x10 :: x11 :: x12 :: x13 :: some d :: l) M).bind fun y M1 => (g M1 d y).bind fun z M2 => .ok (.nx (x0 :: x1 :: x2 :: x3 :: x4 :: x5 :: x6 :: x7 :: x8 :: x9 :: x10 :: x11 :: x12 :: x13 :: some z :: l)) M2) QF N = _
  rw [wp_bind]; congr 1; funext y M1; rw [wp_bind]; with_unfolding_all rfl
theorem wp_var15 {x0 x1 x2 x3 x4 x5 x6 x7 x8 x9 x10 x11 x12 x13 x14 : Option D} {d : D} {l : Rho} : Wp (pVar 15 (x0 :: x1 :: x2 :: x3 :: x4 :: x5 :: x6 :: x7 :: x8 :: x9 :: x10 :: x11 :: x12 :: x13 :: x14 :: some d :: l) M) Q N = Q d M := by with_unfolding_all rfl
theorem wp_name15 {x0 x1 x2 x3 x4 x5 x6 x7 x8 x9 x10 x11 x12 x13 x14 : Option D} {y : Option D} {d : D} {l : Rho} : Wp (fName 15 d (x0 :: x1 :: x2 :: x3 :: x4 :: x5 :: x6 :: x7 :: x8 :: x9 :: x10 :: x11 :: x12 :: x13 :: x14 :: y :: l) M) QR N = QR (x0 :: x1 :: x2 :: x3 :: x4 :: x5 :: x6 :: x7 :: x8 :: x9 :: x10 :: x11 :: x12 :: x13 :: x14 :: some d :: l) M := by with_unfolding_all rfl
theorem wp_aug15 {x0 x1 x2 x3 x4 x5 x6 x7 x8 x9 x10 x11 x12 x13 x14 : Option D} {d : D} {l : Rho} {f : FE} {g : PM → D → D → Out D} : Wp (sAug 15 f g (x0 :: x1 :: x2 :: x3 :: x4 :: x5 :: x6 :: x7 :: x8 :: x9 :: x10 :: x11 :: x12 :: x13 :: x14 :: some d :: l) M) QF N = Wp (f (x0 :: x1 :: x2 :: x3 :: x4 :: x5 :: x6 :: x7 :: x8 :: x9 :: x10 :: x11 :: x12 :: x13 :: x14 :: some d :: l) M) (kAug1 15 g d (x0 :: x1 :: x2 :: x3 :: x4 :: x5 :: x6 :: x7 :: x8 :: x9 :: x10 :: x11 :: x12 :: x13 :: x14 :: some d :: l) QF N) N := by
  with_unfolding_all show Wp ((f (x0 :: x1 :: x2 :: x3 :: x4 :: x5 :: x6 :: x7 :: x8 :: x9 :: x10 :: x11 :: x12 :: x13 :: x14 :: some d :: l) M).bind fun y M1 => (g M1 d y).bind fun z M2 => .ok (.nx (x0 :: x1 :: x2 :: x3 :: x4 :: x5 :: x6 :: x7 :: x8 :: x9 :: x10 :: x11 :: x12 :: x13 :: x14 :: some z :: l)) M2) QF N = _
  rw [wp_bind]; congr 1; funext y M1; rw [wp_bind]; with_unfolding_all rfl
theorem wp_var16 {x0 x1 x2 x3 x4 x5 x6 x7 x8 x9 x10 x11 x12 x13 x14 x15 : Option D} {d : D} {l : Rho} : Wp (pVar 16 (x0 :: x1 :: x2 :: x3 :: x4 :: x5 :: x6 :: x7 :: x8 :: x9 :: x10 :: x11 :: x12 :: x13 :: x14 :: x15 :: some d :: l) M) Q N = Q d M := by with_unfolding_all rfl
theorem wp_name16 {x0 x1 x2 x3 x4 x5 x6 x7 x8 x9 x10 x11 x12 x13 x14 x15 : Option D} {y : Option D} {d : D} {l : Rho} : Wp (fName 16 d (x0 :: x1 :: x2 :: x3 :: x4 :: x5 :: x6 :: x7 :: x8 :: x9 :: x10 :: x11 :: x12 :: x13 :: x14 :: x15 :: y :: l) M) QR N = QR (x0 :: x1 :: x2 :: x3 :: x4 :: x5 :: x6 :: x7 :: x8 :: x9 :: x10 :: x11 :: x12 :: x13 :: x14 :: x15 :: some d :: l) M := by with_unfolding_all rfl
theorem wp_aug16 {x0 x1 x2 x3 x4 x5 x6 x7 x8 x9 x10 x11 x12 x13 x14 x15 : Option D} {d : D} {l : Rho} {f : FE} {g : PM → D → D → Out D} : Wp (sAug 16 f g (x0 :: x1 :: x2 :: x3 :: x4 :: x5 :: x6 :: x7 :: x8 :: x9 :: x10 :: x11 :: x12 :: x13 :: x14 :: x15 :: some d :: l) M) QF N = Wp (f (x0 :: x1 :: x2 :: x3 :: x4 :: x5 :: x6 :: x7 :: x8 :: x9 :: x10 :: x11 :: x12 :: x13 :: x14 :: x15 :: some d :: l) M) (kAug1 16 g d (x0 :: x1 :: x2 :: x3 :: x4 :: x5 :: x6 :: x7 :: x8 :: x9 :: x10 :: x11 :: x12 :: x13 :: x14 :: x15 :: some d :: l) QF N) N := by
  with_unfolding_all show Wp ((f (x0 :: x1 :: x2 :: x3 :: x4 :: x5 :: x6 :: x7 :: x8 :: x9 :: x10 :: x11 :: x12 :: x13 :: x14 :: x15 :: some d :: l) M).bind fun y M1 => (g M1 d y).bind fun z M2 => .ok (.nx (x0 :: x1 :: x2 :: x3 :: x4 :: x5 :: x6 :: x7 :: x8 :: x9 :: x10 :: x11 :: x12 :: x13 :: x14 :: x15 :: some z :: l)) M2) QF N = _
  rw [wp_bind]; congr 1; funext y M1; rw [wp_bind]; with_unfolding_all rfl
theorem wp_var17 {x0 x1 x2 x3 x4 x5 x6 x7 x8 x9 x10 x11 x12 x13 x14 x15 x16 : Option D} {d : D} {l : Rho} : Wp (pVar 17 (x0 :: x1 :: x2 :: x3 :: x4 :: x5 :: x6 :: x7 :: x8 :: x9 :: x10 :: x11 :: x12 :: x13 :: x14 :: x15 :: x16 :: some d :: l) M) Q N = Q d M := by with_unfolding_all rfl
theorem wp_name17 {x0 x1 x2 x3 x4 x5 x6 x7 x8 x9 x10 x11 x12 x13 x14 x15 x16 : Option D} {y : Option D} {d : D} {l : Rho} : Wp (fName 17 d (x0 :: x1 :: x2 :: x3 :: x4 :: x5 :: x6 :: x7 :: x8 :: x9 :: x10 :: x11 :: x12 :: x13 :: x14 :: x15 :: x16 :: y :: l) M) QR N = QR (x0 :: x1 :: x2 :: x3 :: x4 :: x5 :: x6 :: x7 :: x8 :: x9 :: x10 :: x11 :: x12 :: x13 :: x14 :: x15 :: x16 :: some d :: l) M := by with_unfolding_all rfl
theorem wp_aug17 {x0 x1 x2 x3 x4 x5 x6 x7 x8 x9 x10 x11 x12 x13 x14 x15 x16 : Option D} {d : D} {l : Rho} {f : FE} {g : PM → D → D → Out D} : Wp (sAug 17 f g (x0 :: x1 :: x2 :: x3 :: x4 :: x5 :: x6 :: x7 :: x8 :: x9 :: x10 :: x11 :: x12 :: x13 :: x14 :: x15 :: x16 :: some d :: l) M) QF N = Wp (f (x0 :: x1 :: x2 :: x3 :: x4 :: x5 :: x6 :: x7 :: x8 :: x9 :: x10 :: x11 :: x12 :: x13 :: x14 :: x15 :: x16 :: some d :: l) M) (kAug1 17 g d (x0 :: x1 :: x2 :: x3 :: x4 :: x5 :: x6 :: x7 :: x8 :: x9 :: x10 :: x11 :: x12 :: x13 :: x14 :: x15 :: x16 :: some d :: l) QF N) N := by
  with_unfolding_all show Wp ((f (x0 :: x1 :: x2 :: x3 :: x4 :: x5 :: x6 :: x7 :: x8 :: x9 :: x10 :: x11 :: x12 :: x13 :: x14 :: x15 :: x16 :: some d :: l) M).bind fun y M1 => (g M1 d y).bind fun z M2 => .ok (.nx (x0 :: x1 :: x2 :: x3 :: x4 :: x5 :: x6 :: x7 :: x8 :: x9 :: x10 :: x11 :: x12 :: x13 :: x14 :: x15 :: x16 :: some z :: l)) M2) QF N = _
  rw [wp_bind]; congr 1; funext y M1; rw [wp_bind]; with_unfolding_all rfl
theorem wp_var18 {x0 x1 x2 x3 x4 x5 x6 x7 x8 x9 x10 x11 x12 x13 x14 x15 x16 x17 : Option D} {d : D} {l : Rho} : Wp (pVar 18 (x0 :: x1 :: x2 :: x3 :: x4 :: x5 :: x6 :: x7 :: x8 :: x9 :: x10 :: x11 :: x12 :: x13 :: x14 :: x15 :: x16 :: x17 :: some d :: l) M) Q N = Q d M := by with_unfolding_all rfl
theorem wp_name18 {x0 x1 x2 x3 x4 x5 x6 x7 x8 x9 x10 x11 x12 x13 x14 x15 x16 x17 : Option D} {y : Option D} {d : D} {l : Rho} : Wp (fName 18 d (x0 :: x1 :: x2 :: x3 :: x4 :: x5 :: x6 :: x7 :: x8 :: x9 :: x10 :: x11 :: x12 :: x13 :: x14 :: x15 :: x16 :: x17 :: y :: l) M) QR N = QR (x0 :: x1 :: x2 :: x3 :: x4 :: x5 :: x6 :: x7 :: x8 :: x9 :: x10 :: x11 :: x12 :: x13 :: x14 :: x15 :: x16 :: x17 :: some d :: l) M := by with_unfolding_all rfl
theorem wp_aug18 {x0 x1 x2 x3 x4 x5 x6 x7 x8 x9 x10 x11 x12 x13 x14 x15 x16 x17 : Option D} {d : D} {l : Rho} {f : FE} {g : PM → D → D → Out D} : Wp (sAug 18 f g (x0 :: x1 :: x2 :: x3 :: x4 :: x5 :: x6 :: x7 :: x8 :: x9 :: x10 :: x11 :: x12 :: x13 :: x14 :: x15 :: x16 :: x17 :: some d :: l) M) QF N = Wp (f (x0 :: x1 :: x2 :: x3 :: x4 :: x5 :: x6 :: x7 :: x8 :: x9 :: x10 :: x11 :: x12 :: x13 :: x14 :: x15 :: x16 :: x17 :: some d :: l) M) (kAug1 18 g d (x0 :: x1 :: x2 :: x3 :: x4 :: x5 :: x6 :: x7 :: x8 :: x9 :: x10 :: x11 :: x12 :: x13 :: x14 :: x15 :: x16 :: x17 :: some d :: l) QF N) N := by
  with_unfolding_all show Wp ((f (x0 :: x1 :: x2 :: x3 :: x4 :: x5 :: x6 :: x7 :: x8 :: x9 :: x10 :: x11 :: x12 :: x13 :: x14 :: x15 :: x16 :: x17 :: some d :: l) M).bind fun y M1 => (g M1 d y).bind fun z M2 => .ok (.nx (x0 :: x1 :: x2 :: x3 :: x4 :: x5 :: x6 :: x7 :: x8 :: x9 :: x10 :: x11 :: x12 :: x13 :: x14 :: x15 :: x16 :: x17 :: some z :: l)) M2) QF N = _
  rw [wp_bind]; congr 1; funext y M1; rw [wp_bind]; with_unfolding_all rfl
theorem wp_var19 {x0 x1 x2 x3 x4 x5 x6 x7 x8 x9 x10 x11 x12 x13 x14 x15 x16 x17 x18 : Option D} {d : D} {l : Rho} : Wp (pVar 19 (x0 :: x1 :: x2 :: x3 :: x4 :: x5 :: x6 :: x7 :: x8 :: x9 :: x10 :: x11 :: x12 :: x13 :: x14 :: x15 :: x16 :: x17 :: x18 :: some d :: l) M) Q N = Q d M := by with_unfolding_all rfl
theorem wp_name19 {x0 x1 x2 x3 x4 x5 x6 x7 x8 x9 x10 x11 x12 x13 x14 x15 x16 x17 x18 : Option D} {y : Option D} {d : D} {l : Rho} : Wp (fName 19 d (x0 :: x1 :: x2 :: x3 :: x4 :: x5 :: x6 :: x7 :: x8 :: x9 :: x10 :: x11 :: x12 :: x13 :: x14 :: x15 :: x16 :: x17 :: x18 :: y :: l) M) QR N = QR (x0 :: x1 :: x2 :: x3 :: x4 :: x5 :: x6 :: x7 :: x8 :: x9 :: x10 :: x11 :: x12 :: x13 :: x14 :: x15 :: x16 :: x17 :: x18 :: some d :: l) M := by with_unfolding_all rfl
theorem wp_aug19 {x0 x1 x2 x3 x4 x5 x6 x7 x8 x9 x10 x11 x12 x13 x14 x15 x16 x17 x18 : Option D} {d : D} {l : Rho} {f : FE} {g : PM → D → D → Out D} : Wp (sAug 19 f g (x0 :: x1 :: x2 :: x3 :: x4 :: x5 :: x6 :: x7 :: x8 :: x9 :: x10 :: x11 :: x12 :: x13 :: x14 :: x15 :: x16 :: x17 :: x18 :: some d :: l) M) QF N = Wp (f (x0 :: x1 :: x2 :: x3 :: x4 :: x5 :: x6 :: x7 :: x8 :: x9 :: x10 :: x11 :: x12 :: x13 :: x14 :: x15 :: x16 :: x17 :: x18 :: some d :: l) M) (kAug1 19 g d (x0 :: x1 :: x2 :: x3 :: x4 :: x5 :: x6 :: x7 :: x8 :: x9 :: x10 :: x11 :: x12 :: x13 :: x14 :: x15 :: x16 :: x17 :: x18 :: some d :: l) QF N) N := by
  with_unfolding_all show Wp ((f (x0 :: x1 :: x2 :: x3 :: x4 :: x5 :: x6 :: x7 :: x8 :: x9 :: x10 :: x11 :: x12 :: x13 :: x14 :: x15 :: x16 :: x17 :: x18 :: some d :: l) M).bind fun y M1 => (g M1 d y).bind fun z M2 => .ok (.nx (x0 :: x1 :: x2 :: x3 :: x4 :: x5 :: x6 :: x7 :: x8 :: x9 :: x10 :: x11 :: x12 :: x13 :: x14 :: x15 :: x16 :: x17 :: x18 :: some z :: l)) M2) QF N = _
  rw [wp_bind]; congr 1; funext y M1; rw [wp_bind]; with_unfolding_all rfl
theorem wp_var20 {x0 x1 x2 x3 x4 x5 x6 x7 x8 x9 x10 x11 x12 x13 x14 x15 x16 x17 x18 x19 : Option D} {d : D} {l : Rho} : Wp (pVar 20 (x0 :: x1 :: x2 :: x3 :: x4 :: x5 :: x6 :: x7 :: x8 :: x9 :: x10 :: x11 :: x12 :: x13 :: x14 :: x15 :: x16 :: x17 :: x18 :: x19 :: some d :: l) M) Q N = Q d M := by with_unfolding_all rfl
theorem wp_name20 {x0 x1 x2 x3 x4 x5 x6 x7 x8 x9 x10 x11 x12 x13 x14 x15 x16 x17 x18 x19 : Option D} {y : Option D} {d : D} {l : Rho} : Wp (fName 20 d (x0 :: x1 :: x2 :: x3 :: x4 :: x5 :: x6 :: x7 :: x8 :: x9 :: x10 :: x11 :: x12 :: x13 :: x14 :: x15 :: x16 :: x17 :: x18 :: x19 :: y :: l) M) QR N = QR (x0 :: x1 :: x2 :: x3 :: x4 :: x5 :: x6 :: x7 :: x8 :: x9 :: x10 :: x11 :: x12 :: x13 :: x14 :: x15 :: x16 :: x17 :: x18 :: x19 :: some d :: l) M := by with_unfolding_all rfl
theorem wp_aug20 {x0 x1 x2 x3 x4 x5 x6 x7 x8 x9 x10 x11 x12 x13 x14 x15 x16 x17 x18 x19 : Option D} {d : D} {l : Rho} {f : FE} {g : PM → D → D → Out D} : Wp (sAug 20 f g (x0 :: x1 :: x2 :: x3 :: x4 :: x5 :: x6 :: x7 :: x8 :: x9 :: x10 :: x11 :: x12 :: x13 :: x14 :: x15 :: x16 :: x17 :: x18 :: x19 :: some d :: l) M) QF N = Wp (f (x0 :: x1 :: x2 :: x3 :: x4 :: x5 :: x6 :: x7 :: x8 :: x9 :: x10 :: x11 :: x12 :: x13 :: x14 :: x15 :: x16 :: x17 :: x18 :: x19 :: some d :: l) M) (kAug1 20 g d (x0 :: x1 :: x2 :: x3 :: x4 :: x5 :: x6 :: x7 :: x8 :: x9 :: x10 :: x11 :: x12 :: x13 :: x14 :: x15 :: x16 :: x17 :: x18 :: x19 :: some d :: l) QF N) N := by
  with_unfolding_all show Wp ((f (x0 :: x1 :: x2 :: x3 :: x4 :: x5 :: x6 :: x7 :: x8 :: x9 :: x10 :: x11 :: x12 :: x13 :: x14 :: x15 :: x16 :: x17 :: x18 :: x19 :: some d :: l) M).bind fun y M1 => (g M1 d y).bind fun z M2 => .ok (.nx (x0 :: x1 :: x2 :: x3 :: x4 :: x5 :: x6 :: x7 :: x8 :: x9 :: x10 :: x11 :: x12 :: x13 :: x14 :: x15 :: x16 :: x17 :: x18 :: x19 :: some z :: l)) M2) QF N = _
  rw [wp_bind]; congr 1; funext y M1; rw [wp_bind]; with_unfolding_all rfl
theorem wp_var21 {x0 x1 x2 x3 x4 x5 x6 x7 x8 x9 x10 x11 x12 x13 x14 x15 x16 x17 x18 x19 x20 : Option D} {d : D} {l : Rho} : Wp (pVar 21 (x0 :: x1 :: x2 :: x3 :: x4 :: x5 :: x6 :: x7 :: x8 :: x9 :: x10 :: x11 :: x12 :: x13 :: x14 :: x15 :: x16 :: x17 :: x18 :: x19 :: x20 :: some d :: l) M) Q N = Q d M := by with_unfolding_all rfl
theorem wp_name21 {x0 x1 x2 x3 x4 x5 x6 x7 x8 x9 x10 x11 x12 x13 x14 x15 x16 x17 x18 x19 x20 : Option D} {y : Option D} {d : D} {l : Rho} : Wp (fName 21 d (x0 :: x1 :: x2 :: x3 :: x4 :: x5 :: x6 :: x7 :: x8 :: x9 :: x10 :: x11 :: x12 :: x13 :: x14 :: x15 :: x16 :: x17 :: x18 :: x19 :: x20 :: y :: l) M) QR N = QR (x0 :: x1 :: x2 :: x3 :: x4 :: x5 :: x6 :: x7 :: x8 :: x9 :: x10 :: x11 :: x12 :: x13 :: x14 :: x15 :: x16 :: x17 :: x18 :: x19 :: x20 :: some d :: l) M := by with_unfolding_all rfl
theorem wp_aug21 {x0 x1 x2 x3 x4 x5 x6 x7 x8 x9 x10 x11 x12 x13 x14 x15 x16 x17 x18 x19 x20 : Option D} {d : D} {l : Rho} {f : FE} {g : PM → D → D → Out D} : Wp (sAug 21 f g (x0 :: x1 :: x2 :: x3 :: x4 :: x5 :: x6 :: x7 :: x8 :: x9 :: x10 :: x11 :: x12 :: x13 :: x14 :: x15 :: x16 :: x17 :: x18 :: x19 :: x20 :: some d :: l) M) QF N = Wp (f (x0 :: x1 :: x2 :: x3 :: x4 :: x5 :: x6 :: x7 :: x8 :: x9 :: x10 :: x11 :: x12 :: x13 :: x14 :: x15 :: x16 :: x17 :: x18 :: x19 :: x20 :: some d :: l) M) (kAug1 21 g d (x0 :: x1 :: x2 :: x3 :: x4 :: x5 :: x6 :: x7 :: x8 :: x9 :: x10 :: x11 :: x12 :: x13 :: x14 :: x15 :: x16 :: x17 :: x18 :: x19 :: x20 :: some d :: l) QF N) N := by
  with_unfolding_all show Wp ((f (x0 :: x1 :: x2 :: x3 :: x4 :: x5 :: x6 :: x7 :: x8 :: x9 :: x10 :: x11 :: x12 :: x13 :: x14 :: x15 :: x16 :: x17 :: x18 :: x19 :: x20 :: some d :: l) M).bind fun y M1 => (g M1 d y).bind fun z M2 => .ok (.nx (x0 :: x1 :: x2 :: x3 :: x4 :: x5 :: x6 :: x7 :: x8 :: x9 :: x10 :: x11 :: x12 :: x13 :: x14 :: x15 :: x16 :: x17 :: x18 :: x19 :: x20 :: some z :: l)) M2) QF N = _
  rw [wp_bind]; congr 1; funext y M1; rw [wp_bind]; with_unfolding_all rfl
theorem wp_var22 {x0 x1 x2 x3 x4 x5 x6 x7 x8 x9 x10 x11 x12 x13 x14 x15 x16 x17 x18 x19 x20 x21 : Option D} {d : D} {l : Rho} : Wp (pVar 22 (x0 :: x1 :: x2 :: x3 :: x4 :: x5 :: x6 :: x7 :: x8 :: x9 :: x10 :: x11 :: x12 :: x13 :: x14 :: x15 :: x16 :: x17 :: x18 :: x19 :: x20 :: x21 :: some d :: l) M) Q N = Q d M := by with_unfolding_all rfl
theorem wp_name22 {x0 x1 x2 x3 x4 x5 x6 x7 x8 x9 x10 x11 x12 x13 x14 x15 x16 x17 x18 x19 x20 x21 : Option D} {y : Option D} {d : D} {l : Rho} : Wp (fName 22 d (x0 :: x1 :: x2 :: x3 :: x4 :: x5 :: x6 :: x7 :: x8 :: x9 :: x10 :: x11 :: x12 :: x13 :: x14 :: x15 :: x16 :: x17 :: x18 :: x19 :: x20 :: x21 :: y :: l) M) QR N = QR (x0 :: x1 :: x2 :: x3 :: x4 :: x5 :: x6 :: x7 :: x8 :: x9 :: x10 :: x11 :: x12 :: x13 :: x14 :: x15 :: x16 :: x17 :: x18 :: x19 :: x20 :: x21 :: some d :: l) M := by with_unfolding_all rfl
theorem wp_aug22 {x0 x1 x2 x3 x4 x5 x6 x7 x8 x9 x10 x11 x12 x13 x14 x15 x16 x17 x18 x19 x20 x21 : Option D} {d : D} {l : Rho} {f : FE} {g : PM → D → D → Out D} : Wp (sAug 22 f g (x0 :: x1 :: x2 :: x3 :: x4 :: x5 :: x6 :: x7 :: x8 :: x9 :: x10 :: x11 :: x12 :: x13 :: x14 :: x15 :: x16 :: x17 :: x18 :: x19 :: x20 :: x21 :: some d :: l) M) QF N = Wp (f (x0 :: x1 :: x2 :: x3 :: x4 :: x5 :: x6 :: x7 :: x8 :: x9 :: x10 :: x11 :: x12 :: x13 :: x14 :: x15 :: x16 :: x17 :: x18 :: x19 :: x20 :: x21 :: some d :: l) M) (kAug1 22 g d (x0 :: x1 :: x2 :: x3 :: x4 :: x5 :: x6 :: x7 :: x8 :: x9 :: x10 :: x11 :: x12 :: x13 :: x14 :: x15 :: x16 :: x17 :: x18 :: x19 :: x20 :: x21 :: some d :: l) QF N) N := by
  with_unfolding_all show Wp ((f (x0 :: x1 :: x2 :: x3 :: x4 :: x5 :: x6 :: x7 :: x8 :: x9 :: x10 :: x11 :: x12 :: x13 :: x14 :: x15 :: x16 :: x17 :: x18 :: x19 :: x20 :: x21 :: some d :: l) M).bind fun y M1 => (g M1 d y).bind fun z M2 => .ok (.nx (x0 :: x1 :: x2 :: x3 :: x4 :: x5 :: x6 :: x7 :: x8 :: x9 :: x10 :: x11 :: x12 :: x13 :: x14 :: x15 :: x16 :: x17 :: x18 :: x19 :: x20 :: x21 :: some z :: l)) M2) QF N = _
  rw [wp_bind]; congr 1; funext y M1; rw [wp_bind]; with_unfolding_all rfl
theorem wp_var23 {x0 x1 x2 x3 x4 x5 x6 x7 x8 x9 x10 x11 x12 x13 x14 x15 x16 x17 x18 x19 x20 x21 x22 : Option D} {d : D} {l : Rho} : Wp (pVar 23 (x0 :: x1 :: x2 :: x3 :: x4 :: x5 :: x6 :: x7 :: x8 :: x9 :: x10 :: x11 :: x12 :: x13 :: x14 :: x15 :: x16 :: x17 :: x18 :: x19 :: x20 :: x21 :: x22 :: some d :: l) M) Q N = Q d M := by with_unfolding_all rfl
theorem wp_name23 {x0 x1 x2 x3 x4 x5 x6 x7 x8 x9 x10 x11 x12 x13 x14 x15 x16 x17 x18 x19 x20 x21 x22 : Option D} {y : Option D} {d : D} {l : Rho} : Wp (fName 23 d (x0 :: x1 :: x2 :: x3 :: x4 :: x5 :: x6 :: x7 :: x8 :: x9 :: x10 :: x11 :: x12 :: x13 :: x14 :: x15 :: x16 :: x17 :: x18 :: x19 :: x20 :: x21 :: x22 :: y :: l) M) QR N = QR (x0 :: x1 :: x2 :: x3 :: x4 :: x5 :: x6 :: x7 :: x8 :: x9 :: x10 :: x11 :: x12 :: x13 :: x14 :: x15 :: x16 :: x17 :: x18 :: x19 :: x20 :: x21 :: x22 :: some d :: l) M := by with_unfolding_all rfl
theorem wp_aug23 {x0 x1 x2 x3 x4 x5 x6 x7 x8 x9 x10 x11 x12 x13 x14 x15 x16 x17 x18 x19 x20 x21 x22 : Option D} {d : D} {l : Rho} {f : FE} {g : PM → D → D → Out D} : Wp (sAug 23 f g (x0 :: x1 :: x2 :: x3 :: x4 :: x5 :: x6 :: x7 :: x8 :: x9 :: x10 :: x11 :: x12 :: x13 :: x14 :: x15 :: x16 :: x17 :: x18 :: x19 :: x20 :: x21 :: x22 :: some d :: l) M) QF N = Wp (f (x0 :: x1 :: x2 :: x3 :: x4 :: x5 :: x6 :: x7 :: x8 :: x9 :: x10 :: x11 :: x12 :: x13 :: x14 :: x15 :: x16 :: x17 :: x18 :: x19 :: x20 :: x21 :: x22 :: some d :: l) M) (kAug1 23 g d (x0 :: x1 :: x2 :: x3 :: x4 :: x5 :: x6 :: x7 :: x8 :: x9 :: x10 :: x11 :: x12 :: x13 :: x14 :: x15 :: x16 :: x17 :: x18 :: x19 :: x20 :: x21 :: x22 :: some d :: l) QF N) N := by
  with_unfolding_all show Wp ((f (x0 :: x1 :: x2 :: x3 :: x4 :: x5 :: x6 :: x7 :: x8 :: x9 :: x10 :: x11 :: x12 :: x13 :: x14 :: x15 :: x16 :: x17 :: x18 :: x19 :: x20 :: x21 :: x22 :: some d :: l) M).bind fun y M1 => (g M1 d y).bind fun z M2 => .ok (.nx (x0 :: x1 :: x2 :: x3 :: x4 :: x5 :: x6 :: x7 :: x8 :: x9 :: x10 :: x11 :: x12 :: x13 :: x14 :: x15 :: x16 :: x17 :: x18 :: x19 :: x20 :: x21 :: x22 :: some z :: l)) M2) QF N = _
  rw [wp_bind]; congr 1; funext y M1; rw [wp_bind]; with_unfolding_all rfl
theorem wp_var24 {x0 x1 x2 x3 x4 x5 x6 x7 x8 x9 x10 x11 x12 x13 x14 x15 x16 x17 x18 x19 x20 x21 x22 x23 : Option D} {d : D} {l : Rho} : Wp (pVar 24 (x0 :: x1 :: x2 :: x3 :: x4 :: x5 :: x6 :: x7 :: x8 :: x9 :: x10 :: x11 :: x12 :: x13 :: x14 :: x15 :: x16 :: x17 :: x18 :: x19 :: x20 :: x21 :: x22 :: x23 :: some d :: l) M) Q N = Q d M := by with_unfolding_all rfl
theorem wp_name24 {x0 x1 x2 x3 x4 x5 x6 x7 x8 x9 x10 x11 x12 x13 x14 x15 x16 x17 x18 x19 x20 x21 x22 x23 : Option D} {y : Option D} {d : D} {l : Rho} : Wp (fName 24 d (x0 :: x1 :: x2 :: x3 :: x4 :: x5 :: x6 :: x7 :: x8 :: x9 :: x10 :: x11 :: x12 :: x13 :: x14 :: x15 :: x16 :: x17 :: x18 :: x19 :: x20 :: x21 :: x22 :: x23 :: y :: l) M) QR N = QR (x0 :: x1 :: x2 :: x3 :: x4 :: x5 :: x6 :: x7 :: x8 :: x9 :: x10 :: x11 :: x12 :: x13 :: x14 :: x15 :: x16 :: x17 :: x18 :: x19 :: x20 :: x21 :: x22 :: x23 :: some d :: l) M := by with_unfolding_all rfl
theorem wp_aug24 {x0 x1 x2 x3 x4 x5 x6 x7 x8 x9 x10 x11 x12 x13 x14 x15 x16 x17 x18 x19 x20 x21 x22 x23 : Option D} {d : D} {l : Rho} {f : FE} {g : PM → D → D → Out D} : Wp (sAug 24 f g (x0 :: x1 :: x2 :: x3 :: x4 :: x5 :: x6 :: x7 :: x8 :: x9 :: x10 :: x11 :: x12 :: x13 :: x14 :: x15 :: x16 :: x17 :: x18 :: x19 :: x20 :: x21 :: x22 :: x23 :: some d :: l) M) QF N = Wp (f (x0 :: x1 :: x2 :: x3 :: x4 :: x5 :: x6 :: x7 :: x8 :: x9 :: x10 :: x11 :: x12 :: x13 :: x14 :: x15 :: x16 :: x17 :: x18 :: x19 :: x20 :: x21 :: x22 :: x23 :: some d :: l) M) (kAug1 24 g d (x0 :: x1 :: x2 :: x3 :: x4 :: x5 :: x6 :: x7 :: x8 :: x9 :: x10 :: x11 :: x12 :: x13 :: x14 :: x15 :: x16 :: x17 :: x18 :: x19 :: x20 :: x21 :: x22 :: x23 :: some d :: l) QF N) N := by
  with_unfolding_all show Wp ((f (x0 :: x1 :: x2 :: x3 :: x4 :: x5 :: x6 :: x7 :: x8 :: x9 :: x10 :: x11 :: x12 :: x13 :: x14 :: x15 :: x16 :: x17 :: x18 :: x19 :: x20 :: x21 :: x22 :: x23 :: some d :: l) M).bind fun y M1 => (g M1 d y).bind fun z M2 => .ok (.nx (x0 :: x1 :: x2 :: x3 :: x4 :: x5 :: x6 :: x7 :: x8 :: x9 :: x10 :: x11 :: x12 :: x13 :: x14 :: x15 :: x16 :: x17 :: x18 :: x19 :: x20 :: x21 :: x22 :: x23 :: some z :: l)) M2) QF N = _
  rw [wp_bind]; congr 1; funext y M1; rw [wp_bind]; with_unfolding_all rfl
theorem wp_var25 {x0 x1 x2 x3 x4 x5 x6 x7 x8 x9 x10 x11 x12 x13 x14 x15 x16 x17 x18 x19 x20 x21 x22 x23 x24 : Option D} {d : D} {l : Rho} : Wp (pVar 25 (x0 :: x1 :: x2 :: x3 :: x4 :: x5 :: x6 :: x7 :: x8 :: x9 :: x10 :: x11 :: x12 :: x13 :: x14 :: x15 :: x16 :: x17 :: x18 :: x19 :: x20 :: x21 :: x22 :: x23 :: x24 :: some d :: l) M) Q N = Q d M := by with_unfolding_all rfl
theorem wp_name25 {x0 x1 x2 x3 x4 x5 x6 x7 x8 x9 x10 x11 x12 x13 x14 x15 x16 x17 x18 x19 x20 x21 x22 x23 x24 : Option D} {y : Option D} {d : D} {l : Rho} : Wp (fName 25 d (x0 :: x1 :: x2 :: x3 :: x4 :: x5 :: x6 :: x7 :: x8 :: x9 :: x10 :: x11 :: x12 :: x13 :: x14 :: x15 :: x16 :: x17 :: x18 :: x19 :: x20 :: x21 :: x22 :: x23 :: x24 :: y :: l) M) QR N = QR (x0 :: x1 :: x2 :: x3 :: x4 :: x5 :: x6 :: x7 :: x8 :: x9 :: x10 :: x11 :: x12 :: x13 :: x14 :: x15 :: x16 :: x17 :: x18 :: x19 :: x20 :: x21 :: x22 :: x23 :: x24 :: some d :: l) M := by with_unfolding_all rfl
theorem wp_aug25 {x0 x1 x2 x3 x4 x5 x6 x7 x8 x9 x10 x11 x12 x13 x14 x15 x16 x17 x18 x19 x20 x21 x22 x23 x24 : Option D} {d : D} {l : Rho} {f : FE} {g : PM → D → D → Out D} : Wp (sAug 25 f g (x0 :: x1 :: x2 :: x3 :: x4 :: x5 :: x6 :: x7 :: x8 :: x9 :: x10 :: x11 :: x12 :: x13 :: x14 :: x15 :: x16 :: x17 :: x18 :: x19 :: x20 :: x21 :: x22 :: x23 :: x24 :: some d :: l) M) QF N = Wp (f (x0 :: x1 :: x2 :: x3 :: x4 :: x5 :: x6 :: x7 :: x8 :: x9 :: x10 :: x11 :: x12 :: x13 :: x14 :: x15 :: x16 :: x17 :: x18 :: x19 :: x20 :: x21 :: x22 :: x23 :: x24 :: some d :: l) M) (kAug1 25 g d (x0 :: x1 :: x2 :: x3 :: x4 :: x5 :: x6 :: x7 :: x8 :: x9 :: x10 :: x11 :: x12 :: x13 :: x14 :: x15 :: x16 :: x17 :: x18 :: x19 :: x20 :: x21 :: x22 :: x23 :: x24 :: some d :: l) QF N) N := by
  with_unfolding_all show Wp ((f (x0 :: x1 :: x2 :: x3 :: x4 :: x5 :: x6 :: x7 :: x8 :: x9 :: x10 :: x11 :: x12 :: x13 :: x14 :: x15 :: x16 :: x17 :: x18 :: x19 :: x20 :: x21 :: x22 :: x23 :: x24 :: some d :: l) M).bind fun y M1 => (g M1 d y).bind fun z M2 => .ok (.nx (x0 :: x1 :: x2 :: x3 :: x4 :: x5 :: x6 :: x7 :: x8 :: x9 :: x10 :: x11 :: x12 :: x13 :: x14 :: x15 :: x16 :: x17 :: x18 :: x19 :: x20 :: x21 :: x22 :: x23 :: x24 :: some z :: l)) M2) QF N = _
  rw [wp_bind]; congr 1; funext y M1; rw [wp_bind]; with_unfolding_all rfl
theorem wp_var26 {x0 x1 x2 x3 x4 x5 x6 x7 x8 x9 x10 x11 x12 x13 x14 x15 x16 x17 x18 x19 x20 x21 x22 x23 x24 x25 : Option D} {d : D} {l : Rho} : Wp (pVar 26 (x0 :: x1 :: x2 :: x3 :: x4 :: x5 :: x6 :: x7 :: x8 :: x9 :: x10 :: x11 :: x12 :: x13 :: x14 :: x15 :: x16 :: x17 :: x18 :: x19 :: x20 :: x21 :: x22 :: x23 :: x24 :: x25 :: some d :: l) M) Q N = Q d M := by with_unfolding_all rfl
theorem wp_name26 {x0 x1 x2 x3 x4 x5 x6 x7 x8 x9 x10 x11 x12 x13 x14 x15 x16 x17 x18 x19 x20 x21 x22 x23 x24 x25 : Option D} {y : Option D} {d : D} {l : Rho} : Wp (fName 26 d (x0 :: x1 :: x2 :: x3 :: x4 :: x5 :: x6 :: x7 :: x8 :: x9 :: x10 :: x11 :: x12 :: x13 :: x14 :: x15 :: x16 :: x17 :: x18 :: x19 :: x20 :: x21 :: x22 :: x23 :: x24 :: x25 :: y :: l) M) QR N = QR (x0 :: x1 :: x2 :: x3 :: x4 :: x5 :: x6 :: x7 :: x8 :: x9 :: x10 :: x11 :: x12 :: x13 :: x14 :: x15 :: x16 :: x17 :: x18 :: x19 :: x20 :: x21 :: x22 :: x23 :: x24 :: x25 :: some d :: l) M := by with_unfolding_all rfl
theorem wp_aug26 {x0 x1 x2 x3 x4 x5 x6 x7 x8 x9 x10 x11 x12 x13 x14 x15 x16 x17 x18 x19 x20 x21 x22 x23 x24 x25 : Option D} {d : D} {l : Rho} {f : FE} {g : PM → D → D → Out D} : Wp (sAug 26 f g (x0 :: x1 :: x2 :: x3 :: x4 :: x5 :: x6 :: x7 :: x8 :: x9 :: x10 :: x11 :: x12 :: x13 :: x14 :: x15 :: x16 :: x17 :: x18 :: x19 :: x20 :: x21 :: x22 :: x23 :: x24 :: x25 :: some d :: l) M) QF N = Wp (f (x0 :: x1 :: x2 :: x3 :: x4 :: x5 :: x6 :: x7 :: x8 :: x9 :: x10 :: x11 :: x12 :: x13 :: x14 :: x15 :: x16 :: x17 :: x18 :: x19 :: x20 :: x21 :: x22 :: x23 :: x24 :: x25 :: some d :: l) M) (kAug1 26 g d (x0 :: x1 :: x2 :: x3 :: x4 :: x5 :: x6 :: x7 :: x8 :: x9 :: x10 :: x11 :: x12 :: x13 :: x14 :: x15 :: x16 :: x17 :: x18 :: x19 :: x20 :: x21 :: x22 :: x23 :: x24 :: x25 :: some d :: l) QF N) N := by
  with_unfolding_all show Wp ((f (x0 :: x1 :: x2 :: x3 :: x4 :: x5 :: x6 :: x7 :: x8 :: x9 :: x10 :: x11 :: x12 :: x13 :: x14 :: x15 :: x16 :: x17 :: x18 :: x19 :: x20 :: x21 :: x22 :: x23 :: x24 :: x25 :: some d :: l) M).bind fun y M1 => (g M1 d y).bind fun z M2 => .ok (.nx (x0 :: x1 :: x2 :: x3 :: x4 :: x5 :: x6 :: x7 :: x8 :: x9 :: x10 :: x11 :: x12 :: x13 :: x14 :: x15 :: x16 :: x17 :: x18 :: x19 :: x20 :: x21 :: x22 :: x23 :: x24 :: x25 :: some z :: l)) M2) QF N = _
  rw [wp_bind]; congr 1; funext y M1; rw [wp_bind]; with_unfolding_all rfl
theorem wp_var27 {x0 x1 x2 x3 x4 x5 x6 x7 x8 x9 x10 x11 x12 x13 x14 x15 x16 x17 x18 x19 x20 x21 x22 x23 x24 x25 x26 : Option D} {d : D} {l : Rho} : Wp (pVar 27 (x0 :: x1 :: x2 :: x3 :: x4 :: x5 :: x6 :: x7 :: x8 :: x9 :: x10 :: x11 :: x12 :: x13 :: x14 :: x15 :: x16 :: x17 :: x18 :: x19 :: x20 :: x21 :: x22 :: x23 :: x24 :: x25 :: x26 :: some d :: l) M) Q N = Q d M := by with_unfolding_all rfl
theorem wp_name27 {x0 x1 x2 x3 x4 x5 x6 x7 x8 x9 x10 x11 x12 x13 x14 x15 x16 x17 x18 x19 x20 x21 x22 x23 x24 x25 x26 : Option D} {y : Option D} {d : D} {l : Rho} : Wp (fName 27 d (x0 :: x1 :: x2 :: x3 :: x4 :: x5 :: x6 :: x7 :: x8 :: x9 :: x10 :: x11 :: x12 :: x13 :: x14 :: x15 :: x16 :: x17 :: x18 :: x19 :: x20 :: x21 :: x22 :: x23 :: x24 :: x25 :: x26 :: y :: l) M) QR N = QR (x0 :: x1 :: x2 :: x3 :: x4 :: x5 :: x6 :: x7 :: x8 :: x9 :: x10 :: x11 :: x12 :: x13 :: x14 :: x15 :: x16 :: x17 :: x18 :: x19 :: x20 :: x21 :: x22 :: x23 :: x24 :: x25 :: x26 :: some d :: l) M := by with_unfolding_all rfl
theorem wp_aug27 {x0 x1 x2 x3 x4 x5 x6 x7 x8 x9 x10 x11 x12 x13 x14 x15 x16 x17 x18 x19 x20 x21 x22 x23 x24 x25 x26 : Option D} {d : D} {l : Rho} {f : FE} {g : PM → D → D → Out D} : Wp (sAug 27 f g (x0 :: x1 :: x2 :: x3 :: x4 :: x5 :: x6 :: x7 :: x8 :: x9 :: x10 :: x11 :: x12 :: x13 :: x14 :: x15 :: x16 :: x17 :: x18 :: x19 :: x20 :: x21 :: x22 :: x23 :: x24 :: x25 :: x26 :: some d :: l) M) QF N = Wp (f (x0 :: x1 :: x2 :: x3 :: x4 :: x5 :: x6 :: x7 :: x8 :: x9 :: x10 :: x11 :: x12 :: x13 :: x14 :: x15 :: x16 :: x17 :: x18 :: x19 :: x20 :: x21 :: x22 :: x23 :: x24 :: x25 :: x26 :: some d :: l) M) (kAug1 27 g d (x0 :: x1 :: x2 :: x3 :: x4 :: x5 :: x6 :: x7 :: x8 :: x9 :: x10 :: x11 :: x12 :: x13 :: x14 :: x15 :: x16 :: x17 :: x18 :: x19 :: x20 :: x21 :: x22 :: x23 :: x24 :: x25 :: x26 :: some d :: l) QF N) N := by
  with_unfolding_all show Wp ((f (x0 :: x1 :: x2 :: x3 :: x4 :: x5 :: x6 :: x7 :: x8 :: x9 :: x10 :: x11 :: x12 :: x13 :: x14 :: x15 :: x16 :: x17 :: x18 :: x19 :: x20 :: x21 :: x22 :: x23 :: x24 :: x25 :: x26 :: some d :: l) M).bind fun y M1 => (g M1 d y).bind fun z M2 => .ok (.nx (x0 :: x1 :: x2 :: x3 :: x4 :: x5 :: x6 :: x7 :: x8 :: x9 :: x10 :: x11 :: x12 :: x13 :: x14 :: x15 :: x16 :: x17 :: x18 :: x19 :: x20 :: x21 :: x22 :: x23 :: x24 :: x25 :: x26 :: some z :: l)) M2) QF N = _
  rw [wp_bind]; congr 1; funext y M1; rw [wp_bind]; with_unfolding_all rfl
theorem wp_var28 {x0 x1 x2 x3 x4 x5 x6 x7 x8 x9 x10 x11 x12 x13 x14 x15 x16 x17 x18 x19 x20 x21 x22 x23 x24 x25 x26 x27 : Option D} {d : D} {l : Rho} : Wp (pVar 28 (x0 :: x1 :: x2 :: x3 :: x4 :: x5 :: x6 :: x7 :: x8 :: x9 :: x10 :: x11 :: x12 :: x13 :: x14 :: x15 :: x16 :: x17 :: x18 :: x19 :: x20 :: x21 :: x22 :: x23 :: x24 :: x25 :: x26 :: x27 :: some d :: l) M) Q N = Q d M := by with_unfolding_all rfl
theorem wp_name28 {x0 x1 x2 x3 x4 x5 x6 x7 x8 x9 x10 x11 x12 x13 x14 x15 x16 x17 x18 x19 x20 x21 x22 x23 x24 x25 x26 x27 : Option D} {y : Option D} {d : D} {l : Rho} : Wp (fName 28 d (x0 :: x1 :: x2 :: x3 :: x4 :: x5 :: x6 :: x7 :: x8 :: x9 :: x10 :: x11 :: x12 :: x13 :: x14 :: x15 :: x16 :: x17 :: x18 :: x19 :: x20 :: x21 :: x22 :: x23 :: x24 :: x25 :: x26 :: x27 :: y :: l) M) QR N = QR (x0 :: x1 :: x2 :: x3 :: x4 :: x5 :: x6 :: x7 :: x8 :: x9 :: x10 :: x11 :: x12 :: x13 :: x14 :: x15 :: x16 :: x17 :: x18 :: x19 :: x20 :: x21 :: x22 :: x23 :: x24 :: x25 :: x26 :: x27 :: some d :: l) M := by with_unfolding_all rfl
theorem wp_aug28 {x0 x1 x2 x3 x4 x5 x6 x7 x8 x9 x10 x11 x12 x13 x14 x15 x16 x17 x18 x19 x20 x21 x22 x23 x24 x25 x26 x27 : Option D} {d : D} {l : Rho} {f : FE} {g : PM → D → D → Out D} : Wp (sAug 28 f g (x0 :: x1 :: x2 :: x3 :: x4 :: x5 :: x6 :: x7 :: x8 :: x9 :: x10 :: x11 :: x12 :: x13 :: x14 :: x15 :: x16 :: x17 :: x18 :: x19 :: x20 :: x21 :: x22 :: x23 :: x24 :: x25 :: x26 :: x27 :: some d :: l) M) QF N = Wp (f (x0 :: x1 :: x2 :: x3 :: x4 :: x5 :: x6 :: x7 :: x8 :: x9 :: x10 :: x11 :: x12 :: x13 :: x14 :: x15 :: x16 :: x17 :: x18 :: x19 :: x20 :: x21 :: x22 :: x23 :: x24 :: x25 :: x26 :: x27 :: some d :: l) M) (kAug1 28 g d (x0 :: x1 :: x2 :: x3 :: x4 :: x5 :: x6 :: x7 :: x8 :: x9 :: x10 :: x11 :: x12 :: x13 :: x14 :: x15 :: x16 :: x17 :: x18 :: x19 :: x20 :: x21 :: x22 :: x23 :: x24 :: x25 :: x26 :: x27 :: some d :: l) QF N) N := by
  with_unfolding_all show Wp ((f (x0 :: x1 :: x2 :: x3 :: x4 :: x5 :: x6 :: x7 :: x8 :: x9 :: x10 :: x11 :: x12 :: x13 :: x14 :: x15 :: x16 :: x17 :: x18 :: x19 :: x20 :: x21 :: x22 :: x23 :: x24 :: x25 :: x26 :: x27 :: some d :: l) M).bind fun y M1 => (g M1 d y).bind fun z M2 => .ok (.nx (x0 :: x1 :: x2 :: x3 :: x4 :: x5 :: x6 :: x7 :: x8 :: x9 :: x10 :: x11 :: x12 :: x13 :: x14 :: x15 :: x16 :: x17 :: x18 :: x19 :: x20 :: x21 :: x22 :: x23 :: x24 :: x25 :: x26 :: x27 :: some z :: l)) M2) QF N = _
  rw [wp_bind]; congr 1; funext y M1; rw [wp_bind]; with_unfolding_all rfl
theorem wp_var29 {x0 x1 x2 x3 x4 x5 x6 x7 x8 x9 x10 x11 x12 x13 x14 x15 x16 x17 x18 x19 x20 x21 x22 x23 x24 x25 x26 x27 x28 : Option D} {d : D} {l : Rho} : Wp (pVar 29 (x0 :: x1 :: x2 :: x3 :: x4 :: x5 :: x6 :: x7 :: x8 :: x9 :: x10 :: x11 :: x12 :: x13 :: x14 :: x15 :: x16 :: x17 :: x18 :: x19 :: x20 :: x21 :: x22 :: x23 :: x24 :: x25 :: x26 :: x27 :: x28 :: some d :: l) M) Q N = Q d M := by with_unfolding_all rfl
theorem wp_name29 {x0 x1 x2 x3 x4 x5 x6 x7 x8 x9 x10 x11 x12 x13 x14 x15 x16 x17 x18 x19 x20 x21 x22 x23 x24 x25 x26 x27 x28 : Option D} {y : Option D} {d : D} {l : Rho} : Wp (fName 29 d (x0 :: x1 :: x2 :: x3 :: x4 :: x5 :: x6 :: x7 :: x8 :: x9 :: x10 :: x11 :: x12 :: x13 :: x14 :: x15 :: x16 :: x17 :: x18 :: x19 :: x20 :: x21 :: x22 :: x23 :: x24 :: x25 :: x26 :: x27 :: x28 :: y :: l) M) QR N = QR (x0 :: x1 :: x2 :: x3 :: x4 :: x5 :: x6 :: x7 :: x8 :: x9 :: x10 :: x11 :: x12 :: x13 :: x14 :: x15 :: x16 :: x17 :: x18 :: x19 :: x20 :: x21 :: x22 :: x23 :: x24 :: x25 :: x26 :: x27 :: x28 :: some d :: l) M := by with_unfolding_all rfl
theorem wp_aug29 {x0 x1 x2 x3 x4 x5 x6 x7 x8 x9 x10 x11 x12 x13 x14 x15 x16 x17 x18 x19 x20 x21 x22 x23 x24 x25 x26 x27 x28 : Option D} {d : D} {l : Rho} {f : FE} {g : PM → D → D → Out D} : Wp (sAug 29 f g (x0 :: x1 :: x2 :: x3 :: x4 :: x5 :: x6 :: x7 :: x8 :: x9 :: x10 :: x11 :: x12 :: x13 :: x14 :: x15 :: x16 :: x17 :: x18 :: x19 :: x20 :: x21 :: x22 :: x23 :: x24 :: x25 :: x26 :: x27 :: x28 :: some d :: l) M) QF N = Wp (f (x0 :: x1 :: x2 :: x3 :: x4 :: x5 :: x6 :: x7 :: x8 :: x9 :: x10 :: x11 :: x12 :: x13 :: x14 :: x15 :: x16 :: x17 :: x18 :: x19 :: x20 :: x21 :: x22 :: x23 :: x24 :: x25 :: x26 :: x27 :: x28 :: some d :: l) M) (kAug1 29 g d (x0 :: x1 :: x2 :: x3 :: x4 :: x5 :: x6 :: x7 :: x8 :: x9 :: x10 :: x11 :: x12 :: x13 :: x14 :: x15 :: x16 :: x17 :: x18 :: x19 :: x20 :: x21 :: x22 :: x23 :: x24 :: x25 :: x26 :: x27 :: x28 :: some d :: l) QF N) N := by
  with_unfolding_all show Wp ((f (x0 :: x1 :: x2 :: x3 :: x4 :: x5 :: x6 :: x7 :: x8 :: x9 :: x10 :: x11 :: x12 :: x13 :: x14 :: x15 :: x16 :: x17 :: x18 :: x19 :: x20 :: x21 :: x22 :: x23 :: x24 :: x25 :: x26 :: x27 :: x28 :: some d :: l) M).bind fun y M1 => (g M1 d y).bind fun z M2 => .ok (.nx (x0 :: x1 :: x2 :: x3 :: x4 :: x5 :: x6 :: x7 :: x8 :: x9 :: x10 :: x11 :: x12 :: x13 :: x14 :: x15 :: x16 :: x17 :: x18 :: x19 :: x20 :: x21 :: x22 :: x23 :: x24 :: x25 :: x26 :: x27 :: x28 :: some z :: l)) M2) QF N = _
  rw [wp_bind]; congr 1; funext y M1; rw [wp_bind]; with_unfolding_all rfl
end
/-! ### objects that change, at the end -/
section
variable {J L : PM} {m x x0 x1 x2 y : MO} {M : PM}
theorem getJ0 : (m :: (J ++ x :: L))[J.length + 1]? = some x := by simp
theorem getJ1 : (m :: (J ++ x0 :: x :: L))[J.length + 2]? = some x := by
  rw [List.getElem?_cons_succ, List.getElem?_append_right (by omega), Nat.add_sub_cancel_left]; rfl
theorem getJ2 : (m :: (J ++ x0 :: x1 :: x :: L))[J.length + 3]? = some x := by
  rw [List.getElem?_cons_succ, List.getElem?_append_right (by omega), Nat.add_sub_cancel_left]; rfl
theorem setJ0 : (m :: (J ++ x :: L)).set (J.length + 1) y = m :: (J ++ y :: L) := by simp
theorem setJ1 : (m :: (J ++ x0 :: x :: L)).set (J.length + 2) y = m :: (J ++ x0 :: y :: L) := by
  rw [List.set_cons_succ, List.set_append_right _ _ (by omega), Nat.add_sub_cancel_left]; rfl
theorem setJ2 : (m :: (J ++ x0 :: x1 :: x :: L)).set (J.length + 3) y = m :: (J ++ x0 :: x1 :: y :: L) := by
  rw [List.set_cons_succ, List.set_append_right _ _ (by omega), Nat.add_sub_cancel_left]; rfl
theorem lenJ0 : (m :: J).length = J.length + 1 := rfl
theorem lenJ1 : (m :: (J ++ [x])).length = J.length + 2 := by simp
theorem lenJ2 : (m :: (J ++ [x0, x])).length = J.length + 3 := by simp
theorem getM0 : (M ++ x :: L)[M.length]? = some x := by simp
theorem getM1 : (M ++ x0 :: x :: L)[M.length + 1]? = some x := by
  rw [List.getElem?_append_right (by omega), Nat.add_sub_cancel_left]; rfl
theorem getM2 : (M ++ x0 :: x1 :: x :: L)[M.length + 2]? = some x := by
  rw [List.getElem?_append_right (by omega), Nat.add_sub_cancel_left]; rfl
theorem setM0 : (M ++ x :: L).set M.length y = M ++ y :: L := by simp
theorem setM1 : (M ++ x0 :: x :: L).set (M.length + 1) y = M ++ x0 :: y :: L := by
  rw [List.set_append_right _ _ (by omega), Nat.add_sub_cancel_left]; rfl
theorem setM2 : (M ++ x0 :: x1 :: x :: L).set (M.length + 2) y = M ++ x0 :: x1 :: y :: L := by
  rw [List.set_append_right _ _ (by omega), Nat.add_sub_cancel_left]; rfl
theorem lenM1 : (M ++ [x]).length = M.length + 1 := by simp
theorem lenM2 : (M ++ [x0, x]).length = M.length + 2 := by simp
theorem seqOf_at {M : PM} {k : Nat} {ds : List D} (h : M[k]? = some (.lst ds)) : seqOf M (.adr k) = some ds := seq_adr h
theorem e_tupA {M : PM} {k : Nat} {ds : List D} (h : M[k]? = some (.lst ds)) : bTuple M [.adr k] = .ok (.tup ds) M := e_tup (seq_adr h)
theorem e_lenA {M : PM} {k : Nat} {ds : List D} (h : M[k]? = some (.lst ds)) : bLen M [.adr k] = .ok (.int (ds.length : Int)) M := e_len (seq_adr h)
end
/-! ### a def's end -/
def finF (n : Nat) : Fl → PM → Out D
  | .rt d, M => fin n d M
  | .nx _, M => fin n .non M
  | _, _ => .bad
theorem run_wp {ar : Nat} {N : List Str} {g : FS} {ds : List D} {M M' : PM} {d : D} (ha : ds.length = ar) (h : Wp (g (rho0 N ds) M) (fun fl M1 => finF M.length fl M1 = .ok d M') NX) : run ar N g ds M = .ok d M' := by
  obtain ⟨fl, M1, e, q⟩ := wp_get h
  unfold run
  rw [if_pos ha, e]
  cases fl <;> first | exact q | cases q
theorem run_wpE {ar : Nat} {N : List Str} {g : FS} {ds : List D} {M : PM} {R : D → PM → Prop} (ha : ds.length = ar) (h : Wp (g (rho0 N ds) M) (fun fl M1 => ∃ d M', finF M.length fl M1 = .ok d M' ∧ R d M') NX) : ∃ d M', run ar N g ds M = .ok d M' ∧ R d M' := by
  obtain ⟨fl, M1, e, d, M', q, r⟩ := wp_get h
  refine ⟨d, M', ?_, r⟩
  unfold run
  rw [if_pos ha, e]
  cases fl <;> first | exact q | cases q
theorem fin_a {n : Nat} {M1 L : PM} {i : Nat} {es : List D} (hl : M1.length = n) (hM : M1.all (clMO n) = true) (hi : n ≤ i) (he : (M1 ++ L)[i]? = some (.lst es)) (hc : clL n es = true) : fin n (.adr i) (M1 ++ L) = .ok (.lst es) M1 := by
  unfold fin
  have e : (M1 ++ L).take n = M1 := by rw [← hl]; simp
  rw [e, if_pos ⟨by rw [List.length_append]; omega, hM⟩, if_neg (by simp only [clD, decide_eq_true_eq]; omega)]
  simp only [he]
  rw [if_pos hc]
section
variable {M L : PM} {d : D} {es : List D} {x0 x1 : MO}
theorem pe0 (w : WfM M) (hd : clD M.length d = true) : finF M.length (.rt d) M = .ok d M := by
  have := fin_ok' (J := []) rfl w hd
  rw [List.append_nil] at this
  exact this
theorem pe1 (w : WfM M) (hd : clD M.length d = true) : finF M.length (.rt d) (M ++ L) = .ok d M := fin_ok' rfl w hd
theorem pe0' {d' : D} (w : WfM M) (hd : clD 0 d = true) (e : d = d') : finF M.length (.rt d) M = .ok d' M := by rw [← e]; exact pe0 w (clD_mono (Nat.zero_le _) _ hd)
theorem pe1' {d' : D} (w : WfM M) (hd : clD 0 d = true) (e : d = d') : finF M.length (.rt d) (M ++ L) = .ok d' M := by rw [← e]; exact pe1 w (clD_mono (Nat.zero_le _) _ hd)
theorem peN (w : WfM M) {ρ : Rho} : finF M.length (.nx ρ) M = .ok .non M := by
  have := fin_ok' (J := []) (d := .non) rfl w rfl
  rw [List.append_nil] at this
  exact this
theorem pea0 (w : WfM M) (hd : clL M.length es = true) : finF M.length (.rt (.adr M.length)) (M ++ .lst es :: L) = .ok (.lst es) M := fin_a rfl w (Nat.le_refl _) getM0 hd
theorem pea1 (w : WfM M) (hd : clL M.length es = true) : finF M.length (.rt (.adr (M.length + 1))) (M ++ x0 :: .lst es :: L) = .ok (.lst es) M := fin_a rfl w (by omega) getM1 hd
theorem pea0' {d' : D} (w : WfM M) (hd : clL 0 es = true) (e : .lst es = d') : finF M.length (.rt (.adr M.length)) (M ++ .lst es :: L) = .ok d' M := by rw [← e]; exact pea0 w (clL_mono (Nat.zero_le _) _ hd)
theorem pea1' {d' : D} (w : WfM M) (hd : clL 0 es = true) (e : .lst es = d') : finF M.length (.rt (.adr (M.length + 1))) (M ++ x0 :: .lst es :: L) = .ok d' M := by rw [← e]; exact pea1 w (clL_mono (Nat.zero_le _) _ hd)
end
/-! ### what a law draws: its state is the first object -/
def WJ (J : PM) : Prop := J.all (clMO (J.length + 1)) = true
theorem WJ.nil : WJ [] := rfl
theorem WJ.wf {J : PM} {m : MO} (h : WJ J) (hs : Rst m) : WfM (m :: J) := by
  unfold WfM
  rw [List.all_cons, hs.cl]
  exact h
theorem WJ.snoc {J : PM} {x : MO} (h : WJ J) (hx : clMO 0 x = true) : WJ (J ++ [x]) := by
  unfold WJ at h ⊢
  rw [List.all_append, List.length_append]
  simp only [List.length_cons, List.length_nil, List.all_cons, List.all_nil, Bool.and_true, Bool.and_eq_true]
  exact ⟨List.all_eq_true.mpr fun y hy => clMO_mono (by omega) y (List.all_eq_true.mp h y hy), clMO_mono (by omega) x hx⟩
theorem WfM.snoc0 {M : PM} {x : MO} (h : WfM M) (hx : clMO 0 x = true) : WfM (M ++ [x]) := h.snoc (clMO_mono (by omega) x hx)
/-- a def that draws: its state moves, all else stays -/
def Dr (Φ : List D → PM → Out D) (args : List D) (P : D → Prop) : Prop := ∀ J m, WJ J → Rst m → ∃ d m', Φ args (m :: J) = .ok d (m' :: J) ∧ Rst m' ∧ clD 0 d = true ∧ P d
theorem dr_run {ar : Nat} {N : List Str} {g : FS} {args : List D} {P : D → Prop} (ha : args.length = ar) (h : ∀ J m, WJ J → Rst m → Wp (g (rho0 N args) (m :: J)) (fun fl M1 => ∃ d m', finF (J.length + 1) fl M1 = .ok d (m' :: J) ∧ Rst m' ∧ clD 0 d = true ∧ P d) NX) : Dr (run ar N g) args P := fun J m hJ hs => by
  obtain ⟨d, M', e, m', e2, e3⟩ := run_wpE (R := fun d M' => ∃ m', M' = m' :: J ∧ Rst m' ∧ clD 0 d = true ∧ P d) ha (wp_mono (h J m hJ hs) fun fl M1 ⟨d, m', e, r⟩ => ⟨d, _, e, m', rfl, r⟩)
  subst e2
  exact ⟨d, m', e, e3⟩
theorem wp_dr {Φ : List D → PM → Out D} {args : List D} {P : D → Prop} {Q : D → PM → Prop} {N : Value → Option (List (Str × D)) → PM → Prop} {J : PM} {m : MO} (h : Dr Φ args P) (hJ : WJ J) (hs : Rst m) (k : ∀ d m', Rst m' → clD 0 d = true → P d → Q d (m' :: J)) : Wp (Φ args (m :: J)) Q N := by
  obtain ⟨d, m', e, h1, h2, h3⟩ := h J m hJ hs
  rw [e, wp_ok]
  exact k d m' h1 h2 h3
theorem wp_draw {Φ : List D → PM → Out D} {args : List D} {P : D → Prop} {Q : D → PM → Prop} {N : Value → Option (List (Str × D)) → PM → Prop} {J : PM} {m : MO} (h : Dr Φ args P) (hJ : WJ J) (hs : Rst m) (k : ∀ d m', Rst m' → clD 0 d = true → P d → Q d (m' :: J)) : Wp (Φ args (m :: J)) Q N := by
  obtain ⟨d, m', e, h1, h2, h3⟩ := h J m hJ hs
  rw [e, wp_ok]
  exact k d m' h1 h2 h3
section
variable {J L : PM} {m : MO} {d : D} {P : D → Prop} {es : List D}
theorem de0 (hJ : WJ J) (hs : Rst m) (hc : clD 0 d = true) (hp : P d) : ∃ d' m', finF (J.length + 1) (.rt d) (m :: J) = .ok d' (m' :: J) ∧ Rst m' ∧ clD 0 d' = true ∧ P d' :=
  ⟨d, m, pe0 (M := m :: J) (hJ.wf hs) (clD_mono (Nat.zero_le _) _ hc), hs, hc, hp⟩
theorem de1 (hJ : WJ J) (hs : Rst m) (hc : clD 0 d = true) (hp : P d) : ∃ d' m', finF (J.length + 1) (.rt d) (m :: (J ++ L)) = .ok d' (m' :: J) ∧ Rst m' ∧ clD 0 d' = true ∧ P d' :=
  ⟨d, m, pe1 (M := m :: J) (hJ.wf hs) (clD_mono (Nat.zero_le _) _ hc), hs, hc, hp⟩
theorem dea0 (hJ : WJ J) (hs : Rst m) (hc : clL 0 es = true) (hp : P (.lst es)) : ∃ d' m', finF (J.length + 1) (.rt (.adr (J.length + 1))) (m :: (J ++ .lst es :: L)) = .ok d' (m' :: J) ∧ Rst m' ∧ clD 0 d' = true ∧ P d' :=
  ⟨.lst es, m, pea0 (M := m :: J) (hJ.wf hs) (clL_mono (Nat.zero_le _) _ hc), hs, by simpa [clD] using hc, hp⟩
end
/-- the machine of all laws -/
theorem dr_next {N : List Str} (hN : N.length = 5) (ns : List Int) (many : Int) (hm : 0 < many ∧ many < 1073741824) : Dr (run 3 N gNext) [.adr 0, .rol (ns.map .int), .int many] (fun d => ∃ r : Int, d = .int r ∧ 0 ≤ r ∧ r < many) := fun J m hJ hs => by
  obtain ⟨r, m', e, h0, h1, h2⟩ := next_ok (M := m :: J) (i := 0) hN (hJ.wf hs) (by simp) hm hs (ns := ns)
  refine ⟨.int r, m', ?_, h2, rfl, r, rfl, h0, h1⟩
  have e1 : (m :: J).set 0 m = m :: J := rfl
  rw [e1] at e
  exact e
/-! ### loops -/
@[irreducible] def kLp (b : FS) (Qn : Rho → PM → Prop) (Q : Fl → PM → Prop) (N : KX) : Rho → PM → Prop := fun ρ M => Wp (b ρ M) (kEach Qn Q) N
theorem kLp_eq {b : FS} {Qn : Rho → PM → Prop} {Q : Fl → PM → Prop} {N : KX} {ρ : Rho} {M : PM} : kLp b Qn Q N ρ M = Wp (b ρ M) (kEach Qn Q) N := by with_unfolding_all rfl
@[irreducible] def kWh (b : FS) (Qn : Rho → PM → Prop) (Q : Fl → PM → Prop) (ρ : Rho) (N : KX) : Bool → PM → Prop := fun x M => Wif x (kW b ρ M (kEach Qn Q) N) (kV Q (.nx ρ) M)
theorem kWh_eq {b : FS} {Qn : Rho → PM → Prop} {Q : Fl → PM → Prop} {N : KX} {ρ : Rho} {x : Bool} {M : PM} : kWh b Qn Q ρ N x M = Wif x (kW b ρ M (kEach Qn Q) N) (kV Q (.nx ρ) M) := by with_unfolding_all rfl
@[irreducible] def kL2 (f : FE) (ρ1 : Rho) (QE : D → PM → Prop) (QS : Unit → PM → Prop) (N : KX) : Bool → PM → Prop := fun x M => Wif x (kW f ρ1 M QE N) (kV QS () M)
theorem kL2_eq {f : FE} {ρ1 : Rho} {QE : D → PM → Prop} {QS : Unit → PM → Prop} {N : KX} {x : Bool} {M : PM} : kL2 f ρ1 QE QS N x M = Wif x (kW f ρ1 M QE N) (kV QS () M) := by with_unfolding_all rfl
@[irreducible] def kL1 (t : FT) (f : FE) (QE : D → PM → Prop) (QS : Unit → PM → Prop) (N : KX) : Rho → PM → Prop := fun ρ1 M => Wp (t ρ1 M) (kL2 f ρ1 QE QS N) N
theorem kL1_eq {t : FT} {f : FE} {QE : D → PM → Prop} {QS : Unit → PM → Prop} {N : KX} {ρ1 : Rho} {M : PM} : kL1 t f QE QS N ρ1 M = Wp (t ρ1 M) (kL2 f ρ1 QE QS N) N := by with_unfolding_all rfl
section
variable {QF : Fl → PM → Prop} {N : KX} {ρ : Rho} {M : PM} {g : FG} {b : FS} {c : FT} {α : Type}
theorem wp_each (f : α → D) (I : List α → List α → Rho → PM → Prop) {xs : List α} (h0 : I [] xs ρ M)
    (hs : ∀ pre a post ρ M, xs = pre ++ a :: post → I pre (a :: post) ρ M → Wp (g (f a) ρ M) (kLp b (fun ρ' M2 => I (pre ++ [a]) post ρ' M2) QF N) N)
    (he : ∀ ρ M, I xs [] ρ M → QF (.nx ρ) M) : Wp (sEach g b (xs.map f) ρ M) QF N := by
  suffices h : ∀ (post pre : List α) (ρ : Rho) (M : PM), xs = pre ++ post → I pre post ρ M → Wp (sEach g b (post.map f) ρ M) QF N from h xs [] ρ M rfl h0
  intro post
  induction post with
  | nil => intro pre ρ M e h; rw [List.append_nil] at e; subst e; with_unfolding_all exact he ρ M h
  | cons a post ih =>
    intro pre ρ M e h
    rw [List.map_cons, wp_each1]
    refine wp_mono (hs pre a post ρ M e h) fun ρ1 M1 h1 => ?_
    rw [kLp_eq] at h1
    rw [kE1_eq]
    refine wp_mono h1 fun fl M2 h2 => ?_
    cases fl with
    | nx ρ' => rw [kEach_nx] at h2; rw [kEach_nx, kE2_eq]; with_unfolding_all exact ih (pre ++ [a]) ρ' M2 (by rw [e, List.append_assoc]; with_unfolding_all rfl) h2
    | ct ρ' => rw [kEach_ct] at h2; rw [kEach_ct, kE2_eq]; with_unfolding_all exact ih (pre ++ [a]) ρ' M2 (by rw [e, List.append_assoc]; with_unfolding_all rfl) h2
    | bk ρ' => rw [kEach_bk] at h2; rw [kEach_bk]; with_unfolding_all exact h2
    | rt d => rw [kEach_rt] at h2; rw [kEach_rt]; with_unfolding_all exact h2
/-- .. that says nothing of how far it came -/
theorem wp_eachI (I : Rho → PM → Prop) {ds : List D} (h0 : I ρ M)
    (hs : ∀ d ρ M, d ∈ ds → I ρ M → Wp (g d ρ M) (kLp b I QF N) N)
    (he : ∀ ρ M, I ρ M → QF (.nx ρ) M) : Wp (sEach g b ds ρ M) QF N := by
  have := wp_each (g := g) (b := b) (QF := QF) (N := N) (fun d : D => d) (fun _ _ ρ M => I ρ M) (xs := ds) (ρ := ρ) (M := M) h0 (fun pre a post ρ M e h => hs a ρ M (by rw [e]; simp) h) he
  rwa [List.map_id'] at this
theorem wp_while (I : Nat → Rho → PM → Prop) {n : Nat} (k : Nat) (hk : k < n) (h0 : I k ρ M)
    (hs : ∀ k ρ M, I k ρ M → Wp (c ρ M) (kWh b (fun ρ' M2 => ∃ k', k' < k ∧ I k' ρ' M2) QF ρ N) N) : Wp (sWhile c b n ρ M) QF N := by
  induction n generalizing k ρ M with
  | zero => omega
  | succ n ih =>
    with_unfolding_all show Wp ((c ρ M).bind _) QF N
    rw [wp_bind]
    refine wp_mono (hs k ρ M h0) fun x M1 h1 => ?_
    rw [kWh_eq] at h1
    cases x with
    | false => rw [wif_false, kV_eq] at h1; rw [if_neg Bool.false_ne_true, wp_ok]; with_unfolding_all exact h1
    | true =>
      rw [wif_true, kW_eq] at h1
      rw [if_pos rfl, wp_bind]
      refine wp_mono h1 fun fl M2 h2 => ?_
      cases fl with
      | nx ρ' => rw [kEach_nx] at h2; obtain ⟨k', h3, h4⟩ := h2; with_unfolding_all exact ih k' (by omega) h4
      | ct ρ' => rw [kEach_ct] at h2; obtain ⟨k', h3, h4⟩ := h2; with_unfolding_all exact ih k' (by omega) h4
      | bk ρ' => rw [kEach_bk] at h2; rw [wp_ok]; with_unfolding_all exact h2
      | rt d => rw [kEach_rt] at h2; rw [wp_ok]; with_unfolding_all exact h2
end
section
variable {Q : D → PM → Prop} {N : KX} {ρ : Rho} {M : PM} {g : FG} {t : FT} {f : FE} {α : Type}
theorem wp_lcFrom (fn : α → D) (I : List α → List α → List D → PM → Prop) {n : Nat} {xs : List α} (hn : M.length = n) (h0 : I [] xs [] M)
    (hs : ∀ pre a post acc M, xs = pre ++ a :: post → M.length = n → I pre (a :: post) acc M → Wp (g (fn a) ρ (M ++ [.lst acc])) (kL1 t f (fun y M3 => acc.length < 16777216 ∧ ∃ M4, M3 = M4 ++ [MO.lst acc] ∧ M4.length = n ∧ I (pre ++ [a]) post (acc ++ [y]) M4) (fun _ M2 => ∃ M4, M2 = M4 ++ [MO.lst acc] ∧ M4.length = n ∧ I (pre ++ [a]) post acc M4) N) N)
    (he : ∀ acc M, M.length = n → I xs [] acc M → clL n acc = true ∧ M.all (clMO n) = true ∧ Q (.lst acc) M) : Wp (lcFrom n g t f ρ (xs.map fn) (M ++ [.lst []])) Q N := by
  suffices h : ∀ (post pre : List α) (acc : List D) (M : PM), xs = pre ++ post → M.length = n → I pre post acc M → Wp (lcFrom n g t f ρ (post.map fn) (M ++ [.lst acc])) Q N from h xs [] [] M rfl hn h0
  intro post
  induction post with
  | nil =>
    intro pre acc M e hn h
    rw [List.append_nil] at e
    subst e
    obtain ⟨h1, h2, h3⟩ := he acc M hn h
    with_unfolding_all show Wp (lcEnd n (M ++ [.lst acc])) Q N
    unfold lcEnd
    have e1 : (M ++ [MO.lst acc])[n]? = some (.lst acc) := by rw [← hn]; simp
    have e2 : (M ++ [MO.lst acc]).take n = M := by rw [← hn]; simp
    simp only [e1]
    rw [if_pos ⟨by simp [hn], h1, by rw [e2]; with_unfolding_all exact h2⟩, e2]
    rw [wp_ok]
    with_unfolding_all exact h3
  | cons a post ih =>
    intro pre acc M e hn h
    rw [List.map_cons]
    with_unfolding_all show Wp ((g (fn a) ρ (M ++ [.lst acc])).bind _) Q N
    rw [wp_bind]
    refine wp_mono (hs pre a post acc M e hn h) fun ρ1 M1 h1 => ?_
    rw [wp_bind]
    rw [kL1_eq] at h1
    refine wp_mono h1 fun x M2 h2 => ?_
    rw [kL2_eq] at h2
    cases x with
    | true =>
      rw [wif_true, kW_eq] at h2
      rw [if_pos rfl]
      rw [wp_bind]
      refine wp_mono h2 fun y M3 ⟨h3, M4, h4, h5, h6⟩ => ?_
      rw [wp_bind]
      subst h4
      have e1 : lcPut n y (M4 ++ [.lst acc]) = .ok () (M4 ++ [.lst (acc ++ [y])]) := by
        unfold lcPut
        have e1 : (M4 ++ [MO.lst acc])[n]? = some (.lst acc) := by rw [← h5]; simp
        simp only [e1]
        rw [if_pos h3, ← h5]
        simp
      rw [e1, wp_ok]
      with_unfolding_all exact ih (pre ++ [a]) (acc ++ [y]) M4 (by rw [e, List.append_assoc]; with_unfolding_all rfl) h5 h6
    | false =>
      rw [wif_false, kV_eq] at h2
      rw [if_neg Bool.false_ne_true]
      obtain ⟨M4, h4, h5, h6⟩ := h2
      subst h4
      with_unfolding_all exact ih (pre ++ [a]) acc M4 (by rw [e, List.append_assoc]; with_unfolding_all rfl) h5 h6
/-- a comprehension whose pieces change nothing: the items that pass, each by its value -/
theorem wp_lcP (fn : α → D) (p : α → Bool) (v : α → D) {xs : List α} (w : WfM M) (hl : xs.length ≤ 16777216) (hc : ∀ a ∈ xs, clD 0 (v a) = true)
    (hs : ∀ a ∈ xs, ∀ acc, clL 0 acc = true → Wp (g (fn a) ρ (M ++ [.lst acc])) (kL1 t f (fun y M3 => p a = true ∧ y = v a ∧ M3 = M ++ [MO.lst acc]) (fun _ M2 => p a = false ∧ M2 = M ++ [MO.lst acc]) N) N)
    (q : Q (.lst ((xs.filter p).map v)) M) : Wp (lcFrom M.length g t f ρ (xs.map fn) (M ++ [.lst []])) Q N := by
  refine wp_lcFrom fn (fun pre post acc M' => M' = M ∧ acc = (pre.filter p).map v ∧ clL 0 acc = true) rfl ⟨rfl, rfl, rfl⟩ ?_ ?_
  · rintro pre a post acc M' e hn ⟨rfl, ha, hk⟩
    have hm : a ∈ xs := by rw [e]; simp
    refine wp_mono (hs a hm acc hk) fun ρ1 M1 h1 => ?_
    rw [kL1_eq] at h1 ⊢
    refine wp_mono h1 fun x M2 h3 => ?_
    rw [kL2_eq] at h3 ⊢
    cases x with
    | true =>
      rw [wif_true, kW_eq] at h3 ⊢
      refine wp_mono h3 fun y M3 ⟨h2, h4, h5⟩ => ⟨?_, _, h5, rfl, rfl, ?_, ?_⟩
      · rw [ha, List.length_map]
        have h6 := List.length_filter_le p pre
        have h7 : xs.length = pre.length + (post.length + 1) := by rw [e]; simp
        omega
      · rw [ha, List.filter_append, List.map_append, h4]
        simp [h2]
      · rw [clL_append, hk, h4]
        simp [clL, hc a hm]
    | false =>
      rw [wif_false, kV_eq] at h3 ⊢
      obtain ⟨h2, h3⟩ := h3
      refine ⟨_, h3, rfl, rfl, ?_, hk⟩
      rw [ha, List.filter_append, List.map_append]
      simp [h2]
  · rintro acc M' hn ⟨rfl, ha, hk⟩
    refine ⟨clL_mono (Nat.zero_le _) _ hk, w, ?_⟩
    rw [ha]
    with_unfolding_all exact q
end
end Pd

set_option Elab.async false
set_option linter.all false
set_option maxRecDepth 100000
set_option maxHeartbeats 4000000
namespace G
open PySem L2 Pd PyProof.Rows
def topS (i : Nat) : Stmt := PySem.Challenge.pw_carryclaim_k10_widened_ranges.main.body.getD i (.Pass ⟨0, 0, 0, 0⟩)
/-! ### has -/
abbrev s_has : Stmt := topS 2
def g_has : FS :=
    sSeq (sAsg (pVar 0) (fTup 3 (fCons (fName 2) (fCons (fName 3) (fCons (fName 4) (fNil))))))
    (sSeq (sIf (pOr (pTest (pOp gLt (pVar 1) (pVar 2))) (pTest (pOp gGt (pVar 1) (pVar 3)))) (sRet (pC (.bl false))) (sNext))
    (sRet (pOrV (pOp gEq (pVar 4) (pC (.int 0))) (pOp gEq (pOp gMod (pOp gSub (pVar 1) (pVar 2)) (pVar 4)) (pC (.int 0))))))
abbrev N_has : List Str := [PySem.Str.ofString "span", PySem.Str.ofString "n", PySem.Str.ofString "low", PySem.Str.ofString "high", PySem.Str.ofString "step"]
theorem rn_has {a0 a1 : D} : rho0 N_has [a0, a1] = [some a0, some a1, none, none, none] := rfl
theorem sc_has : FnScope N_has [PySem.Str.ofString "span", PySem.Str.ofString "n"] (defScope s_has) := ⟨rfl, rfl, rfl, by decide +kernel, rfl, by decide +kernel, by decide +kernel⟩
def Φ_has : List D → PM → Out D := run 2 N_has (g_has)
theorem ok_has {P : Program} {w : World} {K : PySem.W.Frag} {mg : Str → Option Value} {base : Heap} (F : FunM K mg "has" s_has [PySem.Str.ofString "span", PySem.Str.ofString "n"]) :
    Callee P w K mg base "has" 1 (run 2 N_has (g_has)) := by
  refine callee_run F sc_has rfl fun f cdv A outer s H E hr => ?_
  have nd := sc_has.nd
  exact pdb_cons (pds_asg (pd_var 0) (pdg_tup rfl (pdgs_cons (pdg_name (i := 2) nd) (pdgs_cons (pdg_name (i := 3) nd) (pdgs_cons (pdg_name (i := 4) nd) (pdgs_nil))))))
    (pdb_cons (pds_if (pdt_w (pdw_or (pdt_cmp o_lt (pd_var 1) (pd_var 2) (nomark _)) (pdw_or1 (pdt_cmp o_gt (pd_var 1) (pd_var 3) (nomark _))))) (pdb_one (pds_ret (pd_bl))) (pdb_nil))
    (pdb_one (pds_ret (pd_or (pd_cmp o_eq (pd_var 4) (pd_int) (nomark _)) (pd_one (pd_cmp o_eq (pd_op o_mod (pd_op o_sub (pd_var 1) (pd_var 2)) (pd_var 4)) (pd_int) (nomark _)))))))
/-! ### within -/
abbrev s_within : Stmt := topS 3
def g_within (Φ_has : List D → PM → Out D) : FS :=
    sSeq (sIf (pOr (pNot (pTest (pCall Φ_has (aCons (pVar 1) (aCons (pOp gIx (pVar 0) (pC (.int 0))) (aNil)))))) (pNot (pTest (pCall Φ_has (aCons (pVar 1) (aCons (pOp gIx (pVar 0) (pC (.int 1))) (aNil))))))) (sRet (pC (.bl false))) (sNext))
    (sRet (pOrV (pOp gEq (pOp gIx (pVar 0) (pC (.int 2))) (pC (.int 0))) (pOp gEq (pOp gMod (pOp gIx (pVar 0) (pC (.int 2))) (pOp gIx (pVar 1) (pC (.int 2)))) (pC (.int 0)))))
abbrev N_within : List Str := [PySem.Str.ofString "first", PySem.Str.ofString "second"]
theorem rn_within {a0 a1 : D} : rho0 N_within [a0, a1] = [some a0, some a1] := rfl
theorem sc_within : FnScope N_within [PySem.Str.ofString "first", PySem.Str.ofString "second"] (defScope s_within) := ⟨rfl, rfl, rfl, by decide +kernel, rfl, by decide +kernel, by decide +kernel⟩
def Φ_within : List D → PM → Out D := run 2 N_within (g_within Φ_has)
theorem ok_within {P : Program} {w : World} {K : PySem.W.Frag} {mg : Str → Option Value} {base : Heap} (F : FunM K mg "within" s_within [PySem.Str.ofString "first", PySem.Str.ofString "second"]) {Φ_has : List D → PM → Out D} (C_has : Callee P w K mg base "has" 1 Φ_has) :
    Callee P w K mg base "within" 2 (run 2 N_within (g_within Φ_has)) := by
  refine callee_run F sc_within rfl fun f cdv A outer s H E hr => ?_
  have nd := sc_within.nd
  exact pdb_cons (pds_if (pdt_w (pdw_or (pdt_not (pdt_val (pd_callC C_has (hr.mono (by decide)) rfl (pda_cons (pd_var 1) (pda_cons (pd_ix (pd_var 0) (pd_int)) (pda_nil)))))) (pdw_or1 (pdt_not (pdt_val (pd_callC C_has (hr.mono (by decide)) rfl (pda_cons (pd_var 1) (pda_cons (pd_ix (pd_var 0) (pd_int)) (pda_nil))))))))) (pdb_one (pds_ret (pd_bl))) (pdb_nil))
    (pdb_one (pds_ret (pd_or (pd_cmp o_eq (pd_ix (pd_var 0) (pd_int)) (pd_int) (nomark _)) (pd_one (pd_cmp o_eq (pd_op o_mod (pd_ix (pd_var 0) (pd_int)) (pd_ix (pd_var 1) (pd_int))) (pd_int) (nomark _))))))
/-! ### join -/
abbrev s_join : Stmt := topS 4
def g_join : FS :=
    sSeq (sAsg (pCB bMin2 (aCons (pOp gIx (pVar 0) (pC (.int 0))) (aCons (pOp gIx (pVar 1) (pC (.int 0))) (aNil)))) (fName 2))
    (sSeq (sAsg (pCB bMax2 (aCons (pOp gIx (pVar 0) (pC (.int 1))) (aCons (pOp gIx (pVar 1) (pC (.int 1))) (aNil)))) (fName 3))
    (sRet (pTup (aCons (pVar 2) (aCons (pVar 3) (aCons (pCB bGcd (aCons (pOp gIx (pVar 0) (pC (.int 2))) (aCons (pOp gIx (pVar 1) (pC (.int 2))) (aCons (pOp gSub (pOp gIx (pVar 0) (pC (.int 0))) (pOp gIx (pVar 1) (pC (.int 0)))) (aNil))))) (aNil)))))))
abbrev N_join : List Str := [PySem.Str.ofString "first", PySem.Str.ofString "second", PySem.Str.ofString "low", PySem.Str.ofString "high"]
theorem rn_join {a0 a1 : D} : rho0 N_join [a0, a1] = [some a0, some a1, none, none] := rfl
theorem sc_join : FnScope N_join [PySem.Str.ofString "first", PySem.Str.ofString "second"] (defScope s_join) := ⟨rfl, rfl, rfl, by decide +kernel, rfl, by decide +kernel, by decide +kernel⟩
def Φ_join : List D → PM → Out D := run 2 N_join (g_join)
theorem ok_join {P : Program} {w : World} {K : PySem.W.Frag} {mg : Str → Option Value} {base : Heap} (F : FunM K mg "join" s_join [PySem.Str.ofString "first", PySem.Str.ofString "second"]) (m_min : mg "min" = none) (m_max : mg "max" = none) (m_gcd : mg "gcd" = some (.builtin "math.gcd")) :
    Callee P w K mg base "join" 1 (run 2 N_join (g_join)) := by
  refine callee_run F sc_join rfl fun f cdv A outer s H E hr => ?_
  have nd := sc_join.nd
  exact pdb_cons (pds_set 2 (pd_callB (b_min2 rfl) rfl m_min (by decide +kernel) (pda_cons (pd_ix (pd_var 0) (pd_int)) (pda_cons (pd_ix (pd_var 1) (pd_int)) (pda_nil)))) nd)
    (pdb_cons (pds_set 3 (pd_callB (b_max2 rfl) rfl m_max (by decide +kernel) (pda_cons (pd_ix (pd_var 0) (pd_int)) (pda_cons (pd_ix (pd_var 1) (pd_int)) (pda_nil)))) nd)
    (pdb_one (pds_ret (pd_tup (pda_cons (pd_var 2) (pda_cons (pd_var 3) (pda_cons (pd_callBf b_gcd rfl m_gcd (pda_cons (pd_ix (pd_var 0) (pd_int)) (pda_cons (pd_ix (pd_var 1) (pd_int)) (pda_cons (pd_op o_sub (pd_ix (pd_var 0) (pd_int)) (pd_ix (pd_var 1) (pd_int))) (pda_nil))))) (pda_nil))))))))
/-! ### widen -/
abbrev s_widen : Stmt := topS 5
def g_widen (Φ_within : List D → PM → Out D) (Φ_join : List D → PM → Out D) : FS :=
    sSeq (sIf (pTest (pCall Φ_within (aCons (pVar 1) (aCons (pVar 0) (aNil))))) (sRet (pVar 0)) (sNext))
    (sSeq (sAsg (pCall Φ_join (aCons (pVar 0) (aCons (pVar 1) (aNil)))) (fTup 3 (fCons (fName 3) (fCons (fName 4) (fCons (fName 5) (fNil))))))
    (sSeq (sIf (pTest (pOp gLt (pVar 3) (pOp gIx (pVar 0) (pC (.int 0))))) (sSeq (sAsg (pCB bMaxL (aCons (pLc (pItems (pVar 2)) (fName 7) (pTest (pOp gLe (pVar 7) (pVar 3))) (pVar 7) [7]) (aNil))) (fName 6))
      (sAsg (pOp gAdd (pVar 6) (pOp gMod (pOp gSub (pVar 3) (pVar 6)) (pVar 5))) (fName 3))) (sNext))
    (sSeq (sIf (pTest (pOp gGt (pVar 4) (pOp gIx (pVar 0) (pC (.int 1))))) (sSeq (sAsg (pCB bMinL (aCons (pLc (pItems (pVar 2)) (fName 7) (pTest (pOp gGe (pVar 7) (pVar 4))) (pVar 7) [7]) (aNil))) (fName 6))
      (sAsg (pOp gSub (pVar 6) (pOp gMod (pOp gSub (pVar 6) (pVar 4)) (pVar 5))) (fName 4))) (sNext))
    (sRet (pTup (aCons (pVar 3) (aCons (pVar 4) (aCons (pVar 5) (aNil)))))))))
abbrev N_widen : List Str := [PySem.Str.ofString "old", PySem.Str.ofString "new", PySem.Str.ofString "marks", PySem.Str.ofString "low", PySem.Str.ofString "high", PySem.Str.ofString "step", PySem.Str.ofString "mark", PySem.Str.ofString "n"]
theorem rn_widen {a0 a1 a2 : D} : rho0 N_widen [a0, a1, a2] = [some a0, some a1, some a2, none, none, none, none, none] := rfl
theorem sc_widen : FnScope N_widen [PySem.Str.ofString "old", PySem.Str.ofString "new", PySem.Str.ofString "marks"] (defScope s_widen) := ⟨rfl, rfl, rfl, by decide +kernel, rfl, by decide +kernel, by decide +kernel⟩
def Φ_widen : List D → PM → Out D := run 3 N_widen (g_widen Φ_within Φ_join)
theorem ok_widen {P : Program} {w : World} {K : PySem.W.Frag} {mg : Str → Option Value} {base : Heap} (F : FunM K mg "widen" s_widen [PySem.Str.ofString "old", PySem.Str.ofString "new", PySem.Str.ofString "marks"]) {Φ_within : List D → PM → Out D} (C_within : Callee P w K mg base "within" 2 Φ_within) {Φ_join : List D → PM → Out D} (C_join : Callee P w K mg base "join" 1 Φ_join) (m_max : mg "max" = none) (m_min : mg "min" = none) :
    Callee P w K mg base "widen" 3 (run 3 N_widen (g_widen Φ_within Φ_join)) := by
  refine callee_run F sc_widen rfl fun f cdv A outer s H E hr => ?_
  have nd := sc_widen.nd
  exact pdb_cons (pds_if (pdt_val (pd_callC C_within (hr.mono (by decide)) rfl (pda_cons (pd_var 1) (pda_cons (pd_var 0) (pda_nil))))) (pdb_one (pds_ret (pd_var 0))) (pdb_nil))
    (pdb_cons (pds_asg (pd_callC C_join (hr.mono (by decide)) rfl (pda_cons (pd_var 0) (pda_cons (pd_var 1) (pda_nil)))) (pdg_tup rfl (pdgs_cons (pdg_name (i := 3) nd) (pdgs_cons (pdg_name (i := 4) nd) (pdgs_cons (pdg_name (i := 5) nd) (pdgs_nil))))))
    (pdb_cons (pds_if (pdt_cmp o_lt (pd_var 3) (pd_ix (pd_var 0) (pd_int)) (nomark _)) (pdb_cons (pds_set 6 (pd_callB (b_maxL rfl) rfl m_max (by decide +kernel) (pda_cons (pd_lcIf (own := [((PySem.Str.ofString "n"), 7)]) rfl nd (pdi_any (pd_var 2)) (blkOk_by (N := N_widen) (sc := defScope s_widen) (by decide +kernel)) (by decide) (fun _ _ _ _ _ => pg_name (i := 7) nd rfl (Or.inl rfl)) (fun _ _ _ _ _ => pdt_cmp o_le (pd_var 7) (pd_var 3) (nomark _)) (fun _ _ _ _ _ => pd_var 7)) (pda_nil))) nd)
      (pdb_one (pds_set 3 (pd_op o_add (pd_var 6) (pd_op o_mod (pd_op o_sub (pd_var 3) (pd_var 6)) (pd_var 5))) nd))) (pdb_nil))
    (pdb_cons (pds_if (pdt_cmp o_gt (pd_var 4) (pd_ix (pd_var 0) (pd_int)) (nomark _)) (pdb_cons (pds_set 6 (pd_callB (b_minL rfl) rfl m_min (by decide +kernel) (pda_cons (pd_lcIf (own := [((PySem.Str.ofString "n"), 7)]) rfl nd (pdi_any (pd_var 2)) (blkOk_by (N := N_widen) (sc := defScope s_widen) (by decide +kernel)) (by decide) (fun _ _ _ _ _ => pg_name (i := 7) nd rfl (Or.inl rfl)) (fun _ _ _ _ _ => pdt_cmp o_ge (pd_var 7) (pd_var 4) (nomark _)) (fun _ _ _ _ _ => pd_var 7)) (pda_nil))) nd)
      (pdb_one (pds_set 4 (pd_op o_sub (pd_var 6) (pd_op o_mod (pd_op o_sub (pd_var 6) (pd_var 4)) (pd_var 5))) nd))) (pdb_nil))
    (pdb_one (pds_ret (pd_tup (pda_cons (pd_var 3) (pda_cons (pd_var 4) (pda_cons (pd_var 5) (pda_nil))))))))))
/-! ### _law_next -/
abbrev s__law_next : Stmt := topS 7
def g__law_next : FS :=
    sSeq (sIf (pTest (pOp gGt (pOp gIx (pVar 0) (pC (.int 1))) (pC (.int 0)))) (sSeq (sAsg (pOp gMod (pCB bInt (aCons (pOp gIx (pVar 0) (pC (.int 1))) (aNil))) (pVar 2)) (fName 4))
      (sSeq (sAsg (pOp gFdiv (pCB bInt (aCons (pOp gIx (pVar 0) (pC (.int 1))) (aNil))) (pVar 2)) (fSub (pVar 0) (pC (.int 1))))
      (sRet (pVar 4)))) (sNext))
    (sSeq (sAsg (pC (.int 0)) (fName 3))
    (sSeq (sIf (pTest (pOp gLt (pOp gIx (pVar 0) (pC (.int 0))) (pCB bLen (aCons (pVar 1) (aNil))))) (sAsg (pCB bAbs (aCons (pCB bInt (aCons (pOp gIx (pVar 1) (pOp gIx (pVar 0) (pC (.int 0)))) (aNil))) (aNil))) (fName 3)) (sNext))
    (sSeq (sAsg (pOp gAdd (pOp gIx (pVar 0) (pC (.int 0))) (pC (.int 1))) (fSub (pVar 0) (pC (.int 0))))
    (sSeq (sIf (pTest (pOp gGe (pVar 3) (pOp gPow (pC (.int 10)) (pC (.int 18))))) (sSeq (sAsg (pOp gFdiv (pVar 3) (pVar 2)) (fSub (pVar 0) (pC (.int 1))))
      (sRet (pOp gMod (pCB bInt (aCons (pVar 3) (aNil))) (pVar 2)))) (sNext))
    (sSeq (sAsg (pOp gMod (pCB bInt (aCons (pOp gAdd (pOp gAdd (pOp gMul (pOp gIx (pVar 0) (pC (.int 2))) (pC (.int 48271))) (pOp gMul (pVar 3) (pC (.int 69621)))) (pC (.int 12345))) (aNil))) (pC (.int 2147483647))) (fSub (pVar 0) (pC (.int 2))))
    (sRet (pOp gMod (pCB bInt (aCons (pOp gAdd (pOp gFdiv (pOp gIx (pVar 0) (pC (.int 2))) (pC (.int 7))) (pOp gFdiv (pOp gMul (pOp gIx (pVar 0) (pC (.int 2))) (pOp gIx (pVar 0) (pC (.int 2)))) (pC (.int 65537)))) (aNil))) (pVar 2))))))))
abbrev N__law_next : List Str := [PySem.Str.ofString "state", PySem.Str.ofString "script", PySem.Str.ofString "many", PySem.Str.ofString "cell", PySem.Str.ofString "answer"]
theorem rn__law_next {a0 a1 a2 : D} : rho0 N__law_next [a0, a1, a2] = [some a0, some a1, some a2, none, none] := rfl
theorem sc__law_next : FnScope N__law_next [PySem.Str.ofString "state", PySem.Str.ofString "script", PySem.Str.ofString "many"] (defScope s__law_next) := ⟨rfl, rfl, rfl, by decide +kernel, rfl, by decide +kernel, by decide +kernel⟩
def Φ__law_next : List D → PM → Out D := run 3 N__law_next (g__law_next)
theorem ok__law_next {P : Program} {w : World} {K : PySem.W.Frag} {mg : Str → Option Value} {base : Heap} (F : FunM K mg "_law_next" s__law_next [PySem.Str.ofString "state", PySem.Str.ofString "script", PySem.Str.ofString "many"]) (m_int : mg "int" = none) (m_len : mg "len" = none) (m_abs : mg "abs" = none) :
    Callee P w K mg base "_law_next" 1 (run 3 N__law_next (g__law_next)) := by
  refine callee_run F sc__law_next rfl fun f cdv A outer s H E hr => ?_
  have nd := sc__law_next.nd
  exact pdb_cons (pds_if (pdt_cmp o_gt (pd_ix (pd_var 0) (pd_int)) (pd_int) (nomark _)) (pdb_cons (pds_set 4 (pd_op o_mod (pd_callT b_int rfl m_int (by decide +kernel) (pda_cons (pd_ix (pd_var 0) (pd_int)) (pda_nil))) (pd_var 2)) nd)
      (pdb_cons (pds_asg (pd_op o_fdiv (pd_callT b_int rfl m_int (by decide +kernel) (pda_cons (pd_ix (pd_var 0) (pd_int)) (pda_nil))) (pd_var 2)) (pdg_sub (pd_var 0) (pd_int)))
      (pdb_one (pds_ret (pd_var 4))))) (pdb_nil))
    (pdb_cons (pds_set 3 (pd_int) nd)
    (pdb_cons (pds_if (pdt_cmp o_lt (pd_ix (pd_var 0) (pd_int)) (pd_callB b_len rfl m_len (by decide +kernel) (pda_cons (pd_var 1) (pda_nil))) (nomark _)) (pdb_one (pds_set 3 (pd_callB b_abs rfl m_abs (by decide +kernel) (pda_cons (pd_callT b_int rfl m_int (by decide +kernel) (pda_cons (pd_ix (pd_var 1) (pd_ix (pd_var 0) (pd_int))) (pda_nil))) (pda_nil))) nd)) (pdb_nil))
    (pdb_cons (pds_asg (pd_op o_add (pd_ix (pd_var 0) (pd_int)) (pd_int)) (pdg_sub (pd_var 0) (pd_int)))
    (pdb_cons (pds_if (pdt_cmp o_ge (pd_var 3) (pd_op o_pow (pd_int) (pd_int)) (nomark _)) (pdb_cons (pds_asg (pd_op o_fdiv (pd_var 3) (pd_var 2)) (pdg_sub (pd_var 0) (pd_int)))
      (pdb_one (pds_ret (pd_op o_mod (pd_callT b_int rfl m_int (by decide +kernel) (pda_cons (pd_var 3) (pda_nil))) (pd_var 2))))) (pdb_nil))
    (pdb_cons (pds_asg (pd_op o_mod (pd_callT b_int rfl m_int (by decide +kernel) (pda_cons (pd_op o_add (pd_op o_add (pd_op o_mul (pd_ix (pd_var 0) (pd_int)) (pd_int)) (pd_op o_mul (pd_var 3) (pd_int))) (pd_int)) (pda_nil))) (pd_int)) (pdg_sub (pd_var 0) (pd_int)))
    (pdb_one (pds_ret (pd_op o_mod (pd_callT b_int rfl m_int (by decide +kernel) (pda_cons (pd_op o_add (pd_op o_fdiv (pd_ix (pd_var 0) (pd_int)) (pd_int)) (pd_op o_fdiv (pd_op o_mul (pd_ix (pd_var 0) (pd_int)) (pd_ix (pd_var 0) (pd_int))) (pd_int))) (pda_nil))) (pd_var 2)))))))))
/-! ### _law_same -/
abbrev s__law_same : Stmt := topS 8
def lb__law_same_1 (Φ__law_same : List D → PM → Out D) : FS :=
    sIf (pNot (pTest (pCall Φ__law_same (aCons (pOp gIx (pVar 0) (pVar 2)) (aCons (pOp gIx (pVar 1) (pVar 2)) (aNil)))))) (sRet (pC (.bl false))) (sNext)
def g__law_same (Φ__law_same : List D → PM → Out D) : FS :=
    sSeq (sIf (pTest (pOp gIs2 (pVar 1) (pC .non))) (sRet (pOp gIs2 (pVar 0) (pC .non))) (sNext))
    (sSeq (sIf (pTest (pCB bIsi (aCons (pVar 1) (aCons (pC (.raw (.ty "tuple"))) (aNil))))) (sSeq (sIf (pOr (pNot (pTest (pCB bIsi (aCons (pVar 0) (aCons (pC (.raw (.ty "tuple"))) (aNil)))))) (pTest (pOp gNe (pCB bLen (aCons (pVar 0) (aNil))) (pCB bLen (aCons (pVar 1) (aNil)))))) (sRet (pC (.bl false))) (sNext))
      (sSeq (sFor (pRng1 (aCons (pCB bLen (aCons (pVar 1) (aNil))) (aNil))) (fName 2) (lb__law_same_1 Φ__law_same))
      (sRet (pC (.bl true))))) (sNext))
    (sSeq (sIf (pTest (pCB bIsi (aCons (pVar 1) (aCons (pC (.raw (.ty "bool"))) (aNil))))) (sRet (pAndV (pCB bIsi (aCons (pVar 0) (aCons (pC (.raw (.ty "bool"))) (aNil)))) (pOp gEq (pVar 0) (pVar 1)))) (sNext))
    (sSeq (sIf (pTest (pCB bIsi (aCons (pVar 1) (aCons (pC (.raw (.ty "int"))) (aNil))))) (sRet (pAndV (pCB bIsi (aCons (pVar 0) (aCons (pC (.raw (.ty "int"))) (aNil)))) (pAndV (pNotV (pCB bIsi (aCons (pVar 0) (aCons (pC (.raw (.ty "bool"))) (aNil))))) (pOp gEq (pVar 0) (pVar 1))))) (sNext))
    (sRet (pAndV (pCB bIsi (aCons (pVar 0) (aCons (pC (.raw (.ty "str"))) (aNil)))) (pOp gEq (pVar 0) (pVar 1)))))))
abbrev N__law_same : List Str := [PySem.Str.ofString "actual", PySem.Str.ofString "due", PySem.Str.ofString "k"]
theorem rn__law_same {a0 a1 : D} : rho0 N__law_same [a0, a1] = [some a0, some a1, none] := rfl
theorem sc__law_same : FnScope N__law_same [PySem.Str.ofString "actual", PySem.Str.ofString "due"] (defScope s__law_same) := ⟨rfl, rfl, rfl, by decide +kernel, rfl, by decide +kernel, by decide +kernel⟩
def Ψ__law_same : Nat → List D → PM → Out D
  | 0 => phi0
  | t + 1 => run 2 N__law_same (g__law_same (Ψ__law_same t))
def Φ__law_same : List D → PM → Out D := Ψ__law_same 3
theorem ok__law_same {P : Program} {w : World} {K : PySem.W.Frag} {mg : Str → Option Value} {base : Heap} {k : Nat} (F : FunM K mg "_law_same" s__law_same [PySem.Str.ofString "actual", PySem.Str.ofString "due"]) {Φ__law_same : List D → PM → Out D} (C__law_same : Callee P w K mg base "_law_same" k Φ__law_same) (m_tuple : mg "tuple" = none) (m_isinstance : mg "isinstance" = none) (m_len : mg "len" = none) (m_range : mg "range" = none) (m_bool : mg "bool" = none) (m_int : mg "int" = none) (m_str : mg "str" = none) :
    Callee P w K mg base "_law_same" (k + 1) (run 2 N__law_same (g__law_same Φ__law_same)) := by
  refine callee_run F sc__law_same rfl fun f cdv A outer s H E hr => ?_
  have nd := sc__law_same.nd
  exact pdb_cons (pds_if (pdt_cmp o_is2 (pd_var 1) (pd_non) (nomark _)) (pdb_one (pds_ret (pd_cmp o_is2 (pd_var 0) (pd_non) (nomark _)))) (pdb_nil))
    (pdb_cons (pds_if (pdt_val (pd_callB b_isi rfl m_isinstance (by decide +kernel) (pda_cons (pd_var 1) (pda_cons (pd_ty rfl m_tuple (by decide +kernel)) (pda_nil))))) (pdb_cons (pds_if (pdt_w (pdw_or (pdt_not (pdt_val (pd_callB b_isi rfl m_isinstance (by decide +kernel) (pda_cons (pd_var 0) (pda_cons (pd_ty rfl m_tuple (by decide +kernel)) (pda_nil)))))) (pdw_or1 (pdt_cmp o_ne (pd_callB b_len rfl m_len (by decide +kernel) (pda_cons (pd_var 0) (pda_nil))) (pd_callB b_len rfl m_len (by decide +kernel) (pda_cons (pd_var 1) (pda_nil))) (nomark _))))) (pdb_one (pds_ret (pd_bl))) (pdb_nil))
      (pdb_cons (pds_for PassesOwn.never rfl (pdi_rng1 rfl m_range (pda_cons (pd_callB b_len rfl m_len (by decide +kernel) (pda_cons (pd_var 1) (pda_nil))) (pda_nil))) (pdg_name (i := 2) nd) (pdb_one (pds_if (pdt_not (pdt_val (pd_callC C__law_same hr rfl (pda_cons (pd_ix (pd_var 0) (pd_var 2)) (pda_cons (pd_ix (pd_var 1) (pd_var 2)) (pda_nil)))))) (pdb_one (pds_ret (pd_bl))) (pdb_nil))))
      (pdb_one (pds_ret (pd_bl))))) (pdb_nil))
    (pdb_cons (pds_if (pdt_val (pd_callB b_isi rfl m_isinstance (by decide +kernel) (pda_cons (pd_var 1) (pda_cons (pd_ty rfl m_bool (by decide +kernel)) (pda_nil))))) (pdb_one (pds_ret (pd_and (pd_callB b_isi rfl m_isinstance (by decide +kernel) (pda_cons (pd_var 0) (pda_cons (pd_ty rfl m_bool (by decide +kernel)) (pda_nil)))) (pd_one (pd_cmp o_eq (pd_var 0) (pd_var 1) (nomark _)))))) (pdb_nil))
    (pdb_cons (pds_if (pdt_val (pd_callB b_isi rfl m_isinstance (by decide +kernel) (pda_cons (pd_var 1) (pda_cons (pd_ty rfl m_int (by decide +kernel)) (pda_nil))))) (pdb_one (pds_ret (pd_and (pd_callB b_isi rfl m_isinstance (by decide +kernel) (pda_cons (pd_var 0) (pda_cons (pd_ty rfl m_int (by decide +kernel)) (pda_nil)))) (pd_and (pd_not (pd_callB b_isi rfl m_isinstance (by decide +kernel) (pda_cons (pd_var 0) (pda_cons (pd_ty rfl m_bool (by decide +kernel)) (pda_nil))))) (pd_one (pd_cmp o_eq (pd_var 0) (pd_var 1) (nomark _))))))) (pdb_nil))
    (pdb_one (pds_ret (pd_and (pd_callB b_isi rfl m_isinstance (by decide +kernel) (pda_cons (pd_var 0) (pda_cons (pd_ty rfl m_str (by decide +kernel)) (pda_nil)))) (pd_one (pd_cmp o_eq (pd_var 0) (pd_var 1) (nomark _)))))))))
theorem all__law_same {P : Program} {w : World} {K : PySem.W.Frag} {mg : Str → Option Value} {base : Heap} (F__law_same : FunM K mg "_law_same" s__law_same [PySem.Str.ofString "actual", PySem.Str.ofString "due"]) (m_tuple : mg "tuple" = none) (m_isinstance : mg "isinstance" = none) (m_len : mg "len" = none) (m_range : mg "range" = none) (m_bool : mg "bool" = none) (m_int : mg "int" = none) (m_str : mg "str" = none) :
    ∀ t, Callee P w K mg base "_law_same" (0 + t) (Ψ__law_same t) := by
  intro t
  induction t with
  | zero => exact callee0 F__law_same
  | succ t ih =>
    have I__law_same := ih
    exact ok__law_same (k := 0 + t) F__law_same I__law_same m_tuple m_isinstance m_len m_range m_bool m_int m_str
/-! ### _law_range -/
abbrev s__law_range : Stmt := topS 9
def g__law_range (Φ__law_next : List D → PM → Out D) : FS :=
    sSeq (sAsg (pOp gSub (pCall Φ__law_next (aCons (pVar 0) (aCons (pVar 1) (aCons (pOp gIx (pLst (aCons (pC (.int 25)) (aCons (pC (.int 20001)) (aNil)))) (pCB bInt (aCons (pVar 2) (aNil)))) (aNil))))) (pOp gIx (pLst (aCons (pC (.int 12)) (aCons (pC (.int 10000)) (aNil)))) (pCB bInt (aCons (pVar 2) (aNil))))) (fName 3))
    (sSeq (sAsg (pCall Φ__law_next (aCons (pVar 0) (aCons (pVar 1) (aCons (pC (.int 5)) (aNil))))) (fName 4))
    (sSeq (sIf (pTest (pOp gEq (pVar 4) (pC (.int 0)))) (sRet (pTup (aCons (pVar 3) (aCons (pVar 3) (aCons (pC (.int 0)) (aNil)))))) (sNext))
    (sSeq (sAsg (pOp gAdd (pC (.int 1)) (pCall Φ__law_next (aCons (pVar 0) (aCons (pVar 1) (aCons (pOp gIx (pLst (aCons (pC (.int 7)) (aCons (pC (.int 400)) (aNil)))) (pCB bInt (aCons (pVar 2) (aNil)))) (aNil)))))) (fName 5))
    (sSeq (sIf (pTest (pOp gEq (pVar 4) (pC (.int 1)))) (sAsg (pC (.int 1)) (fName 5)) (sNext))
    (sSeq (sAsg (pOp gFdiv (pOp gSub (pC (.int 10000)) (pVar 3)) (pVar 5)) (fName 6))
    (sSeq (sAsg (pCB bMin2 (aCons (pVar 6) (aCons (pOp gAdd (pC (.int 1)) (pCall Φ__law_next (aCons (pVar 0) (aCons (pVar 1) (aCons (pOp gIx (pLst (aCons (pC (.int 9)) (aCons (pC (.int 6000)) (aNil)))) (pCB bInt (aCons (pVar 2) (aNil)))) (aNil)))))) (aNil)))) (fName 7))
    (sSeq (sIf (pTest (pOp gLt (pVar 7) (pC (.int 1)))) (sRet (pTup (aCons (pVar 3) (aCons (pVar 3) (aCons (pC (.int 0)) (aNil)))))) (sNext))
    (sRet (pTup (aCons (pVar 3) (aCons (pOp gAdd (pVar 3) (pOp gMul (pVar 5) (pVar 7))) (aCons (pVar 5) (aNil)))))))))))))
abbrev N__law_range : List Str := [PySem.Str.ofString "state", PySem.Str.ofString "script", PySem.Str.ofString "wide", PySem.Str.ofString "low", PySem.Str.ofString "choice", PySem.Str.ofString "step", PySem.Str.ofString "most", PySem.Str.ofString "count"]
theorem rn__law_range {a0 a1 a2 : D} : rho0 N__law_range [a0, a1, a2] = [some a0, some a1, some a2, none, none, none, none, none] := rfl
theorem sc__law_range : FnScope N__law_range [PySem.Str.ofString "state", PySem.Str.ofString "script", PySem.Str.ofString "wide"] (defScope s__law_range) := ⟨rfl, rfl, rfl, by decide +kernel, rfl, by decide +kernel, by decide +kernel⟩
def Φ__law_range : List D → PM → Out D := run 3 N__law_range (g__law_range Φ__law_next)
theorem ok__law_range {P : Program} {w : World} {K : PySem.W.Frag} {mg : Str → Option Value} {base : Heap} (F : FunM K mg "_law_range" s__law_range [PySem.Str.ofString "state", PySem.Str.ofString "script", PySem.Str.ofString "wide"]) {Φ__law_next : List D → PM → Out D} (C__law_next : Callee P w K mg base "_law_next" 1 Φ__law_next) (m_int : mg "int" = none) (m_min : mg "min" = none) :
    Callee P w K mg base "_law_range" 2 (run 3 N__law_range (g__law_range Φ__law_next)) := by
  refine callee_run F sc__law_range rfl fun f cdv A outer s H E hr => ?_
  have nd := sc__law_range.nd
  exact pdb_cons (pds_set 3 (pd_op o_sub (pd_callC C__law_next (hr.mono (by decide)) rfl (pda_cons (pd_var 0) (pda_cons (pd_var 1) (pda_cons (pd_ix (pd_lst (pda_cons (pd_int) (pda_cons (pd_int) (pda_nil)))) (pd_callT b_int rfl m_int (by decide +kernel) (pda_cons (pd_var 2) (pda_nil)))) (pda_nil))))) (pd_ix (pd_lst (pda_cons (pd_int) (pda_cons (pd_int) (pda_nil)))) (pd_callT b_int rfl m_int (by decide +kernel) (pda_cons (pd_var 2) (pda_nil))))) nd)
    (pdb_cons (pds_set 4 (pd_callC C__law_next (hr.mono (by decide)) rfl (pda_cons (pd_var 0) (pda_cons (pd_var 1) (pda_cons (pd_int) (pda_nil))))) nd)
    (pdb_cons (pds_if (pdt_cmp o_eq (pd_var 4) (pd_int) (nomark _)) (pdb_one (pds_ret (pd_tup (pda_cons (pd_var 3) (pda_cons (pd_var 3) (pda_cons (pd_int) (pda_nil))))))) (pdb_nil))
    (pdb_cons (pds_set 5 (pd_op o_add (pd_int) (pd_callC C__law_next (hr.mono (by decide)) rfl (pda_cons (pd_var 0) (pda_cons (pd_var 1) (pda_cons (pd_ix (pd_lst (pda_cons (pd_int) (pda_cons (pd_int) (pda_nil)))) (pd_callT b_int rfl m_int (by decide +kernel) (pda_cons (pd_var 2) (pda_nil)))) (pda_nil)))))) nd)
    (pdb_cons (pds_if (pdt_cmp o_eq (pd_var 4) (pd_int) (nomark _)) (pdb_one (pds_set 5 (pd_int) nd)) (pdb_nil))
    (pdb_cons (pds_set 6 (pd_op o_fdiv (pd_op o_sub (pd_int) (pd_var 3)) (pd_var 5)) nd)
    (pdb_cons (pds_set 7 (pd_callB (b_min2 rfl) rfl m_min (by decide +kernel) (pda_cons (pd_var 6) (pda_cons (pd_op o_add (pd_int) (pd_callC C__law_next (hr.mono (by decide)) rfl (pda_cons (pd_var 0) (pda_cons (pd_var 1) (pda_cons (pd_ix (pd_lst (pda_cons (pd_int) (pda_cons (pd_int) (pda_nil)))) (pd_callT b_int rfl m_int (by decide +kernel) (pda_cons (pd_var 2) (pda_nil)))) (pda_nil)))))) (pda_nil)))) nd)
    (pdb_cons (pds_if (pdt_cmp o_lt (pd_var 7) (pd_int) (nomark _)) (pdb_one (pds_ret (pd_tup (pda_cons (pd_var 3) (pda_cons (pd_var 3) (pda_cons (pd_int) (pda_nil))))))) (pdb_nil))
    (pdb_one (pds_ret (pd_tup (pda_cons (pd_var 3) (pda_cons (pd_op o_add (pd_var 3) (pd_op o_mul (pd_var 5) (pd_var 7))) (pda_cons (pd_var 5) (pda_nil))))))))))))))
/-! ### _law_divisor -/
abbrev s__law_divisor : Stmt := topS 10
def lc__law_divisor_1 : FT :=
    pTest (pOp gNe (pVar 1) (pC (.int 0)))
def lb__law_divisor_1 : FS :=
    sPar 0 1 (aCons (pVar 1) (aCons (pOp gMod (pCB bInt (aCons (pVar 0) (aNil))) (pVar 1)) (aNil)))
def g__law_divisor : FS :=
    sSeq (sWhile (lc__law_divisor_1) (lb__law_divisor_1) 1000000000)
    (sRet (pCB bAbs (aCons (pVar 0) (aNil))))
abbrev N__law_divisor : List Str := [PySem.Str.ofString "one", PySem.Str.ofString "other"]
theorem rn__law_divisor {a0 a1 : D} : rho0 N__law_divisor [a0, a1] = [some a0, some a1] := rfl
theorem sc__law_divisor : FnScope N__law_divisor [PySem.Str.ofString "one", PySem.Str.ofString "other"] (defScope s__law_divisor) := ⟨rfl, rfl, rfl, by decide +kernel, rfl, by decide +kernel, by decide +kernel⟩
def Φ__law_divisor : List D → PM → Out D := run 2 N__law_divisor (g__law_divisor)
theorem ok__law_divisor {P : Program} {w : World} {K : PySem.W.Frag} {mg : Str → Option Value} {base : Heap} (F : FunM K mg "_law_divisor" s__law_divisor [PySem.Str.ofString "one", PySem.Str.ofString "other"]) (m_int : mg "int" = none) (m_abs : mg "abs" = none) :
    Callee P w K mg base "_law_divisor" 1 (run 2 N__law_divisor (g__law_divisor)) := by
  refine callee_run F sc__law_divisor rfl fun f cdv A outer s H E hr => ?_
  have nd := sc__law_divisor.nd
  exact pdb_cons (pds_while 1000000000 PassesOwn.never (pdt_cmp o_ne (pd_var 1) (pd_int) (nomark _)) (pdb_one (pds_par 0 1 rfl nd (pda_cons (pd_var 1) (pda_cons (pd_op o_mod (pd_callT b_int rfl m_int (by decide +kernel) (pda_cons (pd_var 0) (pda_nil))) (pd_var 1)) (pda_nil))) (by decide) (by rfl))))
    (pdb_one (pds_ret (pd_callB b_abs rfl m_abs (by decide +kernel) (pda_cons (pd_var 0) (pda_nil)))))
/-! ### _law_hull -/
abbrev s__law_hull : Stmt := topS 11
def lb__law_hull_1 (Φ__law_divisor : List D → PM → Out D) : FS :=
    sAsg (pCall Φ__law_divisor (aCons (pOp gSub (pVar 4) (pVar 1)) (aCons (pVar 3) (aNil)))) (fName 3)
def g__law_hull (Φ__law_divisor : List D → PM → Out D) : FS :=
    sSeq (sAsg (pCB bMinL (aCons (pVar 0) (aNil))) (fName 1))
    (sSeq (sAsg (pCB bMaxL (aCons (pVar 0) (aNil))) (fName 2))
    (sSeq (sAsg (pC (.int 0)) (fName 3))
    (sSeq (sFor (pItems (pVar 0)) (fName 4) (lb__law_hull_1 Φ__law_divisor))
    (sRet (pTup (aCons (pVar 1) (aCons (pVar 2) (aCons (pVar 3) (aNil)))))))))
abbrev N__law_hull : List Str := [PySem.Str.ofString "numbers", PySem.Str.ofString "low", PySem.Str.ofString "high", PySem.Str.ofString "step", PySem.Str.ofString "number"]
theorem rn__law_hull {a0 : D} : rho0 N__law_hull [a0] = [some a0, none, none, none, none] := rfl
theorem sc__law_hull : FnScope N__law_hull [PySem.Str.ofString "numbers"] (defScope s__law_hull) := ⟨rfl, rfl, rfl, by decide +kernel, rfl, by decide +kernel, by decide +kernel⟩
def Φ__law_hull : List D → PM → Out D := run 1 N__law_hull (g__law_hull Φ__law_divisor)
theorem ok__law_hull {P : Program} {w : World} {K : PySem.W.Frag} {mg : Str → Option Value} {base : Heap} (F : FunM K mg "_law_hull" s__law_hull [PySem.Str.ofString "numbers"]) {Φ__law_divisor : List D → PM → Out D} (C__law_divisor : Callee P w K mg base "_law_divisor" 1 Φ__law_divisor) (m_min : mg "min" = none) (m_max : mg "max" = none) :
    Callee P w K mg base "_law_hull" 2 (run 1 N__law_hull (g__law_hull Φ__law_divisor)) := by
  refine callee_run F sc__law_hull rfl fun f cdv A outer s H E hr => ?_
  have nd := sc__law_hull.nd
  exact pdb_cons (pds_set 1 (pd_callB (b_minL rfl) rfl m_min (by decide +kernel) (pda_cons (pd_var 0) (pda_nil))) nd)
    (pdb_cons (pds_set 2 (pd_callB (b_maxL rfl) rfl m_max (by decide +kernel) (pda_cons (pd_var 0) (pda_nil))) nd)
    (pdb_cons (pds_set 3 (pd_int) nd)
    (pdb_cons (pds_for PassesOwn.never rfl (pdi_any (pd_var 0)) (pdg_name (i := 4) nd) (pdb_one (pds_set 3 (pd_callC C__law_divisor (hr.mono (by decide)) rfl (pda_cons (pd_op o_sub (pd_var 4) (pd_var 1)) (pda_cons (pd_var 3) (pda_nil)))) nd)))
    (pdb_one (pds_ret (pd_tup (pda_cons (pd_var 1) (pda_cons (pd_var 2) (pda_cons (pd_var 3) (pda_nil))))))))))
/-! ### _law_marks -/
abbrev s__law_marks : Stmt := topS 12
def lb__law_marks_1 (Φ__law_next : List D → PM → Out D) : FS :=
    sSeq (sAsg (pCall Φ__law_next (aCons (pVar 0) (aCons (pVar 1) (aCons (pC (.int 3)) (aNil))))) (fName 8))
      (sIf (pTest (pOp gEq (pVar 8) (pC (.int 0)))) (sDrop (pApp (pVar 4) (pOp gSub (pCall Φ__law_next (aCons (pVar 0) (aCons (pVar 1) (aCons (pC (.int 41)) (aNil))))) (pC (.int 20))))) (sIf (pTest (pOp gEq (pVar 8) (pC (.int 1)))) (sDrop (pApp (pVar 4) (pOp gSub (pCall Φ__law_next (aCons (pVar 0) (aCons (pVar 1) (aCons (pC (.int 20001)) (aNil))))) (pC (.int 10000))))) (sSeq (sAsg (pOp gIx (pLst (aCons (pOp gIx (pVar 2) (pC (.int 0))) (aCons (pOp gIx (pVar 2) (pC (.int 1))) (aCons (pOp gIx (pVar 3) (pC (.int 0))) (aCons (pOp gIx (pVar 3) (pC (.int 1))) (aNil)))))) (pCall Φ__law_next (aCons (pVar 0) (aCons (pVar 1) (aCons (pC (.int 4)) (aNil)))))) (fName 9))
          (sDrop (pApp (pVar 4) (pCB bMax2 (aCons (pUn gNeg (pC (.int 10000))) (aCons (pCB bMin2 (aCons (pC (.int 10000)) (aCons (pOp gSub (pOp gAdd (pVar 9) (pCall Φ__law_next (aCons (pVar 0) (aCons (pVar 1) (aCons (pC (.int 5)) (aNil)))))) (pC (.int 2))) (aNil)))) (aNil)))))))))
def lb__law_marks_2 (Φ__law_next : List D → PM → Out D) : FS :=
    sIf (pTest (pOp gNotIn (pVar 7) (pVar 6))) (sDrop (pApp (pVar 6) (pVar 7))) (sNext)
def g__law_marks (Φ__law_next : List D → PM → Out D) : FS :=
    sSeq (sAsg (pNew (aCons (pUn gNeg (pC (.int 10000))) (aCons (pC (.int 10000)) (aNil)))) (fName 4))
    (sSeq (sFor (pRng1 (aCons (pCall Φ__law_next (aCons (pVar 0) (aCons (pVar 1) (aCons (pC (.int 9)) (aNil))))) (aNil))) (fName 5) (lb__law_marks_1 Φ__law_next))
    (sSeq (sAsg (pNew (aNil)) (fName 6))
    (sSeq (sFor (pItems (pCB bSort (aCons (pVar 4) (aNil)))) (fName 7) (lb__law_marks_2 Φ__law_next))
    (sRet (pCB bTuple (aCons (pVar 6) (aNil)))))))
abbrev N__law_marks : List Str := [PySem.Str.ofString "state", PySem.Str.ofString "script", PySem.Str.ofString "first", PySem.Str.ofString "second", PySem.Str.ofString "rows", PySem.Str.ofString "k", PySem.Str.ofString "marks", PySem.Str.ofString "mark", PySem.Str.ofString "choice", PySem.Str.ofString "near"]
theorem rn__law_marks {a0 a1 a2 a3 : D} : rho0 N__law_marks [a0, a1, a2, a3] = [some a0, some a1, some a2, some a3, none, none, none, none, none, none] := rfl
theorem sc__law_marks : FnScope N__law_marks [PySem.Str.ofString "state", PySem.Str.ofString "script", PySem.Str.ofString "first", PySem.Str.ofString "second"] (defScope s__law_marks) := ⟨rfl, rfl, rfl, by decide +kernel, rfl, by decide +kernel, by decide +kernel⟩
def Φ__law_marks : List D → PM → Out D := run 4 N__law_marks (g__law_marks Φ__law_next)
theorem ok__law_marks {P : Program} {w : World} {K : PySem.W.Frag} {mg : Str → Option Value} {base : Heap} (F : FunM K mg "_law_marks" s__law_marks [PySem.Str.ofString "state", PySem.Str.ofString "script", PySem.Str.ofString "first", PySem.Str.ofString "second"]) {Φ__law_next : List D → PM → Out D} (C__law_next : Callee P w K mg base "_law_next" 1 Φ__law_next) (m_range : mg "range" = none) (m_min : mg "min" = none) (m_max : mg "max" = none) (m_sorted : mg "sorted" = none) (m_tuple : mg "tuple" = none) :
    Callee P w K mg base "_law_marks" 2 (run 4 N__law_marks (g__law_marks Φ__law_next)) := by
  refine callee_run F sc__law_marks rfl fun f cdv A outer s H E hr => ?_
  have nd := sc__law_marks.nd
  exact pdb_cons (pds_set 4 (pd_new (pda_cons (pd_neg (pd_int)) (pda_cons (pd_int) (pda_nil)))) nd)
    (pdb_cons (pds_for PassesOwn.never rfl (pdi_rng1 rfl m_range (pda_cons (pd_callC C__law_next (hr.mono (by decide)) rfl (pda_cons (pd_var 0) (pda_cons (pd_var 1) (pda_cons (pd_int) (pda_nil))))) (pda_nil))) (pdg_name (i := 5) nd) (pdb_cons (pds_set 8 (pd_callC C__law_next (hr.mono (by decide)) rfl (pda_cons (pd_var 0) (pda_cons (pd_var 1) (pda_cons (pd_int) (pda_nil))))) nd)
      (pdb_one (pds_if (pdt_cmp o_eq (pd_var 8) (pd_int) (nomark _)) (pdb_one (pds_expr (pd_append (pd_var 4) (pd_op o_sub (pd_callC C__law_next (hr.mono (by decide)) rfl (pda_cons (pd_var 0) (pda_cons (pd_var 1) (pda_cons (pd_int) (pda_nil))))) (pd_int))))) (pdb_one (pds_if (pdt_cmp o_eq (pd_var 8) (pd_int) (nomark _)) (pdb_one (pds_expr (pd_append (pd_var 4) (pd_op o_sub (pd_callC C__law_next (hr.mono (by decide)) rfl (pda_cons (pd_var 0) (pda_cons (pd_var 1) (pda_cons (pd_int) (pda_nil))))) (pd_int))))) (pdb_cons (pds_set 9 (pd_ix (pd_lst (pda_cons (pd_ix (pd_var 2) (pd_int)) (pda_cons (pd_ix (pd_var 2) (pd_int)) (pda_cons (pd_ix (pd_var 3) (pd_int)) (pda_cons (pd_ix (pd_var 3) (pd_int)) (pda_nil)))))) (pd_callC C__law_next (hr.mono (by decide)) rfl (pda_cons (pd_var 0) (pda_cons (pd_var 1) (pda_cons (pd_int) (pda_nil)))))) nd)
          (pdb_one (pds_expr (pd_append (pd_var 4) (pd_callB (b_max2 rfl) rfl m_max (by decide +kernel) (pda_cons (pd_neg (pd_int)) (pda_cons (pd_callB (b_min2 rfl) rfl m_min (by decide +kernel) (pda_cons (pd_int) (pda_cons (pd_op o_sub (pd_op o_add (pd_var 9) (pd_callC C__law_next (hr.mono (by decide)) rfl (pda_cons (pd_var 0) (pda_cons (pd_var 1) (pda_cons (pd_int) (pda_nil)))))) (pd_int)) (pda_nil)))) (pda_nil))))))))))))))
    (pdb_cons (pds_set 6 (pd_new (pda_nil)) nd)
    (pdb_cons (pds_for PassesOwn.never rfl (pdi_any (pd_callB b_sort rfl m_sorted (by decide +kernel) (pda_cons (pd_var 4) (pda_nil)))) (pdg_name (i := 7) nd) (pdb_one (pds_if (pdt_cmp o_notIn (pd_var 7) (pd_var 6) (by rfl)) (pdb_one (pds_expr (pd_append (pd_var 6) (pd_var 7)))) (pdb_nil))))
    (pdb_one (pds_ret (pd_callT b_tuple rfl m_tuple (by decide +kernel) (pda_cons (pd_var 6) (pda_nil))))))))
/-! ### _law_due -/
abbrev s__law_due : Stmt := topS 13
def g__law_due (Φ__law_hull : List D → PM → Out D) : FS :=
    sSeq (sAsg (pCall Φ__law_hull (aCons (pLst (aCons (pOp gIx (pVar 0) (pC (.int 0))) (aCons (pOp gIx (pVar 0) (pC (.int 1))) (aCons (pOp gAdd (pOp gIx (pVar 0) (pC (.int 0))) (pOp gIx (pVar 0) (pC (.int 2)))) (aCons (pOp gIx (pVar 1) (pC (.int 0))) (aCons (pOp gIx (pVar 1) (pC (.int 1))) (aCons (pOp gAdd (pOp gIx (pVar 1) (pC (.int 0))) (pOp gIx (pVar 1) (pC (.int 2)))) (aNil)))))))) (aNil))) (fTup 3 (fCons (fName 3) (fCons (fName 4) (fCons (fName 5) (fNil))))))
    (sSeq (sIf (pTest (pOp gLt (pVar 3) (pOp gIx (pVar 0) (pC (.int 0))))) (sSeq (sAsg (pOp gIx (pLc (pItems (pVar 2)) (fName 7) (pTest (pOp gLe (pVar 7) (pVar 3))) (pVar 7) [7]) (pUn gNeg (pC (.int 1)))) (fName 6))
      (sAsg (pOp gAdd (pVar 6) (pOp gMod (pCB bInt (aCons (pOp gSub (pVar 3) (pVar 6)) (aNil))) (pVar 5))) (fName 3))) (sNext))
    (sSeq (sIf (pTest (pOp gGt (pVar 4) (pOp gIx (pVar 0) (pC (.int 1))))) (sSeq (sAsg (pOp gIx (pLc (pItems (pVar 2)) (fName 7) (pTest (pOp gGe (pVar 7) (pVar 4))) (pVar 7) [7]) (pC (.int 0))) (fName 6))
      (sAsg (pOp gSub (pVar 6) (pOp gMod (pCB bInt (aCons (pOp gSub (pVar 6) (pVar 4)) (aNil))) (pVar 5))) (fName 4))) (sNext))
    (sRet (pTup (aCons (pVar 3) (aCons (pVar 4) (aCons (pVar 5) (aNil))))))))
abbrev N__law_due : List Str := [PySem.Str.ofString "old", PySem.Str.ofString "new", PySem.Str.ofString "marks", PySem.Str.ofString "low", PySem.Str.ofString "high", PySem.Str.ofString "step", PySem.Str.ofString "mark", PySem.Str.ofString "one"]
theorem rn__law_due {a0 a1 a2 : D} : rho0 N__law_due [a0, a1, a2] = [some a0, some a1, some a2, none, none, none, none, none] := rfl
theorem sc__law_due : FnScope N__law_due [PySem.Str.ofString "old", PySem.Str.ofString "new", PySem.Str.ofString "marks"] (defScope s__law_due) := ⟨rfl, rfl, rfl, by decide +kernel, rfl, by decide +kernel, by decide +kernel⟩
def Φ__law_due : List D → PM → Out D := run 3 N__law_due (g__law_due Φ__law_hull)
theorem ok__law_due {P : Program} {w : World} {K : PySem.W.Frag} {mg : Str → Option Value} {base : Heap} (F : FunM K mg "_law_due" s__law_due [PySem.Str.ofString "old", PySem.Str.ofString "new", PySem.Str.ofString "marks"]) {Φ__law_hull : List D → PM → Out D} (C__law_hull : Callee P w K mg base "_law_hull" 2 Φ__law_hull) (m_int : mg "int" = none) :
    Callee P w K mg base "_law_due" 3 (run 3 N__law_due (g__law_due Φ__law_hull)) := by
  refine callee_run F sc__law_due rfl fun f cdv A outer s H E hr => ?_
  have nd := sc__law_due.nd
  exact pdb_cons (pds_asg (pd_callC C__law_hull (hr.mono (by decide)) rfl (pda_cons (pd_lst (pda_cons (pd_ix (pd_var 0) (pd_int)) (pda_cons (pd_ix (pd_var 0) (pd_int)) (pda_cons (pd_op o_add (pd_ix (pd_var 0) (pd_int)) (pd_ix (pd_var 0) (pd_int))) (pda_cons (pd_ix (pd_var 1) (pd_int)) (pda_cons (pd_ix (pd_var 1) (pd_int)) (pda_cons (pd_op o_add (pd_ix (pd_var 1) (pd_int)) (pd_ix (pd_var 1) (pd_int))) (pda_nil)))))))) (pda_nil))) (pdg_tup rfl (pdgs_cons (pdg_name (i := 3) nd) (pdgs_cons (pdg_name (i := 4) nd) (pdgs_cons (pdg_name (i := 5) nd) (pdgs_nil))))))
    (pdb_cons (pds_if (pdt_cmp o_lt (pd_var 3) (pd_ix (pd_var 0) (pd_int)) (nomark _)) (pdb_cons (pds_set 6 (pd_ix (pd_lcIf (own := [((PySem.Str.ofString "one"), 7)]) rfl nd (pdi_any (pd_var 2)) (blkOk_by (N := N__law_due) (sc := defScope s__law_due) (by decide +kernel)) (by decide) (fun _ _ _ _ _ => pg_name (i := 7) nd rfl (Or.inl rfl)) (fun _ _ _ _ _ => pdt_cmp o_le (pd_var 7) (pd_var 3) (nomark _)) (fun _ _ _ _ _ => pd_var 7)) (pd_neg (pd_int))) nd)
      (pdb_one (pds_set 3 (pd_op o_add (pd_var 6) (pd_op o_mod (pd_callT b_int rfl m_int (by decide +kernel) (pda_cons (pd_op o_sub (pd_var 3) (pd_var 6)) (pda_nil))) (pd_var 5))) nd))) (pdb_nil))
    (pdb_cons (pds_if (pdt_cmp o_gt (pd_var 4) (pd_ix (pd_var 0) (pd_int)) (nomark _)) (pdb_cons (pds_set 6 (pd_ix (pd_lcIf (own := [((PySem.Str.ofString "one"), 7)]) rfl nd (pdi_any (pd_var 2)) (blkOk_by (N := N__law_due) (sc := defScope s__law_due) (by decide +kernel)) (by decide) (fun _ _ _ _ _ => pg_name (i := 7) nd rfl (Or.inl rfl)) (fun _ _ _ _ _ => pdt_cmp o_ge (pd_var 7) (pd_var 4) (nomark _)) (fun _ _ _ _ _ => pd_var 7)) (pd_int)) nd)
      (pdb_one (pds_set 4 (pd_op o_sub (pd_var 6) (pd_op o_mod (pd_callT b_int rfl m_int (by decide +kernel) (pda_cons (pd_op o_sub (pd_var 6) (pd_var 4)) (pda_nil))) (pd_var 5))) nd))) (pdb_nil))
    (pdb_one (pds_ret (pd_tup (pda_cons (pd_var 3) (pda_cons (pd_var 4) (pda_cons (pd_var 5) (pda_nil)))))))))
/-! ### _law_lies -/
abbrev s__law_lies : Stmt := topS 14
def g__law_lies : FS :=
    sSeq (sIf (pOr (pTest (pOp gLt (pOp gIx (pVar 0) (pC (.int 0))) (pOp gIx (pVar 1) (pC (.int 0))))) (pTest (pOp gGt (pOp gIx (pVar 0) (pC (.int 1))) (pOp gIx (pVar 1) (pC (.int 1)))))) (sRet (pC (.bl false))) (sNext))
    (sSeq (sAsg (pCB bMax2 (aCons (pC (.int 1)) (aCons (pOp gIx (pVar 1) (pC (.int 2))) (aNil)))) (fName 2))
    (sRet (pAndV (pOp gEq (pOp gMod (pCB bInt (aCons (pOp gSub (pOp gIx (pVar 0) (pC (.int 0))) (pOp gIx (pVar 1) (pC (.int 0)))) (aNil))) (pVar 2)) (pC (.int 0))) (pAndV (pOp gEq (pOp gMod (pCB bInt (aCons (pOp gSub (pOp gIx (pVar 0) (pC (.int 1))) (pOp gIx (pVar 1) (pC (.int 0)))) (aNil))) (pVar 2)) (pC (.int 0))) (pOrV (pOp gEq (pOp gIx (pVar 0) (pC (.int 2))) (pC (.int 0))) (pOp gEq (pOp gMod (pCB bInt (aCons (pOp gIx (pVar 0) (pC (.int 2))) (aNil))) (pVar 2)) (pC (.int 0))))))))
abbrev N__law_lies : List Str := [PySem.Str.ofString "new", PySem.Str.ofString "old", PySem.Str.ofString "step"]
theorem rn__law_lies {a0 a1 : D} : rho0 N__law_lies [a0, a1] = [some a0, some a1, none] := rfl
theorem sc__law_lies : FnScope N__law_lies [PySem.Str.ofString "new", PySem.Str.ofString "old"] (defScope s__law_lies) := ⟨rfl, rfl, rfl, by decide +kernel, rfl, by decide +kernel, by decide +kernel⟩
def Φ__law_lies : List D → PM → Out D := run 2 N__law_lies (g__law_lies)
theorem ok__law_lies {P : Program} {w : World} {K : PySem.W.Frag} {mg : Str → Option Value} {base : Heap} (F : FunM K mg "_law_lies" s__law_lies [PySem.Str.ofString "new", PySem.Str.ofString "old"]) (m_max : mg "max" = none) (m_int : mg "int" = none) :
    Callee P w K mg base "_law_lies" 1 (run 2 N__law_lies (g__law_lies)) := by
  refine callee_run F sc__law_lies rfl fun f cdv A outer s H E hr => ?_
  have nd := sc__law_lies.nd
  exact pdb_cons (pds_if (pdt_w (pdw_or (pdt_cmp o_lt (pd_ix (pd_var 0) (pd_int)) (pd_ix (pd_var 1) (pd_int)) (nomark _)) (pdw_or1 (pdt_cmp o_gt (pd_ix (pd_var 0) (pd_int)) (pd_ix (pd_var 1) (pd_int)) (nomark _))))) (pdb_one (pds_ret (pd_bl))) (pdb_nil))
    (pdb_cons (pds_set 2 (pd_callB (b_max2 rfl) rfl m_max (by decide +kernel) (pda_cons (pd_int) (pda_cons (pd_ix (pd_var 1) (pd_int)) (pda_nil)))) nd)
    (pdb_one (pds_ret (pd_and (pd_cmp o_eq (pd_op o_mod (pd_callT b_int rfl m_int (by decide +kernel) (pda_cons (pd_op o_sub (pd_ix (pd_var 0) (pd_int)) (pd_ix (pd_var 1) (pd_int))) (pda_nil))) (pd_var 2)) (pd_int) (nomark _)) (pd_and (pd_cmp o_eq (pd_op o_mod (pd_callT b_int rfl m_int (by decide +kernel) (pda_cons (pd_op o_sub (pd_ix (pd_var 0) (pd_int)) (pd_ix (pd_var 1) (pd_int))) (pda_nil))) (pd_var 2)) (pd_int) (nomark _)) (pd_one (pd_or (pd_cmp o_eq (pd_ix (pd_var 0) (pd_int)) (pd_int) (nomark _)) (pd_one (pd_cmp o_eq (pd_op o_mod (pd_callT b_int rfl m_int (by decide +kernel) (pda_cons (pd_ix (pd_var 0) (pd_int)) (pda_nil))) (pd_var 2)) (pd_int) (nomark _))))))))))
/-! ### law -/
abbrev s_law : Stmt := topS 15
def lb_law_1 (Φ__law_range : List D → PM → Out D) (Φ__law_next : List D → PM → Out D) (Φ__law_marks : List D → PM → Out D) (Φ__law_lies : List D → PM → Out D) (Φ__law_due : List D → PM → Out D) (Φ_widen : List D → PM → Out D) (Φ__law_same : List D → PM → Out D) (Φ_within : List D → PM → Out D) (Φ_join : List D → PM → Out D) : FS :=
    sSeq (sAsg (pOp gEq (pOp gMod (pVar 2) (pC (.int 2))) (pC (.int 1))) (fName 3))
      (sSeq (sAsg (pCall Φ__law_range (aCons (pVar 1) (aCons (pVar 0) (aCons (pVar 3) (aNil))))) (fName 4))
      (sSeq (sAsg (pCall Φ__law_range (aCons (pVar 1) (aCons (pVar 0) (aCons (pVar 3) (aNil))))) (fName 5))
      (sSeq (sIf (pTest (pOp gEq (pCall Φ__law_next (aCons (pVar 1) (aCons (pVar 0) (aCons (pC (.int 4)) (aNil))))) (pC (.int 0)))) (sAsg (pTup (aCons (pOp gIx (pVar 4) (pC (.int 0))) (aCons (pOp gIx (pVar 4) (pC (.int 1))) (aCons (pOp gIx (pVar 4) (pC (.int 2))) (aNil))))) (fName 5)) (sIf (pTest (pOp gEq (pCall Φ__law_next (aCons (pVar 1) (aCons (pVar 0) (aCons (pC (.int 3)) (aNil))))) (pC (.int 0)))) (sAsg (pTup (aCons (pOp gIx (pVar 4) (pC (.int 0))) (aCons (pOp gIx (pVar 4) (pC (.int 0))) (aCons (pC (.int 0)) (aNil))))) (fName 5)) (sNext)))
      (sSeq (sAsg (pCall Φ__law_marks (aCons (pVar 1) (aCons (pVar 0) (aCons (pVar 4) (aCons (pVar 5) (aNil)))))) (fName 6))
      (sSeq (sAsg (pVar 4) (fName 7))
      (sSeq (sIf (pNot (pTest (pCall Φ__law_lies (aCons (pVar 5) (aCons (pVar 4) (aNil)))))) (sAsg (pCall Φ__law_due (aCons (pVar 4) (aCons (pVar 5) (aCons (pVar 6) (aNil))))) (fName 7)) (sNext))
      (sSeq (sAsg (pCall Φ_widen (aCons (pVar 4) (aCons (pVar 5) (aCons (pVar 6) (aNil))))) (fName 8))
      (sSeq (sIf (pOr (pNot (pTest (pCall Φ__law_same (aCons (pVar 8) (aCons (pVar 7) (aNil)))))) (pOr (pTest (pOp gIsNot2 (pCall Φ_within (aCons (pVar 4) (aCons (pVar 8) (aNil)))) (pC (.bl true)))) (pTest (pOp gIsNot2 (pCall Φ_within (aCons (pVar 5) (aCons (pVar 8) (aNil)))) (pC (.bl true)))))) (sRet (pC (.bl false))) (sNext))
      (sIf (pOr (pTest (pOp gIsNot2 (pCall Φ_within (aCons (pCall Φ_join (aCons (pVar 4) (aCons (pVar 5) (aNil)))) (aCons (pVar 8) (aNil)))) (pC (.bl true)))) (pOr (pTest (pOp gLt (pOp gIx (pVar 8) (pC (.int 0))) (pUn gNeg (pC (.int 10000))))) (pTest (pOp gGt (pOp gIx (pVar 8) (pC (.int 1))) (pC (.int 10000)))))) (sRet (pC (.bl false))) (sNext))))))))))
def g_law (Φ__law_range : List D → PM → Out D) (Φ__law_next : List D → PM → Out D) (Φ__law_marks : List D → PM → Out D) (Φ__law_lies : List D → PM → Out D) (Φ__law_due : List D → PM → Out D) (Φ_widen : List D → PM → Out D) (Φ__law_same : List D → PM → Out D) (Φ_within : List D → PM → Out D) (Φ_join : List D → PM → Out D) : FS :=
    sSeq (sAsg (pNew (aCons (pC (.int 0)) (aCons (pC (.int 0)) (aCons (pC (.int 1)) (aCons (pC (.int 0)) (aNil)))))) (fName 1))
    (sSeq (sFor (pRng1 (aCons (pC (.int 5)) (aNil))) (fName 2) (lb_law_1 Φ__law_range Φ__law_next Φ__law_marks Φ__law_lies Φ__law_due Φ_widen Φ__law_same Φ_within Φ_join))
    (sRet (pC (.bl true))))
abbrev N_law : List Str := [PySem.Str.ofString "script", PySem.Str.ofString "state", PySem.Str.ofString "k", PySem.Str.ofString "wide", PySem.Str.ofString "old", PySem.Str.ofString "new", PySem.Str.ofString "marks", PySem.Str.ofString "due", PySem.Str.ofString "found"]
theorem rn_law {a0 : D} : rho0 N_law [a0] = [some a0, none, none, none, none, none, none, none, none] := rfl
theorem sc_law : FnScope N_law [PySem.Str.ofString "script"] (defScope s_law) := ⟨rfl, rfl, rfl, by decide +kernel, rfl, by decide +kernel, by decide +kernel⟩
def Φ_law : List D → PM → Out D := run 1 N_law (g_law Φ__law_range Φ__law_next Φ__law_marks Φ__law_lies Φ__law_due Φ_widen Φ__law_same Φ_within Φ_join)
theorem ok_law {P : Program} {w : World} {K : PySem.W.Frag} {mg : Str → Option Value} {base : Heap} {f : Addr} {fd : FuncData} (F : Fun K "law" "law" s_law f fd) {Φ__law_range : List D → PM → Out D} (C__law_range : Callee P w K mg base "_law_range" 2 Φ__law_range) {Φ__law_next : List D → PM → Out D} (C__law_next : Callee P w K mg base "_law_next" 1 Φ__law_next) {Φ__law_marks : List D → PM → Out D} (C__law_marks : Callee P w K mg base "_law_marks" 2 Φ__law_marks) {Φ__law_lies : List D → PM → Out D} (C__law_lies : Callee P w K mg base "_law_lies" 1 Φ__law_lies) {Φ__law_due : List D → PM → Out D} (C__law_due : Callee P w K mg base "_law_due" 3 Φ__law_due) {Φ_widen : List D → PM → Out D} (C_widen : Callee P w K mg base "widen" 3 Φ_widen) {Φ__law_same : List D → PM → Out D} (C__law_same : Callee P w K mg base "_law_same" 3 Φ__law_same) {Φ_within : List D → PM → Out D} (C_within : Callee P w K mg base "within" 2 Φ_within) {Φ_join : List D → PM → Out D} (C_join : Callee P w K mg base "join" 1 Φ_join) (m_range : mg "range" = none) :
    FnOk P w K mg base CX0 4 f fd ["script"] (spP K (run 1 N_law (g_law Φ__law_range Φ__law_next Φ__law_marks Φ__law_lies Φ__law_due Φ_widen Φ__law_same Φ_within Φ_join))) := by
  refine law_run F sc_law rfl fun f cdv A outer s H E hr => ?_
  have nd := sc_law.nd
  exact pdb_cons (pds_set 1 (pd_new (pda_cons (pd_int) (pda_cons (pd_int) (pda_cons (pd_int) (pda_cons (pd_int) (pda_nil)))))) nd)
    (pdb_cons (pds_for PassesOwn.never rfl (pdi_rng1 rfl m_range (pda_cons (pd_int) (pda_nil))) (pdg_name (i := 2) nd) (pdb_cons (pds_set 3 (pd_cmp o_eq (pd_op o_mod (pd_var 2) (pd_int)) (pd_int) (nomark _)) nd)
      (pdb_cons (pds_set 4 (pd_callC C__law_range (hr.mono (by decide)) rfl (pda_cons (pd_var 1) (pda_cons (pd_var 0) (pda_cons (pd_var 3) (pda_nil))))) nd)
      (pdb_cons (pds_set 5 (pd_callC C__law_range (hr.mono (by decide)) rfl (pda_cons (pd_var 1) (pda_cons (pd_var 0) (pda_cons (pd_var 3) (pda_nil))))) nd)
      (pdb_cons (pds_if (pdt_cmp o_eq (pd_callC C__law_next (hr.mono (by decide)) rfl (pda_cons (pd_var 1) (pda_cons (pd_var 0) (pda_cons (pd_int) (pda_nil))))) (pd_int) (nomark _)) (pdb_one (pds_set 5 (pd_tup (pda_cons (pd_ix (pd_var 4) (pd_int)) (pda_cons (pd_ix (pd_var 4) (pd_int)) (pda_cons (pd_ix (pd_var 4) (pd_int)) (pda_nil))))) nd)) (pdb_one (pds_if (pdt_cmp o_eq (pd_callC C__law_next (hr.mono (by decide)) rfl (pda_cons (pd_var 1) (pda_cons (pd_var 0) (pda_cons (pd_int) (pda_nil))))) (pd_int) (nomark _)) (pdb_one (pds_set 5 (pd_tup (pda_cons (pd_ix (pd_var 4) (pd_int)) (pda_cons (pd_ix (pd_var 4) (pd_int)) (pda_cons (pd_int) (pda_nil))))) nd)) (pdb_nil))))
      (pdb_cons (pds_set 6 (pd_callC C__law_marks (hr.mono (by decide)) rfl (pda_cons (pd_var 1) (pda_cons (pd_var 0) (pda_cons (pd_var 4) (pda_cons (pd_var 5) (pda_nil)))))) nd)
      (pdb_cons (pds_set 7 (pd_var 4) nd)
      (pdb_cons (pds_if (pdt_not (pdt_val (pd_callC C__law_lies (hr.mono (by decide)) rfl (pda_cons (pd_var 5) (pda_cons (pd_var 4) (pda_nil)))))) (pdb_one (pds_set 7 (pd_callC C__law_due (hr.mono (by decide)) rfl (pda_cons (pd_var 4) (pda_cons (pd_var 5) (pda_cons (pd_var 6) (pda_nil))))) nd)) (pdb_nil))
      (pdb_cons (pds_set 8 (pd_callC C_widen (hr.mono (by decide)) rfl (pda_cons (pd_var 4) (pda_cons (pd_var 5) (pda_cons (pd_var 6) (pda_nil))))) nd)
      (pdb_cons (pds_if (pdt_w (pdw_or (pdt_not (pdt_val (pd_callC C__law_same (hr.mono (by decide)) rfl (pda_cons (pd_var 8) (pda_cons (pd_var 7) (pda_nil)))))) (pdw_or (pdt_cmp o_isNot2 (pd_callC C_within (hr.mono (by decide)) rfl (pda_cons (pd_var 4) (pda_cons (pd_var 8) (pda_nil)))) (pd_bl) (nomark _)) (pdw_or1 (pdt_cmp o_isNot2 (pd_callC C_within (hr.mono (by decide)) rfl (pda_cons (pd_var 5) (pda_cons (pd_var 8) (pda_nil)))) (pd_bl) (nomark _)))))) (pdb_one (pds_ret (pd_bl))) (pdb_nil))
      (pdb_one (pds_if (pdt_w (pdw_or (pdt_cmp o_isNot2 (pd_callC C_within (hr.mono (by decide)) rfl (pda_cons (pd_callC C_join (hr.mono (by decide)) rfl (pda_cons (pd_var 4) (pda_cons (pd_var 5) (pda_nil)))) (pda_cons (pd_var 8) (pda_nil)))) (pd_bl) (nomark _)) (pdw_or (pdt_cmp o_lt (pd_ix (pd_var 8) (pd_int)) (pd_neg (pd_int)) (nomark _)) (pdw_or1 (pdt_cmp o_gt (pd_ix (pd_var 8) (pd_int)) (pd_int) (nomark _)))))) (pdb_one (pds_ret (pd_bl))) (pdb_nil)))))))))))))
    (pdb_one (pds_ret (pd_bl))))
/-! ### what the top has left -/
theorem all_mk {l : PySem.W.OpenLaw} {w : World} {K : PySem.W.Frag} {h : Heap} {mg : Str → Option Value} {fa : Addr} (X : K.In h) (G : h.Ns mainGlobals mg) (hfa : mg "law" = some (.ref fa))
    {f_has : Addr} {oc_has kV_has dc_has pm_has cd_has ct_has : Value} {od_has an_has : Option Addr} {sl_has : Array (Option Value)}
    {f_within : Addr} {oc_within kV_within dc_within pm_within cd_within ct_within : Value} {od_within an_within : Option Addr} {sl_within : Array (Option Value)}
    {f_join : Addr} {oc_join kV_join dc_join pm_join cd_join ct_join : Value} {od_join an_join : Option Addr} {sl_join : Array (Option Value)}
    {f_widen : Addr} {oc_widen kV_widen dc_widen pm_widen cd_widen ct_widen : Value} {od_widen an_widen : Option Addr} {sl_widen : Array (Option Value)}
    {f__law_next : Addr} {oc__law_next kV__law_next dc__law_next pm__law_next cd__law_next ct__law_next : Value} {od__law_next an__law_next : Option Addr} {sl__law_next : Array (Option Value)}
    {f__law_same : Addr} {oc__law_same kV__law_same dc__law_same pm__law_same cd__law_same ct__law_same : Value} {od__law_same an__law_same : Option Addr} {sl__law_same : Array (Option Value)}
    {f__law_range : Addr} {oc__law_range kV__law_range dc__law_range pm__law_range cd__law_range ct__law_range : Value} {od__law_range an__law_range : Option Addr} {sl__law_range : Array (Option Value)}
    {f__law_divisor : Addr} {oc__law_divisor kV__law_divisor dc__law_divisor pm__law_divisor cd__law_divisor ct__law_divisor : Value} {od__law_divisor an__law_divisor : Option Addr} {sl__law_divisor : Array (Option Value)}
    {f__law_hull : Addr} {oc__law_hull kV__law_hull dc__law_hull pm__law_hull cd__law_hull ct__law_hull : Value} {od__law_hull an__law_hull : Option Addr} {sl__law_hull : Array (Option Value)}
    {f__law_marks : Addr} {oc__law_marks kV__law_marks dc__law_marks pm__law_marks cd__law_marks ct__law_marks : Value} {od__law_marks an__law_marks : Option Addr} {sl__law_marks : Array (Option Value)}
    {f__law_due : Addr} {oc__law_due kV__law_due dc__law_due pm__law_due cd__law_due ct__law_due : Value} {od__law_due an__law_due : Option Addr} {sl__law_due : Array (Option Value)}
    {f__law_lies : Addr} {oc__law_lies kV__law_lies dc__law_lies pm__law_lies cd__law_lies ct__law_lies : Value} {od__law_lies an__law_lies : Option Addr} {sl__law_lies : Array (Option Value)}
    {f_law : Addr} {oc_law kV_law dc_law pm_law cd_law ct_law : Value} {od_law an_law : Option Addr} {sl_law : Array (Option Value)}
    (a_has : PySem.W.nsIn K mainGlobals "has" = some (some (.ref f_has)))
    (l_has : K.lookup f_has = some ⟨oc_has, od_has, .func (PySem.W.fnOf "has" "has" (defArgs s_has) (defBody s_has) (defScope s_has) .none kV_has dc_has pm_has an_has cd_has ct_has), sl_has⟩)
    (c_has : PySem.W.codeIn K cd_has "has" = true)
    (k_has : PySem.W.keepIn K (.ref f_has) = true)
    (a_within : PySem.W.nsIn K mainGlobals "within" = some (some (.ref f_within)))
    (l_within : K.lookup f_within = some ⟨oc_within, od_within, .func (PySem.W.fnOf "within" "within" (defArgs s_within) (defBody s_within) (defScope s_within) .none kV_within dc_within pm_within an_within cd_within ct_within), sl_within⟩)
    (c_within : PySem.W.codeIn K cd_within "within" = true)
    (k_within : PySem.W.keepIn K (.ref f_within) = true)
    (a_join : PySem.W.nsIn K mainGlobals "join" = some (some (.ref f_join)))
    (l_join : K.lookup f_join = some ⟨oc_join, od_join, .func (PySem.W.fnOf "join" "join" (defArgs s_join) (defBody s_join) (defScope s_join) .none kV_join dc_join pm_join an_join cd_join ct_join), sl_join⟩)
    (c_join : PySem.W.codeIn K cd_join "join" = true)
    (k_join : PySem.W.keepIn K (.ref f_join) = true)
    (a_widen : PySem.W.nsIn K mainGlobals "widen" = some (some (.ref f_widen)))
    (l_widen : K.lookup f_widen = some ⟨oc_widen, od_widen, .func (PySem.W.fnOf "widen" "widen" (defArgs s_widen) (defBody s_widen) (defScope s_widen) .none kV_widen dc_widen pm_widen an_widen cd_widen ct_widen), sl_widen⟩)
    (c_widen : PySem.W.codeIn K cd_widen "widen" = true)
    (k_widen : PySem.W.keepIn K (.ref f_widen) = true)
    (a__law_next : PySem.W.nsIn K mainGlobals "_law_next" = some (some (.ref f__law_next)))
    (l__law_next : K.lookup f__law_next = some ⟨oc__law_next, od__law_next, .func (PySem.W.fnOf "_law_next" "_law_next" (defArgs s__law_next) (defBody s__law_next) (defScope s__law_next) .none kV__law_next dc__law_next pm__law_next an__law_next cd__law_next ct__law_next), sl__law_next⟩)
    (c__law_next : PySem.W.codeIn K cd__law_next "_law_next" = true)
    (k__law_next : PySem.W.keepIn K (.ref f__law_next) = true)
    (a__law_same : PySem.W.nsIn K mainGlobals "_law_same" = some (some (.ref f__law_same)))
    (l__law_same : K.lookup f__law_same = some ⟨oc__law_same, od__law_same, .func (PySem.W.fnOf "_law_same" "_law_same" (defArgs s__law_same) (defBody s__law_same) (defScope s__law_same) .none kV__law_same dc__law_same pm__law_same an__law_same cd__law_same ct__law_same), sl__law_same⟩)
    (c__law_same : PySem.W.codeIn K cd__law_same "_law_same" = true)
    (k__law_same : PySem.W.keepIn K (.ref f__law_same) = true)
    (a__law_range : PySem.W.nsIn K mainGlobals "_law_range" = some (some (.ref f__law_range)))
    (l__law_range : K.lookup f__law_range = some ⟨oc__law_range, od__law_range, .func (PySem.W.fnOf "_law_range" "_law_range" (defArgs s__law_range) (defBody s__law_range) (defScope s__law_range) .none kV__law_range dc__law_range pm__law_range an__law_range cd__law_range ct__law_range), sl__law_range⟩)
    (c__law_range : PySem.W.codeIn K cd__law_range "_law_range" = true)
    (k__law_range : PySem.W.keepIn K (.ref f__law_range) = true)
    (a__law_divisor : PySem.W.nsIn K mainGlobals "_law_divisor" = some (some (.ref f__law_divisor)))
    (l__law_divisor : K.lookup f__law_divisor = some ⟨oc__law_divisor, od__law_divisor, .func (PySem.W.fnOf "_law_divisor" "_law_divisor" (defArgs s__law_divisor) (defBody s__law_divisor) (defScope s__law_divisor) .none kV__law_divisor dc__law_divisor pm__law_divisor an__law_divisor cd__law_divisor ct__law_divisor), sl__law_divisor⟩)
    (c__law_divisor : PySem.W.codeIn K cd__law_divisor "_law_divisor" = true)
    (k__law_divisor : PySem.W.keepIn K (.ref f__law_divisor) = true)
    (a__law_hull : PySem.W.nsIn K mainGlobals "_law_hull" = some (some (.ref f__law_hull)))
    (l__law_hull : K.lookup f__law_hull = some ⟨oc__law_hull, od__law_hull, .func (PySem.W.fnOf "_law_hull" "_law_hull" (defArgs s__law_hull) (defBody s__law_hull) (defScope s__law_hull) .none kV__law_hull dc__law_hull pm__law_hull an__law_hull cd__law_hull ct__law_hull), sl__law_hull⟩)
    (c__law_hull : PySem.W.codeIn K cd__law_hull "_law_hull" = true)
    (k__law_hull : PySem.W.keepIn K (.ref f__law_hull) = true)
    (a__law_marks : PySem.W.nsIn K mainGlobals "_law_marks" = some (some (.ref f__law_marks)))
    (l__law_marks : K.lookup f__law_marks = some ⟨oc__law_marks, od__law_marks, .func (PySem.W.fnOf "_law_marks" "_law_marks" (defArgs s__law_marks) (defBody s__law_marks) (defScope s__law_marks) .none kV__law_marks dc__law_marks pm__law_marks an__law_marks cd__law_marks ct__law_marks), sl__law_marks⟩)
    (c__law_marks : PySem.W.codeIn K cd__law_marks "_law_marks" = true)
    (k__law_marks : PySem.W.keepIn K (.ref f__law_marks) = true)
    (a__law_due : PySem.W.nsIn K mainGlobals "_law_due" = some (some (.ref f__law_due)))
    (l__law_due : K.lookup f__law_due = some ⟨oc__law_due, od__law_due, .func (PySem.W.fnOf "_law_due" "_law_due" (defArgs s__law_due) (defBody s__law_due) (defScope s__law_due) .none kV__law_due dc__law_due pm__law_due an__law_due cd__law_due ct__law_due), sl__law_due⟩)
    (c__law_due : PySem.W.codeIn K cd__law_due "_law_due" = true)
    (k__law_due : PySem.W.keepIn K (.ref f__law_due) = true)
    (a__law_lies : PySem.W.nsIn K mainGlobals "_law_lies" = some (some (.ref f__law_lies)))
    (l__law_lies : K.lookup f__law_lies = some ⟨oc__law_lies, od__law_lies, .func (PySem.W.fnOf "_law_lies" "_law_lies" (defArgs s__law_lies) (defBody s__law_lies) (defScope s__law_lies) .none kV__law_lies dc__law_lies pm__law_lies an__law_lies cd__law_lies ct__law_lies), sl__law_lies⟩)
    (c__law_lies : PySem.W.codeIn K cd__law_lies "_law_lies" = true)
    (k__law_lies : PySem.W.keepIn K (.ref f__law_lies) = true)
    (a_law : PySem.W.nsIn K mainGlobals "law" = some (some (.ref f_law)))
    (l_law : K.lookup f_law = some ⟨oc_law, od_law, .func (PySem.W.fnOf "law" "law" (defArgs s_law) (defBody s_law) (defScope s_law) .none kV_law dc_law pm_law an_law cd_law ct_law), sl_law⟩)
    (c_law : PySem.W.codeIn K cd_law "law" = true)
    (k_law : PySem.W.keepIn K (.ref f_law) = true)
    (b_min : PySem.W.nsIn K mainGlobals "min" = some none)
    (b_max : PySem.W.nsIn K mainGlobals "max" = some none)
    (b_gcd : PySem.W.nsIn K mainGlobals "gcd" = some (some (.builtin "math.gcd")))
    (b_int : PySem.W.nsIn K mainGlobals "int" = some none)
    (b_len : PySem.W.nsIn K mainGlobals "len" = some none)
    (b_abs : PySem.W.nsIn K mainGlobals "abs" = some none)
    (b_tuple : PySem.W.nsIn K mainGlobals "tuple" = some none)
    (b_isinstance : PySem.W.nsIn K mainGlobals "isinstance" = some none)
    (b_range : PySem.W.nsIn K mainGlobals "range" = some none)
    (b_bool : PySem.W.nsIn K mainGlobals "bool" = some none)
    (b_str : PySem.W.nsIn K mainGlobals "str" = some none)
    (b_sorted : PySem.W.nsIn K mainGlobals "sorted" = some none)
    : ∃ fd : FuncData, (∀ (s : Shared) (u : Value), BindsTo s fd ⟨[u], []⟩ [("script", u)]) ∧ ∀ base : Heap, K.In base → base.Ns mainGlobals mg → FnOk l.prog w K mg base CX0 4 fa fd ["script"] (spP K Φ_law) := by
  have F_has : FunM K mg "has" s_has [PySem.Str.ofString "span", PySem.Str.ofString "n"] := funM_of X G a_has l_has c_has k_has (fun us hl => match us, hl with | [_, _], _ => rfl)
  have F_within : FunM K mg "within" s_within [PySem.Str.ofString "first", PySem.Str.ofString "second"] := funM_of X G a_within l_within c_within k_within (fun us hl => match us, hl with | [_, _], _ => rfl)
  have F_join : FunM K mg "join" s_join [PySem.Str.ofString "first", PySem.Str.ofString "second"] := funM_of X G a_join l_join c_join k_join (fun us hl => match us, hl with | [_, _], _ => rfl)
  have F_widen : FunM K mg "widen" s_widen [PySem.Str.ofString "old", PySem.Str.ofString "new", PySem.Str.ofString "marks"] := funM_of X G a_widen l_widen c_widen k_widen (fun us hl => match us, hl with | [_, _, _], _ => rfl)
  have F__law_next : FunM K mg "_law_next" s__law_next [PySem.Str.ofString "state", PySem.Str.ofString "script", PySem.Str.ofString "many"] := funM_of X G a__law_next l__law_next c__law_next k__law_next (fun us hl => match us, hl with | [_, _, _], _ => rfl)
  have F__law_same : FunM K mg "_law_same" s__law_same [PySem.Str.ofString "actual", PySem.Str.ofString "due"] := funM_of X G a__law_same l__law_same c__law_same k__law_same (fun us hl => match us, hl with | [_, _], _ => rfl)
  have F__law_range : FunM K mg "_law_range" s__law_range [PySem.Str.ofString "state", PySem.Str.ofString "script", PySem.Str.ofString "wide"] := funM_of X G a__law_range l__law_range c__law_range k__law_range (fun us hl => match us, hl with | [_, _, _], _ => rfl)
  have F__law_divisor : FunM K mg "_law_divisor" s__law_divisor [PySem.Str.ofString "one", PySem.Str.ofString "other"] := funM_of X G a__law_divisor l__law_divisor c__law_divisor k__law_divisor (fun us hl => match us, hl with | [_, _], _ => rfl)
  have F__law_hull : FunM K mg "_law_hull" s__law_hull [PySem.Str.ofString "numbers"] := funM_of X G a__law_hull l__law_hull c__law_hull k__law_hull (fun us hl => match us, hl with | [_], _ => rfl)
  have F__law_marks : FunM K mg "_law_marks" s__law_marks [PySem.Str.ofString "state", PySem.Str.ofString "script", PySem.Str.ofString "first", PySem.Str.ofString "second"] := funM_of X G a__law_marks l__law_marks c__law_marks k__law_marks (fun us hl => match us, hl with | [_, _, _, _], _ => rfl)
  have F__law_due : FunM K mg "_law_due" s__law_due [PySem.Str.ofString "old", PySem.Str.ofString "new", PySem.Str.ofString "marks"] := funM_of X G a__law_due l__law_due c__law_due k__law_due (fun us hl => match us, hl with | [_, _, _], _ => rfl)
  have F__law_lies : FunM K mg "_law_lies" s__law_lies [PySem.Str.ofString "new", PySem.Str.ofString "old"] := funM_of X G a__law_lies l__law_lies c__law_lies k__law_lies (fun us hl => match us, hl with | [_, _], _ => rfl)
  have F_law : FunM K mg "law" s_law [PySem.Str.ofString "script"] := funM_of X G a_law l_law c_law k_law (fun us hl => match us, hl with | [_], _ => rfl)
  have m_min : mg "min" = none := PySem.W.mg_none_of X G b_min
  have m_max : mg "max" = none := PySem.W.mg_none_of X G b_max
  have m_gcd : mg "gcd" = some (.builtin "math.gcd") := PySem.W.mg_of X G b_gcd
  have m_int : mg "int" = none := PySem.W.mg_none_of X G b_int
  have m_len : mg "len" = none := PySem.W.mg_none_of X G b_len
  have m_abs : mg "abs" = none := PySem.W.mg_none_of X G b_abs
  have m_tuple : mg "tuple" = none := PySem.W.mg_none_of X G b_tuple
  have m_isinstance : mg "isinstance" = none := PySem.W.mg_none_of X G b_isinstance
  have m_range : mg "range" = none := PySem.W.mg_none_of X G b_range
  have m_bool : mg "bool" = none := PySem.W.mg_none_of X G b_bool
  have m_str : mg "str" = none := PySem.W.mg_none_of X G b_str
  have m_sorted : mg "sorted" = none := PySem.W.mg_none_of X G b_sorted
  refine law_of (F := F_law) hfa fun fd hF base KB GB => ?_
  have C_has : Callee l.prog w K mg base "has" 1 Φ_has := ok_has F_has
  have C_within : Callee l.prog w K mg base "within" 2 Φ_within := ok_within F_within C_has
  have C_join : Callee l.prog w K mg base "join" 1 Φ_join := ok_join F_join m_min m_max m_gcd
  have C_widen : Callee l.prog w K mg base "widen" 3 Φ_widen := ok_widen F_widen C_within C_join m_max m_min
  have C__law_next : Callee l.prog w K mg base "_law_next" 1 Φ__law_next := ok__law_next F__law_next m_int m_len m_abs
  have C__law_same : Callee l.prog w K mg base "_law_same" 3 Φ__law_same := all__law_same F__law_same m_tuple m_isinstance m_len m_range m_bool m_int m_str 3
  have C__law_range : Callee l.prog w K mg base "_law_range" 2 Φ__law_range := ok__law_range F__law_range C__law_next m_int m_min
  have C__law_divisor : Callee l.prog w K mg base "_law_divisor" 1 Φ__law_divisor := ok__law_divisor F__law_divisor m_int m_abs
  have C__law_hull : Callee l.prog w K mg base "_law_hull" 2 Φ__law_hull := ok__law_hull F__law_hull C__law_divisor m_min m_max
  have C__law_marks : Callee l.prog w K mg base "_law_marks" 2 Φ__law_marks := ok__law_marks F__law_marks C__law_next m_range m_min m_max m_sorted m_tuple
  have C__law_due : Callee l.prog w K mg base "_law_due" 3 Φ__law_due := ok__law_due F__law_due C__law_hull m_int
  have C__law_lies : Callee l.prog w K mg base "_law_lies" 1 Φ__law_lies := ok__law_lies F__law_lies m_max m_int
  exact ok_law hF C__law_range C__law_next C__law_marks C__law_lies C__law_due C_widen C__law_same C_within C_join m_range
end G

set_option Elab.async false
set_option linter.all false
set_option maxRecDepth 100000
set_option maxHeartbeats 4000000
namespace M
open PySem L2 Pd G
local macro_rules | `(tactic| walk_at "px") => `(tactic| simp -implicitDefEqProofs only [wp_ok, wp_C, wp_op, wp_un, wp_asB, wp_test, wp_if, wp_and, wp_or, wp_not, wp_andV, wp_orV, wp_notV, wp_aNil, wp_aCons, wp_tup, wp_lst, wp_new, wp_call, wp_cb, wp_oNone, wp_asI, wp_oSome, wp_sl, wp_next, wp_break, wp_cont, wp_retN, kSeq_nx, kSeq_rt, kSeq_bk, kSeq_ct, wp_seq, wp_asg, wp_drop, wp_ret, wp_sif, wp_fNil, wp_fCons, wp_fTup1, wp_fTup2, wp_fTup3, wp_fTup4, wp_fTup5, wp_fSub, kPar_ok, wp_par, wp_for, wp_each0, kEach_nx, kEach_ct, kEach_bk, kEach_rt, wp_lc, wp_yes, wp_items, wp_itemsL, wp_itemsR, wp_itemsT, wp_pRng1, wp_pRng2, wp_app, wp_ext, wp_ch, wp_mod, wp_fdiv, wif_true, wif_false, wif_not, wlen0, kLp_eq, kWh_eq, kL1_eq, kL2_eq, kCh_eq, kW_eq, kV_eq, wp_ms, isS_str, kOp2_eq, kOp1_eq, kUn_eq, kTest_eq, kIf_eq, kAnd_eq, kOr_eq, kNot_eq, kAndV_eq, kOrV_eq, kNotV_eq, kCons2_eq, kCons1_eq, kTup_eq, kLst_eq, kNew_eq, kCall_eq, kCB_eq, kAsI_eq, kSl3_eq, kSl2_eq, kSl1_eq, kNx_eq, kAsg_eq, kDrop_eq, kRet_eq, kSIf_eq, kFC_eq, kSub3_eq, kSub2_eq, kSub1_eq, kPut4_eq, kPut3_eq, kPut2_eq, kPut1_eq, kFor_eq, kE2_eq, kE1_eq, kLc_eq, kItems_eq, kRng1_eq, kRng2_eq, kApp2_eq, kApp1_eq, kExt2_eq, kExt1_eq, kAug2_eq, kAug1_eq, kCh3_eq, kCh2_eq, kCh1_eq, kMS2_eq, kMS1_eq, wlen1, wlen2, wlen3, wlen4, wlen5, wlen6, wlen7, wlen8, wlen9, wlen10, wlen11, wlen12, wlen13, wlen14, wlen15, wlen16, wp_var0, wp_var1, wp_var2, wp_var3, wp_var4, wp_var5, wp_var6, wp_var7, wp_var8, wp_var9, wp_var10, wp_var11, wp_var12, wp_var13, wp_var14, wp_var15, wp_var16, wp_var17, wp_var18, wp_var19, wp_var20, wp_var21, wp_var22, wp_var23, wp_var24, wp_var25, wp_var26, wp_var27, wp_var28, wp_var29, wp_name0, wp_name1, wp_name2, wp_name3, wp_name4, wp_name5, wp_name6, wp_name7, wp_name8, wp_name9, wp_name10, wp_name11, wp_name12, wp_name13, wp_name14, wp_name15, wp_name16, wp_name17, wp_name18, wp_name19, wp_name20, wp_name21, wp_name22, wp_name23, wp_name24, wp_name25, wp_name26, wp_name27, wp_name28, wp_name29, wp_aug0, wp_aug1, wp_aug2, wp_aug3, wp_aug4, wp_aug5, wp_aug6, wp_aug7, wp_aug8, wp_aug9, wp_aug10, wp_aug11, wp_aug12, wp_aug13, wp_aug14, wp_aug15, wp_aug16, wp_aug17, wp_aug18, wp_aug19, wp_aug20, wp_aug21, wp_aug22, wp_aug23, wp_aug24, wp_aug25, wp_aug26, wp_aug27, wp_aug28, wp_aug29, e_add, e_sub, e_lt, e_le, e_gt, e_ge, e_eqI, e_eqS, e_eqB, e_neI, e_neS, e_neB, e_neg, e_intI, e_intB, e_abs, e_max2, e_min2, e_gcd2, e_gcd3, e_lenT, e_lenL, e_lenR, e_tupL, e_tupT, e_listT, e_listL, e_strS, e_slT, e_slL, e_augAdd, e_eqNN, e_eqSN, e_eqNS, e_is_tup, e_is_lst, e_is_int, e_is_str, e_is_bl, e_is_non, e_is_adr, e_isNot_tup, e_isNot_lst, e_isNot_int, e_isNot_str, e_isNot_bl, e_isNot_non, e_isNot_adr, e_isB, e_isNotB, e_ix_tup0, e_ix_tup1, e_ix_tup2, e_ix_tup3, e_ix_tup4, e_ix_tup5, e_ix_lst0, e_ix_lst1, e_ix_lst2, e_ix_lst3, e_ix_lst4, e_ix_lst5, e_ix_rol0, e_ix_rol1, e_ix_rol2, e_ix_rol3, e_ix_rol4, e_ix_rol5, i_tup_bool, i_tup_int, i_tup_str, i_tup_tuple, i_tup_list, i_lst_bool, i_lst_int, i_lst_str, i_lst_tuple, i_lst_list, i_bl_bool, i_bl_int, i_bl_str, i_bl_tuple, i_bl_list, i_int_bool, i_int_int, i_int_str, i_int_tuple, i_int_list, i_str_bool, i_str_int, i_str_str, i_str_tuple, i_str_list, i_non_bool, i_non_int, i_non_str, i_non_tuple, i_non_list, getJ0, getJ1, getJ2, setJ0, setJ1, setJ2, lenJ0, lenJ1, lenJ2, getM0, getM1, getM2, setM0, setM1, setM2, lenM1, lenM2, List.set_cons_zero, List.set_cons_succ, List.cons_append, List.append_assoc, List.nil_append, wipeR, decide_true, decide_false, ite_true, ite_false, if_true, if_false, Bool.not_true, Bool.not_false, rho0, Int.toNat_natCast, true_and, and_true, Bool.false_eq_true])
local macro_rules | `(tactic| walk_at "mem") => `(tactic| first | with_reducible exact getJ0 | with_reducible exact getJ1 | with_reducible exact getJ2 | with_reducible exact getM0 | with_reducible exact getM1 | with_reducible exact getM2 | with_reducible assumption)
local macro_rules | `(tactic| walk_at "call") => `(tactic| fail)
local macro_rules | `(tactic| walk_at "wf") => `(tactic| first | with_reducible assumption | exact WJ.wf (by with_reducible assumption) (by with_reducible assumption) | exact WfM.snoc0 (by with_reducible assumption) rfl | exact WJ.snoc (by with_reducible assumption) rfl | exact WJ.wf (WJ.snoc (by with_reducible assumption) rfl) (by with_reducible assumption))
local macro_rules | `(tactic| walk_at "num") => `(tactic| first | omega | decide)
local macro_rules | `(tactic| walk_at "wif") => `(tactic| (
  (with_reducible show Wif _ _ _)
  first
  | ((with_reducible refine wif_t ?wc ?_); (case wc => first | with_reducible assumption | decide | exact decide_eq_true (by omega)))
  | ((with_reducible refine wif_f ?wc ?_); (case wc => first | with_reducible assumption | decide | exact decide_eq_false (by omega)))
  | with_reducible refine wif_d (fun _ => ?_) (fun _ => ?_) | with_reducible refine wif_b (fun _ => ?_) (fun _ => ?_)))
local macro_rules | `(tactic| walk_at "st") => `(tactic| first
  | walk_at "px"
  | walk_at "wif"
  | (with_reducible refine And.intro (isA_of (by walk_at "mem")) ?_)
  | (with_reducible refine wp_appL (by walk_at "mem") (by walk_at "num") ?_)
  | ((with_reducible refine wp_mod' ?wl ?_); (case wl => walk_at "num"))
  | ((with_reducible refine wp_fdiv' ?wl ?wm ?_); (case wl => walk_at "num"); (case wm => walk_at "num"))
  | ((with_reducible refine wp_mul ?wl ?_); (case wl => walk_at "num"))
  | ((with_reducible refine wp_rng1 ?wl ?_); (case wl => walk_at "num"))
  | ((with_reducible refine wp_rng2 ?wl ?wm ?_); (case wl => walk_at "num"); (case wm => walk_at "num"))
  | walk_at "call"
  | fail "no step")
local macro_rules | `(tactic| walk_at "de") => `(tactic| first
  | refine de0 (by walk_at "wf") (by with_reducible assumption) (by first | with_reducible assumption | rfl) ?_
  | refine dea0 (by walk_at "wf") (by with_reducible assumption) (by first | with_reducible assumption | rfl) ?_
  | refine de1 (by walk_at "wf") (by with_reducible assumption) (by first | with_reducible assumption | rfl) ?_)
local macro_rules | `(tactic| walk_at "pe") => `(tactic| first
  | refine pe0' (by walk_at "wf") (by first | with_reducible assumption | rfl) ?_
  | refine pea0' (by walk_at "wf") (by first | with_reducible assumption | rfl) ?_
  | refine pe1' (by walk_at "wf") (by first | with_reducible assumption | rfl) ?_)
local macro_rules | `(tactic| walk_at "pw") => `(tactic| repeat' walk_at "st")

/-! ### _law_same of a thing and itself -/
def plD : Nat → D → Bool
  | 0, _ => false
  | t + 1, .tup ds => decide (ds.length ≤ 1000000) && ds.all (plD t)
  | _ + 1, .int _ => true
  | _ + 1, .str _ => true
  | _ + 1, .bl _ => true
  | _ + 1, .non => true
  | _ + 1, _ => false
theorem same_ok (t : Nat) (d : D) {M : PM} (w : WfM M) (h : plD t d = true) : Ψ__law_same t [d, d] M = .ok (.bl true) M := by
  induction t generalizing d M with
  | zero => cases h
  | succ t ih =>
    refine run_wp rfl ?_
    rw [rn__law_same]
    unfold g__law_same
    cases d with
    | tup ds =>
      have hd : ∀ x ∈ ds, plD t x = true := by simp [plD] at h; exact h.2
      have hl : ds.length ≤ 1000000 := by simp [plD] at h; exact h.1
      walk_at "pw"
      refine wp_each (fun (k : Nat) => D.int (0 + (k : Int))) (fun _ _ ρ M' => M' = M ∧ ∃ o, ρ = [some (.tup ds), some (.tup ds), o]) ⟨rfl, _, rfl⟩ ?_ ?_
      · rintro pre k post ρ M' hx ⟨rfl, o, rfl⟩
        have hk : k < ds.length := by
          have : k ∈ List.range ds.length := by rw [hx]; simp
          simpa using this
        unfold lb__law_same_1
        walk_at "pw"
        refine wp_ix (n := k) rfl (by omega) (List.getElem?_eq_getElem hk) ?_
        walk_at "pw"
        refine wp_ix (n := k) rfl (by omega) (List.getElem?_eq_getElem hk) ?_
        walk_at "pw"
        refine wp_of (ih _ w (hd _ (List.getElem_mem hk))) ?_
        walk_at "pw"
        exact ⟨_, rfl⟩
      · rintro ρ M' ⟨rfl, o, rfl⟩
        walk_at "pw"
        exact pe0' w rfl rfl
    | int i => walk_at "pw"; exact pe0' w rfl (by simp)
    | str z => walk_at "pw"; exact pe0' w rfl (by simp)
    | bl b => walk_at "pw"; exact pe0' w rfl (by simp)
    | non => walk_at "pw"; exact pe0' w rfl rfl
    | _ => simp [plD] at h
end M

set_option Elab.async false
set_option linter.all false
set_option maxRecDepth 100000
set_option maxHeartbeats 4000000
namespace M
open PySem L2 Pd G
local macro_rules | `(tactic| walk_at "px") => `(tactic| simp -implicitDefEqProofs only [wp_ok, wp_C, wp_op, wp_un, wp_asB, wp_test, wp_if, wp_and, wp_or, wp_not, wp_andV, wp_orV, wp_notV, wp_aNil, wp_aCons, wp_tup, wp_lst, wp_new, wp_call, wp_cb, wp_oNone, wp_asI, wp_oSome, wp_sl, wp_next, wp_break, wp_cont, wp_retN, kSeq_nx, kSeq_rt, kSeq_bk, kSeq_ct, wp_seq, wp_asg, wp_drop, wp_ret, wp_sif, wp_fNil, wp_fCons, wp_fTup1, wp_fTup2, wp_fTup3, wp_fTup4, wp_fTup5, wp_fSub, kPar_ok, wp_par, wp_for, wp_each0, kEach_nx, kEach_ct, kEach_bk, kEach_rt, wp_lc, wp_yes, wp_items, wp_itemsL, wp_itemsR, wp_itemsT, wp_pRng1, wp_pRng2, wp_app, wp_ext, wp_ch, wp_mod, wp_fdiv, wif_true, wif_false, wif_not, wlen0, kLp_eq, kWh_eq, kL1_eq, kL2_eq, kCh_eq, kW_eq, kV_eq, wp_ms, isS_str, kOp2_eq, kOp1_eq, kUn_eq, kTest_eq, kIf_eq, kAnd_eq, kOr_eq, kNot_eq, kAndV_eq, kOrV_eq, kNotV_eq, kCons2_eq, kCons1_eq, kTup_eq, kLst_eq, kNew_eq, kCall_eq, kCB_eq, kAsI_eq, kSl3_eq, kSl2_eq, kSl1_eq, kNx_eq, kAsg_eq, kDrop_eq, kRet_eq, kSIf_eq, kFC_eq, kSub3_eq, kSub2_eq, kSub1_eq, kPut4_eq, kPut3_eq, kPut2_eq, kPut1_eq, kFor_eq, kE2_eq, kE1_eq, kLc_eq, kItems_eq, kRng1_eq, kRng2_eq, kApp2_eq, kApp1_eq, kExt2_eq, kExt1_eq, kAug2_eq, kAug1_eq, kCh3_eq, kCh2_eq, kCh1_eq, kMS2_eq, kMS1_eq, wlen1, wlen2, wlen3, wlen4, wlen5, wlen6, wlen7, wlen8, wlen9, wlen10, wlen11, wlen12, wlen13, wlen14, wlen15, wlen16, wp_var0, wp_var1, wp_var2, wp_var3, wp_var4, wp_var5, wp_var6, wp_var7, wp_var8, wp_var9, wp_var10, wp_var11, wp_var12, wp_var13, wp_var14, wp_var15, wp_var16, wp_var17, wp_var18, wp_var19, wp_var20, wp_var21, wp_var22, wp_var23, wp_var24, wp_var25, wp_var26, wp_var27, wp_var28, wp_var29, wp_name0, wp_name1, wp_name2, wp_name3, wp_name4, wp_name5, wp_name6, wp_name7, wp_name8, wp_name9, wp_name10, wp_name11, wp_name12, wp_name13, wp_name14, wp_name15, wp_name16, wp_name17, wp_name18, wp_name19, wp_name20, wp_name21, wp_name22, wp_name23, wp_name24, wp_name25, wp_name26, wp_name27, wp_name28, wp_name29, wp_aug0, wp_aug1, wp_aug2, wp_aug3, wp_aug4, wp_aug5, wp_aug6, wp_aug7, wp_aug8, wp_aug9, wp_aug10, wp_aug11, wp_aug12, wp_aug13, wp_aug14, wp_aug15, wp_aug16, wp_aug17, wp_aug18, wp_aug19, wp_aug20, wp_aug21, wp_aug22, wp_aug23, wp_aug24, wp_aug25, wp_aug26, wp_aug27, wp_aug28, wp_aug29, e_add, e_sub, e_lt, e_le, e_gt, e_ge, e_eqI, e_eqS, e_eqB, e_neI, e_neS, e_neB, e_neg, e_intI, e_intB, e_abs, e_max2, e_min2, e_gcd2, e_gcd3, e_lenT, e_lenL, e_lenR, e_tupL, e_tupT, e_listT, e_listL, e_strS, e_slT, e_slL, e_augAdd, e_eqNN, e_eqSN, e_eqNS, e_is_tup, e_is_lst, e_is_int, e_is_str, e_is_bl, e_is_non, e_is_adr, e_isNot_tup, e_isNot_lst, e_isNot_int, e_isNot_str, e_isNot_bl, e_isNot_non, e_isNot_adr, e_isB, e_isNotB, e_ix_tup0, e_ix_tup1, e_ix_tup2, e_ix_tup3, e_ix_tup4, e_ix_tup5, e_ix_lst0, e_ix_lst1, e_ix_lst2, e_ix_lst3, e_ix_lst4, e_ix_lst5, e_ix_rol0, e_ix_rol1, e_ix_rol2, e_ix_rol3, e_ix_rol4, e_ix_rol5, i_tup_bool, i_tup_int, i_tup_str, i_tup_tuple, i_tup_list, i_lst_bool, i_lst_int, i_lst_str, i_lst_tuple, i_lst_list, i_bl_bool, i_bl_int, i_bl_str, i_bl_tuple, i_bl_list, i_int_bool, i_int_int, i_int_str, i_int_tuple, i_int_list, i_str_bool, i_str_int, i_str_str, i_str_tuple, i_str_list, i_non_bool, i_non_int, i_non_str, i_non_tuple, i_non_list, getJ0, getJ1, getJ2, setJ0, setJ1, setJ2, lenJ0, lenJ1, lenJ2, getM0, getM1, getM2, setM0, setM1, setM2, lenM1, lenM2, List.set_cons_zero, List.set_cons_succ, List.cons_append, List.append_assoc, List.nil_append, wipeR, decide_true, decide_false, ite_true, ite_false, if_true, if_false, Bool.not_true, Bool.not_false, rho0, Int.toNat_natCast, true_and, and_true, Bool.false_eq_true])
local macro_rules | `(tactic| walk_at "mem") => `(tactic| first | with_reducible exact getJ0 | with_reducible exact getJ1 | with_reducible exact getJ2 | with_reducible exact getM0 | with_reducible exact getM1 | with_reducible exact getM2 | with_reducible assumption)
local macro_rules | `(tactic| walk_at "call") => `(tactic| fail)
local macro_rules | `(tactic| walk_at "wf") => `(tactic| first | with_reducible assumption | exact WJ.wf (by with_reducible assumption) (by with_reducible assumption) | exact WfM.snoc0 (by with_reducible assumption) rfl | exact WJ.snoc (by with_reducible assumption) rfl | exact WJ.wf (WJ.snoc (by with_reducible assumption) rfl) (by with_reducible assumption))
local macro_rules | `(tactic| walk_at "num") => `(tactic| first | omega | decide)
local macro_rules | `(tactic| walk_at "wif") => `(tactic| (
  (with_reducible show Wif _ _ _)
  first
  | ((with_reducible refine wif_t ?wc ?_); (case wc => first | with_reducible assumption | decide | exact decide_eq_true (by omega)))
  | ((with_reducible refine wif_f ?wc ?_); (case wc => first | with_reducible assumption | decide | exact decide_eq_false (by omega)))
  | with_reducible refine wif_d (fun _ => ?_) (fun _ => ?_) | with_reducible refine wif_b (fun _ => ?_) (fun _ => ?_)))
local macro_rules | `(tactic| walk_at "st") => `(tactic| first
  | walk_at "px"
  | walk_at "wif"
  | (with_reducible refine And.intro (isA_of (by walk_at "mem")) ?_)
  | (with_reducible refine wp_appL (by walk_at "mem") (by walk_at "num") ?_)
  | ((with_reducible refine wp_mod' ?wl ?_); (case wl => walk_at "num"))
  | ((with_reducible refine wp_fdiv' ?wl ?wm ?_); (case wl => walk_at "num"); (case wm => walk_at "num"))
  | ((with_reducible refine wp_mul ?wl ?_); (case wl => walk_at "num"))
  | ((with_reducible refine wp_rng1 ?wl ?_); (case wl => walk_at "num"))
  | ((with_reducible refine wp_rng2 ?wl ?wm ?_); (case wl => walk_at "num"); (case wm => walk_at "num"))
  | walk_at "call"
  | fail "no step")
local macro_rules | `(tactic| walk_at "de") => `(tactic| first
  | refine de0 (by walk_at "wf") (by with_reducible assumption) (by first | with_reducible assumption | rfl) ?_
  | refine dea0 (by walk_at "wf") (by with_reducible assumption) (by first | with_reducible assumption | rfl) ?_
  | refine de1 (by walk_at "wf") (by with_reducible assumption) (by first | with_reducible assumption | rfl) ?_)
local macro_rules | `(tactic| walk_at "pe") => `(tactic| first
  | refine pe0' (by walk_at "wf") (by first | with_reducible assumption | rfl) ?_
  | refine pea0' (by walk_at "wf") (by first | with_reducible assumption | rfl) ?_
  | refine pe1' (by walk_at "wf") (by first | with_reducible assumption | rfl) ?_)
local macro_rules | `(tactic| walk_at "pw") => `(tactic| repeat' walk_at "st")

/-! ### ranges -/
def hasB (l h s n : Int) : Bool := if n < l ∨ h < n then false else (decide (s = 0) || decide ((n - l) % s = 0))
def Rg (l h s : Int) : Prop := (s = 0 ∧ l = h) ∨ (0 < s ∧ l < h ∧ (h - l) % s = 0)
theorem has_ok {M : PM} (w : WfM M) {l h s n : Int} (hs : 0 ≤ s) : Φ_has [.tup [.int l, .int h, .int s], .int n] M = .ok (.bl (hasB l h s n)) M := by
  refine run_wp rfl ?_
  rw [rn_has]
  unfold g_has
  walk_at "pw"
  all_goals exact pe0' w rfl (by simp [hasB, *])
def withinB (l h s l2 h2 s2 : Int) : Bool := hasB l2 h2 s2 l && hasB l2 h2 s2 h && (decide (s = 0) || decide (s % s2 = 0))
theorem has_single {l h n : Int} (r : Rg l h 0) (e : hasB l h 0 n = true) : n = l := by
  unfold hasB at e
  split at e
  · cases e
  · unfold Rg at r; omega
local macro_rules | `(tactic| walk_at "call") => `(tactic| ((with_reducible refine wp_of (has_ok ?wf ?wn) ?_); (case wf => walk_at "wf"); (case wn => omega)))
theorem within_ok {M : PM} (w : WfM M) {l h s l2 h2 s2 : Int} (r : Rg l h s) (r2 : Rg l2 h2 s2) : Φ_within [.tup [.int l, .int h, .int s], .tup [.int l2, .int h2, .int s2]] M = .ok (.bl (withinB l h s l2 h2 s2)) M := by
  refine run_wp rfl ?_
  rw [rn_within]
  unfold g_within
  have h2' : 0 ≤ s2 := by unfold Rg at r2; omega
  by_cases c1 : hasB l2 h2 s2 l = true
  · by_cases c2 : hasB l2 h2 s2 h = true
    · have hs : s ≠ 0 → 0 < s2 := fun hn => by
        have : s2 ≠ 0 := fun z => by
          subst z
          have a1 := has_single r2 c1
          have a2 := has_single r2 c2
          unfold Rg at r
          omega
        omega
      walk_at "pw"
      all_goals first
        | (exact absurd c1 ‹_›)
        | (exact absurd c2 ‹_›)
        | (refine pe0' w rfl ?_; simp [withinB, *]; done)
    · walk_at "pw"
      all_goals first
        | (exact absurd ‹_› c2)
        | (refine pe0' w rfl ?_; simp [withinB, *]; done)
  · walk_at "pw"
    all_goals first
      | (exact absurd ‹_› c1)
      | (refine pe0' w rfl ?_; simp [withinB, *]; done)
theorem join_ok {M : PM} (w : WfM M) {l h s l2 h2 s2 : Int} : Φ_join [.tup [.int l, .int h, .int s], .tup [.int l2, .int h2, .int s2]] M = .ok (.tup [.int (min l l2), .int (max h h2), .int (gcdI (gcdI s s2) (l - l2))]) M := by
  refine run_wp rfl ?_
  rw [rn_join]
  unfold g_join
  walk_at "pw"
  exact pe0' w rfl rfl
end M

set_option Elab.async false
set_option linter.all false
set_option maxRecDepth 100000
set_option maxHeartbeats 4000000
namespace M
open PySem L2 Pd G
local macro_rules | `(tactic| walk_at "px") => `(tactic| simp -implicitDefEqProofs only [wp_ok, wp_C, wp_op, wp_un, wp_asB, wp_test, wp_if, wp_and, wp_or, wp_not, wp_andV, wp_orV, wp_notV, wp_aNil, wp_aCons, wp_tup, wp_lst, wp_new, wp_call, wp_cb, wp_oNone, wp_asI, wp_oSome, wp_sl, wp_next, wp_break, wp_cont, wp_retN, kSeq_nx, kSeq_rt, kSeq_bk, kSeq_ct, wp_seq, wp_asg, wp_drop, wp_ret, wp_sif, wp_fNil, wp_fCons, wp_fTup1, wp_fTup2, wp_fTup3, wp_fTup4, wp_fTup5, wp_fSub, kPar_ok, wp_par, wp_for, wp_each0, kEach_nx, kEach_ct, kEach_bk, kEach_rt, wp_lc, wp_yes, wp_items, wp_itemsL, wp_itemsR, wp_itemsT, wp_pRng1, wp_pRng2, wp_app, wp_ext, wp_ch, wp_mod, wp_fdiv, wif_true, wif_false, wif_not, wlen0, kLp_eq, kWh_eq, kL1_eq, kL2_eq, kCh_eq, kW_eq, kV_eq, wp_ms, isS_str, kOp2_eq, kOp1_eq, kUn_eq, kTest_eq, kIf_eq, kAnd_eq, kOr_eq, kNot_eq, kAndV_eq, kOrV_eq, kNotV_eq, kCons2_eq, kCons1_eq, kTup_eq, kLst_eq, kNew_eq, kCall_eq, kCB_eq, kAsI_eq, kSl3_eq, kSl2_eq, kSl1_eq, kNx_eq, kAsg_eq, kDrop_eq, kRet_eq, kSIf_eq, kFC_eq, kSub3_eq, kSub2_eq, kSub1_eq, kPut4_eq, kPut3_eq, kPut2_eq, kPut1_eq, kFor_eq, kE2_eq, kE1_eq, kLc_eq, kItems_eq, kRng1_eq, kRng2_eq, kApp2_eq, kApp1_eq, kExt2_eq, kExt1_eq, kAug2_eq, kAug1_eq, kCh3_eq, kCh2_eq, kCh1_eq, kMS2_eq, kMS1_eq, wlen1, wlen2, wlen3, wlen4, wlen5, wlen6, wlen7, wlen8, wlen9, wlen10, wlen11, wlen12, wlen13, wlen14, wlen15, wlen16, wp_var0, wp_var1, wp_var2, wp_var3, wp_var4, wp_var5, wp_var6, wp_var7, wp_var8, wp_var9, wp_var10, wp_var11, wp_var12, wp_var13, wp_var14, wp_var15, wp_var16, wp_var17, wp_var18, wp_var19, wp_var20, wp_var21, wp_var22, wp_var23, wp_var24, wp_var25, wp_var26, wp_var27, wp_var28, wp_var29, wp_name0, wp_name1, wp_name2, wp_name3, wp_name4, wp_name5, wp_name6, wp_name7, wp_name8, wp_name9, wp_name10, wp_name11, wp_name12, wp_name13, wp_name14, wp_name15, wp_name16, wp_name17, wp_name18, wp_name19, wp_name20, wp_name21, wp_name22, wp_name23, wp_name24, wp_name25, wp_name26, wp_name27, wp_name28, wp_name29, wp_aug0, wp_aug1, wp_aug2, wp_aug3, wp_aug4, wp_aug5, wp_aug6, wp_aug7, wp_aug8, wp_aug9, wp_aug10, wp_aug11, wp_aug12, wp_aug13, wp_aug14, wp_aug15, wp_aug16, wp_aug17, wp_aug18, wp_aug19, wp_aug20, wp_aug21, wp_aug22, wp_aug23, wp_aug24, wp_aug25, wp_aug26, wp_aug27, wp_aug28, wp_aug29, e_add, e_sub, e_lt, e_le, e_gt, e_ge, e_eqI, e_eqS, e_eqB, e_neI, e_neS, e_neB, e_neg, e_intI, e_intB, e_abs, e_max2, e_min2, e_gcd2, e_gcd3, e_lenT, e_lenL, e_lenR, e_tupL, e_tupT, e_listT, e_listL, e_strS, e_slT, e_slL, e_augAdd, e_eqNN, e_eqSN, e_eqNS, e_is_tup, e_is_lst, e_is_int, e_is_str, e_is_bl, e_is_non, e_is_adr, e_isNot_tup, e_isNot_lst, e_isNot_int, e_isNot_str, e_isNot_bl, e_isNot_non, e_isNot_adr, e_isB, e_isNotB, e_ix_tup0, e_ix_tup1, e_ix_tup2, e_ix_tup3, e_ix_tup4, e_ix_tup5, e_ix_lst0, e_ix_lst1, e_ix_lst2, e_ix_lst3, e_ix_lst4, e_ix_lst5, e_ix_rol0, e_ix_rol1, e_ix_rol2, e_ix_rol3, e_ix_rol4, e_ix_rol5, i_tup_bool, i_tup_int, i_tup_str, i_tup_tuple, i_tup_list, i_lst_bool, i_lst_int, i_lst_str, i_lst_tuple, i_lst_list, i_bl_bool, i_bl_int, i_bl_str, i_bl_tuple, i_bl_list, i_int_bool, i_int_int, i_int_str, i_int_tuple, i_int_list, i_str_bool, i_str_int, i_str_str, i_str_tuple, i_str_list, i_non_bool, i_non_int, i_non_str, i_non_tuple, i_non_list, getJ0, getJ1, getJ2, setJ0, setJ1, setJ2, lenJ0, lenJ1, lenJ2, getM0, getM1, getM2, setM0, setM1, setM2, lenM1, lenM2, List.set_cons_zero, List.set_cons_succ, List.cons_append, List.append_assoc, List.nil_append, wipeR, decide_true, decide_false, ite_true, ite_false, if_true, if_false, Bool.not_true, Bool.not_false, rho0, Int.toNat_natCast, true_and, and_true, Bool.false_eq_true])
local macro_rules | `(tactic| walk_at "mem") => `(tactic| first | with_reducible exact getJ0 | with_reducible exact getJ1 | with_reducible exact getJ2 | with_reducible exact getM0 | with_reducible exact getM1 | with_reducible exact getM2 | with_reducible assumption)
local macro_rules | `(tactic| walk_at "call") => `(tactic| fail)
local macro_rules | `(tactic| walk_at "wf") => `(tactic| first | with_reducible assumption | exact WJ.wf (by with_reducible assumption) (by with_reducible assumption) | exact WfM.snoc0 (by with_reducible assumption) rfl | exact WJ.snoc (by with_reducible assumption) rfl | exact WJ.wf (WJ.snoc (by with_reducible assumption) rfl) (by with_reducible assumption))
local macro_rules | `(tactic| walk_at "num") => `(tactic| first | omega | decide)
local macro_rules | `(tactic| walk_at "wif") => `(tactic| (
  (with_reducible show Wif _ _ _)
  first
  | ((with_reducible refine wif_t ?wc ?_); (case wc => first | with_reducible assumption | decide | exact decide_eq_true (by omega)))
  | ((with_reducible refine wif_f ?wc ?_); (case wc => first | with_reducible assumption | decide | exact decide_eq_false (by omega)))
  | with_reducible refine wif_d (fun _ => ?_) (fun _ => ?_) | with_reducible refine wif_b (fun _ => ?_) (fun _ => ?_)))
local macro_rules | `(tactic| walk_at "st") => `(tactic| first
  | walk_at "px"
  | walk_at "wif"
  | (with_reducible refine And.intro (isA_of (by walk_at "mem")) ?_)
  | (with_reducible refine wp_appL (by walk_at "mem") (by walk_at "num") ?_)
  | ((with_reducible refine wp_mod' ?wl ?_); (case wl => walk_at "num"))
  | ((with_reducible refine wp_fdiv' ?wl ?wm ?_); (case wl => walk_at "num"); (case wm => walk_at "num"))
  | ((with_reducible refine wp_mul ?wl ?_); (case wl => walk_at "num"))
  | ((with_reducible refine wp_rng1 ?wl ?_); (case wl => walk_at "num"))
  | ((with_reducible refine wp_rng2 ?wl ?wm ?_); (case wl => walk_at "num"); (case wm => walk_at "num"))
  | walk_at "call"
  | fail "no step")
local macro_rules | `(tactic| walk_at "de") => `(tactic| first
  | refine de0 (by walk_at "wf") (by with_reducible assumption) (by first | with_reducible assumption | rfl) ?_
  | refine dea0 (by walk_at "wf") (by with_reducible assumption) (by first | with_reducible assumption | rfl) ?_
  | refine de1 (by walk_at "wf") (by with_reducible assumption) (by first | with_reducible assumption | rfl) ?_)
local macro_rules | `(tactic| walk_at "pe") => `(tactic| first
  | refine pe0' (by walk_at "wf") (by first | with_reducible assumption | rfl) ?_
  | refine pea0' (by walk_at "wf") (by first | with_reducible assumption | rfl) ?_
  | refine pe1' (by walk_at "wf") (by first | with_reducible assumption | rfl) ?_)
local macro_rules | `(tactic| walk_at "pw") => `(tactic| repeat' walk_at "st")

/-! ### what is drawn -/
theorem wp_nx {ns : List Int} {many : Int} {Q : D → PM → Prop} {N : KX} {J : PM} {m : MO} (hm : 0 < many ∧ many < 1073741824) (hJ : WJ J) (hs : Rst m) (k : ∀ (r : Int) (m' : MO), Rst m' → 0 ≤ r → r < many → Q (.int r) (m' :: J)) : Wp (Φ__law_next [.adr 0, .rol (ns.map .int), .int many] (m :: J)) Q N :=
  wp_dr (dr_next rfl ns many hm) hJ hs fun d m' h1 _ ⟨r, e, h2, h3⟩ => by rw [e]; exact k r m' h1 h2 h3
local macro_rules | `(tactic| walk_at "call") => `(tactic| ((with_reducible refine wp_nx ?wn ?wj ?ws ?_); (case wn => omega); (case wj => walk_at "wf"); (case ws => with_reducible assumption); intro _ _ _ _ _))
def PRange (wide : Bool) (d : D) : Prop := ∃ l h s : Int, d = .tup [.int l, .int h, .int s] ∧ Rg l h s ∧ -10000 ≤ l ∧ l ≤ 10000 ∧ h ≤ 10000 ∧ s ≤ 400 ∧ (wide = false → -12 ≤ l ∧ h ≤ 75)
theorem rg_made {l st c k : Int} (h1 : 0 < st) (hc : c = min ((10000 - l) / st) k) (h2 : ¬ c < 1) : Rg l (l + st * c) st ∧ l + st * c ≤ 10000 := by
  have h3 : st * c ≤ 10000 - l := by
    have : c ≤ (10000 - l) / st := by omega
    have := Int.mul_le_mul_of_nonneg_left this (Int.le_of_lt h1)
    have h4 := Int.mul_ediv_self_le (x := 10000 - l) (k := st) (by omega)
    omega
  have h5 : 0 < st * c := Int.mul_pos h1 (by omega)
  refine ⟨.inr ⟨h1, by omega, ?_⟩, by omega⟩
  rw [show l + st * c - l = st * c by omega]
  exact Int.mul_emod_right _ _
theorem rg_step {l h s : Int} (r : Rg l h s) : 0 ≤ s ∧ l ≤ h ∧ l + s ≤ h ∧ s ∣ h - l := by
  rcases r with ⟨rfl, rfl⟩ | ⟨h1, h2, h3⟩
  · exact ⟨by omega, by omega, by omega, by simp⟩
  · have h4 := Int.dvd_of_emod_eq_zero h3
    have := Int.le_of_dvd (by omega) h4
    exact ⟨by omega, by omega, by omega, h4⟩
theorem dr_range (ns : List Int) (wide : Bool) : Dr Φ__law_range [.adr 0, .rol (ns.map .int), .bl wide] (PRange wide) := by
  refine dr_run rfl fun J m hJ hs => ?_
  rw [rn__law_range]
  unfold g__law_range
  have one : ∀ (wide : Bool) (l : Int), -10000 ≤ l → l ≤ 10000 → (wide = false → -12 ≤ l ∧ l ≤ 75) → PRange wide (.tup [.int l, .int l, .int 0]) := fun wide l h1 h2 h3 => ⟨l, l, 0, rfl, .inl ⟨rfl, rfl⟩, h1, h2, h2, by omega, h3⟩
  have many : ∀ (wide : Bool) (l st k : Int), -10000 ≤ l → l ≤ 10000 → 0 < st → st ≤ 400 → (wide = false → -12 ≤ l ∧ l ≤ 12 ∧ st ≤ 7 ∧ k ≤ 9) → ¬ min ((10000 - l) / st) k < 1 → PRange wide (.tup [.int l, .int (l + st * min ((10000 - l) / st) k), .int st]) := fun wide l st k h1 h1' h2 h3 h4 h5 => by
    obtain ⟨r1, r2⟩ := rg_made h2 rfl h5
    refine ⟨_, _, _, rfl, r1, h1, h1', r2, h3, fun hw => ?_⟩
    obtain ⟨a1, a2, a3, a4⟩ := h4 hw
    refine ⟨a1, ?_⟩
    have : st * min ((10000 - l) / st) k ≤ 7 * 9 := Int.mul_le_mul a3 (by omega) (by omega) (by omega)
    omega
  cases wide <;> walk_at "pw" <;> walk_at "de" <;> first
    | exact one _ _ (by omega) (by omega) (by omega)
    | exact many _ _ _ _ (by omega) (by omega) (by omega) (by omega) (by omega) (by omega)
    | exact many _ _ _ _ (by omega) (by omega) (by omega) (by omega) (fun h => by cases h) (by omega)
    | exact one _ _ (by omega) (by omega) (fun h => by cases h)
theorem wp_rg {ns : List Int} {wide : Bool} {Q : D → PM → Prop} {N : KX} {J : PM} {m : MO} (hJ : WJ J) (hs : Rst m) (k : ∀ (l h s : Int) (m' : MO), Rst m' → Rg l h s → 0 ≤ s ∧ l ≤ h ∧ l + s ≤ h → -10000 ≤ l → l ≤ 10000 → h ≤ 10000 → s ≤ 400 → (wide = false → -12 ≤ l ∧ h ≤ 75) → Q (.tup [.int l, .int h, .int s]) (m' :: J)) : Wp (Φ__law_range [.adr 0, .rol (ns.map .int), .bl wide] (m :: J)) Q N :=
  wp_dr (dr_range ns wide) hJ hs fun d m' h1 _ ⟨l, h, s, e, a1, a2, a3, a4, a5, a6⟩ => by rw [e]; exact k l h s m' h1 a1 ⟨(rg_step a1).1, (rg_step a1).2.1, (rg_step a1).2.2.1⟩ a2 a3 a4 a5 a6
local macro_rules | `(tactic| walk_at "call") => `(tactic| ((with_reducible refine wp_rg ?wj ?ws ?_); (case wj => walk_at "wf"); (case ws => with_reducible assumption); intro _ _ _ _ _ _ _ _ _ _ _ _))
end M

set_option Elab.async false
set_option linter.all false
set_option maxRecDepth 100000
set_option maxHeartbeats 4000000
namespace M
open PySem L2 Pd G
local macro_rules | `(tactic| walk_at "px") => `(tactic| simp -implicitDefEqProofs only [wp_ok, wp_C, wp_op, wp_un, wp_asB, wp_test, wp_if, wp_and, wp_or, wp_not, wp_andV, wp_orV, wp_notV, wp_aNil, wp_aCons, wp_tup, wp_lst, wp_new, wp_call, wp_cb, wp_oNone, wp_asI, wp_oSome, wp_sl, wp_next, wp_break, wp_cont, wp_retN, kSeq_nx, kSeq_rt, kSeq_bk, kSeq_ct, wp_seq, wp_asg, wp_drop, wp_ret, wp_sif, wp_fNil, wp_fCons, wp_fTup1, wp_fTup2, wp_fTup3, wp_fTup4, wp_fTup5, wp_fSub, kPar_ok, wp_par, wp_for, wp_each0, kEach_nx, kEach_ct, kEach_bk, kEach_rt, wp_lc, wp_yes, wp_items, wp_itemsL, wp_itemsR, wp_itemsT, wp_pRng1, wp_pRng2, wp_app, wp_ext, wp_ch, wp_mod, wp_fdiv, wif_true, wif_false, wif_not, wlen0, kLp_eq, kWh_eq, kL1_eq, kL2_eq, kCh_eq, kW_eq, kV_eq, wp_ms, isS_str, kOp2_eq, kOp1_eq, kUn_eq, kTest_eq, kIf_eq, kAnd_eq, kOr_eq, kNot_eq, kAndV_eq, kOrV_eq, kNotV_eq, kCons2_eq, kCons1_eq, kTup_eq, kLst_eq, kNew_eq, kCall_eq, kCB_eq, kAsI_eq, kSl3_eq, kSl2_eq, kSl1_eq, kNx_eq, kAsg_eq, kDrop_eq, kRet_eq, kSIf_eq, kFC_eq, kSub3_eq, kSub2_eq, kSub1_eq, kPut4_eq, kPut3_eq, kPut2_eq, kPut1_eq, kFor_eq, kE2_eq, kE1_eq, kLc_eq, kItems_eq, kRng1_eq, kRng2_eq, kApp2_eq, kApp1_eq, kExt2_eq, kExt1_eq, kAug2_eq, kAug1_eq, kCh3_eq, kCh2_eq, kCh1_eq, kMS2_eq, kMS1_eq, wlen1, wlen2, wlen3, wlen4, wlen5, wlen6, wlen7, wlen8, wlen9, wlen10, wlen11, wlen12, wlen13, wlen14, wlen15, wlen16, wp_var0, wp_var1, wp_var2, wp_var3, wp_var4, wp_var5, wp_var6, wp_var7, wp_var8, wp_var9, wp_var10, wp_var11, wp_var12, wp_var13, wp_var14, wp_var15, wp_var16, wp_var17, wp_var18, wp_var19, wp_var20, wp_var21, wp_var22, wp_var23, wp_var24, wp_var25, wp_var26, wp_var27, wp_var28, wp_var29, wp_name0, wp_name1, wp_name2, wp_name3, wp_name4, wp_name5, wp_name6, wp_name7, wp_name8, wp_name9, wp_name10, wp_name11, wp_name12, wp_name13, wp_name14, wp_name15, wp_name16, wp_name17, wp_name18, wp_name19, wp_name20, wp_name21, wp_name22, wp_name23, wp_name24, wp_name25, wp_name26, wp_name27, wp_name28, wp_name29, wp_aug0, wp_aug1, wp_aug2, wp_aug3, wp_aug4, wp_aug5, wp_aug6, wp_aug7, wp_aug8, wp_aug9, wp_aug10, wp_aug11, wp_aug12, wp_aug13, wp_aug14, wp_aug15, wp_aug16, wp_aug17, wp_aug18, wp_aug19, wp_aug20, wp_aug21, wp_aug22, wp_aug23, wp_aug24, wp_aug25, wp_aug26, wp_aug27, wp_aug28, wp_aug29, e_add, e_sub, e_lt, e_le, e_gt, e_ge, e_eqI, e_eqS, e_eqB, e_neI, e_neS, e_neB, e_neg, e_intI, e_intB, e_abs, e_max2, e_min2, e_gcd2, e_gcd3, e_lenT, e_lenL, e_lenR, e_tupL, e_tupT, e_listT, e_listL, e_strS, e_slT, e_slL, e_augAdd, e_eqNN, e_eqSN, e_eqNS, e_is_tup, e_is_lst, e_is_int, e_is_str, e_is_bl, e_is_non, e_is_adr, e_isNot_tup, e_isNot_lst, e_isNot_int, e_isNot_str, e_isNot_bl, e_isNot_non, e_isNot_adr, e_isB, e_isNotB, e_ix_tup0, e_ix_tup1, e_ix_tup2, e_ix_tup3, e_ix_tup4, e_ix_tup5, e_ix_lst0, e_ix_lst1, e_ix_lst2, e_ix_lst3, e_ix_lst4, e_ix_lst5, e_ix_rol0, e_ix_rol1, e_ix_rol2, e_ix_rol3, e_ix_rol4, e_ix_rol5, i_tup_bool, i_tup_int, i_tup_str, i_tup_tuple, i_tup_list, i_lst_bool, i_lst_int, i_lst_str, i_lst_tuple, i_lst_list, i_bl_bool, i_bl_int, i_bl_str, i_bl_tuple, i_bl_list, i_int_bool, i_int_int, i_int_str, i_int_tuple, i_int_list, i_str_bool, i_str_int, i_str_str, i_str_tuple, i_str_list, i_non_bool, i_non_int, i_non_str, i_non_tuple, i_non_list, getJ0, getJ1, getJ2, setJ0, setJ1, setJ2, lenJ0, lenJ1, lenJ2, getM0, getM1, getM2, setM0, setM1, setM2, lenM1, lenM2, List.set_cons_zero, List.set_cons_succ, List.cons_append, List.append_assoc, List.nil_append, wipeR, decide_true, decide_false, ite_true, ite_false, if_true, if_false, Bool.not_true, Bool.not_false, rho0, Int.toNat_natCast, true_and, and_true, Bool.false_eq_true])
local macro_rules | `(tactic| walk_at "mem") => `(tactic| first | with_reducible exact getJ0 | with_reducible exact getJ1 | with_reducible exact getJ2 | with_reducible exact getM0 | with_reducible exact getM1 | with_reducible exact getM2 | with_reducible assumption)
local macro_rules | `(tactic| walk_at "call") => `(tactic| fail)
local macro_rules | `(tactic| walk_at "wf") => `(tactic| first | with_reducible assumption | exact WJ.wf (by with_reducible assumption) (by with_reducible assumption) | exact WfM.snoc0 (by with_reducible assumption) rfl | exact WJ.snoc (by with_reducible assumption) rfl | exact WJ.wf (WJ.snoc (by with_reducible assumption) rfl) (by with_reducible assumption))
local macro_rules | `(tactic| walk_at "num") => `(tactic| first | omega | decide)
local macro_rules | `(tactic| walk_at "wif") => `(tactic| (
  (with_reducible show Wif _ _ _)
  first
  | ((with_reducible refine wif_t ?wc ?_); (case wc => first | with_reducible assumption | decide | exact decide_eq_true (by omega)))
  | ((with_reducible refine wif_f ?wc ?_); (case wc => first | with_reducible assumption | decide | exact decide_eq_false (by omega)))
  | with_reducible refine wif_d (fun _ => ?_) (fun _ => ?_) | with_reducible refine wif_b (fun _ => ?_) (fun _ => ?_)))
local macro_rules | `(tactic| walk_at "st") => `(tactic| first
  | walk_at "px"
  | walk_at "wif"
  | (with_reducible refine And.intro (isA_of (by walk_at "mem")) ?_)
  | (with_reducible refine wp_appL (by walk_at "mem") (by walk_at "num") ?_)
  | ((with_reducible refine wp_mod' ?wl ?_); (case wl => walk_at "num"))
  | ((with_reducible refine wp_fdiv' ?wl ?wm ?_); (case wl => walk_at "num"); (case wm => walk_at "num"))
  | ((with_reducible refine wp_mul ?wl ?_); (case wl => walk_at "num"))
  | ((with_reducible refine wp_rng1 ?wl ?_); (case wl => walk_at "num"))
  | ((with_reducible refine wp_rng2 ?wl ?wm ?_); (case wl => walk_at "num"); (case wm => walk_at "num"))
  | walk_at "call"
  | fail "no step")
local macro_rules | `(tactic| walk_at "de") => `(tactic| first
  | refine de0 (by walk_at "wf") (by with_reducible assumption) (by first | with_reducible assumption | rfl) ?_
  | refine dea0 (by walk_at "wf") (by with_reducible assumption) (by first | with_reducible assumption | rfl) ?_
  | refine de1 (by walk_at "wf") (by with_reducible assumption) (by first | with_reducible assumption | rfl) ?_)
local macro_rules | `(tactic| walk_at "pe") => `(tactic| first
  | refine pe0' (by walk_at "wf") (by first | with_reducible assumption | rfl) ?_
  | refine pea0' (by walk_at "wf") (by first | with_reducible assumption | rfl) ?_
  | refine pe1' (by walk_at "wf") (by first | with_reducible assumption | rfl) ?_)
local macro_rules | `(tactic| walk_at "pw") => `(tactic| repeat' walk_at "st")

local macro_rules | `(tactic| walk_at "call") => `(tactic| ((with_reducible refine wp_nx ?wn ?wj ?ws ?_); (case wn => omega); (case wj => walk_at "wf"); (case ws => with_reducible assumption); intro _ _ _ _ _))
/-! ### the greatest divisor; the hull of numbers -/
theorem gcdI_def (a b : Int) : gcdI a b = ((Int.gcd a b : Nat) : Int) := rfl
theorem gcdI_comm (a b : Int) : gcdI a b = gcdI b a := by rw [gcdI_def, gcdI_def, Int.gcd_comm]
theorem gcdI_zero (a : Int) : gcdI a 0 = (a.natAbs : Int) := by rw [gcdI_def, Int.gcd_zero_right]
theorem gcdI_nonneg (a b : Int) : 0 ≤ gcdI a b := by rw [gcdI_def]; omega
theorem gcdI_fmod (a b : Int) : gcdI b (a.fmod b) = gcdI a b := by
  rw [gcdI_def, gcdI_def, Int.fmod_def, Int.gcd_sub_mul_left_right, Int.gcd_comm]
theorem dvd_gcdI {k a b : Int} (h1 : k ∣ a) (h2 : k ∣ b) : k ∣ gcdI a b := by rw [gcdI_def]; exact Int.dvd_coe_gcd h1 h2
theorem gcdI_left (a b : Int) : gcdI a b ∣ a := by rw [gcdI_def]; exact Int.gcd_dvd_left ..
theorem gcdI_right (a b : Int) : gcdI a b ∣ b := by rw [gcdI_def]; exact Int.gcd_dvd_right ..
theorem fmod_small (a : Int) {b : Int} (h : b ≠ 0) : (a.fmod b).natAbs < b.natAbs := by
  by_cases hb : 0 < b
  · have := Int.fmod_lt_of_pos a hb
    have := Int.fmod_nonneg_of_pos a hb
    omega
  · have h1 : 0 < -b := by omega
    have h2 := Int.fmod_lt_of_pos (-a) h1
    have h3 := Int.fmod_nonneg_of_pos (-a) h1
    rw [Int.neg_fmod_neg] at h2 h3
    omega
theorem e_modF {M : PM} {i j : Int} (h : j ≠ 0) : gMod M (.int i) (.int j) = .ok (.int (i.fmod j)) M := by
  by_cases hj : 0 < j
  · rw [e_mod hj, Int.fmod_eq_emod_of_nonneg _ (by omega)]
  · unfold gMod
    rw [gor_bad]
    · exact gII_ok (by unfold cNe; simp [h])
    · show (if cPos i j = true then _ else _) = _
      rw [if_neg]
      unfold cPos
      simp; omega
theorem divisor_ok {M : PM} (w : WfM M) {a b : Int} (hb : b.natAbs < 999999999) : Φ__law_divisor [.int a, .int b] M = .ok (.int (gcdI a b)) M := by
  refine run_wp rfl ?_
  rw [rn__law_divisor]
  unfold g__law_divisor
  walk_at "pw"
  refine wp_while (fun k ρ M' => M' = M ∧ ∃ x y : Int, ρ = [some (.int x), some (.int y)] ∧ k = y.natAbs ∧ gcdI x y = gcdI a b) b.natAbs (by omega) ⟨rfl, a, b, rfl, rfl, rfl⟩ ?_
  rintro k ρ M' ⟨rfl, x, y, rfl, rfl, e⟩
  unfold lc__law_divisor_1 lb__law_divisor_1
  by_cases hy : y = 0
  · subst hy
    walk_at "pw"
    walk_at "pe"
    rw [← e, gcdI_zero]
    congr 1
    split <;> omega
  · walk_at "pw"
    refine wp_of (e_modF hy) ?_
    walk_at "pw"
    exact ⟨_, fmod_small x hy, y, x.fmod y, rfl, rfl, by rw [gcdI_fmod, e]⟩
theorem e_minL {M : PM} {ns : List Int} (h : ns ≠ []) : bMinL M [.lst (ns.map .int)] = .ok (.int (minI ns)) M := by
  have : (!ns.isEmpty) = true := by cases ns <;> simp at h ⊢
  simp [bMinL, bInts, Pd.listOf, intL_map, h]
theorem e_maxL {M : PM} {ns : List Int} (h : ns ≠ []) : bMaxL M [.lst (ns.map .int)] = .ok (.int (maxI ns)) M := by
  have : (!ns.isEmpty) = true := by cases ns <;> simp at h ⊢
  simp [bMaxL, bInts, Pd.listOf, intL_map, h]
def hullG (low : Int) (ns : List Int) : Int := ns.foldl (fun st n => gcdI (n - low) st) 0
theorem hull_ok {M : PM} (w : WfM M) {ns : List Int} (hn : ns ≠ []) (hs : ∀ n ∈ ns, (n - minI ns).natAbs < 999999999) : Φ__law_hull [.lst (ns.map .int)] M = .ok (.tup [.int (minI ns), .int (maxI ns), .int (hullG (minI ns) ns)]) M := by
  refine run_wp rfl ?_
  rw [rn__law_hull]
  unfold g__law_hull
  walk_at "pw"
  refine wp_of (e_minL hn) ?_
  walk_at "pw"
  refine wp_of (e_maxL hn) ?_
  walk_at "pw"
  refine wp_each D.int (fun pre _ ρ M' => M' = M ∧ ∃ o, ρ = [some (.lst (ns.map .int)), some (.int (minI ns)), some (.int (maxI ns)), some (.int (hullG (minI ns) pre)), o] ∧ (hullG (minI ns) pre).natAbs < 999999999) ⟨rfl, _, rfl, by simp [hullG]⟩ ?_ ?_
  · rintro pre a post ρ M' hx ⟨rfl, o, rfl, hb⟩
    unfold lb__law_hull_1
    walk_at "pw"
    refine wp_of (divisor_ok w hb) ?_
    walk_at "pw"
    have e : hullG (minI ns) (pre ++ [a]) = gcdI (a - minI ns) (hullG (minI ns) pre) := by simp [hullG]
    refine ⟨_, by rw [e], ?_⟩
    rw [e]
    have ha := hs a (by rw [hx]; simp)
    by_cases h0 : a - minI ns = 0
    · rw [h0, gcdI_comm, gcdI_zero]
      omega
    · have h1 := gcdI_left (a - minI ns) (hullG (minI ns) pre)
      have h2 := gcdI_nonneg (a - minI ns) (hullG (minI ns) pre)
      have h3 := Int.natAbs_dvd_natAbs.mpr h1
      have h4 := Nat.le_of_dvd (by omega) h3
      omega
  · rintro ρ M' ⟨rfl, o, rfl, hb⟩
    walk_at "pw"
    walk_at "pe"
    rfl
theorem hullG_dvd {low k : Int} : ∀ (ns : List Int), (∀ n ∈ ns, k ∣ n - low) → k ∣ hullG low ns := fun ns h => by
  unfold hullG
  suffices H : ∀ (ns : List Int) (st : Int), k ∣ st → (∀ n ∈ ns, k ∣ n - low) → k ∣ ns.foldl (fun st n => gcdI (n - low) st) st from H ns 0 (Int.dvd_zero _) h
  intro ns
  induction ns with
  | nil => intro st h0 _; exact h0
  | cons a ns ih => intro st h0 h1; exact ih _ (dvd_gcdI (h1 a (List.mem_cons_self ..)) h0) fun n hn => h1 n (List.mem_cons_of_mem _ hn)
theorem hullG_mem {low : Int} (ns : List Int) : ∀ n ∈ ns, hullG low ns ∣ n - low := by
  unfold hullG
  suffices H : ∀ (ns : List Int) (st : Int), (ns.foldl (fun st n => gcdI (n - low) st) st ∣ st) ∧ ∀ n ∈ ns, ns.foldl (fun st n => gcdI (n - low) st) st ∣ n - low from (H ns 0).2
  intro ns
  induction ns with
  | nil => intro st; exact ⟨Int.dvd_refl _, fun n h => by cases h⟩
  | cons a ns ih =>
    intro st
    obtain ⟨h1, h2⟩ := ih (gcdI (a - low) st)
    refine ⟨Int.dvd_trans h1 (gcdI_right _ _), fun n hn => ?_⟩
    rcases List.mem_cons.mp hn with rfl | hn
    · exact Int.dvd_trans h1 (gcdI_left _ _)
    · exact h2 n hn
theorem hullG_nonneg {low : Int} (ns : List Int) : 0 ≤ hullG low ns := by
  unfold hullG
  suffices H : ∀ (ns : List Int) (st : Int), 0 ≤ st → 0 ≤ ns.foldl (fun st n => gcdI (n - low) st) st from H ns 0 (Int.le_refl _)
  intro ns
  induction ns with
  | nil => intro st h; exact h
  | cons a ns ih => intro st h; exact ih _ (gcdI_nonneg _ _)
/-- the one number that all those divide that divide each -/
theorem hullG_eq {low g : Int} {ns : List Int} (h0 : 0 ≤ g) (h1 : ∀ n ∈ ns, g ∣ n - low) (h2 : ∀ k : Int, (∀ n ∈ ns, k ∣ n - low) → k ∣ g) : hullG low ns = g :=
  Int.dvd_antisymm (hullG_nonneg _) h0 (h2 _ (hullG_mem ns)) (hullG_dvd ns h1)
end M

set_option Elab.async false
set_option linter.all false
set_option maxRecDepth 100000
set_option maxHeartbeats 4000000
namespace M
open PySem L2 Pd G
local macro_rules | `(tactic| walk_at "px") => `(tactic| simp -implicitDefEqProofs only [wp_ok, wp_C, wp_op, wp_un, wp_asB, wp_test, wp_if, wp_and, wp_or, wp_not, wp_andV, wp_orV, wp_notV, wp_aNil, wp_aCons, wp_tup, wp_lst, wp_new, wp_call, wp_cb, wp_oNone, wp_asI, wp_oSome, wp_sl, wp_next, wp_break, wp_cont, wp_retN, kSeq_nx, kSeq_rt, kSeq_bk, kSeq_ct, wp_seq, wp_asg, wp_drop, wp_ret, wp_sif, wp_fNil, wp_fCons, wp_fTup1, wp_fTup2, wp_fTup3, wp_fTup4, wp_fTup5, wp_fSub, kPar_ok, wp_par, wp_for, wp_each0, kEach_nx, kEach_ct, kEach_bk, kEach_rt, wp_lc, wp_yes, wp_items, wp_itemsL, wp_itemsR, wp_itemsT, wp_pRng1, wp_pRng2, wp_app, wp_ext, wp_ch, wp_mod, wp_fdiv, wif_true, wif_false, wif_not, wlen0, kLp_eq, kWh_eq, kL1_eq, kL2_eq, kCh_eq, kW_eq, kV_eq, wp_ms, isS_str, kOp2_eq, kOp1_eq, kUn_eq, kTest_eq, kIf_eq, kAnd_eq, kOr_eq, kNot_eq, kAndV_eq, kOrV_eq, kNotV_eq, kCons2_eq, kCons1_eq, kTup_eq, kLst_eq, kNew_eq, kCall_eq, kCB_eq, kAsI_eq, kSl3_eq, kSl2_eq, kSl1_eq, kNx_eq, kAsg_eq, kDrop_eq, kRet_eq, kSIf_eq, kFC_eq, kSub3_eq, kSub2_eq, kSub1_eq, kPut4_eq, kPut3_eq, kPut2_eq, kPut1_eq, kFor_eq, kE2_eq, kE1_eq, kLc_eq, kItems_eq, kRng1_eq, kRng2_eq, kApp2_eq, kApp1_eq, kExt2_eq, kExt1_eq, kAug2_eq, kAug1_eq, kCh3_eq, kCh2_eq, kCh1_eq, kMS2_eq, kMS1_eq, wlen1, wlen2, wlen3, wlen4, wlen5, wlen6, wlen7, wlen8, wlen9, wlen10, wlen11, wlen12, wlen13, wlen14, wlen15, wlen16, wp_var0, wp_var1, wp_var2, wp_var3, wp_var4, wp_var5, wp_var6, wp_var7, wp_var8, wp_var9, wp_var10, wp_var11, wp_var12, wp_var13, wp_var14, wp_var15, wp_var16, wp_var17, wp_var18, wp_var19, wp_var20, wp_var21, wp_var22, wp_var23, wp_var24, wp_var25, wp_var26, wp_var27, wp_var28, wp_var29, wp_name0, wp_name1, wp_name2, wp_name3, wp_name4, wp_name5, wp_name6, wp_name7, wp_name8, wp_name9, wp_name10, wp_name11, wp_name12, wp_name13, wp_name14, wp_name15, wp_name16, wp_name17, wp_name18, wp_name19, wp_name20, wp_name21, wp_name22, wp_name23, wp_name24, wp_name25, wp_name26, wp_name27, wp_name28, wp_name29, wp_aug0, wp_aug1, wp_aug2, wp_aug3, wp_aug4, wp_aug5, wp_aug6, wp_aug7, wp_aug8, wp_aug9, wp_aug10, wp_aug11, wp_aug12, wp_aug13, wp_aug14, wp_aug15, wp_aug16, wp_aug17, wp_aug18, wp_aug19, wp_aug20, wp_aug21, wp_aug22, wp_aug23, wp_aug24, wp_aug25, wp_aug26, wp_aug27, wp_aug28, wp_aug29, e_add, e_sub, e_lt, e_le, e_gt, e_ge, e_eqI, e_eqS, e_eqB, e_neI, e_neS, e_neB, e_neg, e_intI, e_intB, e_abs, e_max2, e_min2, e_gcd2, e_gcd3, e_lenT, e_lenL, e_lenR, e_tupL, e_tupT, e_listT, e_listL, e_strS, e_slT, e_slL, e_augAdd, e_eqNN, e_eqSN, e_eqNS, e_is_tup, e_is_lst, e_is_int, e_is_str, e_is_bl, e_is_non, e_is_adr, e_isNot_tup, e_isNot_lst, e_isNot_int, e_isNot_str, e_isNot_bl, e_isNot_non, e_isNot_adr, e_isB, e_isNotB, e_ix_tup0, e_ix_tup1, e_ix_tup2, e_ix_tup3, e_ix_tup4, e_ix_tup5, e_ix_lst0, e_ix_lst1, e_ix_lst2, e_ix_lst3, e_ix_lst4, e_ix_lst5, e_ix_rol0, e_ix_rol1, e_ix_rol2, e_ix_rol3, e_ix_rol4, e_ix_rol5, i_tup_bool, i_tup_int, i_tup_str, i_tup_tuple, i_tup_list, i_lst_bool, i_lst_int, i_lst_str, i_lst_tuple, i_lst_list, i_bl_bool, i_bl_int, i_bl_str, i_bl_tuple, i_bl_list, i_int_bool, i_int_int, i_int_str, i_int_tuple, i_int_list, i_str_bool, i_str_int, i_str_str, i_str_tuple, i_str_list, i_non_bool, i_non_int, i_non_str, i_non_tuple, i_non_list, getJ0, getJ1, getJ2, setJ0, setJ1, setJ2, lenJ0, lenJ1, lenJ2, getM0, getM1, getM2, setM0, setM1, setM2, lenM1, lenM2, List.set_cons_zero, List.set_cons_succ, List.cons_append, List.append_assoc, List.nil_append, wipeR, decide_true, decide_false, ite_true, ite_false, if_true, if_false, Bool.not_true, Bool.not_false, rho0, Int.toNat_natCast, true_and, and_true, Bool.false_eq_true])
local macro_rules | `(tactic| walk_at "mem") => `(tactic| first | with_reducible exact getJ0 | with_reducible exact getJ1 | with_reducible exact getJ2 | with_reducible exact getM0 | with_reducible exact getM1 | with_reducible exact getM2 | with_reducible assumption)
local macro_rules | `(tactic| walk_at "call") => `(tactic| fail)
local macro_rules | `(tactic| walk_at "wf") => `(tactic| first | with_reducible assumption | exact WJ.wf (by with_reducible assumption) (by with_reducible assumption) | exact WfM.snoc0 (by with_reducible assumption) rfl | exact WJ.snoc (by with_reducible assumption) rfl | exact WJ.wf (WJ.snoc (by with_reducible assumption) rfl) (by with_reducible assumption))
local macro_rules | `(tactic| walk_at "num") => `(tactic| first | omega | decide)
local macro_rules | `(tactic| walk_at "wif") => `(tactic| (
  (with_reducible show Wif _ _ _)
  first
  | ((with_reducible refine wif_t ?wc ?_); (case wc => first | with_reducible assumption | decide | exact decide_eq_true (by omega)))
  | ((with_reducible refine wif_f ?wc ?_); (case wc => first | with_reducible assumption | decide | exact decide_eq_false (by omega)))
  | with_reducible refine wif_d (fun _ => ?_) (fun _ => ?_) | with_reducible refine wif_b (fun _ => ?_) (fun _ => ?_)))
local macro_rules | `(tactic| walk_at "st") => `(tactic| first
  | walk_at "px"
  | walk_at "wif"
  | (with_reducible refine And.intro (isA_of (by walk_at "mem")) ?_)
  | (with_reducible refine wp_appL (by walk_at "mem") (by walk_at "num") ?_)
  | ((with_reducible refine wp_mod' ?wl ?_); (case wl => walk_at "num"))
  | ((with_reducible refine wp_fdiv' ?wl ?wm ?_); (case wl => walk_at "num"); (case wm => walk_at "num"))
  | ((with_reducible refine wp_mul ?wl ?_); (case wl => walk_at "num"))
  | ((with_reducible refine wp_rng1 ?wl ?_); (case wl => walk_at "num"))
  | ((with_reducible refine wp_rng2 ?wl ?wm ?_); (case wl => walk_at "num"); (case wm => walk_at "num"))
  | walk_at "call"
  | fail "no step")
local macro_rules | `(tactic| walk_at "de") => `(tactic| first
  | refine de0 (by walk_at "wf") (by with_reducible assumption) (by first | with_reducible assumption | rfl) ?_
  | refine dea0 (by walk_at "wf") (by with_reducible assumption) (by first | with_reducible assumption | rfl) ?_
  | refine de1 (by walk_at "wf") (by with_reducible assumption) (by first | with_reducible assumption | rfl) ?_)
local macro_rules | `(tactic| walk_at "pe") => `(tactic| first
  | refine pe0' (by walk_at "wf") (by first | with_reducible assumption | rfl) ?_
  | refine pea0' (by walk_at "wf") (by first | with_reducible assumption | rfl) ?_
  | refine pe1' (by walk_at "wf") (by first | with_reducible assumption | rfl) ?_)
local macro_rules | `(tactic| walk_at "pw") => `(tactic| repeat' walk_at "st")

local macro_rules | `(tactic| walk_at "call") => `(tactic| ((with_reducible refine wp_nx ?wn ?wj ?ws ?_); (case wn => omega); (case wj => walk_at "wf"); (case ws => with_reducible assumption); intro _ _ _ _ _))
/-! ### marks -/
def Asc (ms : List Int) : Prop := ms.Pairwise (· < ·)
structure Marks (ms : List Int) : Prop where
  asc : Asc ms
  lo : (-10000 : Int) ∈ ms
  hi : (10000 : Int) ∈ ms
  bd : ∀ n ∈ ms, -10000 ≤ n ∧ n ≤ 10000
theorem clL_ints (n : Nat) : ∀ ms : List Int, clL n (ms.map .int) = true
  | [] => rfl
  | m :: ms => by simp [clL, clD, clL_ints n ms]
theorem clD_ints (n : Nat) (ms : List Int) : clD n (.tup (ms.map .int)) = true := by simp [clD, clL_ints]
theorem clMO_ints (n : Nat) (ms : List Int) : clMO n (.lst (ms.map .int)) = true := by simp [clMO, clL_ints]
theorem flat_ints : ∀ ms : List Int, (ms.map D.int).all flatD = true
  | [] => rfl
  | m :: ms => by simp [flatD, flat_ints ms]
theorem inF_ints (a : Int) : ∀ ms : List Int, inF (.int a) (ms.map .int) = decide (a ∈ ms)
  | [] => rfl
  | m :: ms => by
    have ih := inF_ints a ms
    unfold inF at ih ⊢
    rw [List.map_cons, List.any_cons, ih]
    by_cases h : a = m
    · subst h; simp [eqF]
    · have : (m == a) = false := by simp; exact fun e => h e.symm
      simp [eqF, this, h]
/-- each once, in order -/
def uniqI (ms : List Int) : List Int := ms.foldl (fun acc m => if m ∈ acc then acc else acc ++ [m]) []
theorem uniqI_snoc (ms : List Int) (a : Int) : uniqI (ms ++ [a]) = if a ∈ uniqI ms then uniqI ms else uniqI ms ++ [a] := by
  unfold uniqI
  rw [List.foldl_append]
  rfl
theorem uniqI_sub : ∀ (ms : List Int), ∀ n, n ∈ uniqI ms → n ∈ ms := fun ms => by
  suffices H : ∀ (k : Nat) (ms : List Int), ms.length = k → ∀ n, n ∈ uniqI ms → n ∈ ms from H _ ms rfl
  intro k
  induction k with
  | zero => intro ms h n hn; rw [List.length_eq_zero_iff.mp h] at hn; simp [uniqI] at hn
  | succ k ih =>
    intro ms h n hn
    have hne : ms ≠ [] := by intro z; rw [z] at h; cases h
    have e := List.dropLast_concat_getLast hne
    rw [← e, uniqI_snoc] at hn
    have hl : ms.dropLast.length = k := by rw [List.length_dropLast]; omega
    rw [← e]
    split at hn
    · exact List.mem_append_left _ (ih _ hl n hn)
    · rcases List.mem_append.mp hn with q | q
      · exact List.mem_append_left _ (ih _ hl n q)
      · exact List.mem_append_right _ q
theorem uniqI_asc : ∀ (ms : List Int), ms.Pairwise (· ≤ ·) → Asc (uniqI ms) ∧ ∀ n ∈ ms, n ∈ uniqI ms := fun ms => by
  suffices H : ∀ (k : Nat) (ms : List Int), ms.length = k → ms.Pairwise (· ≤ ·) → Asc (uniqI ms) ∧ ∀ n ∈ ms, n ∈ uniqI ms from H _ ms rfl
  intro k
  induction k with
  | zero => intro ms h _; rw [List.length_eq_zero_iff.mp h]; exact ⟨List.Pairwise.nil, fun n h => by cases h⟩
  | succ k ih =>
    intro ms h hp
    have hne : ms ≠ [] := by intro z; rw [z] at h; cases h
    have e := List.dropLast_concat_getLast hne
    have hl : ms.dropLast.length = k := by rw [List.length_dropLast]; omega
    rw [← e] at hp
    obtain ⟨p1, p2, p3⟩ := List.pairwise_append.mp hp
    obtain ⟨i1, i2⟩ := ih _ hl p1
    rw [← e, uniqI_snoc]
    split
    · rename_i hm
      refine ⟨i1, fun n hn => ?_⟩
      rcases List.mem_append.mp hn with q | q
      · exact i2 n q
      · rw [List.mem_singleton.mp q]; exact hm
    · rename_i hm
      refine ⟨List.pairwise_append.mpr ⟨i1, List.pairwise_singleton _ _, fun a ha b hb => ?_⟩, fun n hn => ?_⟩
      · have h1 := p3 a (uniqI_sub _ a ha) b hb
        rw [List.mem_singleton.mp hb] at h1 ⊢
        have h2 : a ≠ ms.getLast hne := fun z => hm (z ▸ ha)
        omega
      · rcases List.mem_append.mp hn with q | q
        · exact List.mem_append_left _ (i2 n q)
        · exact List.mem_append_right _ q
theorem sortI_asc (ns : List Int) : (sortI ns).Pairwise (· ≤ ·) := (List.pairwise_mergeSort (le := fun a b : Int => decide (a ≤ b)) (fun a b c h1 h2 => by simp at *; omega) (fun a b => by simp; omega) ns).imp fun h => by simpa using h
theorem sortI_mem (ns : List Int) (n : Int) : n ∈ sortI ns ↔ n ∈ ns := (List.mergeSort_perm _ _).mem_iff
theorem marks_of {rows : List Int} (h1 : (-10000 : Int) ∈ rows) (h2 : (10000 : Int) ∈ rows) (h3 : ∀ n ∈ rows, -10000 ≤ n ∧ n ≤ 10000) : Marks (uniqI (sortI rows)) := by
  obtain ⟨a1, a2⟩ := uniqI_asc _ (sortI_asc rows)
  exact ⟨a1, a2 _ ((sortI_mem rows _).mpr h1), a2 _ ((sortI_mem rows _).mpr h2), fun n hn => h3 n ((sortI_mem rows n).mp (uniqI_sub _ n hn))⟩
theorem e_sortA {M : PM} {k : Nat} {ns : List Int} (h : M[k]? = some (.lst (ns.map .int))) : bSort M [.adr k] = .ok (.lst ((sortI ns).map .int)) M := by
  have e : bSortI M [.adr k] = .ok (.lst ((sortI ns).map .int)) M := by
    unfold bSortI bInts Pd.listOf
    simp only [h, intL_map, if_true]
  unfold bSort
  rw [e]
theorem wp_notInInts {M : PM} {a : Int} {b : D} {ms : List Int} {Q : D → PM → Prop} {N : KX} (h : seqOf M b = some (ms.map .int)) (q : Q (.bl (!decide (a ∈ ms))) M) : Wp (gNotIn M (.int a) b) Q N :=
  wp_of (e_notInL h rfl (flat_ints ms)) (by rw [inF_ints]; exact q)
theorem dr_marks (ns : List Int) {l h s l2 h2 s2 : Int} (b1 : -10000 ≤ l ∧ l ≤ 10000) (b2 : -10000 ≤ h ∧ h ≤ 10000) (b3 : -10000 ≤ l2 ∧ l2 ≤ 10000) (b4 : -10000 ≤ h2 ∧ h2 ≤ 10000) : Dr Φ__law_marks [.adr 0, .rol (ns.map .int), .tup [.int l, .int h, .int s], .tup [.int l2, .int h2, .int s2]] (fun d => ∃ ms : List Int, d = .tup (ms.map .int) ∧ Marks ms ∧ ms.length ≤ 16777216) := by
  refine dr_run rfl fun J m hJ hs => ?_
  rw [rn__law_marks]
  unfold g__law_marks
  walk_at "pw"
  refine wp_each (fun k : Nat => D.int (0 + (k : Int))) (fun pre _ ρ M' => ∃ (m' : MO) (rows : List Int) (o1 o2 o3 o4 o5 : Option D), M' = m' :: (J ++ [.lst (rows.map .int)]) ∧ Rst m' ∧ ρ = [some (.adr 0), some (.rol (ns.map .int)), some (.tup [.int l, .int h, .int s]), some (.tup [.int l2, .int h2, .int s2]), some (.adr (J.length + 1)), o1, o2, o3, o4, o5] ∧ (-10000 : Int) ∈ rows ∧ (10000 : Int) ∈ rows ∧ (∀ n ∈ rows, -10000 ≤ n ∧ n ≤ 10000) ∧ rows.length = pre.length + 2)
    ⟨_, [-10000, 10000], none, none, none, none, none, rfl, by assumption, rfl, by simp, by simp, by simp, rfl⟩ ?_ ?_
  · rintro pre a post ρ M' hx ⟨m', rows, o1, o2, o3, o4, o5, rfl, hs', rfl, r1, r2, r3, r4⟩
    have hlen : pre.length < 16 := by
      have := congrArg List.length hx
      simp at this
      omega
    have hw : WJ (J ++ [.lst (rows.map .int)]) := WJ.snoc hJ (clMO_ints _ _)
    have hd : (rows.map D.int).length < 16777216 := by simp; omega
    have key : ∀ {m2 : MO} {x : Int} {o6 o7 o8 o9 o10 : Option D}, Rst m2 → -10000 ≤ x ∧ x ≤ 10000 → ∃ (m' : MO) (rows' : List Int) (o1 o2 o3 o4 o5 : Option D), (m2 :: (J ++ [MO.lst (rows.map D.int ++ [.int x])])) = m' :: (J ++ [.lst (rows'.map .int)]) ∧ Rst m' ∧ [some (.adr 0), some (.rol (ns.map .int)), some (.tup [.int l, .int h, .int s]), some (.tup [.int l2, .int h2, .int s2]), some (.adr (J.length + 1)), o6, o7, o8, o9, o10] = [some (.adr 0), some (.rol (ns.map .int)), some (.tup [.int l, .int h, .int s]), some (.tup [.int l2, .int h2, .int s2]), some (.adr (J.length + 1)), o1, o2, o3, o4, o5] ∧ (-10000 : Int) ∈ rows' ∧ (10000 : Int) ∈ rows' ∧ (∀ n ∈ rows', -10000 ≤ n ∧ n ≤ 10000) ∧ rows'.length = (pre ++ [a]).length + 2 := fun h1 h2 =>
      ⟨_, rows ++ [_], _, _, _, _, _, by rw [List.map_append]; rfl, h1, rfl, by simp [r1], by simp [r2], fun n hn => by
        rcases List.mem_append.mp hn with q | q
        · exact r3 n q
        · rw [List.mem_singleton.mp q]; exact h2, by simp [r4]⟩
    unfold lb__law_marks_1
    walk_at "pw"
    · refine key ?_ ?_ <;> first | assumption | omega
    · refine key ?_ ?_ <;> first | assumption | omega
    · refine wp_ixD rfl (by omega) (by show _ < (4 : Int); omega) ?_
      intro d hdm
      obtain ⟨x, rfl, hx1⟩ : ∃ x : Int, d = .int x ∧ -10000 ≤ x ∧ x ≤ 10000 := by
        simp only [List.mem_cons, List.not_mem_nil, or_false] at hdm
        rcases hdm with rfl | rfl | rfl | rfl
        · exact ⟨_, rfl, b1⟩
        · exact ⟨_, rfl, b2⟩
        · exact ⟨_, rfl, b3⟩
        · exact ⟨_, rfl, b4⟩
      walk_at "pw"
      refine key ?_ ?_ <;> first | assumption | omega
  · rintro ρ M' ⟨m', rows, o1, o2, o3, o4, o5, rfl, hs', rfl, r1, r2, r3, r4⟩
    have hr4 : rows.length ≤ 20 := by
      have : (List.range (Int.toNat ‹Int›)).length ≤ 18 := by simp; omega
      omega
    have hsl : (sortI rows).length = rows.length := (List.mergeSort_perm _ _).length_eq
    walk_at "pw"
    refine wp_of (e_sortA getJ0) ?_
    walk_at "pw"
    refine wp_each D.int (fun pre _ ρ M' => ∃ (o1 o2 o3 o4 o5 : Option D), M' = m' :: (J ++ [.lst (rows.map .int), .lst ((uniqI pre).map .int)]) ∧ ρ = [some (.adr 0), some (.rol (ns.map .int)), some (.tup [.int l, .int h, .int s]), some (.tup [.int l2, .int h2, .int s2]), some (.adr (J.length + 1)), o1, some (.adr (J.length + 2)), o3, o4, o5] ∧ (uniqI pre).length ≤ pre.length)
      ⟨_, none, _, _, _, rfl, rfl, by simp [uniqI]⟩ ?_ ?_
    · rintro pre a post ρ M' hx ⟨p1, p2, p3, p4, p5, rfl, rfl, hu⟩
      have hl2 : pre.length < 20 := by
        have := congrArg List.length hx
        simp at this
        omega
      have hu2 : ((uniqI pre).map D.int).length < 16777216 := by simp; omega
      unfold lb__law_marks_2
      walk_at "pw"
      refine wp_notInInts (seqOf_at getJ1) ?_
      walk_at "pw"
      · rename_i hm
        refine ⟨_, none, _, _, _, ?_, rfl, ?_⟩
        · rw [uniqI_snoc, if_pos (by simpa using hm)]
        · rw [uniqI_snoc, if_pos (by simpa using hm)]; simp; omega
      · rename_i hm
        refine ⟨_, none, _, _, _, ?_, rfl, ?_⟩
        · rw [uniqI_snoc, if_neg (by simpa using hm), List.map_append]; rfl
        · rw [uniqI_snoc, if_neg (by simpa using hm)]; simp; omega
    · rintro ρ M' ⟨p1, p2, p3, p4, p5, rfl, rfl, hu⟩
      walk_at "pw"
      refine wp_of (e_tupA getJ1) ?_
      walk_at "pw"
      refine de1 hJ hs' (clD_ints _ _) ⟨_, rfl, marks_of r1 r2 r3, by omega⟩
end M

set_option Elab.async false
set_option linter.all false
set_option maxRecDepth 100000
set_option maxHeartbeats 4000000
namespace M
open PySem L2 Pd G
local macro_rules | `(tactic| walk_at "px") => `(tactic| simp -implicitDefEqProofs only [wp_ok, wp_C, wp_op, wp_un, wp_asB, wp_test, wp_if, wp_and, wp_or, wp_not, wp_andV, wp_orV, wp_notV, wp_aNil, wp_aCons, wp_tup, wp_lst, wp_new, wp_call, wp_cb, wp_oNone, wp_asI, wp_oSome, wp_sl, wp_next, wp_break, wp_cont, wp_retN, kSeq_nx, kSeq_rt, kSeq_bk, kSeq_ct, wp_seq, wp_asg, wp_drop, wp_ret, wp_sif, wp_fNil, wp_fCons, wp_fTup1, wp_fTup2, wp_fTup3, wp_fTup4, wp_fTup5, wp_fSub, kPar_ok, wp_par, wp_for, wp_each0, kEach_nx, kEach_ct, kEach_bk, kEach_rt, wp_lc, wp_yes, wp_items, wp_itemsL, wp_itemsR, wp_itemsT, wp_pRng1, wp_pRng2, wp_app, wp_ext, wp_ch, wp_mod, wp_fdiv, wif_true, wif_false, wif_not, wlen0, kLp_eq, kWh_eq, kL1_eq, kL2_eq, kCh_eq, kW_eq, kV_eq, wp_ms, isS_str, kOp2_eq, kOp1_eq, kUn_eq, kTest_eq, kIf_eq, kAnd_eq, kOr_eq, kNot_eq, kAndV_eq, kOrV_eq, kNotV_eq, kCons2_eq, kCons1_eq, kTup_eq, kLst_eq, kNew_eq, kCall_eq, kCB_eq, kAsI_eq, kSl3_eq, kSl2_eq, kSl1_eq, kNx_eq, kAsg_eq, kDrop_eq, kRet_eq, kSIf_eq, kFC_eq, kSub3_eq, kSub2_eq, kSub1_eq, kPut4_eq, kPut3_eq, kPut2_eq, kPut1_eq, kFor_eq, kE2_eq, kE1_eq, kLc_eq, kItems_eq, kRng1_eq, kRng2_eq, kApp2_eq, kApp1_eq, kExt2_eq, kExt1_eq, kAug2_eq, kAug1_eq, kCh3_eq, kCh2_eq, kCh1_eq, kMS2_eq, kMS1_eq, wlen1, wlen2, wlen3, wlen4, wlen5, wlen6, wlen7, wlen8, wlen9, wlen10, wlen11, wlen12, wlen13, wlen14, wlen15, wlen16, wp_var0, wp_var1, wp_var2, wp_var3, wp_var4, wp_var5, wp_var6, wp_var7, wp_var8, wp_var9, wp_var10, wp_var11, wp_var12, wp_var13, wp_var14, wp_var15, wp_var16, wp_var17, wp_var18, wp_var19, wp_var20, wp_var21, wp_var22, wp_var23, wp_var24, wp_var25, wp_var26, wp_var27, wp_var28, wp_var29, wp_name0, wp_name1, wp_name2, wp_name3, wp_name4, wp_name5, wp_name6, wp_name7, wp_name8, wp_name9, wp_name10, wp_name11, wp_name12, wp_name13, wp_name14, wp_name15, wp_name16, wp_name17, wp_name18, wp_name19, wp_name20, wp_name21, wp_name22, wp_name23, wp_name24, wp_name25, wp_name26, wp_name27, wp_name28, wp_name29, wp_aug0, wp_aug1, wp_aug2, wp_aug3, wp_aug4, wp_aug5, wp_aug6, wp_aug7, wp_aug8, wp_aug9, wp_aug10, wp_aug11, wp_aug12, wp_aug13, wp_aug14, wp_aug15, wp_aug16, wp_aug17, wp_aug18, wp_aug19, wp_aug20, wp_aug21, wp_aug22, wp_aug23, wp_aug24, wp_aug25, wp_aug26, wp_aug27, wp_aug28, wp_aug29, e_add, e_sub, e_lt, e_le, e_gt, e_ge, e_eqI, e_eqS, e_eqB, e_neI, e_neS, e_neB, e_neg, e_intI, e_intB, e_abs, e_max2, e_min2, e_gcd2, e_gcd3, e_lenT, e_lenL, e_lenR, e_tupL, e_tupT, e_listT, e_listL, e_strS, e_slT, e_slL, e_augAdd, e_eqNN, e_eqSN, e_eqNS, e_is_tup, e_is_lst, e_is_int, e_is_str, e_is_bl, e_is_non, e_is_adr, e_isNot_tup, e_isNot_lst, e_isNot_int, e_isNot_str, e_isNot_bl, e_isNot_non, e_isNot_adr, e_isB, e_isNotB, e_ix_tup0, e_ix_tup1, e_ix_tup2, e_ix_tup3, e_ix_tup4, e_ix_tup5, e_ix_lst0, e_ix_lst1, e_ix_lst2, e_ix_lst3, e_ix_lst4, e_ix_lst5, e_ix_rol0, e_ix_rol1, e_ix_rol2, e_ix_rol3, e_ix_rol4, e_ix_rol5, i_tup_bool, i_tup_int, i_tup_str, i_tup_tuple, i_tup_list, i_lst_bool, i_lst_int, i_lst_str, i_lst_tuple, i_lst_list, i_bl_bool, i_bl_int, i_bl_str, i_bl_tuple, i_bl_list, i_int_bool, i_int_int, i_int_str, i_int_tuple, i_int_list, i_str_bool, i_str_int, i_str_str, i_str_tuple, i_str_list, i_non_bool, i_non_int, i_non_str, i_non_tuple, i_non_list, getJ0, getJ1, getJ2, setJ0, setJ1, setJ2, lenJ0, lenJ1, lenJ2, getM0, getM1, getM2, setM0, setM1, setM2, lenM1, lenM2, List.set_cons_zero, List.set_cons_succ, List.cons_append, List.append_assoc, List.nil_append, wipeR, decide_true, decide_false, ite_true, ite_false, if_true, if_false, Bool.not_true, Bool.not_false, rho0, Int.toNat_natCast, true_and, and_true, Bool.false_eq_true])
local macro_rules | `(tactic| walk_at "mem") => `(tactic| first | with_reducible exact getJ0 | with_reducible exact getJ1 | with_reducible exact getJ2 | with_reducible exact getM0 | with_reducible exact getM1 | with_reducible exact getM2 | with_reducible assumption)
local macro_rules | `(tactic| walk_at "call") => `(tactic| fail)
local macro_rules | `(tactic| walk_at "wf") => `(tactic| first | with_reducible assumption | exact WJ.wf (by with_reducible assumption) (by with_reducible assumption) | exact WfM.snoc0 (by with_reducible assumption) rfl | exact WJ.snoc (by with_reducible assumption) rfl | exact WJ.wf (WJ.snoc (by with_reducible assumption) rfl) (by with_reducible assumption))
local macro_rules | `(tactic| walk_at "num") => `(tactic| first | omega | decide)
local macro_rules | `(tactic| walk_at "wif") => `(tactic| (
  (with_reducible show Wif _ _ _)
  first
  | ((with_reducible refine wif_t ?wc ?_); (case wc => first | with_reducible assumption | decide | exact decide_eq_true (by omega)))
  | ((with_reducible refine wif_f ?wc ?_); (case wc => first | with_reducible assumption | decide | exact decide_eq_false (by omega)))
  | with_reducible refine wif_d (fun _ => ?_) (fun _ => ?_) | with_reducible refine wif_b (fun _ => ?_) (fun _ => ?_)))
local macro_rules | `(tactic| walk_at "st") => `(tactic| first
  | walk_at "px"
  | walk_at "wif"
  | (with_reducible refine And.intro (isA_of (by walk_at "mem")) ?_)
  | (with_reducible refine wp_appL (by walk_at "mem") (by walk_at "num") ?_)
  | ((with_reducible refine wp_mod' ?wl ?_); (case wl => walk_at "num"))
  | ((with_reducible refine wp_fdiv' ?wl ?wm ?_); (case wl => walk_at "num"); (case wm => walk_at "num"))
  | ((with_reducible refine wp_mul ?wl ?_); (case wl => walk_at "num"))
  | ((with_reducible refine wp_rng1 ?wl ?_); (case wl => walk_at "num"))
  | ((with_reducible refine wp_rng2 ?wl ?wm ?_); (case wl => walk_at "num"); (case wm => walk_at "num"))
  | walk_at "call"
  | fail "no step")
local macro_rules | `(tactic| walk_at "de") => `(tactic| first
  | refine de0 (by walk_at "wf") (by with_reducible assumption) (by first | with_reducible assumption | rfl) ?_
  | refine dea0 (by walk_at "wf") (by with_reducible assumption) (by first | with_reducible assumption | rfl) ?_
  | refine de1 (by walk_at "wf") (by with_reducible assumption) (by first | with_reducible assumption | rfl) ?_)
local macro_rules | `(tactic| walk_at "pe") => `(tactic| first
  | refine pe0' (by walk_at "wf") (by first | with_reducible assumption | rfl) ?_
  | refine pea0' (by walk_at "wf") (by first | with_reducible assumption | rfl) ?_
  | refine pe1' (by walk_at "wf") (by first | with_reducible assumption | rfl) ?_)
local macro_rules | `(tactic| walk_at "pw") => `(tactic| repeat' walk_at "st")

local macro_rules | `(tactic| walk_at "call") => `(tactic| ((with_reducible refine wp_nx ?wn ?wj ?ws ?_); (case wn => omega); (case wj => walk_at "wf"); (case ws => with_reducible assumption); intro _ _ _ _ _))
local macro_rules | `(tactic| walk_at "call") => `(tactic| ((with_reducible refine wp_rg ?wj ?ws ?_); (case wj => walk_at "wf"); (case ws => with_reducible assumption); intro _ _ _ _ _ _ _ _ _ _ _ _))
local macro_rules | `(tactic| walk_at "call") => `(tactic| ((with_reducible refine wp_of (has_ok ?wf ?wn) ?_); (case wf => walk_at "wf"); (case wn => omega)))
/-! ### widen -/
def wLow (ms : List Int) (low g : Int) : Int := maxI (ms.filter fun n => decide (n ≤ low)) + (low - maxI (ms.filter fun n => decide (n ≤ low))) % g
def wHigh (ms : List Int) (high g : Int) : Int := minI (ms.filter fun n => decide (high ≤ n)) - (minI (ms.filter fun n => decide (high ≤ n)) - high) % g
def wid (l h s l2 h2 s2 : Int) (ms : List Int) : D :=
  .tup [.int (if min l l2 < l then wLow ms (min l l2) (gcdI (gcdI s s2) (l - l2)) else min l l2), .int (if h < max h h2 then wHigh ms (max h h2) (gcdI (gcdI s s2) (l - l2)) else max h h2), .int (gcdI (gcdI s s2) (l - l2))]
theorem low_ne {ms : List Int} (hm : Marks ms) {low : Int} (h : -10000 ≤ low) : (ms.filter fun n => decide (n ≤ low)) ≠ [] :=
  List.ne_nil_of_mem (List.mem_filter.mpr ⟨hm.lo, by simpa using h⟩)
theorem high_ne {ms : List Int} (hm : Marks ms) {high : Int} (h : high ≤ 10000) : (ms.filter fun n => decide (high ≤ n)) ≠ [] :=
  List.ne_nil_of_mem (List.mem_filter.mpr ⟨hm.hi, by simpa using h⟩)
/-- a join's step is not 0 -/
theorem step_pos {l h s l2 h2 s2 : Int} (r : Rg l h s) (r2 : Rg l2 h2 s2) (hn : withinB l2 h2 s2 l h s = false) : 0 < gcdI (gcdI s s2) (l - l2) := by
  have h0 := gcdI_nonneg (gcdI s s2) (l - l2)
  by_cases hz : gcdI (gcdI s s2) (l - l2) = 0
  · exfalso
    have a1 : (0 : Int) ∣ l - l2 := by rw [← hz]; exact gcdI_right _ _
    have a2 : (0 : Int) ∣ gcdI s s2 := by rw [← hz]; exact gcdI_left _ _
    have a3 := Int.dvd_trans a2 (gcdI_left s s2)
    have a4 := Int.dvd_trans a2 (gcdI_right s s2)
    rw [Int.zero_dvd] at a1 a3 a4
    subst a3
    subst a4
    have e : l2 = l := by omega
    subst e
    have : h = l2 ∧ h2 = l2 := by unfold Rg at r r2; omega
    obtain ⟨rfl, rfl⟩ := this
    simp [withinB, hasB] at hn
  · omega
theorem lc_low {M : PM} (w : WfM M) {ms : List Int} (hl : ms.length ≤ 16777216) {g : FG} {t : FT} {f : FE} {ρ : Rho} {Q : D → PM → Prop} {N : KX} (p : Int → Bool)
    (hs : ∀ a : Int, ∀ acc : List D, Wp (g (.int a) ρ (M ++ [.lst acc])) (kL1 t f (fun y M3 => p a = true ∧ y = .int a ∧ M3 = M ++ [MO.lst acc]) (fun _ M2 => p a = false ∧ M2 = M ++ [MO.lst acc]) N) N)
    (q : Q (.lst ((ms.filter p).map .int)) M) : Wp (lcFrom M.length g t f ρ (ms.map .int) (M ++ [.lst []])) Q N :=
  wp_lcP D.int p D.int w hl (fun _ _ => rfl) (fun a _ acc _ => hs a acc) q
local macro_rules | `(tactic| walk_at "call") => `(tactic| ((with_reducible refine wp_of (within_ok ?wf ?r1 ?r2) ?_); (case wf => walk_at "wf"); (case r1 => with_reducible assumption); (case r2 => with_reducible assumption)))
local macro_rules | `(tactic| walk_at "call") => `(tactic| ((with_reducible refine wp_of (join_ok ?wf) ?_); (case wf => walk_at "wf")))
theorem widen_ok {M : PM} (w : WfM M) {l h s l2 h2 s2 : Int} (r : Rg l h s) (r2 : Rg l2 h2 s2) {ms : List Int} (hm : Marks ms) (hl : ms.length ≤ 16777216) (b1 : -10000 ≤ l) (b2 : -10000 ≤ l2) (b3 : h ≤ 10000) (b4 : h2 ≤ 10000) :
    Φ_widen [.tup [.int l, .int h, .int s], .tup [.int l2, .int h2, .int s2], .tup (ms.map .int)] M = .ok (if withinB l2 h2 s2 l h s = true then .tup [.int l, .int h, .int s] else wid l h s l2 h2 s2 ms) M := by
  refine run_wp rfl ?_
  rw [rn_widen]
  unfold g_widen
  cases c : withinB l2 h2 s2 l h s with
  | true =>
    walk_at "pw"
    walk_at "pe"
    rfl
  | false =>
    have hg := step_pos r r2 c
    rw [if_neg Bool.false_ne_true]
    walk_at "pw"
    · refine lc_low w hl (fun n => decide (n ≤ min l l2)) (fun a acc => ?_) ?_
      · walk_at "pw" <;> simp_all
      · walk_at "pw"
        refine wp_of (e_maxL (low_ne hm (by omega))) ?_
        walk_at "pw"
        · refine lc_low w hl (fun n => decide (max h h2 ≤ n)) (fun a acc => ?_) ?_
          · walk_at "pw" <;> simp_all
          · walk_at "pw"
            refine wp_of (e_minL (high_ne hm (by omega))) ?_
            walk_at "pw"
            walk_at "pe"
            unfold wid
            rw [if_pos (by omega), if_pos (by omega)]
            rfl
        · walk_at "pe"
          unfold wid
          rw [if_pos (by omega), if_neg (by omega)]
          rfl
    · refine lc_low w hl (fun n => decide (max h h2 ≤ n)) (fun a acc => ?_) ?_
      · walk_at "pw" <;> simp_all
      · walk_at "pw"
        refine wp_of (e_minL (high_ne hm (by omega))) ?_
        walk_at "pw"
        walk_at "pe"
        unfold wid
        rw [if_neg (by omega), if_pos (by omega)]
        rfl
    · walk_at "pe"
      unfold wid
      rw [if_neg (by omega), if_neg (by omega)]
end M

set_option Elab.async false
set_option linter.all false
set_option maxRecDepth 100000
set_option maxHeartbeats 4000000
namespace M
open PySem L2 Pd G
local macro_rules | `(tactic| walk_at "px") => `(tactic| simp -implicitDefEqProofs only [wp_ok, wp_C, wp_op, wp_un, wp_asB, wp_test, wp_if, wp_and, wp_or, wp_not, wp_andV, wp_orV, wp_notV, wp_aNil, wp_aCons, wp_tup, wp_lst, wp_new, wp_call, wp_cb, wp_oNone, wp_asI, wp_oSome, wp_sl, wp_next, wp_break, wp_cont, wp_retN, kSeq_nx, kSeq_rt, kSeq_bk, kSeq_ct, wp_seq, wp_asg, wp_drop, wp_ret, wp_sif, wp_fNil, wp_fCons, wp_fTup1, wp_fTup2, wp_fTup3, wp_fTup4, wp_fTup5, wp_fSub, kPar_ok, wp_par, wp_for, wp_each0, kEach_nx, kEach_ct, kEach_bk, kEach_rt, wp_lc, wp_yes, wp_items, wp_itemsL, wp_itemsR, wp_itemsT, wp_pRng1, wp_pRng2, wp_app, wp_ext, wp_ch, wp_mod, wp_fdiv, wif_true, wif_false, wif_not, wlen0, kLp_eq, kWh_eq, kL1_eq, kL2_eq, kCh_eq, kW_eq, kV_eq, wp_ms, isS_str, kOp2_eq, kOp1_eq, kUn_eq, kTest_eq, kIf_eq, kAnd_eq, kOr_eq, kNot_eq, kAndV_eq, kOrV_eq, kNotV_eq, kCons2_eq, kCons1_eq, kTup_eq, kLst_eq, kNew_eq, kCall_eq, kCB_eq, kAsI_eq, kSl3_eq, kSl2_eq, kSl1_eq, kNx_eq, kAsg_eq, kDrop_eq, kRet_eq, kSIf_eq, kFC_eq, kSub3_eq, kSub2_eq, kSub1_eq, kPut4_eq, kPut3_eq, kPut2_eq, kPut1_eq, kFor_eq, kE2_eq, kE1_eq, kLc_eq, kItems_eq, kRng1_eq, kRng2_eq, kApp2_eq, kApp1_eq, kExt2_eq, kExt1_eq, kAug2_eq, kAug1_eq, kCh3_eq, kCh2_eq, kCh1_eq, kMS2_eq, kMS1_eq, wlen1, wlen2, wlen3, wlen4, wlen5, wlen6, wlen7, wlen8, wlen9, wlen10, wlen11, wlen12, wlen13, wlen14, wlen15, wlen16, wp_var0, wp_var1, wp_var2, wp_var3, wp_var4, wp_var5, wp_var6, wp_var7, wp_var8, wp_var9, wp_var10, wp_var11, wp_var12, wp_var13, wp_var14, wp_var15, wp_var16, wp_var17, wp_var18, wp_var19, wp_var20, wp_var21, wp_var22, wp_var23, wp_var24, wp_var25, wp_var26, wp_var27, wp_var28, wp_var29, wp_name0, wp_name1, wp_name2, wp_name3, wp_name4, wp_name5, wp_name6, wp_name7, wp_name8, wp_name9, wp_name10, wp_name11, wp_name12, wp_name13, wp_name14, wp_name15, wp_name16, wp_name17, wp_name18, wp_name19, wp_name20, wp_name21, wp_name22, wp_name23, wp_name24, wp_name25, wp_name26, wp_name27, wp_name28, wp_name29, wp_aug0, wp_aug1, wp_aug2, wp_aug3, wp_aug4, wp_aug5, wp_aug6, wp_aug7, wp_aug8, wp_aug9, wp_aug10, wp_aug11, wp_aug12, wp_aug13, wp_aug14, wp_aug15, wp_aug16, wp_aug17, wp_aug18, wp_aug19, wp_aug20, wp_aug21, wp_aug22, wp_aug23, wp_aug24, wp_aug25, wp_aug26, wp_aug27, wp_aug28, wp_aug29, e_add, e_sub, e_lt, e_le, e_gt, e_ge, e_eqI, e_eqS, e_eqB, e_neI, e_neS, e_neB, e_neg, e_intI, e_intB, e_abs, e_max2, e_min2, e_gcd2, e_gcd3, e_lenT, e_lenL, e_lenR, e_tupL, e_tupT, e_listT, e_listL, e_strS, e_slT, e_slL, e_augAdd, e_eqNN, e_eqSN, e_eqNS, e_is_tup, e_is_lst, e_is_int, e_is_str, e_is_bl, e_is_non, e_is_adr, e_isNot_tup, e_isNot_lst, e_isNot_int, e_isNot_str, e_isNot_bl, e_isNot_non, e_isNot_adr, e_isB, e_isNotB, e_ix_tup0, e_ix_tup1, e_ix_tup2, e_ix_tup3, e_ix_tup4, e_ix_tup5, e_ix_lst0, e_ix_lst1, e_ix_lst2, e_ix_lst3, e_ix_lst4, e_ix_lst5, e_ix_rol0, e_ix_rol1, e_ix_rol2, e_ix_rol3, e_ix_rol4, e_ix_rol5, i_tup_bool, i_tup_int, i_tup_str, i_tup_tuple, i_tup_list, i_lst_bool, i_lst_int, i_lst_str, i_lst_tuple, i_lst_list, i_bl_bool, i_bl_int, i_bl_str, i_bl_tuple, i_bl_list, i_int_bool, i_int_int, i_int_str, i_int_tuple, i_int_list, i_str_bool, i_str_int, i_str_str, i_str_tuple, i_str_list, i_non_bool, i_non_int, i_non_str, i_non_tuple, i_non_list, getJ0, getJ1, getJ2, setJ0, setJ1, setJ2, lenJ0, lenJ1, lenJ2, getM0, getM1, getM2, setM0, setM1, setM2, lenM1, lenM2, List.set_cons_zero, List.set_cons_succ, List.cons_append, List.append_assoc, List.nil_append, wipeR, decide_true, decide_false, ite_true, ite_false, if_true, if_false, Bool.not_true, Bool.not_false, rho0, Int.toNat_natCast, true_and, and_true, Bool.false_eq_true])
local macro_rules | `(tactic| walk_at "mem") => `(tactic| first | with_reducible exact getJ0 | with_reducible exact getJ1 | with_reducible exact getJ2 | with_reducible exact getM0 | with_reducible exact getM1 | with_reducible exact getM2 | with_reducible assumption)
local macro_rules | `(tactic| walk_at "call") => `(tactic| fail)
local macro_rules | `(tactic| walk_at "wf") => `(tactic| first | with_reducible assumption | exact WJ.wf (by with_reducible assumption) (by with_reducible assumption) | exact WfM.snoc0 (by with_reducible assumption) rfl | exact WJ.snoc (by with_reducible assumption) rfl | exact WJ.wf (WJ.snoc (by with_reducible assumption) rfl) (by with_reducible assumption))
local macro_rules | `(tactic| walk_at "num") => `(tactic| first | omega | decide)
local macro_rules | `(tactic| walk_at "wif") => `(tactic| (
  (with_reducible show Wif _ _ _)
  first
  | ((with_reducible refine wif_t ?wc ?_); (case wc => first | with_reducible assumption | decide | exact decide_eq_true (by omega)))
  | ((with_reducible refine wif_f ?wc ?_); (case wc => first | with_reducible assumption | decide | exact decide_eq_false (by omega)))
  | with_reducible refine wif_d (fun _ => ?_) (fun _ => ?_) | with_reducible refine wif_b (fun _ => ?_) (fun _ => ?_)))
local macro_rules | `(tactic| walk_at "st") => `(tactic| first
  | walk_at "px"
  | walk_at "wif"
  | (with_reducible refine And.intro (isA_of (by walk_at "mem")) ?_)
  | (with_reducible refine wp_appL (by walk_at "mem") (by walk_at "num") ?_)
  | ((with_reducible refine wp_mod' ?wl ?_); (case wl => walk_at "num"))
  | ((with_reducible refine wp_fdiv' ?wl ?wm ?_); (case wl => walk_at "num"); (case wm => walk_at "num"))
  | ((with_reducible refine wp_mul ?wl ?_); (case wl => walk_at "num"))
  | ((with_reducible refine wp_rng1 ?wl ?_); (case wl => walk_at "num"))
  | ((with_reducible refine wp_rng2 ?wl ?wm ?_); (case wl => walk_at "num"); (case wm => walk_at "num"))
  | walk_at "call"
  | fail "no step")
local macro_rules | `(tactic| walk_at "de") => `(tactic| first
  | refine de0 (by walk_at "wf") (by with_reducible assumption) (by first | with_reducible assumption | rfl) ?_
  | refine dea0 (by walk_at "wf") (by with_reducible assumption) (by first | with_reducible assumption | rfl) ?_
  | refine de1 (by walk_at "wf") (by with_reducible assumption) (by first | with_reducible assumption | rfl) ?_)
local macro_rules | `(tactic| walk_at "pe") => `(tactic| first
  | refine pe0' (by walk_at "wf") (by first | with_reducible assumption | rfl) ?_
  | refine pea0' (by walk_at "wf") (by first | with_reducible assumption | rfl) ?_
  | refine pe1' (by walk_at "wf") (by first | with_reducible assumption | rfl) ?_)
local macro_rules | `(tactic| walk_at "pw") => `(tactic| repeat' walk_at "st")

local macro_rules | `(tactic| walk_at "call") => `(tactic| ((with_reducible refine wp_nx ?wn ?wj ?ws ?_); (case wn => omega); (case wj => walk_at "wf"); (case ws => with_reducible assumption); intro _ _ _ _ _))
local macro_rules | `(tactic| walk_at "call") => `(tactic| ((with_reducible refine wp_rg ?wj ?ws ?_); (case wj => walk_at "wf"); (case ws => with_reducible assumption); intro _ _ _ _ _ _ _ _ _ _ _ _))
local macro_rules | `(tactic| walk_at "call") => `(tactic| ((with_reducible refine wp_of (has_ok ?wf ?wn) ?_); (case wf => walk_at "wf"); (case wn => omega)))
local macro_rules | `(tactic| walk_at "call") => `(tactic| ((with_reducible refine wp_of (within_ok ?wf ?r1 ?r2) ?_); (case wf => walk_at "wf"); (case r1 => with_reducible assumption); (case r2 => with_reducible assumption)))
local macro_rules | `(tactic| walk_at "call") => `(tactic| ((with_reducible refine wp_of (join_ok ?wf) ?_); (case wf => walk_at "wf")))
theorem asc_last {l : List Int} (ha : Asc l) (hn : l ≠ []) : atI (l.map D.int) (-1) = some (.int (maxI l)) := by
  obtain ⟨i, x, rfl⟩ : ∃ i x, l = i ++ [x] := ⟨_, _, (List.dropLast_concat_getLast hn).symm⟩
  rw [List.map_append, show [x].map D.int = [D.int x] from rfl, atI_neg1]
  have h1 := maxI_mem (i ++ [x]) hn
  have h2 := maxI_ge (i ++ [x]) x (by simp)
  rcases List.mem_append.mp h1 with q | q
  · have := (List.pairwise_append.mp ha).2.2 _ q x (by simp)
    omega
  · rw [List.mem_singleton.mp q]
theorem asc_head {l : List Int} (ha : Asc l) (hn : l ≠ []) : atI (l.map D.int) 0 = some (.int (minI l)) := by
  cases l with
  | nil => exact absurd rfl hn
  | cons x i =>
    have e : atI ((x :: i).map D.int) ((0 : Nat) : Int) = some ((x :: i).map D.int)[0] := atI_ok (by simp)
    rw [show ((0 : Int)) = ((0 : Nat) : Int) from rfl, e]
    have h1 := minI_mem (x :: i) hn
    have h2 := minI_le (x :: i) x (by simp)
    rcases List.mem_cons.mp h1 with q | q
    · rw [q]; rfl
    · have := (List.pairwise_cons.mp ha).1 _ q
      omega
theorem hull_pair {l h s l2 h2 s2 : Int} (r : Rg l h s) (r2 : Rg l2 h2 s2) :
    minI [l, h, l + s, l2, h2, l2 + s2] = min l l2 ∧ maxI [l, h, l + s, l2, h2, l2 + s2] = max h h2 ∧ hullG (min l l2) [l, h, l + s, l2, h2, l2 + s2] = gcdI (gcdI s s2) (l - l2) := by
  obtain ⟨a1, a2, a3, a4⟩ := rg_step r
  obtain ⟨c1, c2, c3, c4⟩ := rg_step r2
  have e1 : minI [l, h, l + s, l2, h2, l2 + s2] = min l l2 := by
    have m1 := minI_mem [l, h, l + s, l2, h2, l2 + s2] (by simp)
    have m2 := minI_le [l, h, l + s, l2, h2, l2 + s2] l (by simp)
    have m3 := minI_le [l, h, l + s, l2, h2, l2 + s2] l2 (by simp)
    simp only [List.mem_cons, List.not_mem_nil, or_false] at m1
    omega
  have e2 : maxI [l, h, l + s, l2, h2, l2 + s2] = max h h2 := by
    have m1 := maxI_mem [l, h, l + s, l2, h2, l2 + s2] (by simp)
    have m2 := maxI_ge [l, h, l + s, l2, h2, l2 + s2] h (by simp)
    have m3 := maxI_ge [l, h, l + s, l2, h2, l2 + s2] h2 (by simp)
    simp only [List.mem_cons, List.not_mem_nil, or_false] at m1
    omega
  refine ⟨e1, e2, ?_⟩
  have g1 : gcdI (gcdI s s2) (l - l2) ∣ s := Int.dvd_trans (gcdI_left _ _) (gcdI_left _ _)
  have g2 : gcdI (gcdI s s2) (l - l2) ∣ s2 := Int.dvd_trans (gcdI_left _ _) (gcdI_right _ _)
  have g3 : gcdI (gcdI s s2) (l - l2) ∣ l - l2 := gcdI_right _ _
  generalize hg : gcdI (gcdI s s2) (l - l2) = g at g1 g2 g3
  have d1 : g ∣ l - min l l2 := by
    by_cases q : l ≤ l2
    · rw [show l - min l l2 = 0 by omega]; exact Int.dvd_zero _
    · rw [show l - min l l2 = l - l2 by omega]; exact g3
  have d2 : g ∣ l2 - min l l2 := by
    by_cases q : l ≤ l2
    · rw [show l2 - min l l2 = -(l - l2) by omega]; exact Int.dvd_neg.mpr g3
    · rw [show l2 - min l l2 = 0 by omega]; exact Int.dvd_zero _
  refine hullG_eq (by rw [← hg]; exact gcdI_nonneg _ _) ?_ fun k hk => ?_
  · intro n hn
    simp only [List.mem_cons, List.not_mem_nil, or_false] at hn
    rcases hn with rfl | rfl | rfl | rfl | rfl | rfl
    · exact d1
    · rw [show n - min l l2 = (n - l) + (l - min l l2) by omega]; exact Int.dvd_add (Int.dvd_trans g1 a4) d1
    · rw [show l + s - min l l2 = s + (l - min l l2) by omega]; exact Int.dvd_add g1 d1
    · exact d2
    · rw [show n - min l l2 = (n - l2) + (l2 - min l l2) by omega]; exact Int.dvd_add (Int.dvd_trans g2 c4) d2
    · rw [show l2 + s2 - min l l2 = s2 + (l2 - min l l2) by omega]; exact Int.dvd_add g2 d2
  · have k1 := hk l (by simp)
    have k2 := hk (l + s) (by simp)
    have k3 := hk l2 (by simp)
    have k4 := hk (l2 + s2) (by simp)
    rw [← hg]
    refine dvd_gcdI (dvd_gcdI ?_ ?_) ?_
    · rw [show s = (l + s - min l l2) - (l - min l l2) by omega]; exact Int.dvd_sub k2 k1
    · rw [show s2 = (l2 + s2 - min l l2) - (l2 - min l l2) by omega]; exact Int.dvd_sub k4 k3
    · rw [show l - l2 = (l - min l l2) - (l2 - min l l2) by omega]; exact Int.dvd_sub k1 k3
theorem due_ok {M : PM} (w : WfM M) {l h s l2 h2 s2 : Int} (r : Rg l h s) (r2 : Rg l2 h2 s2) (hn : withinB l2 h2 s2 l h s = false) {ms : List Int} (hm : Marks ms) (hl : ms.length ≤ 16777216) (b1 : -10000 ≤ l) (b2 : -10000 ≤ l2) (b3 : h ≤ 10000) (b4 : h2 ≤ 10000) :
    Φ__law_due [.tup [.int l, .int h, .int s], .tup [.int l2, .int h2, .int s2], .tup (ms.map .int)] M = .ok (wid l h s l2 h2 s2 ms) M := by
  refine run_wp rfl ?_
  rw [rn__law_due]
  unfold g__law_due
  have hg := step_pos r r2 hn
  obtain ⟨a1, a2, a3, a4⟩ := rg_step r
  obtain ⟨c1, c2, c3, c4⟩ := rg_step r2
  obtain ⟨p1, p2, p3⟩ := hull_pair r r2
  have al : Asc (ms.filter fun n => decide (n ≤ min l l2)) := hm.asc.sublist List.filter_sublist
  have ah : Asc (ms.filter fun n => decide (max h h2 ≤ n)) := hm.asc.sublist List.filter_sublist
  walk_at "pw"
  refine wp_of (hull_ok w (ns := [l, h, l + s, l2, h2, l2 + s2]) (by simp) ?_) ?_
  · rw [p1]
    intro n hn
    simp only [List.mem_cons, List.not_mem_nil, or_false] at hn
    rcases hn with rfl | rfl | rfl | rfl | rfl | rfl <;> omega
  rw [p1, p2, p3]
  walk_at "pw"
  · refine lc_low w hl (fun n => decide (n ≤ min l l2)) (fun a acc => ?_) ?_
    · walk_at "pw" <;> simp_all
    · walk_at "pw"
      refine wp_of (gIx_seq rfl (asc_last al (low_ne hm (by omega)))) ?_
      walk_at "pw"
      · refine lc_low w hl (fun n => decide (max h h2 ≤ n)) (fun a acc => ?_) ?_
        · walk_at "pw" <;> simp_all
        · walk_at "pw"
          refine wp_of (gIx_seq rfl (asc_head ah (high_ne hm (by omega)))) ?_
          walk_at "pw"
          walk_at "pe"
          unfold wid
          rw [if_pos (by omega), if_pos (by omega)]
          rfl
      · walk_at "pe"
        unfold wid
        rw [if_pos (by omega), if_neg (by omega)]
        rfl
  · refine lc_low w hl (fun n => decide (max h h2 ≤ n)) (fun a acc => ?_) ?_
    · walk_at "pw" <;> simp_all
    · walk_at "pw"
      refine wp_of (gIx_seq rfl (asc_head ah (high_ne hm (by omega)))) ?_
      walk_at "pw"
      walk_at "pe"
      unfold wid
      rw [if_neg (by omega), if_pos (by omega)]
      rfl
  · walk_at "pe"
    unfold wid
    rw [if_neg (by omega), if_neg (by omega)]
theorem lies_ok {M : PM} (w : WfM M) {l h s l2 h2 s2 : Int} (r : Rg l h s) (r2 : Rg l2 h2 s2) : Φ__law_lies [.tup [.int l2, .int h2, .int s2], .tup [.int l, .int h, .int s]] M = .ok (.bl (withinB l2 h2 s2 l h s)) M := by
  refine run_wp rfl ?_
  rw [rn__law_lies]
  unfold g__law_lies
  obtain ⟨a1, a2, a3, a4⟩ := rg_step r
  obtain ⟨c1, c2, c3, c4⟩ := rg_step r2
  have e : withinB l2 h2 s2 l h s = if l2 < l ∨ h < h2 then false else (decide ((l2 - l) % max 1 s = 0) && (decide ((h2 - l) % max 1 s = 0) && (decide (s2 = 0) || decide (s2 % max 1 s = 0)))) := by
    unfold withinB hasB
    by_cases q : l2 < l ∨ h < h2
    · rw [if_pos q]
      rcases q with q | q
      · rw [if_pos (Or.inl q)]; rfl
      · rw [if_pos (show h2 < l ∨ h < h2 from Or.inr q)]; simp
    · rw [if_neg q, if_neg (by omega), if_neg (by omega)]
      rcases r with ⟨rfl, rfl⟩ | ⟨h1, h2', h3⟩
      · have e1 : l2 = l := by omega
        have e2 : h2 = l := by omega
        subst e1; subst e2
        have : s2 = 0 := by unfold Rg at r2; omega
        subst this
        simp
      · rw [show max 1 s = s by omega]
        have : s ≠ 0 := by omega
        simp [this, Bool.and_assoc]
  rw [e]
  walk_at "pw" <;> walk_at "pe" <;> simp_all
end M

set_option Elab.async false
set_option linter.all false
set_option maxRecDepth 100000
set_option maxHeartbeats 4000000
namespace M
open PySem L2 Pd G
local macro_rules | `(tactic| walk_at "px") => `(tactic| simp -implicitDefEqProofs only [wp_ok, wp_C, wp_op, wp_un, wp_asB, wp_test, wp_if, wp_and, wp_or, wp_not, wp_andV, wp_orV, wp_notV, wp_aNil, wp_aCons, wp_tup, wp_lst, wp_new, wp_call, wp_cb, wp_oNone, wp_asI, wp_oSome, wp_sl, wp_next, wp_break, wp_cont, wp_retN, kSeq_nx, kSeq_rt, kSeq_bk, kSeq_ct, wp_seq, wp_asg, wp_drop, wp_ret, wp_sif, wp_fNil, wp_fCons, wp_fTup1, wp_fTup2, wp_fTup3, wp_fTup4, wp_fTup5, wp_fSub, kPar_ok, wp_par, wp_for, wp_each0, kEach_nx, kEach_ct, kEach_bk, kEach_rt, wp_lc, wp_yes, wp_items, wp_itemsL, wp_itemsR, wp_itemsT, wp_pRng1, wp_pRng2, wp_app, wp_ext, wp_ch, wp_mod, wp_fdiv, wif_true, wif_false, wif_not, wlen0, kLp_eq, kWh_eq, kL1_eq, kL2_eq, kCh_eq, kW_eq, kV_eq, wp_ms, isS_str, kOp2_eq, kOp1_eq, kUn_eq, kTest_eq, kIf_eq, kAnd_eq, kOr_eq, kNot_eq, kAndV_eq, kOrV_eq, kNotV_eq, kCons2_eq, kCons1_eq, kTup_eq, kLst_eq, kNew_eq, kCall_eq, kCB_eq, kAsI_eq, kSl3_eq, kSl2_eq, kSl1_eq, kNx_eq, kAsg_eq, kDrop_eq, kRet_eq, kSIf_eq, kFC_eq, kSub3_eq, kSub2_eq, kSub1_eq, kPut4_eq, kPut3_eq, kPut2_eq, kPut1_eq, kFor_eq, kE2_eq, kE1_eq, kLc_eq, kItems_eq, kRng1_eq, kRng2_eq, kApp2_eq, kApp1_eq, kExt2_eq, kExt1_eq, kAug2_eq, kAug1_eq, kCh3_eq, kCh2_eq, kCh1_eq, kMS2_eq, kMS1_eq, wlen1, wlen2, wlen3, wlen4, wlen5, wlen6, wlen7, wlen8, wlen9, wlen10, wlen11, wlen12, wlen13, wlen14, wlen15, wlen16, wp_var0, wp_var1, wp_var2, wp_var3, wp_var4, wp_var5, wp_var6, wp_var7, wp_var8, wp_var9, wp_var10, wp_var11, wp_var12, wp_var13, wp_var14, wp_var15, wp_var16, wp_var17, wp_var18, wp_var19, wp_var20, wp_var21, wp_var22, wp_var23, wp_var24, wp_var25, wp_var26, wp_var27, wp_var28, wp_var29, wp_name0, wp_name1, wp_name2, wp_name3, wp_name4, wp_name5, wp_name6, wp_name7, wp_name8, wp_name9, wp_name10, wp_name11, wp_name12, wp_name13, wp_name14, wp_name15, wp_name16, wp_name17, wp_name18, wp_name19, wp_name20, wp_name21, wp_name22, wp_name23, wp_name24, wp_name25, wp_name26, wp_name27, wp_name28, wp_name29, wp_aug0, wp_aug1, wp_aug2, wp_aug3, wp_aug4, wp_aug5, wp_aug6, wp_aug7, wp_aug8, wp_aug9, wp_aug10, wp_aug11, wp_aug12, wp_aug13, wp_aug14, wp_aug15, wp_aug16, wp_aug17, wp_aug18, wp_aug19, wp_aug20, wp_aug21, wp_aug22, wp_aug23, wp_aug24, wp_aug25, wp_aug26, wp_aug27, wp_aug28, wp_aug29, e_add, e_sub, e_lt, e_le, e_gt, e_ge, e_eqI, e_eqS, e_eqB, e_neI, e_neS, e_neB, e_neg, e_intI, e_intB, e_abs, e_max2, e_min2, e_gcd2, e_gcd3, e_lenT, e_lenL, e_lenR, e_tupL, e_tupT, e_listT, e_listL, e_strS, e_slT, e_slL, e_augAdd, e_eqNN, e_eqSN, e_eqNS, e_is_tup, e_is_lst, e_is_int, e_is_str, e_is_bl, e_is_non, e_is_adr, e_isNot_tup, e_isNot_lst, e_isNot_int, e_isNot_str, e_isNot_bl, e_isNot_non, e_isNot_adr, e_isB, e_isNotB, e_ix_tup0, e_ix_tup1, e_ix_tup2, e_ix_tup3, e_ix_tup4, e_ix_tup5, e_ix_lst0, e_ix_lst1, e_ix_lst2, e_ix_lst3, e_ix_lst4, e_ix_lst5, e_ix_rol0, e_ix_rol1, e_ix_rol2, e_ix_rol3, e_ix_rol4, e_ix_rol5, i_tup_bool, i_tup_int, i_tup_str, i_tup_tuple, i_tup_list, i_lst_bool, i_lst_int, i_lst_str, i_lst_tuple, i_lst_list, i_bl_bool, i_bl_int, i_bl_str, i_bl_tuple, i_bl_list, i_int_bool, i_int_int, i_int_str, i_int_tuple, i_int_list, i_str_bool, i_str_int, i_str_str, i_str_tuple, i_str_list, i_non_bool, i_non_int, i_non_str, i_non_tuple, i_non_list, getJ0, getJ1, getJ2, setJ0, setJ1, setJ2, lenJ0, lenJ1, lenJ2, getM0, getM1, getM2, setM0, setM1, setM2, lenM1, lenM2, List.set_cons_zero, List.set_cons_succ, List.cons_append, List.append_assoc, List.nil_append, wipeR, decide_true, decide_false, ite_true, ite_false, if_true, if_false, Bool.not_true, Bool.not_false, rho0, Int.toNat_natCast, true_and, and_true, Bool.false_eq_true])
local macro_rules | `(tactic| walk_at "mem") => `(tactic| first | with_reducible exact getJ0 | with_reducible exact getJ1 | with_reducible exact getJ2 | with_reducible exact getM0 | with_reducible exact getM1 | with_reducible exact getM2 | with_reducible assumption)
local macro_rules | `(tactic| walk_at "call") => `(tactic| fail)
local macro_rules | `(tactic| walk_at "wf") => `(tactic| first | with_reducible assumption | exact WJ.wf (by with_reducible assumption) (by with_reducible assumption) | exact WfM.snoc0 (by with_reducible assumption) rfl | exact WJ.snoc (by with_reducible assumption) rfl | exact WJ.wf (WJ.snoc (by with_reducible assumption) rfl) (by with_reducible assumption))
local macro_rules | `(tactic| walk_at "num") => `(tactic| first | omega | decide)
local macro_rules | `(tactic| walk_at "wif") => `(tactic| (
  (with_reducible show Wif _ _ _)
  first
  | ((with_reducible refine wif_t ?wc ?_); (case wc => first | with_reducible assumption | decide | exact decide_eq_true (by omega)))
  | ((with_reducible refine wif_f ?wc ?_); (case wc => first | with_reducible assumption | decide | exact decide_eq_false (by omega)))
  | with_reducible refine wif_d (fun _ => ?_) (fun _ => ?_) | with_reducible refine wif_b (fun _ => ?_) (fun _ => ?_)))
local macro_rules | `(tactic| walk_at "st") => `(tactic| first
  | walk_at "px"
  | walk_at "wif"
  | (with_reducible refine And.intro (isA_of (by walk_at "mem")) ?_)
  | (with_reducible refine wp_appL (by walk_at "mem") (by walk_at "num") ?_)
  | ((with_reducible refine wp_mod' ?wl ?_); (case wl => walk_at "num"))
  | ((with_reducible refine wp_fdiv' ?wl ?wm ?_); (case wl => walk_at "num"); (case wm => walk_at "num"))
  | ((with_reducible refine wp_mul ?wl ?_); (case wl => walk_at "num"))
  | ((with_reducible refine wp_rng1 ?wl ?_); (case wl => walk_at "num"))
  | ((with_reducible refine wp_rng2 ?wl ?wm ?_); (case wl => walk_at "num"); (case wm => walk_at "num"))
  | walk_at "call"
  | fail "no step")
local macro_rules | `(tactic| walk_at "de") => `(tactic| first
  | refine de0 (by walk_at "wf") (by with_reducible assumption) (by first | with_reducible assumption | rfl) ?_
  | refine dea0 (by walk_at "wf") (by with_reducible assumption) (by first | with_reducible assumption | rfl) ?_
  | refine de1 (by walk_at "wf") (by with_reducible assumption) (by first | with_reducible assumption | rfl) ?_)
local macro_rules | `(tactic| walk_at "pe") => `(tactic| first
  | refine pe0' (by walk_at "wf") (by first | with_reducible assumption | rfl) ?_
  | refine pea0' (by walk_at "wf") (by first | with_reducible assumption | rfl) ?_
  | refine pe1' (by walk_at "wf") (by first | with_reducible assumption | rfl) ?_)
local macro_rules | `(tactic| walk_at "pw") => `(tactic| repeat' walk_at "st")

/-! ### what widen tells -/
theorem hasB_iff {l h s n : Int} (r : Rg l h s) : hasB l h s n = true ↔ l ≤ n ∧ n ≤ h ∧ s ∣ n - l := by
  unfold hasB
  by_cases q : n < l ∨ h < n
  · rw [if_pos q]
    constructor
    · intro z; cases z
    · intro z; omega
  · rw [if_neg q, Bool.or_eq_true, decide_eq_true_eq, decide_eq_true_eq]
    constructor
    · rintro (z | z)
      · subst z
        have : n = l := by unfold Rg at r; omega
        subst this
        exact ⟨by omega, by omega, by simp⟩
      · exact ⟨by omega, by omega, Int.dvd_of_emod_eq_zero z⟩
    · rintro ⟨_, _, z⟩
      exact .inr (Int.emod_eq_zero_of_dvd z)
theorem withinB_iff {l h s l2 h2 s2 : Int} (r : Rg l h s) (r2 : Rg l2 h2 s2) : withinB l h s l2 h2 s2 = true ↔ l2 ≤ l ∧ h ≤ h2 ∧ s2 ∣ l - l2 ∧ s2 ∣ s := by
  unfold withinB
  rw [Bool.and_eq_true, Bool.and_eq_true, hasB_iff r2, hasB_iff r2, Bool.or_eq_true, decide_eq_true_eq, decide_eq_true_eq]
  obtain ⟨a1, a2, a3, a4⟩ := rg_step r
  obtain ⟨b1, b2, b3, b4⟩ := rg_step r2
  constructor
  · rintro ⟨⟨⟨h1, h2, h3⟩, h4, h5, h6⟩, h7⟩
    refine ⟨h1, h5, h3, ?_⟩
    rcases h7 with z | z
    · subst z; exact Int.dvd_zero _
    · exact Int.dvd_of_emod_eq_zero z
  · rintro ⟨h1, h2', h3, h4⟩
    refine ⟨⟨⟨h1, by omega, h3⟩, by omega, h2', ?_⟩, .inr (Int.emod_eq_zero_of_dvd h4)⟩
    rw [show h - l2 = (h - l) + (l - l2) by omega]
    exact Int.dvd_add (Int.dvd_trans h4 a4) h3
theorem within_self {l h s : Int} (r : Rg l h s) : withinB l h s l h s = true := by
  rw [withinB_iff r r]
  exact ⟨by omega, by omega, by simp, Int.dvd_refl _⟩
theorem rg_of {l h s : Int} (h0 : 0 < s) (h1 : l < h) (h2 : s ∣ h - l) : Rg l h s := .inr ⟨h0, h1, Int.emod_eq_zero_of_dvd h2⟩
theorem join_rg {l h s l2 h2 s2 : Int} (r : Rg l h s) (r2 : Rg l2 h2 s2) (c : withinB l2 h2 s2 l h s = false) : Rg (min l l2) (max h h2) (gcdI (gcdI s s2) (l - l2)) := by
  have hg := step_pos r r2 c
  obtain ⟨a1, a2, a3, a4⟩ := rg_step r
  obtain ⟨c1, c2, c3, c4⟩ := rg_step r2
  have g1 : gcdI (gcdI s s2) (l - l2) ∣ s := Int.dvd_trans (gcdI_left _ _) (gcdI_left _ _)
  have g2 : gcdI (gcdI s s2) (l - l2) ∣ s2 := Int.dvd_trans (gcdI_left _ _) (gcdI_right _ _)
  have g3 : gcdI (gcdI s s2) (l - l2) ∣ l - l2 := gcdI_right _ _
  refine rg_of hg ?_ ?_
  · by_cases z : min l l2 = max h h2
    · exfalso
      have e1 : l2 = l := by omega
      have e2 : h = l := by omega
      have e3 : h2 = l := by omega
      subst e1; subst e2; subst e3
      have s0 : s = 0 := by unfold Rg at r; omega
      have s1 : s2 = 0 := by unfold Rg at r2; omega
      subst s0; subst s1
      rw [within_self r] at c
      cases c
    · omega
  · have d1 : gcdI (gcdI s s2) (l - l2) ∣ h - l := Int.dvd_trans g1 a4
    have d2 : gcdI (gcdI s s2) (l - l2) ∣ h2 - l2 := Int.dvd_trans g2 c4
    have d3 : gcdI (gcdI s s2) (l - l2) ∣ l2 - l := by rw [show l2 - l = -(l - l2) by omega]; exact Int.dvd_neg.mpr g3
    by_cases q1 : h ≤ h2 <;> by_cases q2 : l ≤ l2
    · rw [show max h h2 - min l l2 = (h2 - l2) + (l2 - l) by omega]; exact Int.dvd_add d2 d3
    · rw [show max h h2 - min l l2 = h2 - l2 by omega]; exact d2
    · rw [show max h h2 - min l l2 = h - l by omega]; exact d1
    · rw [show max h h2 - min l l2 = (h - l) + (l - l2) by omega]; exact Int.dvd_add d1 g3
theorem old_facts {l h s l2 h2 s2 : Int} (r : Rg l h s) (r2 : Rg l2 h2 s2) (c : withinB l2 h2 s2 l h s = true) : min l l2 = l ∧ max h h2 = h ∧ gcdI (gcdI s s2) (l - l2) = s := by
  rw [withinB_iff r2 r] at c
  obtain ⟨c1, c2, c3, c4⟩ := c
  refine ⟨by omega, by omega, ?_⟩
  obtain ⟨a1, a2, a3, a4⟩ := rg_step r
  refine Int.dvd_antisymm (gcdI_nonneg _ _) a1 (Int.dvd_trans (gcdI_left _ _) (gcdI_left _ _)) (dvd_gcdI (dvd_gcdI (Int.dvd_refl _) c4) ?_)
  rw [show l - l2 = -(l2 - l) by omega]
  exact Int.dvd_neg.mpr c3
/-- the moved ends -/
def wA (l s l2 s2 : Int) (ms : List Int) : Int := if min l l2 < l then wLow ms (min l l2) (gcdI (gcdI s s2) (l - l2)) else min l l2
def wB (l h s l2 h2 s2 : Int) (ms : List Int) : Int := if h < max h h2 then wHigh ms (max h h2) (gcdI (gcdI s s2) (l - l2)) else max h h2
theorem wid_eq {l h s l2 h2 s2 : Int} {ms : List Int} : wid l h s l2 h2 s2 ms = .tup [.int (wA l s l2 s2 ms), .int (wB l h s l2 h2 s2 ms), .int (gcdI (gcdI s s2) (l - l2))] := rfl
theorem wLow_facts {ms : List Int} (hm : Marks ms) {low g : Int} (hg : 0 < g) (h1 : -10000 ≤ low) : -10000 ≤ wLow ms low g ∧ wLow ms low g ≤ low ∧ g ∣ low - wLow ms low g := by
  unfold wLow
  have hx := List.mem_filter.mp (maxI_mem _ (low_ne hm h1))
  generalize maxI (ms.filter fun n => decide (n ≤ low)) = x at hx ⊢
  obtain ⟨h2, h3⟩ := hx
  have h4 := hm.bd x h2
  have h5 : x ≤ low := by simpa using h3
  have h6 := Int.emod_nonneg (low - x) (show g ≠ 0 by omega)
  have e : low - (x + (low - x) % g) = g * ((low - x) / g) := by
    have := Int.emod_add_mul_ediv (low - x) g
    omega
  refine ⟨by omega, ?_, by rw [e]; exact Int.dvd_mul_right _ _⟩
  have := Int.mul_nonneg (show (0 : Int) ≤ g by omega) (Int.ediv_nonneg (show 0 ≤ low - x by omega) (show 0 ≤ g by omega))
  omega
theorem wHigh_facts {ms : List Int} (hm : Marks ms) {high g : Int} (hg : 0 < g) (h1 : high ≤ 10000) : wHigh ms high g ≤ 10000 ∧ high ≤ wHigh ms high g ∧ g ∣ wHigh ms high g - high := by
  unfold wHigh
  have hx := List.mem_filter.mp (minI_mem _ (high_ne hm h1))
  generalize minI (ms.filter fun n => decide (high ≤ n)) = x at hx ⊢
  obtain ⟨h2, h3⟩ := hx
  have h4 := hm.bd x h2
  have h5 : high ≤ x := by simpa using h3
  have h6 := Int.emod_nonneg (x - high) (show g ≠ 0 by omega)
  have e : (x - (x - high) % g) - high = g * ((x - high) / g) := by
    have := Int.emod_add_mul_ediv (x - high) g
    omega
  refine ⟨by omega, ?_, by rw [e]; exact Int.dvd_mul_right _ _⟩
  have := Int.mul_nonneg (show (0 : Int) ≤ g by omega) (Int.ediv_nonneg (show 0 ≤ x - high by omega) (show 0 ≤ g by omega))
  omega
theorem new_facts {l h s l2 h2 s2 : Int} (r : Rg l h s) (r2 : Rg l2 h2 s2) (c : withinB l2 h2 s2 l h s = false) {ms : List Int} (hm : Marks ms) (b1 : -10000 ≤ l) (b2 : -10000 ≤ l2) (b3 : h ≤ 10000) (b4 : h2 ≤ 10000) :
    Rg (wA l s l2 s2 ms) (wB l h s l2 h2 s2 ms) (gcdI (gcdI s s2) (l - l2)) ∧ withinB l h s (wA l s l2 s2 ms) (wB l h s l2 h2 s2 ms) (gcdI (gcdI s s2) (l - l2)) = true ∧
    withinB l2 h2 s2 (wA l s l2 s2 ms) (wB l h s l2 h2 s2 ms) (gcdI (gcdI s s2) (l - l2)) = true ∧
    withinB (min l l2) (max h h2) (gcdI (gcdI s s2) (l - l2)) (wA l s l2 s2 ms) (wB l h s l2 h2 s2 ms) (gcdI (gcdI s s2) (l - l2)) = true ∧ -10000 ≤ wA l s l2 s2 ms ∧ wB l h s l2 h2 s2 ms ≤ 10000 := by
  have hg := step_pos r r2 c
  have jr := join_rg r r2 c
  obtain ⟨j1, j2, j3, j4⟩ := rg_step jr
  obtain ⟨a1, a2, a3, a4⟩ := rg_step r
  obtain ⟨c1, c2, c3, c4⟩ := rg_step r2
  have g1 : gcdI (gcdI s s2) (l - l2) ∣ s := Int.dvd_trans (gcdI_left _ _) (gcdI_left _ _)
  have g2 : gcdI (gcdI s s2) (l - l2) ∣ s2 := Int.dvd_trans (gcdI_left _ _) (gcdI_right _ _)
  have g3 : gcdI (gcdI s s2) (l - l2) ∣ l - l2 := gcdI_right _ _
  have fA : -10000 ≤ wA l s l2 s2 ms ∧ wA l s l2 s2 ms ≤ min l l2 ∧ gcdI (gcdI s s2) (l - l2) ∣ min l l2 - wA l s l2 s2 ms := by
    unfold wA
    split
    · exact wLow_facts hm hg (by omega)
    · exact ⟨by omega, by omega, by simp⟩
  have fB : wB l h s l2 h2 s2 ms ≤ 10000 ∧ max h h2 ≤ wB l h s l2 h2 s2 ms ∧ gcdI (gcdI s s2) (l - l2) ∣ wB l h s l2 h2 s2 ms - max h h2 := by
    unfold wB
    split
    · exact wHigh_facts hm hg (by omega)
    · exact ⟨by omega, by omega, by simp⟩
  generalize wA l s l2 s2 ms = A at fA ⊢
  generalize wB l h s l2 h2 s2 ms = B at fB ⊢
  have hlt : min l l2 < max h h2 := by
    rcases jr with ⟨z, _⟩ | ⟨_, z, _⟩
    · omega
    · exact z
  generalize gcdI (gcdI s s2) (l - l2) = g at *
  obtain ⟨f1, f2, f3⟩ := fA
  obtain ⟨k1, k2, k3⟩ := fB
  have rg : Rg A B g := rg_of hg (by omega) (by
    rw [show B - A = (B - max h h2) + (max h h2 - min l l2) + (min l l2 - A) by omega]
    exact Int.dvd_add (Int.dvd_add k3 j4) f3)
  have d1 : g ∣ l - A := by
    by_cases q : l ≤ l2
    · rw [show l - A = min l l2 - A by omega]; exact f3
    · rw [show l - A = (l - l2) + (min l l2 - A) by omega]; exact Int.dvd_add g3 f3
  have d2 : g ∣ l2 - A := by
    rw [show l2 - A = (l - A) - (l - l2) by omega]
    exact Int.dvd_sub d1 g3
  refine ⟨rg, ?_, ?_, ?_, f1, k1⟩
  · rw [withinB_iff r rg]; exact ⟨by omega, by omega, d1, g1⟩
  · rw [withinB_iff r2 rg]; exact ⟨by omega, by omega, d2, g2⟩
  · rw [withinB_iff jr rg]; exact ⟨f2, k2, f3, Int.dvd_refl _⟩
end M

set_option Elab.async false
set_option linter.all false
set_option maxRecDepth 100000
set_option maxHeartbeats 4000000
namespace M
open PySem L2 Pd G
local macro_rules | `(tactic| walk_at "px") => `(tactic| simp -implicitDefEqProofs only [wp_ok, wp_C, wp_op, wp_un, wp_asB, wp_test, wp_if, wp_and, wp_or, wp_not, wp_andV, wp_orV, wp_notV, wp_aNil, wp_aCons, wp_tup, wp_lst, wp_new, wp_call, wp_cb, wp_oNone, wp_asI, wp_oSome, wp_sl, wp_next, wp_break, wp_cont, wp_retN, kSeq_nx, kSeq_rt, kSeq_bk, kSeq_ct, wp_seq, wp_asg, wp_drop, wp_ret, wp_sif, wp_fNil, wp_fCons, wp_fTup1, wp_fTup2, wp_fTup3, wp_fTup4, wp_fTup5, wp_fSub, kPar_ok, wp_par, wp_for, wp_each0, kEach_nx, kEach_ct, kEach_bk, kEach_rt, wp_lc, wp_yes, wp_items, wp_itemsL, wp_itemsR, wp_itemsT, wp_pRng1, wp_pRng2, wp_app, wp_ext, wp_ch, wp_mod, wp_fdiv, wif_true, wif_false, wif_not, wlen0, kLp_eq, kWh_eq, kL1_eq, kL2_eq, kCh_eq, kW_eq, kV_eq, wp_ms, isS_str, kOp2_eq, kOp1_eq, kUn_eq, kTest_eq, kIf_eq, kAnd_eq, kOr_eq, kNot_eq, kAndV_eq, kOrV_eq, kNotV_eq, kCons2_eq, kCons1_eq, kTup_eq, kLst_eq, kNew_eq, kCall_eq, kCB_eq, kAsI_eq, kSl3_eq, kSl2_eq, kSl1_eq, kNx_eq, kAsg_eq, kDrop_eq, kRet_eq, kSIf_eq, kFC_eq, kSub3_eq, kSub2_eq, kSub1_eq, kPut4_eq, kPut3_eq, kPut2_eq, kPut1_eq, kFor_eq, kE2_eq, kE1_eq, kLc_eq, kItems_eq, kRng1_eq, kRng2_eq, kApp2_eq, kApp1_eq, kExt2_eq, kExt1_eq, kAug2_eq, kAug1_eq, kCh3_eq, kCh2_eq, kCh1_eq, kMS2_eq, kMS1_eq, wlen1, wlen2, wlen3, wlen4, wlen5, wlen6, wlen7, wlen8, wlen9, wlen10, wlen11, wlen12, wlen13, wlen14, wlen15, wlen16, wp_var0, wp_var1, wp_var2, wp_var3, wp_var4, wp_var5, wp_var6, wp_var7, wp_var8, wp_var9, wp_var10, wp_var11, wp_var12, wp_var13, wp_var14, wp_var15, wp_var16, wp_var17, wp_var18, wp_var19, wp_var20, wp_var21, wp_var22, wp_var23, wp_var24, wp_var25, wp_var26, wp_var27, wp_var28, wp_var29, wp_name0, wp_name1, wp_name2, wp_name3, wp_name4, wp_name5, wp_name6, wp_name7, wp_name8, wp_name9, wp_name10, wp_name11, wp_name12, wp_name13, wp_name14, wp_name15, wp_name16, wp_name17, wp_name18, wp_name19, wp_name20, wp_name21, wp_name22, wp_name23, wp_name24, wp_name25, wp_name26, wp_name27, wp_name28, wp_name29, wp_aug0, wp_aug1, wp_aug2, wp_aug3, wp_aug4, wp_aug5, wp_aug6, wp_aug7, wp_aug8, wp_aug9, wp_aug10, wp_aug11, wp_aug12, wp_aug13, wp_aug14, wp_aug15, wp_aug16, wp_aug17, wp_aug18, wp_aug19, wp_aug20, wp_aug21, wp_aug22, wp_aug23, wp_aug24, wp_aug25, wp_aug26, wp_aug27, wp_aug28, wp_aug29, e_add, e_sub, e_lt, e_le, e_gt, e_ge, e_eqI, e_eqS, e_eqB, e_neI, e_neS, e_neB, e_neg, e_intI, e_intB, e_abs, e_max2, e_min2, e_gcd2, e_gcd3, e_lenT, e_lenL, e_lenR, e_tupL, e_tupT, e_listT, e_listL, e_strS, e_slT, e_slL, e_augAdd, e_eqNN, e_eqSN, e_eqNS, e_is_tup, e_is_lst, e_is_int, e_is_str, e_is_bl, e_is_non, e_is_adr, e_isNot_tup, e_isNot_lst, e_isNot_int, e_isNot_str, e_isNot_bl, e_isNot_non, e_isNot_adr, e_isB, e_isNotB, e_ix_tup0, e_ix_tup1, e_ix_tup2, e_ix_tup3, e_ix_tup4, e_ix_tup5, e_ix_lst0, e_ix_lst1, e_ix_lst2, e_ix_lst3, e_ix_lst4, e_ix_lst5, e_ix_rol0, e_ix_rol1, e_ix_rol2, e_ix_rol3, e_ix_rol4, e_ix_rol5, i_tup_bool, i_tup_int, i_tup_str, i_tup_tuple, i_tup_list, i_lst_bool, i_lst_int, i_lst_str, i_lst_tuple, i_lst_list, i_bl_bool, i_bl_int, i_bl_str, i_bl_tuple, i_bl_list, i_int_bool, i_int_int, i_int_str, i_int_tuple, i_int_list, i_str_bool, i_str_int, i_str_str, i_str_tuple, i_str_list, i_non_bool, i_non_int, i_non_str, i_non_tuple, i_non_list, getJ0, getJ1, getJ2, setJ0, setJ1, setJ2, lenJ0, lenJ1, lenJ2, getM0, getM1, getM2, setM0, setM1, setM2, lenM1, lenM2, List.set_cons_zero, List.set_cons_succ, List.cons_append, List.append_assoc, List.nil_append, wipeR, decide_true, decide_false, ite_true, ite_false, if_true, if_false, Bool.not_true, Bool.not_false, rho0, Int.toNat_natCast, true_and, and_true, Bool.false_eq_true])
local macro_rules | `(tactic| walk_at "mem") => `(tactic| first | with_reducible exact getJ0 | with_reducible exact getJ1 | with_reducible exact getJ2 | with_reducible exact getM0 | with_reducible exact getM1 | with_reducible exact getM2 | with_reducible assumption)
local macro_rules | `(tactic| walk_at "call") => `(tactic| fail)
local macro_rules | `(tactic| walk_at "wf") => `(tactic| first | with_reducible assumption | exact WJ.wf (by with_reducible assumption) (by with_reducible assumption) | exact WfM.snoc0 (by with_reducible assumption) rfl | exact WJ.snoc (by with_reducible assumption) rfl | exact WJ.wf (WJ.snoc (by with_reducible assumption) rfl) (by with_reducible assumption))
local macro_rules | `(tactic| walk_at "num") => `(tactic| first | omega | decide)
local macro_rules | `(tactic| walk_at "wif") => `(tactic| (
  (with_reducible show Wif _ _ _)
  first
  | ((with_reducible refine wif_t ?wc ?_); (case wc => first | with_reducible assumption | decide | exact decide_eq_true (by omega)))
  | ((with_reducible refine wif_f ?wc ?_); (case wc => first | with_reducible assumption | decide | exact decide_eq_false (by omega)))
  | with_reducible refine wif_d (fun _ => ?_) (fun _ => ?_) | with_reducible refine wif_b (fun _ => ?_) (fun _ => ?_)))
local macro_rules | `(tactic| walk_at "st") => `(tactic| first
  | walk_at "px"
  | walk_at "wif"
  | (with_reducible refine And.intro (isA_of (by walk_at "mem")) ?_)
  | (with_reducible refine wp_appL (by walk_at "mem") (by walk_at "num") ?_)
  | ((with_reducible refine wp_mod' ?wl ?_); (case wl => walk_at "num"))
  | ((with_reducible refine wp_fdiv' ?wl ?wm ?_); (case wl => walk_at "num"); (case wm => walk_at "num"))
  | ((with_reducible refine wp_mul ?wl ?_); (case wl => walk_at "num"))
  | ((with_reducible refine wp_rng1 ?wl ?_); (case wl => walk_at "num"))
  | ((with_reducible refine wp_rng2 ?wl ?wm ?_); (case wl => walk_at "num"); (case wm => walk_at "num"))
  | walk_at "call"
  | fail "no step")
local macro_rules | `(tactic| walk_at "de") => `(tactic| first
  | refine de0 (by walk_at "wf") (by with_reducible assumption) (by first | with_reducible assumption | rfl) ?_
  | refine dea0 (by walk_at "wf") (by with_reducible assumption) (by first | with_reducible assumption | rfl) ?_
  | refine de1 (by walk_at "wf") (by with_reducible assumption) (by first | with_reducible assumption | rfl) ?_)
local macro_rules | `(tactic| walk_at "pe") => `(tactic| first
  | refine pe0' (by walk_at "wf") (by first | with_reducible assumption | rfl) ?_
  | refine pea0' (by walk_at "wf") (by first | with_reducible assumption | rfl) ?_
  | refine pe1' (by walk_at "wf") (by first | with_reducible assumption | rfl) ?_)
local macro_rules | `(tactic| walk_at "pw") => `(tactic| repeat' walk_at "st")

local macro_rules | `(tactic| walk_at "call") => `(tactic| ((with_reducible refine wp_nx ?wn ?wj ?ws ?_); (case wn => omega); (case wj => walk_at "wf"); (case ws => with_reducible assumption); intro _ _ _ _ _))
local macro_rules | `(tactic| walk_at "call") => `(tactic| ((with_reducible refine wp_rg ?wj ?ws ?_); (case wj => walk_at "wf"); (case ws => with_reducible assumption); intro _ _ _ _ _ _ _ _ _ _ _ _))
local macro_rules | `(tactic| walk_at "call") => `(tactic| ((with_reducible refine wp_of (has_ok ?wf ?wn) ?_); (case wf => walk_at "wf"); (case wn => omega)))
local macro_rules | `(tactic| walk_at "call") => `(tactic| ((with_reducible refine wp_of (within_ok ?wf ?r1 ?r2) ?_); (case wf => walk_at "wf"); (case r1 => with_reducible assumption); (case r2 => with_reducible assumption)))
local macro_rules | `(tactic| walk_at "call") => `(tactic| ((with_reducible refine wp_of (join_ok ?wf) ?_); (case wf => walk_at "wf")))
theorem rg0 (l : Int) : Rg l l 0 := .inl ⟨rfl, rfl⟩
theorem lw_head (a : Nat) {M : PM} : gMod M (.int (0 + (a : Int))) (.int 2) = .ok (.int ((0 + (a : Int)) % 2)) M := e_mod (by decide)
local macro_rules | `(tactic| walk_at "rg") => `(tactic| first | with_reducible assumption | exact rg0 _)
theorem wp_mk {ns : List Int} {l h s l2 h2 s2 : Int} {Q : D → PM → Prop} {N : KX} {J : PM} {m : MO} (b1 : -10000 ≤ l ∧ l ≤ 10000) (b2 : -10000 ≤ h ∧ h ≤ 10000) (b3 : -10000 ≤ l2 ∧ l2 ≤ 10000) (b4 : -10000 ≤ h2 ∧ h2 ≤ 10000) (hJ : WJ J) (hs : Rst m) (k : ∀ (ms : List Int) (m' : MO), Rst m' → Marks ms → ms.length ≤ 16777216 → Q (.tup (ms.map .int)) (m' :: J)) : Wp (Φ__law_marks [.adr 0, .rol (ns.map .int), .tup [.int l, .int h, .int s], .tup [.int l2, .int h2, .int s2]] (m :: J)) Q N :=
  wp_dr (dr_marks ns b1 b2 b3 b4) hJ hs fun d m' h1 _ ⟨ms, e, h2, h3⟩ => by rw [e]; exact k ms m' h1 h2 h3
local macro_rules | `(tactic| walk_at "call") => `(tactic| ((with_reducible refine wp_mk ?b1 ?b2 ?b3 ?b4 ?wj ?ws ?_); (case b1 => omega); (case b2 => omega); (case b3 => omega); (case b4 => omega); (case wj => walk_at "wf"); (case ws => with_reducible assumption); intro _ _ _ _ _))
theorem wp_widT {M : PM} {Q : D → PM → Prop} {N : KX} (w : WfM M) {l h s l2 h2 s2 : Int} (r : Rg l h s) (r2 : Rg l2 h2 s2) {ms : List Int} (hm : Marks ms) (hl : ms.length ≤ 16777216) (b1 : -10000 ≤ l) (b2 : -10000 ≤ l2) (b3 : h ≤ 10000) (b4 : h2 ≤ 10000) (c : withinB l2 h2 s2 l h s = true) (q : Q (.tup [.int l, .int h, .int s]) M) :
    Wp (Φ_widen [.tup [.int l, .int h, .int s], .tup [.int l2, .int h2, .int s2], .tup (ms.map .int)] M) Q N := wp_of (widen_ok w r r2 hm hl b1 b2 b3 b4) (by rw [if_pos c]; exact q)
theorem wp_widF {M : PM} {Q : D → PM → Prop} {N : KX} (w : WfM M) {l h s l2 h2 s2 : Int} (r : Rg l h s) (r2 : Rg l2 h2 s2) {ms : List Int} (hm : Marks ms) (hl : ms.length ≤ 16777216) (b1 : -10000 ≤ l) (b2 : -10000 ≤ l2) (b3 : h ≤ 10000) (b4 : h2 ≤ 10000) (c : withinB l2 h2 s2 l h s = false) (q : Q (.tup [.int (wA l s l2 s2 ms), .int (wB l h s l2 h2 s2 ms), .int (gcdI (gcdI s s2) (l - l2))]) M) :
    Wp (Φ_widen [.tup [.int l, .int h, .int s], .tup [.int l2, .int h2, .int s2], .tup (ms.map .int)] M) Q N := wp_of (widen_ok w r r2 hm hl b1 b2 b3 b4) (by rw [if_neg (by rw [c]; exact Bool.false_ne_true)]; exact q)
theorem wp_due {M : PM} {Q : D → PM → Prop} {N : KX} (w : WfM M) {l h s l2 h2 s2 : Int} (r : Rg l h s) (r2 : Rg l2 h2 s2) {ms : List Int} (hm : Marks ms) (hl : ms.length ≤ 16777216) (b1 : -10000 ≤ l) (b2 : -10000 ≤ l2) (b3 : h ≤ 10000) (b4 : h2 ≤ 10000) (c : withinB l2 h2 s2 l h s = false) (q : Q (.tup [.int (wA l s l2 s2 ms), .int (wB l h s l2 h2 s2 ms), .int (gcdI (gcdI s s2) (l - l2))]) M) :
    Wp (Φ__law_due [.tup [.int l, .int h, .int s], .tup [.int l2, .int h2, .int s2], .tup (ms.map .int)] M) Q N := wp_of (due_ok w r r2 c hm hl b1 b2 b3 b4) q
theorem wp_lies {M : PM} {Q : D → PM → Prop} {N : KX} (w : WfM M) {l h s l2 h2 s2 : Int} (r : Rg l h s) (r2 : Rg l2 h2 s2) {ms : List Int} (hm : Marks ms) (b1 : -10000 ≤ l) (b2 : -10000 ≤ l2) (b3 : h ≤ 10000) (b4 : h2 ≤ 10000)
    (hT : withinB l2 h2 s2 l h s = true → withinB l h s l h s = true → Rg (min l l2) (max h h2) (gcdI (gcdI s s2) (l - l2)) → withinB (min l l2) (max h h2) (gcdI (gcdI s s2) (l - l2)) l h s = true → Q (.bl true) M)
    (hF : withinB l2 h2 s2 l h s = false → Rg (min l l2) (max h h2) (gcdI (gcdI s s2) (l - l2)) → Rg (wA l s l2 s2 ms) (wB l h s l2 h2 s2 ms) (gcdI (gcdI s s2) (l - l2)) → withinB l h s (wA l s l2 s2 ms) (wB l h s l2 h2 s2 ms) (gcdI (gcdI s s2) (l - l2)) = true →
      withinB l2 h2 s2 (wA l s l2 s2 ms) (wB l h s l2 h2 s2 ms) (gcdI (gcdI s s2) (l - l2)) = true →
      withinB (min l l2) (max h h2) (gcdI (gcdI s s2) (l - l2)) (wA l s l2 s2 ms) (wB l h s l2 h2 s2 ms) (gcdI (gcdI s s2) (l - l2)) = true → -10000 ≤ wA l s l2 s2 ms → wB l h s l2 h2 s2 ms ≤ 10000 → Q (.bl false) M) :
    Wp (Φ__law_lies [.tup [.int l2, .int h2, .int s2], .tup [.int l, .int h, .int s]] M) Q N := by
  refine wp_of (lies_ok w r r2) ?_
  cases c : withinB l2 h2 s2 l h s with
  | true =>
    obtain ⟨e1, e2, e3⟩ := old_facts r r2 c
    exact hT c (within_self r) (by rw [e1, e2, e3]; exact r) (by rw [e1, e2, e3]; exact within_self r)
  | false =>
    obtain ⟨f1, f2, f3, f4, f5, f6⟩ := new_facts r r2 c hm b1 b2 b3 b4
    exact hF c (join_rg r r2 c) f1 f2 f3 f4 f5 f6
theorem same3 {M : PM} (w : WfM M) {d : D} (h : plD 3 d = true) : Φ__law_same [d, d] M = .ok (.bl true) M := same_ok 3 d w h
local macro_rules | `(tactic| walk_at "call") => `(tactic| ((with_reducible refine wp_of (same3 ?wf ?hp) ?_); (case wf => walk_at "wf"); (case hp => rfl)))
local macro_rules | `(tactic| walk_at "call") => `(tactic| ((with_reducible refine wp_widT ?wf ?r1 ?r2 ?hm ?hl ?b1 ?b2 ?b3 ?b4 ?c ?_); (case wf => walk_at "wf"); (case r1 => walk_at "rg"); (case r2 => walk_at "rg"); (case hm => with_reducible assumption); (case hl => with_reducible assumption); (case b1 => omega); (case b2 => omega); (case b3 => omega); (case b4 => omega); (case c => with_reducible assumption)))
local macro_rules | `(tactic| walk_at "call") => `(tactic| ((with_reducible refine wp_widF ?wf ?r1 ?r2 ?hm ?hl ?b1 ?b2 ?b3 ?b4 ?c ?_); (case wf => walk_at "wf"); (case r1 => walk_at "rg"); (case r2 => walk_at "rg"); (case hm => with_reducible assumption); (case hl => with_reducible assumption); (case b1 => omega); (case b2 => omega); (case b3 => omega); (case b4 => omega); (case c => with_reducible assumption)))
local macro_rules | `(tactic| walk_at "call") => `(tactic| ((with_reducible refine wp_due ?wf ?r1 ?r2 ?hm ?hl ?b1 ?b2 ?b3 ?b4 ?c ?_); (case wf => walk_at "wf"); (case r1 => walk_at "rg"); (case r2 => walk_at "rg"); (case hm => with_reducible assumption); (case hl => with_reducible assumption); (case b1 => omega); (case b2 => omega); (case b3 => omega); (case b4 => omega); (case c => with_reducible assumption)))
local macro_rules | `(tactic| walk_at "call") => `(tactic| ((with_reducible refine wp_of (within_ok ?wf ?r1 ?r2) ?_); (case wf => walk_at "wf"); (case r1 => walk_at "rg"); (case r2 => walk_at "rg")))
theorem law_true (ns : List Int) (hns : ns.length ≤ 63) : ∃ M, Φ_law [.rol (ns.map .int)] [] = .ok (.bl true) M := by
  obtain ⟨d, M', e, hd⟩ := run_wpE (g := g_law Φ__law_range Φ__law_next Φ__law_marks Φ__law_lies Φ__law_due Φ_widen Φ__law_same Φ_within Φ_join) (N := N_law) (ds := [.rol (ns.map .int)]) (M := []) (ar := 1) (R := fun d _ => d = .bl true) rfl (by
    rw [rn_law]
    unfold g_law
    walk_at "pw"
    refine wp_each (fun k : Nat => D.int (0 + (k : Int))) (fun _ _ ρ M => ∃ (m' : MO) (o2 o3 o4 o5 o6 o7 o8 : Option D), M = m' :: [] ∧ Rst m' ∧ ρ = [some (.rol (ns.map .int)), some (.adr 0), o2, o3, o4, o5, o6, o7, o8]) ⟨_, none, none, none, none, none, none, none, rfl, Rst.start, rfl⟩ ?_ ?_
    · rintro pre a post ρ M hx ⟨m', o2, o3, o4, o5, o6, o7, o8, rfl, hs, rfl⟩
      have hJ : WJ [] := WJ.nil
      unfold lb_law_1
      walk_at "pw"
      all_goals
        refine wp_lies (by walk_at "wf") (by walk_at "rg") (by walk_at "rg") (by with_reducible assumption) (by omega) (by omega) (by omega) (by omega) (fun _ _ _ _ => ?_) (fun _ _ _ _ _ _ _ _ => ?_)
      all_goals walk_at "pw"
      all_goals first
        | exact ⟨_, _, _, _, _, _, _, _, rfl, by with_reducible assumption, rfl⟩
    · rintro ρ M ⟨m', o2, o3, o4, o5, o6, o7, o8, rfl, hs, rfl⟩
      walk_at "pw"
      exact ⟨_, _, fin_ok' (n := 0) (M1 := []) (J := [m']) rfl rfl rfl, rfl⟩)
  exact ⟨M', by rw [← hd]; exact e⟩
end M

open PySem PySem.W PyProof.Rows
set_option maxRecDepth 100000 in
set_option maxHeartbeats 0 in
theorem PySem.Challenge.cw_carryclaim_k10_widened_ranges_holds : PySem.Challenge.rw_carryclaim_k10_widened_ranges.Holds := by
  w_on; o_law; k_head; (case hw => w_witness2)
  k_fill
  refine Pd.walk (l := PySem.Challenge.rw_carryclaim_k10_widened_ranges) (k := 4) (Φ := G.Φ_law) rfl rfl ⟨rfl, by decide, by decide⟩ (fun w h Y => PySem.W.kIn_of Y) M.law_true ?F
  case F =>
    intro w mg fa h KX GX hmg
    refine' G.all_mk KX GX hmg ?a_has ?l_has ?c_has ?k_has ?a_within ?l_within ?c_within ?k_within ?a_join ?l_join ?c_join ?k_join ?a_widen ?l_widen ?c_widen ?k_widen ?a__law_next ?l__law_next ?c__law_next ?k__law_next ?a__law_same ?l__law_same ?c__law_same ?k__law_same ?a__law_range ?l__law_range ?c__law_range ?k__law_range ?a__law_divisor ?l__law_divisor ?c__law_divisor ?k__law_divisor ?a__law_hull ?l__law_hull ?c__law_hull ?k__law_hull ?a__law_marks ?l__law_marks ?c__law_marks ?k__law_marks ?a__law_due ?l__law_due ?c__law_due ?k__law_due ?a__law_lies ?l__law_lies ?c__law_lies ?k__law_lies ?a_law ?l_law ?c_law ?k_law ?b_min ?b_max ?b_gcd ?b_int ?b_len ?b_abs ?b_tuple ?b_isinstance ?b_range ?b_bool ?b_str ?b_sorted
    (case a_has => k_is)
    (case l_has => k_is)
    (case c_has => k_is)
    (case k_has => k_is)
    (case a_within => k_is)
    (case l_within => k_is)
    (case c_within => k_is)
    (case k_within => k_is)
    (case a_join => k_is)
    (case l_join => k_is)
    (case c_join => k_is)
    (case k_join => k_is)
    (case a_widen => k_is)
    (case l_widen => k_is)
    (case c_widen => k_is)
    (case k_widen => k_is)
    (case a__law_next => k_is)
    (case l__law_next => k_is)
    (case c__law_next => k_is)
    (case k__law_next => k_is)
    (case a__law_same => k_is)
    (case l__law_same => k_is)
    (case c__law_same => k_is)
    (case k__law_same => k_is)
    (case a__law_range => k_is)
    (case l__law_range => k_is)
    (case c__law_range => k_is)
    (case k__law_range => k_is)
    (case a__law_divisor => k_is)
    (case l__law_divisor => k_is)
    (case c__law_divisor => k_is)
    (case k__law_divisor => k_is)
    (case a__law_hull => k_is)
    (case l__law_hull => k_is)
    (case c__law_hull => k_is)
    (case k__law_hull => k_is)
    (case a__law_marks => k_is)
    (case l__law_marks => k_is)
    (case c__law_marks => k_is)
    (case k__law_marks => k_is)
    (case a__law_due => k_is)
    (case l__law_due => k_is)
    (case c__law_due => k_is)
    (case k__law_due => k_is)
    (case a__law_lies => k_is)
    (case l__law_lies => k_is)
    (case c__law_lies => k_is)
    (case k__law_lies => k_is)
    (case a_law => k_is)
    (case l_law => k_is)
    (case c_law => k_is)
    (case k_law => k_is)
    (case b_min => k_is)
    (case b_max => k_is)
    (case b_gcd => k_is)
    (case b_int => k_is)
    (case b_len => k_is)
    (case b_abs => k_is)
    (case b_tuple => k_is)
    (case b_isinstance => k_is)
    (case b_range => k_is)
    (case b_bool => k_is)
    (case b_str => k_is)
    (case b_sorted => k_is)

